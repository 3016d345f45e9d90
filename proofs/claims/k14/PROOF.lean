import PyProof.Rows.All
import Wide.All
import OpenK.AllK
import Wide.FinOn
import HandS.ForMost
import HandS.IsInst
import HandS.Wide
import HandS.WideBits
import HandS.MakeKwOnly
import HandS.SlotsOwn
import PyProof.ReprRoads
import HandS.Property
import HandS.FStr
import HandS.RaiseMore
import KE.KCallOwn
import PyProof.InstNe
import PyProof.ReprLen
import PyProof.Rows.ReprOcc
import HandS.Star
import HandS.ClsMeth
import HandS.Style
import HandS.TupAny
import HandS.Deep
import KE.KRevSl
import KE.GoesMore
import HandS.Iter
import HandS.Codes
import HandS.Exc
import KE.KExcInit
import HandS.ExcInit
import KE.KExcIs
import PyProof.CallFns
import HandS.Dict
import HandS.HotCalls
import HandS.ExcInitHot
import HandS.Lambda
import HandS.Comp
import KE.KLam
import OpenK.KOps
import HandS.EndTab
import KE.KNestM
import PyProof.ExcBaseAll.LookupError
import PyProof.ExcBaseAll.ArithmeticError
import PyProof.ExcBaseAll.ValueError
import PyProof.InstStoreFacts
import PyProof.StrLawsRepr
import PyProof.EqLayable
import HandS.GenYield
import HandS.GenList
import KE.KOpsOwn
import HandS.HeadHook4
import HandS.Head2
import PySem.Challenge.RW_rungladders_k14_ladders_refused
set_option Elab.async false
set_option linter.all false
set_option maxRecDepth 100000
/-! Defs that are called where no repr is under way: repr of lists and tuples within them; == by an own __eq__. -/
namespace RL
open PySem L2 PySem.Spec PyProof.Rows
structure FnG (P : Program) (w : World) (K : PySem.W.Frag) (mg : Str → Option Value) (base : Heap) (k : Nat) (f : Addr) (fd : FuncData) (ps : List Str) (sp : Sp) : Prop where
  len : ∀ vs H Q E, sp vs H Q E → vs.length = ps.length
  run : ∀ (A : Around) (outer : List Env) (s : Shared) (H : Hp) (args : Args) (us : List Value) (vs : List V) (Q : VK) (E : XK), A.guards = some [] → Room k A → Env0 P w K mg base A outer s H → BindsTo s fd args (ps.zip us) → Vals vs us → sp vs H Q E →
    codeAny (model P w) A (.call (.ref f) args) (CR CX0 outer P w H s Q E) s
section
variable {P : Program} {w : World} {K : PySem.W.Frag} {mg : Str → Option Value} {base : Heap}
theorem okG {x qual : Str} {st : Stmt} {f : Addr} {fd : FuncData} {N ps : List Str} {k : Nat} {sp : Sp} (F : Fun K x qual st f fd) (S : FnScope N ps (defScope st)) (len : ∀ vs H Q E, sp vs H Q E → vs.length = ps.length)
    (bd : ∀ (cdv : Value) (A : Around) (outer : List Env) (s : Shared) (H : Hp) (vs : List V) (Q : VK) (E : XK), A.guards = some [] → Room k (A.deeper (envOfC qual (defScope st) s.heap.objs.size f cdv)) → sp vs H Q E →
      ∃ t, PSs (cxOf CX0 P w K mg base N qual (defScope st) f cdv A outer s H E).nox (defBody st) t ∧ t { nx := fun _ H' => Q .non H', rt := Q } (start N vs) H) : FnG P w K mg base (k + 1) f fd ps sp := by
  obtain ⟨oc, od, kV, doc, pm, an, cdv, ct, osl, rfl, lk, hcd⟩ := F.ex
  refine ⟨len, fun A outer s H args us vs Q E hg hr e0 hb r hsp => ?_⟩
  have KX : K.In s.heap := e0.mod.kin.keeps fun b o e => (e0.bs b o e).1
  have lim := e0.mod.nolimit.keeps fun b o e => (e0.bs b o e).1
  refine codeAny_call_function hr.depth (KX _ _ lk) rfl S.co S.gen rfl (PySem.W.codeRec_of KX hcd) (hb _ _ _ _ (wpAny_newFunctionEnv_cells S.kind (fun ⟨n, v⟩ hy => ?_) fun env he s1 x => ?_))
  · exact (S.par n (List.of_mem_zip hy).1).imp id fun q => ⟨q, PySem.W.cellsFrom_some _ _ _ (.inl q)⟩
  · subst he
    obtain ⟨t, ht, hq⟩ := bd cdv A outer s H vs Q E hg (hr.deeper _) hsp
    have I : Inv (cxOf CX0 P w K mg base N qual (defScope st) f cdv A outer s H E) [] (start N vs) H s1 := inv_start S hr.hd e0 (len _ _ _ _ hsp) r x
    refine ⟨lim.keeps x.toInCall.keep, codeAny_func (wpAny_mono (ht.nox.run [] s1 _ H _ I hq) (fun fl s' hs => ?_) fun _ _ z => z)⟩
    cases fl with
    | ret u =>
      obtain ⟨v, σ', H', J, rv, q⟩ := hs
      exact ⟨v, H', J.os, J.bare, J.base, J.hok, rv, q⟩
    | next =>
      obtain ⟨σ', H', J, q⟩ := hs
      exact ⟨V.non, H', J.os, J.bare, J.base, J.hok, rfl, q⟩
    | brk => exact hs.elim fun _ z => z.elim fun _ y => False.elim y.2
    | cont => exact hs.elim fun _ z => z.elim fun _ y => False.elim y.2
end
structure DfG (P : Program) (w : World) (K : PySem.W.Frag) (mg : Str → Option Value) (base : Heap) (k : Nat) (x : Str) (ps : List Str) (sp : Sp) : Prop where
  ex : ∃ (f : Addr) (fd : FuncData), FnG P w K mg base k f fd ps sp ∧ mg x = some (.ref f) ∧ PySem.W.keepIn K (.ref f) = true ∧ Binds K fd ps []
section
variable {X : Cx} {k : Nat} {ps : List Str} {sp : Sp} {x : Str} {p pos : Pos} {e : Expr} {es : List Expr} {t : TA}
theorem pe_dfG (D : DfG X.prog X.w X.K X.mg X.base k x ps sp) (hG : X.A.guards = some []) (hr : Room k X.A) (hg : Gl X x)
    (ha : PA X (e :: es) t) (hdb : (x == ("__debug__" : Str)) = false := by decide) (he : starEach (e :: es) X.env = (false, eval e X.env) :: starEach es X.env := by rfl) (hpl : (backTo pos (starEach es X.env)).any (·.1) = false := by rfl) :
    PE X (.Call (.Name x p) (e :: es) [] pos) (tCall sp [] E0 t) := by
  obtain ⟨f, fd, F, hm, hk, hb⟩ := D.ex
  refine ⟨fun pins s σ H Q I h => wpAny_Call_Name_kw (ld_glob I hg hm (PySem.W.callWith_K (h₀ := X.base) I.ok.mod.kin hk (thn (ha.run pos pins s σ H _ I h) fun us s1 ⟨vs, H1, I1, r, q⟩ => ⟨I1.kIn, ?_⟩) he hpl) hdb)⟩
  have q0 : sp vs H1 Q E0 := by
    have q1 : sp (vs ++ []) H1 Q E0 := q
    rw [List.append_nil] at q1
    exact q1
  have hl : (us ++ []).length = ps.length := by
    rw [List.append_nil, ← r.length]
    exact F.len _ _ _ _ q0
  have hbb := hb s1 us I1.kIn hl
  rw [List.append_nil] at hbb
  refine wpAny_call (codeAny_mono (F.run X.A X.stack s1 H1 ⟨us, []⟩ us vs Q E0 hG hr I1.env0 hbb r q0) fun z s' hq => ?_)
  cases z with
  | error e => exact hq.elim
  | ok fl =>
    cases fl with
    | ret u => exact I1.after hq
    | next => exact hq.elim
    | brk => exact hq.elim
    | cont => exact hq.elim
/-! ### repr of a list or tuple of plain things -/
def rRepr (K : PySem.W.Frag) : List V → Hp → VK → Prop := fun vs H Q => ∃ (a : Addr) (d : PyData), vs = [.ref a] ∧ Dp K H (.ref a) d ∧ d.showable = true ∧ d.hasDict = false ∧ d.depth ≤ 40 ∧ d.shown.length ≤ sizeLine ∧ Q (.str d.shown) H
theorem cr_repr (hG : X.A.guards = some []) (hu : X.A.units + 64 < cLine) : CallR X (.builtin "repr") (rRepr X.K) := by
  intro pins s σ H vs us Q I r h
  obtain ⟨a, d, rfl, hd, h1, h2, h3, h4, q⟩ := h
  obtain ⟨as, rd⟩ := Dp.reads I d _ (.ref a) hd rfl
  rw [Vals.ref1 r]
  refine repr_of_reads' (h₀ := s.heap) rd h1 (fun z => by rw [h2] at z; cases z) hG (by omega) (fun _ _ z => z) (fun h' u tk hk => ?_) h4
  exact ⟨.str d.shown, H, I.kept hk, ⟨_, rfl⟩, q⟩
/-! ### == by an own __eq__ -/
def rEqOwn (K : PySem.W.Frag) (C : Addr) (sp : Sp) : R2 := fun x y H Q => ∃ a dx fs ty, x = .ref a ∧ H a = some (.ins C dx fs) ∧ TyX K H y ty ∧ PySem.W.notFirst K C ty = true ∧ sp [x, y] H Q E0
theorem op_eqOwn {C g : Addr} {fd : FuncData} (hs : PySem.W.findIn X.K (.ref C) "__eq__" = some (some (.ref g))) (hf : PySem.W.isFn X.K (.ref g) = true) (F : FnOk X.prog X.w X.K X.mg X.base CX0 k g fd ps sp) (hb : Binds X.K fd ps []) (hr : Room k X.A) :
    OpR X (compareOp .Eq) (rEqOwn X.K C sp) := by
  intro pins s σ H x y v u Q I rx ry h
  obtain ⟨a, dx, fs, ty, rfl, ha, hy, hn, q⟩ := h
  cases (show v = Value.ref a from rx)
  obtain ⟨mA, O, _⟩ := ins_get I.hok ha
  obtain ⟨od, J, _⟩ := O.look
  obtain ⟨PH, Z, ph, _⟩ := kit_of I ry hy
  obtain ⟨m, hF⟩ := I.fr
  show wpAny _ _ (richCompare .Eq (.ref a) u) _ _ _
  refine PySem.W.cmp_K (op := .Eq) hr.units0 hF I.ok.mod.kin J (Z.ty _ _ I.kIn ph) hn hs hf ?_
  have q0 : sp ([.ref a, y] ++ []) H Q E0 := q
  refine wpAny_mono (run_fn (us := [.ref a, u]) (vs := [.ref a, y]) F hr hb .nil pass0 I (.cons rfl (.cons ry .nil)) q0) (fun w s' z => ?_) fun _ _ z => z
  obtain ⟨z', H', I', rz, qz⟩ := z
  exact SlX.cmpback rz ⟨z', H', I', rz, qz⟩
end
end RL

/-! The end of a law whose own def is promised where no repr is under way. -/
namespace RL
open PySem L2 PySem.Spec PyProof.Rows
/-- the call, once the abstract heap is chosen -/
theorem law_runG {P : Program} {w : World} {K : PySem.W.Frag} {mg mb : Str → Option Value} {k : Nat} {fa a : Addr} {fd : FuncData} {x : Str} {sp : Sp} {s1 : Shared} {vs : List Value} {H : Hp}
    (KX : K.In s1.heap) (hns : s1.heap.Ns mainGlobals mg) (hb : s1.heap.Ns builtinsNs mb) (hbb : ∀ x : Str, x ≠ "__name__" → mb x = bootBuiltins x) (hlim : s1.heap.NoLimit) (hgen : s1.gens = #[])
    (ha : s1.heap.get? a = some { cls := .type "list", data := .seq vs.toArray }) (hr : Room k callerA)
    (F : ∀ base : Heap, K.In base → base.Ns mainGlobals mg → FnG P w K mg base k fa fd [x] sp) (hbind : ∀ (s : Shared) (u : Value), BindsTo s fd ⟨[u], []⟩ [(x, u)])
    (hO : Only H) (hsp : sp [.ref a] H (fun v _ => v = .bl true) fun _ _ _ => False) (hok : HOk P w H s1.heap) (hA : ∀ b u, H b = some u → b = a ∧ K.lookup a = none) :
    codeAny (model P w) callerA (.call (.ref fa) ⟨[.ref a], []⟩) (fun r s' => r = .ok (.ret (.bool true)) ∧ OldK s1.heap s'.heap ∧ s'.os = s1.os ∧ AllBare s'.gens) s1 := by
  have free : ∀ {b : Addr} {o : Obj}, s1.heap.get? b = some o → (b = a → o.data ≠ .seq vs.toArray) → H b = none := fun {b o} e n => by
    cases q : H b with
    | none => rfl
    | some u =>
      obtain ⟨rfl, _⟩ := hA b u q
      rw [ha] at e
      cases e
      exact absurd rfl (n rfl)
  have ns1 : ∀ {b : Addr} {m : Str → Option Value}, s1.heap.Ns b m → (hidT s1.heap H).Ns b m := fun {b m} ⟨o, es, ep, e, d, r⟩ => ⟨o, es, ep, hidT_get e (free e fun _ z => by rw [d] at z; cases z), d, r⟩
  have kin : K.In (hidT s1.heap H) := fun b o e => hidT_get (KX b o e) (by
    cases q : H b with
    | none => rfl
    | some u =>
      obtain ⟨rfl, z⟩ := hA b u q
      rw [z] at e
      cases e)
  obtain ⟨mc, c1, c2⟩ := hlim
  have e0 : Env0 P w K mg (hidT s1.heap H) callerA [] s1 H :=
    { frames := rfl, mod := ⟨kin, ns1 hns, ⟨mb, ns1 hb, hbb⟩, ⟨mc, ns1 c1, c2⟩⟩, bs := fun b o e => of_hidT e, bsz := Nat.le_of_eq (hidT_size _ _), funs := trivial, frf := fun b z => absurd (show b ∈ ([] : List Addr) from z) (by simp), hok := hok, bare := .of_eq hgen }
  refine codeAny_mono ((F _ kin (ns1 hns)).run callerA [] s1 H ⟨[.ref a], []⟩ [.ref a] [.ref a] _ _ rfl hr e0 (hbind s1 (.ref a)) (.cons rfl .nil) hsp) fun r s' h => ?_
  match r, h with
  | .ok (.ret u), ⟨v, H', os, bare, un, hok', r', q⟩ =>
    cases (show v = V.bl true from q)
    cases (show u = Value.bool true from r')
    refine ⟨rfl, OldK.of_keep fun b o e => ?_, os, bare⟩
    cases q2 : H b with
    | none => exact un.keep b o e q2 (fun z => absurd (show b ∈ ([] : List Addr) from z) (by simp)) (by simp)
    | some u =>
      rcases hO b with z | ⟨ob, xs, z⟩
      · rw [q2] at z
        cases z
      · obtain ⟨e1, _⟩ := hok b _ z
        obtain ⟨e2, _⟩ := hok' b _ (un.frzs b ob _ z)
        rw [e] at e1
        cases e1
        exact e2
theorem walk_ofG {l : PySem.W.OpenLaw} {n k : Nat} {q : Program} {loose : List Str} {XP : (Str → Option Value) → Heap → Prop} {YP : World → Heap → Prop} {d : DefRec} {K : Params → PySem.W.Frag} {sp : World → Sp} {x : Str}
    (hn : l.most = some n) (hn2 : n ≤ sizeLine) (hdf : d.params.defaults = []) (hr : Room k callerA) (hY : ∀ (w : World) (h : Heap), YP w h → (K w.params).In h)
    (F : ∀ (w : World) (mg : Str → Option Value) (fa : Addr) (h : Heap), (K w.params).In h → h.Ns mainGlobals mg → mg d.name = some (.ref fa) →
      ∃ fd : FuncData, (∀ (s : Shared) (u : Value), BindsTo s fd ⟨[u], []⟩ [(x, u)]) ∧ ∀ base : Heap, (K w.params).In base → base.Ns mainGlobals mg → FnG l.prog w (K w.params) mg base k fa fd [x] (sp w))
    (hsp : ∀ (w : World) (H : Hp) (a : Addr) (ns : List Int), ns.length ≤ n → Only H → SqL (K w.params) H a (ns.map V.int) → sp w [.ref a] H (fun v _ => v = .bl true) fun _ _ _ => False) :
    PySem.W.WalkO q loose XP YP l.row.toRowW d [] (fun f vs => PySem.call f vs) := by
  refine Att.attach_call hn hdf fun w s0 s1 mg mb fa o pm cd doc a vs ns G Y ho hd hcd hmg hobj hints hlen hgen => ?_
  have KX := hY w _ Y
  obtain ⟨fd, hb, hF⟩ := F w mg fa _ KX G.T.g hmg
  have rv := vals_ints hints
  have hl : ns.length ≤ sizeLine := Nat.le_trans hlen hn2
  have lenV := hints.length
  cases hk : (K w.params).lookup a with
  | some ob =>
    have e := KX a ob hk
    rw [hobj] at e
    cases e
    refine law_runG (H := fun _ => none) KX G.T.g G.T.b G.T.builtins G.T.nolimit hgen hobj hr hF hb (fun _ => .inl rfl) (hsp w _ a ns hlen (fun _ => .inl rfl) (.inr ⟨_, vs.toArray, _, hk, rfl, rfl, rfl, by rw [List.size_toArray, lenV]; exact hl, by simpa using rv⟩)) (fun b u z => ?_) fun b u z => ?_
    · cases (show (none : Option HO) = some u from z)
    · cases (show (none : Option HO) = some u from z)
  | none =>
    have only : Only (fun b => if b = a then some (HO.frz { cls := .type "list", data := .seq vs.toArray } (.lst (ns.map V.int))) else none) := fun b => by
      by_cases z : b = a
      · exact .inr ⟨_, _, if_pos z⟩
      · exact .inl (if_neg z)
    have at_ : ∀ {b : Addr} {u : HO}, (if b = a then some (HO.frz { cls := .type "list", data := .seq vs.toArray } (.lst (ns.map V.int))) else none) = some u → b = a ∧ u = HO.frz { cls := .type "list", data := .seq vs.toArray } (.lst (ns.map V.int)) := fun {b u} z => by
      by_cases y : b = a
      · rw [if_pos y] at z
        exact ⟨y, (Option.some.inj z).symm⟩
      · rw [if_neg y] at z
        cases z
    refine law_runG (H := fun b => if b = a then some (HO.frz { cls := .type "list", data := .seq vs.toArray } (.lst (ns.map V.int))) else none) KX G.T.g G.T.b G.T.builtins G.T.nolimit hgen hobj hr hF hb only (hsp w _ a ns hlen only (.inl (.inr ⟨_, if_pos rfl⟩))) (fun b u z => ?_) fun b u z => ⟨(at_ z).1, hk⟩
    obtain ⟨rfl, rfl⟩ := at_ z
    exact ⟨hobj, by rw [List.length_map]; exact hl, vs, _, rv, hobj⟩
end RL

/-! != of an own class with __eq__ alone; str and repr of its instances; a new one by keywords. -/
namespace RL
open PySem L2 PySem.Spec PyProof.Rows PySem.W Builtin
section
variable {prog : Program} {w : World} {A : Around} {E : Value → Shared → Prop} {s : Shared} {K : Frag} {x C L f : Addr} {h₀ : Heap} {m : Str → Option Value} {ox : Obj} {od : Option Obj} {b tb : Value}
/-- object.__ne__ asks the own __eq__ -/
theorem ne_entry {Q : Fin → Shared → Prop} (X : K.In s.heap) (I : InstAt s.heap x ox C od) (hs : findIn K (.ref C) "__eq__" = some (some (.ref f))) (hf : isFn K (.ref f) = true) (hu : A.units < cLine)
    (hc : wpAny (model prog w) A (call (.ref f) [.ref x, b]) (fun v s' => ∃ t, v = .bool t ∧ Q (.done (.ret (.bool (!t)))) s') E s) : wpAny (model prog w) A (Builtin.«object.__ne__» ⟨[.ref x, b], []⟩) Q E s := by
  unfold Builtin.«object.__ne__»
  repeat (first
    | with_reducible refine wpAny_cRoomFor hu ?_
    | (refine wpAny_bind (m := callSpecialIfBound? (.ref x) (Str.ofString "__eq__") [b])
        (ifBound_K X I hs hf (wpAny_mono hc (fun r s' hr => by
          obtain ⟨t, rfl, hq⟩ := hr
          repeat (first | exact hq | exact wpAny_pure hq | exact wpAny_truthy_bool hq | (refine wpAny_bind (m := truthy (.bool _)) (wpAny_truthy_bool ?_)) | wp_step)) fun _ _ z => z)))
    | wp_step)
theorem ne_try {Q : Value → Shared → Prop} (X : K.In s.heap) (I : InstAt s.heap x ox C od) (hne : findIn K (.ref C) "__ne__" = some (some (.builtin "object.__ne__"))) (hsub : subIn K (.ref C) (.type "object") = some true) (hs : findIn K (.ref C) "__eq__" = some (some (.ref f))) (hf : isFn K (.ref f) = true) (hu : A.units + 1 < cLine)
    (hc : wpAny (model prog w) A.in1 (call (.ref f) [.ref x, b]) (fun v s' => ∃ t, v = .bool t ∧ Q (.bool (!t)) s') E s) : wpAny (model prog w) A (tryCompare (.ref x) "__ne__" b) (fun r s' => ∃ v, r = some v ∧ Q v s') E s := by
  unfold tryCompare
  have go : wpAny (model prog w) A (call (.builtin "object.__ne__") [.ref x, b]) (fun v s' => ∃ t, v = .bool t ∧ Q v s') E s := by
    refine wpAny_call (codeAny_call_builtin PySem.F.cmp_object.ne.plain PySem.F.cmpEntry_ne (@check_slot (model prog w) _ _ s "object.__ne__" "object" "__ne__" (.ref x) [b] [] _ PySem.F.cmpKind_ne PySem.F.cmpSplit_ne (I.type.andThen (looks_subIn X hsub)) (PySem.F.cmpArgs_ne _ _) ?_))
    exact ne_entry (A := A.in1) X I hs hf hu (wpAny_mono hc (fun v s' hv => by obtain ⟨t, rfl, q⟩ := hv; exact ⟨t, rfl, ⟨_, rfl, q⟩⟩) fun _ _ z => z)
  have bd : wpAny (model prog w) A (callSpecialIfBound? (.ref x) "__ne__" [b]) (fun r s' => ∃ t, r = some (.bool t) ∧ Q (.bool t) s') E s := by
    simp only [callSpecialIfBound?, bindSpecialIfBound?]
    refine wpAny_holding (wpAny_bind (wpAny_bind (wpAny_bind (I.type.here ((looks_findIn X hne).here ?_)))))
    refine wpAny_bind (wpAny_askSetting (wpAny_ite ?_))
    have fin : wpAny (model prog w) A (call (.builtin "object.__ne__") ([.ref x] ++ [b]) >>= fun v => pure (some v)) (fun r s' => ∃ t, r = some (.bool t) ∧ Q (.bool t) s') E s := wpAny_bind (wpAny_mono go (fun v s' ⟨t, e, q⟩ => wpAny_pure ⟨t, by rw [e], e ▸ q⟩) fun _ _ z => z)
    have e := PySem.F.cmp_object.ne.bind (.ref x)
    split
    · exact wpAny_bind (wpAny_of_eq e (wpAny_pure (by exact fin)))
    · exact wpAny_tryCatch (wpAny_bind (wpAny_of_eq e (wpAny_pure (by exact fin))))
  refine wpAny_bind (wpAny_mono bd (fun r s' hr => ?_) fun _ _ z => z)
  obtain ⟨t, rfl, q⟩ := hr
  exact wpAny_pure ⟨_, rfl, q⟩
theorem ne_K {Q : Value → Shared → Prop} (hu : A.units + 1 < cLine) (F : Fr h₀ L s.heap m) (X₀ : K.In h₀) (I : InstAt s.heap x ox C od) (hb : Looks (model prog w) s.heap (typeOf b) tb) (hn : notFirst K C tb = true)
    (hne : findIn K (.ref C) "__ne__" = some (some (.builtin "object.__ne__"))) (hsub : subIn K (.ref C) (.type "object") = some true) (hs : findIn K (.ref C) "__eq__" = some (some (.ref f))) (hf : isFn K (.ref f) = true)
    (h : wpAny (model prog w) A.in1 (call (.ref f) [.ref x, b]) (fun v s' => ∃ t, v = .bool t ∧ Q (.bool (!t)) s') E s) : wpAny (model prog w) A (richCompare .NotEq (.ref x) b) Q E s := by
  have X := X₀.keeps F.keep
  have one := ne_try (A := A) (b := b) (Q := Q) X I hne hsub hs hf hu h
  have last : ∀ (r : Option Value) (s' : Shared), (∃ v, r = some v ∧ Q v s') → ∃ v, r = some v ∧ Q v s' := fun _ _ z => z
  unfold richCompare
  simp only [oneThing_ref]
  refine wpAny_holding (wpAny_bind (wpAny_cRoomFor (Nat.lt_of_succ_lt hu) (wpAny_bind (I.type.here (wpAny_bind (hb.here ?_))))))
  split
  · rename_i q
    have e : subIn K tb (.ref C) = some false := (Bool.or_eq_true_iff.mp hn).elim (fun z => by rw [beq_iff_eq.mp z] at q; simp at q) beq_iff_eq.mp
    refine wpAny_bind ((looks_subIn X e).here ?_)
    simp only [Bool.false_eq_true, if_false]
    exact wpAny_bind (wpAny_mono one (fun r s' ⟨v, e, hq⟩ => by subst e; exact wpAny_pure hq) fun _ _ z => z)
  · refine wpAny_bind (wpAny_pure ?_)
    simp only [Bool.false_eq_true, if_false]
    exact wpAny_bind (wpAny_mono one (fun r s' ⟨v, e, hq⟩ => by subst e; exact wpAny_pure hq) fun _ _ z => z)
end
section
variable {X : Cx} {k : Nat} {ps : List Str} {sp : Sp} {C g : Addr} {fd : FuncData}
def rNeOwn (K : PySem.W.Frag) (C : Addr) (sp : Sp) : R2 := fun x y H Q => ∃ a dx fs ty, x = .ref a ∧ H a = some (.ins C dx fs) ∧ TyX K H y ty ∧ PySem.W.notFirst K C ty = true ∧ sp [x, y] H (fun v H' => ∃ t, v = .bl t ∧ Q (.bl (!t)) H') E0
theorem op_neOwn (hne : PySem.W.findIn X.K (.ref C) "__ne__" = some (some (.builtin "object.__ne__"))) (hsub : PySem.W.subIn X.K (.ref C) (.type "object") = some true) (hs : PySem.W.findIn X.K (.ref C) "__eq__" = some (some (.ref g))) (hf : PySem.W.isFn X.K (.ref g) = true)
    (F : FnOk X.prog X.w X.K X.mg X.base CX0 k g fd ps sp) (hb : Binds X.K fd ps []) (hr : Room (k + 1) X.A) : OpR X (compareOp .NotEq) (rNeOwn X.K C sp) := by
  intro pins s σ H x y v u Q I rx ry h
  obtain ⟨a, dx, fs, ty, rfl, ha, hy, hn, q⟩ := h
  cases (show v = Value.ref a from rx)
  obtain ⟨mA, O, _⟩ := ins_get I.hok ha
  obtain ⟨od, J, _⟩ := O.look
  obtain ⟨PH, Z, ph, _⟩ := kit_of I ry hy
  obtain ⟨m, hF⟩ := I.fr
  show wpAny _ _ (richCompare .NotEq (.ref a) u) _ _ _
  refine ne_K (hu_of hr) hF I.ok.mod.kin J (Z.ty _ _ I.kIn ph) hn hne hsub hs hf ?_
  have hl : ([Value.ref a, u] ++ []).length = ps.length := F.len _ _ _ _ q
  have hbb := hb s [.ref a, u] I.kIn hl
  refine wpAny_call (codeAny_mono (F.run X.A.in1 X.stack s H ⟨[.ref a, u], []⟩ [.ref a, u] [.ref a, y] _ E0 hr.in1 I.env0.in1 hbb (.cons rfl (.cons ry .nil)) q) fun z s' hq => ?_)
  match z, hq with
  | .ok (.ret w'), hq =>
    obtain ⟨v', H', I', rv, t, e, qz⟩ := I.after hq
    subst e
    cases (show w' = Value.bool t from rv)
    exact ⟨t, rfl, .bl (!t), H', I', rfl, qz⟩
/-! ### str and repr of an instance -/
def rTextOwn (C : Addr) (sp : Sp) : List V → Hp → VK → Prop := fun vs H Q => ∃ a dx fs, vs = [.ref a] ∧ H a = some (.ins C dx fs) ∧ sp [.ref a] H (fun z H' => ∃ y : Str, z = .str y ∧ Q z H') E0
theorem cr_reprOwn (hs : PySem.W.findIn X.K (.ref C) "__repr__" = some (some (.ref g))) (hf : PySem.W.isFn X.K (.ref g) = true) (F : FnOk X.prog X.w X.K X.mg X.base CX0 k g fd ps sp) (hb : Binds X.K fd ps []) (hr : Room (k + 1) X.A) : CallR X (.builtin "repr") (rTextOwn C sp) := by
  intro pins s σ H vs us Q I r h
  obtain ⟨a, dx, fs, rfl, ha, q⟩ := h
  rw [Vals.ref1 r]
  obtain ⟨mA, O, _⟩ := ins_get I.hok ha
  obtain ⟨od, J, _⟩ := O.look
  obtain ⟨m, hF⟩ := I.fr
  refine PySem.W.repr_K (hu_of hr) hF I.ok.mod.kin J hs hf ?_
  have hl : ([Value.ref a] ++ []).length = ps.length := F.len _ _ _ _ q
  refine wpAny_call (codeAny_mono (F.run X.A.in1 X.stack s H ⟨[.ref a], []⟩ [.ref a] [.ref a] _ E0 hr.in1 I.env0.in1 (hb s [.ref a] I.kIn hl) (.cons rfl .nil) q) fun z s' hq => ?_)
  match z, hq with
  | .ok (.ret w'), hq =>
    obtain ⟨v', H', I', rv, y, e, qz⟩ := I.after hq
    subst e
    obtain ⟨t, e2⟩ := (show ∃ t, w' = Value.str y t from rv)
    subst e2
    exact ⟨.str y, H', I', ⟨t, rfl⟩, qz⟩
theorem cr_strOwn (hs : PySem.W.findIn X.K (.ref C) "__str__" = some (some (.ref g))) (hf : PySem.W.isFn X.K (.ref g) = true) (F : FnOk X.prog X.w X.K X.mg X.base CX0 k g fd ps sp) (hb : Binds X.K fd ps []) (hr : Room (k + 2) X.A) : CallR X (.type "str") (rTextOwn C sp) := by
  intro pins s σ H vs us Q I r h
  obtain ⟨a, dx, fs, rfl, ha, q⟩ := h
  rw [Vals.ref1 r]
  obtain ⟨mA, O, _⟩ := ins_get I.hok ha
  obtain ⟨od, J, _⟩ := O.look
  have hr2 : Room k X.A.in1.in1 := (show Room (k + 1) X.A.in1 from Room.in1 hr).in1
  refine PySem.W.kso_call (by have := hr2.units0; exact this) I.kIn J hs hf ?_
  have hl : ([Value.ref a] ++ []).length = ps.length := F.len _ _ _ _ q
  refine wpAny_call (codeAny_mono (F.run X.A.in1.in1 X.stack s H ⟨[.ref a], []⟩ [.ref a] [.ref a] _ E0 hr2 I.env0.in1.in1 (hb s [.ref a] I.kIn hl) (.cons rfl .nil) q) fun z s' hq => ?_)
  match z, hq with
  | .ok (.ret w'), hq =>
    obtain ⟨v', H', I', rv, y, e, qz⟩ := I.after hq
    subst e
    obtain ⟨t, e2⟩ := (show ∃ t, w' = Value.str y t from rv)
    subst e2
    exact ⟨.str y, H', I', ⟨t, rfl⟩, qz⟩
end
end RL

/-! The mathematics: whole roots, common divisors, the one equation of a number, its sign beside a fraction. -/
namespace RL
/-- small: fewer than 2 ^ n -/
def Sm (n : Nat) (x : Int) : Prop := x.natAbs < 2 ^ n
theorem Sm.mono {m n : Nat} {x : Int} (h : Sm m x) (l : m ≤ n) : Sm n x := Nat.lt_of_lt_of_le h (Nat.pow_le_pow_right (by decide) l)
theorem Sm.mul {m n : Nat} {x y : Int} (h : Sm m x) (k : Sm n y) : Sm (m + n) (x * y) := by
  unfold Sm at *
  rw [Int.natAbs_mul, Nat.pow_add]
  exact Nat.mul_lt_mul'' h k
theorem Sm.add {n : Nat} {x y : Int} (h : Sm n x) (k : Sm n y) : Sm (n + 1) (x + y) := by
  unfold Sm at *
  rw [Nat.pow_succ]
  omega
theorem Sm.sub {n : Nat} {x y : Int} (h : Sm n x) (k : Sm n y) : Sm (n + 1) (x - y) := by
  unfold Sm at *
  rw [Nat.pow_succ]
  omega
theorem Sm.neg {n : Nat} {x : Int} (h : Sm n x) : Sm n (-x) := by
  unfold Sm at *
  omega
theorem Sm.of {n : Nat} {x y : Int} (h : Sm n y) (a : -y ≤ x) (b : x ≤ y) : Sm n x := by
  unfold Sm at *
  omega
theorem Sm.div {n : Nat} {x y : Int} (h : Sm n x) (hy : 0 < y) : Sm n (x / y) := by
  unfold Sm at *
  have h1 : (x / y).natAbs ≤ x.natAbs := by
    rcases Int.le_total 0 x with hx | hx
    · have := Int.ediv_le_self y hx
      have := Int.ediv_nonneg hx (Int.le_of_lt hy)
      omega
    · have h3 : x / y ≤ 0 := by
        have := Int.ediv_le_ediv hy hx
        simpa using this
      have h2 : x ≤ x / y := by
        have h4 : x * y ≤ x := by
          have q := Int.mul_nonneg (a := -x) (b := y - 1) (by omega) (by omega)
          have e : -x * (y - 1) = x - x * y := by grind
          omega
        exact (Int.le_ediv_iff_mul_le hy).mpr h4
      omega
  omega
theorem sm40 {x : Int} (a : -(10 ^ 40) ≤ x) (b : x ≤ 10 ^ 40) : Sm 133 x := by
  unfold Sm
  have : (10 : Int) ^ 40 < 2 ^ 133 := by decide
  have e : ((2 ^ 133 : Nat) : Int) = 2 ^ 133 := by decide
  omega
/-! ### whole roots -/
def IsRt (w r : Int) : Prop := 0 ≤ r ∧ r * r ≤ w ∧ w < (r + 1) * (r + 1)
theorem IsRt.le {w r s : Int} (h : IsRt w r) (k : IsRt w s) : r ≤ s := by
  obtain ⟨h0, h1, h2⟩ := h
  obtain ⟨k0, k1, k2⟩ := k
  rcases Int.lt_or_le s r with l | l
  · have : (s + 1) * (s + 1) ≤ r * r := Int.mul_le_mul (by omega) (by omega) (by omega) (by omega)
    omega
  · exact l
theorem IsRt.eq {w r s : Int} (h : IsRt w r) (k : IsRt w s) : r = s := Int.le_antisymm (h.le k) (k.le h)
def rtN : Nat → Nat
  | 0 => 0
  | n + 1 => if (rtN n + 1) * (rtN n + 1) ≤ n + 1 then rtN n + 1 else rtN n
theorem rtN_is : ∀ n, rtN n * rtN n ≤ n ∧ n < (rtN n + 1) * (rtN n + 1)
  | 0 => ⟨Nat.le_refl _, by decide⟩
  | n + 1 => by
    have ih := rtN_is n
    unfold rtN
    split
    · rename_i h
      refine ⟨h, ?_⟩
      have : (rtN n + 1 + 1) * (rtN n + 1 + 1) = (rtN n + 1) * (rtN n + 1) + 2 * (rtN n + 1) + 1 := by grind
      omega
    · rename_i h
      omega
def rt (w : Int) : Int := (rtN w.toNat : Int)
theorem rt_is {w : Int} (h : 0 ≤ w) : IsRt w (rt w) := by
  have k := rtN_is w.toNat
  have e : (w.toNat : Int) = w := Int.toNat_of_nonneg h
  refine ⟨Int.natCast_nonneg _, ?_, ?_⟩
  · have := Int.ofNat_le.mpr k.1
    rw [Int.natCast_mul, e] at this
    exact this
  · have := Int.ofNat_lt.mpr k.2
    rw [Int.natCast_mul, e, Int.natCast_add] at this
    exact this
theorem rt_of {w r : Int} (h : IsRt w r) : r = rt w := h.eq (rt_is (Int.le_trans (Int.mul_nonneg h.1 h.1) h.2.1))
theorem rt_sm {n : Nat} {w : Int} (h0 : 0 ≤ w) (h : Sm (2 * n) w) : Sm n (rt w) := by
  obtain ⟨a, b, _⟩ := rt_is h0
  unfold Sm at *
  refine Nat.lt_of_not_le fun q => ?_
  have e : (2 : Nat) ^ (2 * n) = 2 ^ n * 2 ^ n := by rw [← Nat.pow_add]; congr 1; omega
  have : 2 ^ n * 2 ^ n ≤ (rt w).natAbs * (rt w).natAbs := Nat.mul_le_mul q q
  have e2 : (rt w * rt w).natAbs = (rt w).natAbs * (rt w).natAbs := Int.natAbs_mul _ _
  have : (rt w * rt w).natAbs ≤ w.natAbs := by
    have := Int.mul_nonneg a a
    omega
  omega
/-- a step of Newton's -/
theorem newton {n g : Int} (hn : 0 ≤ n) (hg : 0 ≤ g) (h : n < (g + 1) * (g + 1)) (l : n < g * g) :
    0 < g ∧ 0 ≤ (g + n / g) / 2 ∧ (g + n / g) / 2 < g ∧ n < ((g + n / g) / 2 + 1) * ((g + n / g) / 2 + 1) := by
  have g0 : 0 < g := by
    rcases Int.lt_or_le 0 g with q | q
    · exact q
    · have : g = 0 := by omega
      subst this
      omega
  have q0 : 0 ≤ n / g := Int.ediv_nonneg hn hg
  have q1 : n < g * (n / g + 1) := by
    have := Int.lt_mul_ediv_self_add (x := n) (k := g) g0
    rw [Int.mul_add, Int.mul_one]
    exact this
  have q2 : n / g < g := Int.ediv_lt_of_lt_mul g0 l
  generalize n / g = q at *
  have hm : g + q ≤ 2 * ((g + q) / 2) + 1 := by omega
  have h0 : 0 ≤ (g + q) / 2 := by omega
  have h1 : (g + q) / 2 < g := by omega
  generalize (g + q) / 2 = m at *
  refine ⟨g0, h0, h1, ?_⟩
  have a1 : (g + q + 1) * (g + q + 1) ≤ (2 * (m + 1)) * (2 * (m + 1)) := Int.mul_le_mul (by omega) (by omega) (by omega) (by omega)
  have a2 : 0 ≤ (g - q - 1) * (g - q - 1) := by
    rcases Int.le_total 0 (g - q - 1) with z | z
    · exact Int.mul_nonneg z z
    · exact Int.mul_nonneg_of_nonpos_of_nonpos z z
  have a3 : (g + q + 1) * (g + q + 1) = 4 * (g * (q + 1)) + (g - q - 1) * (g - q - 1) := by grind
  have a4 : (2 * (m + 1)) * (2 * (m + 1)) = 4 * ((m + 1) * (m + 1)) := by grind
  omega
/-! ### common divisors -/
def gc (a b : Int) : Int := (Int.gcd a b : Int)
theorem gc_nonneg (a b : Int) : 0 ≤ gc a b := Int.natCast_nonneg _
theorem gc_pos {a b : Int} (h : a ≠ 0 ∨ b ≠ 0) : 0 < gc a b := by
  unfold gc
  have : 0 < Int.gcd a b := by
    rcases Nat.eq_zero_or_pos (Int.gcd a b) with z | z
    · rw [Int.gcd_eq_zero_iff] at z
      omega
    · exact z
  omega
theorem gc_dvd1 (a b : Int) : gc a b ∣ a := Int.gcd_dvd_left ..
theorem gc_dvd2 (a b : Int) : gc a b ∣ b := Int.gcd_dvd_right ..
theorem gc_zero {a : Int} (h : 0 ≤ a) : gc a 0 = a := by
  unfold gc
  rw [Int.gcd_zero_right]
  omega
theorem gc_step {a b : Int} (ha : 0 ≤ a) (hb : 0 < b) : gc b (a % b) = gc a b := by
  obtain ⟨n, rfl⟩ := Int.eq_ofNat_of_zero_le ha
  obtain ⟨m, rfl⟩ := Int.eq_ofNat_of_zero_le (Int.le_of_lt hb)
  unfold gc
  congr 1
  rw [← Int.natCast_emod, Int.gcd_natCast_natCast, Int.gcd_natCast_natCast, Nat.gcd_comm, ← Nat.gcd_rec, Nat.gcd_comm]
theorem gc_abs (a b : Int) : gc (if a < 0 then -a else a) (if b < 0 then -b else b) = gc a b := by
  unfold gc
  congr 1
  split <;> split <;> simp
theorem gc_abs2 (a b : Int) : gc a (if b < 0 then -b else b) = gc a b := by
  unfold gc
  congr 1
  split <;> simp
theorem ex_mul {g a : Int} (h : g ∣ a) (hg : 0 < g) : a = g * (a / g) := (Int.mul_ediv_cancel' h).symm
/-! ### the one equation of a number -/
/-- the parts of an equation that is accepted -/
def Good (a b c : Int) : Prop := (a = 0 ∧ 1 ≤ b ∧ 0 ≤ c) ∨ (1 ≤ a ∧ 1 ≤ c)
structure Nrm (a b c s l w : Int) : Prop where
  good : Good s l w
  /-- the sign beside x / y -/
  sgn : ∀ x y : Int, 0 ≤ x → 1 ≤ y → (0 < w * y * y - l * x * y - s * x * x ↔ a * x * x + b * x * y - c * y * y < 0) ∧ (w * y * y - l * x * y - s * x * x = 0 ↔ a * x * x + b * x * y - c * y * y = 0)
/-- multiplied by a number above 0 -/
theorem pos_iff {k u : Int} (hk : 0 < k) : (0 < k * u ↔ 0 < u) ∧ (k * u = 0 ↔ u = 0) := by
  refine ⟨⟨fun h => ?_, fun h => Int.mul_pos hk h⟩, ⟨fun h => ?_, fun h => by rw [h, Int.mul_zero]⟩⟩
  · rcases Int.lt_or_le 0 u with z | z
    · exact z
    · have := Int.mul_nonpos_of_nonneg_of_nonpos (Int.le_of_lt hk) z
      omega
  · rcases Int.mul_eq_zero.mp h with z | z
    · omega
    · exact z
theorem nrm_div {a b c g : Int} (h : Good a b c) (hg : 0 < g) (da : g ∣ a) (db : g ∣ b) (dc : g ∣ c) : Nrm a b c (a / g) (b / g) (c / g) := by
  have ea := ex_mul da hg
  have eb := ex_mul db hg
  have ec := ex_mul dc hg
  generalize a / g = s at *
  generalize b / g = l at *
  generalize c / g = w at *
  subst ea eb ec
  refine ⟨?_, fun x y hx hy => ?_⟩
  · rcases h with ⟨h1, h2, h3⟩ | ⟨h1, h2⟩
    · refine .inl ⟨((pos_iff hg).2.mp h1), ?_, ?_⟩
      · have := (pos_iff (u := l) hg).1.mp (by omega)
        omega
      · rcases Int.lt_or_le w 0 with z | z
        · have := Int.mul_neg_of_pos_of_neg hg z
          omega
        · exact z
    · refine .inr ⟨?_, ?_⟩
      · have := (pos_iff (u := s) hg).1.mp (by omega)
        omega
      · have := (pos_iff (u := w) hg).1.mp (by omega)
        omega
  · have e : g * s * x * x + g * l * x * y - g * w * y * y = -(g * (w * y * y - l * x * y - s * x * x)) := by grind
    rw [e]
    have := pos_iff (k := g) (u := w * y * y - l * x * y - s * x * x) hg
    refine ⟨?_, ?_⟩
    · rw [← this.1]; omega
    · rw [← this.2]; omega
theorem rt_gt {b t r : Int} (ht : 0 < t) (hr : 0 ≤ r) (e : b * b + t = r * r) : 0 < r + b ∧ 0 < r - b := by
  refine ⟨?_, ?_⟩
  · rcases Int.lt_or_le 0 (r + b) with z | z
    · exact z
    · have h1 : 0 ≤ (-b - r) * (-b + r) := Int.mul_nonneg (by omega) (by omega)
      have h2 : (-b - r) * (-b + r) = b * b - r * r := by grind
      omega
  · rcases Int.lt_or_le 0 (r - b) with z | z
    · exact z
    · have h1 : 0 ≤ (b - r) * (b + r) := Int.mul_nonneg (by omega) (by omega)
      have h2 : (b - r) * (b + r) = b * b - r * r := by grind
      omega
theorem nrm_root {a b c r g : Int} (ha : 1 ≤ a) (hc : 1 ≤ c) (hr : 0 ≤ r) (e : b * b + 4 * a * c = r * r) (hg : 0 < g) (d1 : g ∣ r - b) (d2 : g ∣ 2 * a) : Nrm a b c 0 (2 * a / g) ((r - b) / g) := by
  have hac : 0 < 4 * a * c := Int.mul_pos (by omega) (by omega)
  obtain ⟨p1, p2⟩ := rt_gt hac hr e
  have e1 := ex_mul d1 hg
  have e2 := ex_mul d2 hg
  have l0 : 1 ≤ 2 * a / g := by
    have := (pos_iff (u := 2 * a / g) hg).1.mp (by omega)
    omega
  have w0 : 1 ≤ (r - b) / g := by
    have := (pos_iff (u := (r - b) / g) hg).1.mp (by omega)
    omega
  generalize 2 * a / g = l at *
  generalize (r - b) / g = w at *
  refine ⟨.inl ⟨rfl, l0, by omega⟩, fun x y hx hy => ?_⟩
  have k : 0 < r * y + b * y + 2 * a * x := by
    have h1 : 0 < (r + b) * y := Int.mul_pos p1 (by omega)
    have h2 : 0 ≤ 2 * a * x := Int.mul_nonneg (by omega) hx
    have h3 : (r + b) * y = r * y + b * y := by grind
    omega
  have y0 : 0 < y := by omega
  -- y * g * (w y - l x) = y * ((r - b) y - 2 a x)
  have f1 : g * (w * y * y - l * x * y - 0 * x * x) = y * ((r - b) * y - 2 * a * x) := by
    rw [e1, e2]; grind
  have f2 : 4 * a * (c * y * y - a * x * x - b * x * y) = (r * y + b * y + 2 * a * x) * ((r - b) * y - 2 * a * x) := by grind
  have q1 := pos_iff (u := w * y * y - l * x * y - 0 * x * x) hg
  have q2 := pos_iff (u := (r - b) * y - 2 * a * x) y0
  have q3 := pos_iff (k := 4 * a) (u := c * y * y - a * x * x - b * x * y) (by omega)
  have q4 := pos_iff (u := (r - b) * y - 2 * a * x) k
  rw [f1] at q1
  rw [f2] at q3
  refine ⟨?_, ?_⟩
  · rw [← q1.1, q2.1, ← q4.1, q3.1]; omega
  · rw [← q1.2, q2.2, ← q4.2, q3.2]; omega
/-- what the program keeps of an equation -/
def parts (a b c : Int) : Int × Int × Int :=
  if a = 0 then (0, b / gc c b, c / gc c b)
  else if rt (b * b + 4 * a * c) * rt (b * b + 4 * a * c) = b * b + 4 * a * c then
    (0, 2 * a / gc (rt (b * b + 4 * a * c) - b) (2 * a), (rt (b * b + 4 * a * c) - b) / gc (rt (b * b + 4 * a * c) - b) (2 * a))
  else (a / gc (gc a b) c, b / gc (gc a b) c, c / gc (gc a b) c)
theorem inside_pos {a b c : Int} (h : 1 ≤ a ∧ 1 ≤ c) : 0 < 4 * a * c ∧ 0 ≤ b * b + 4 * a * c := by
  have hac : 0 < 4 * a * c := Int.mul_pos (by omega) (by omega)
  have hb : 0 ≤ b * b := by
    rcases Int.le_total 0 b with z | z
    · exact Int.mul_nonneg z z
    · exact Int.mul_nonneg_of_nonpos_of_nonpos z z
  omega
theorem parts_nrm {a b c : Int} (h : Good a b c) : Nrm a b c (parts a b c).1 (parts a b c).2.1 (parts a b c).2.2 := by
  unfold parts
  rcases h with ⟨rfl, h2, h3⟩ | h
  · rw [if_pos rfl]
    have g0 : 0 < gc c b := gc_pos (.inr (by omega))
    have := nrm_div (a := 0) (b := b) (c := c) (.inl ⟨rfl, h2, h3⟩) g0 (Int.dvd_zero _) (gc_dvd2 _ _) (gc_dvd1 _ _)
    rw [Int.zero_ediv] at this
    exact this
  · rw [if_neg (by omega)]
    have k := inside_pos (b := b) h
    split
    · rename_i e
      exact nrm_root h.1 h.2 (rt_is k.2).1 e.symm (gc_pos (.inr (by omega))) (gc_dvd1 _ _) (gc_dvd2 _ _)
    · exact nrm_div (.inr h) (gc_pos (.inr (by omega))) (Int.dvd_trans (gc_dvd1 _ _) (gc_dvd1 _ _)) (Int.dvd_trans (gc_dvd1 _ _) (gc_dvd2 _ _)) (gc_dvd2 _ _)
theorem parts_sm {a b c : Int} (h : Good a b c) (ha : Sm 133 a) (hb : Sm 133 b) (hc : Sm 133 c) : Sm 150 (parts a b c).1 ∧ Sm 150 (parts a b c).2.1 ∧ Sm 150 (parts a b c).2.2 := by
  unfold parts
  rcases h with ⟨rfl, h2, h3⟩ | h
  · rw [if_pos rfl]
    have g0 : 0 < gc c b := gc_pos (.inr (by omega))
    exact ⟨show Sm 150 0 by unfold Sm; decide, (hb.div g0).mono (by decide), (hc.div g0).mono (by decide)⟩
  · rw [if_neg (by omega)]
    have k := inside_pos (b := b) h
    have hd : Sm 270 (b * b + 4 * a * c) := by
      have h4 : Sm 3 4 := by unfold Sm; decide
      have e1 : Sm (133 + 133) (b * b) := hb.mul hb
      have e2 : Sm (3 + 133 + 133) (4 * a * c) := (h4.mul ha).mul hc
      exact (Sm.add (n := 269) (e1.mono (by decide)) (e2.mono (by decide)))
    have hr : Sm 135 (rt (b * b + 4 * a * c)) := rt_sm (n := 135) k.2 hd
    have h2 : Sm 2 2 := by unfold Sm; decide
    split
    · have g0 : 0 < gc (rt (b * b + 4 * a * c) - b) (2 * a) := gc_pos (.inr (by omega))
      refine ⟨show Sm 150 0 by unfold Sm; decide, ?_, ?_⟩
      · exact ((h2.mul ha).div g0).mono (by decide)
      · exact ((hr.sub (hb.mono (by decide))).div g0).mono (by decide)
    · have g0 : 0 < gc (gc a b) c := gc_pos (.inr (by omega))
      exact ⟨(ha.div g0).mono (by decide), (hb.div g0).mono (by decide), (hc.div g0).mono (by decide)⟩
/-! ### beside a fraction -/
def sg (n : Int) : Int := if 0 < n then 1 else if n < 0 then -1 else 0
/-- the law's side -/
def side (a b c x y : Int) : Int := if y = 0 then -1 else sg (-(a * x * x + b * x * y - c * y * y))
def beside (s l w x y : Int) : Int := sg (w * y * y - l * x * y - s * x * x)
theorem Nrm.side {a b c s l w x y : Int} (h : Nrm a b c s l w) (hx : 0 ≤ x) (hy : 1 ≤ y) : beside s l w x y = RL.side a b c x y := by
  obtain ⟨k1, k2⟩ := h.sgn x y hx hy
  unfold beside RL.side sg
  rw [if_neg (show ¬ y = 0 by omega)]
  generalize w * y * y - l * x * y - s * x * x = u at *
  generalize a * x * x + b * x * y - c * y * y = v at *
  by_cases p : 0 < u
  · have := k1.mp p
    rw [if_pos p, if_pos (by omega)]
  · by_cases q : u = 0
    · have := k2.mp q
      rw [if_neg p, if_neg (by omega), if_neg (by omega), if_neg (by omega)]
    · have : ¬ v < 0 := fun z => p (k1.mpr z)
      have : ¬ v = 0 := fun z => q (k2.mpr z)
      rw [if_neg p, if_pos (by omega), if_neg (by omega), if_pos (by omega)]
/-- the same fraction written otherwise -/
theorem side_same {a b c x y k : Int} (hk : 1 ≤ k) (hy : 1 ≤ y) : RL.side a b c (k * x) (k * y) = RL.side a b c x y := by
  unfold RL.side
  have h0 : ¬ k * y = 0 := by
    have := Int.mul_pos (a := k) (b := y) (by omega) (by omega)
    omega
  rw [if_neg h0, if_neg (show ¬ y = 0 by omega)]
  have kk : 0 < k * k := Int.mul_pos (by omega) (by omega)
  have e : -(a * (k * x) * (k * x) + b * (k * x) * (k * y) - c * (k * y) * (k * y)) = k * k * (-(a * x * x + b * x * y - c * y * y)) := by grind
  rw [e]
  generalize -(a * x * x + b * x * y - c * y * y) = u
  have q := pos_iff (u := u) kk
  unfold sg
  by_cases p : 0 < u
  · rw [if_pos p, if_pos (q.1.mpr p)]
  · by_cases z : u = 0
    · subst z
      rw [Int.mul_zero]
    · have h1 : ¬ 0 < k * k * u := fun t => p (q.1.mp t)
      have h2 : ¬ k * k * u = 0 := fun t => z (q.2.mp t)
      rw [if_neg p, if_pos (show u < 0 by omega), if_neg h1, if_pos (show k * k * u < 0 by omega)]
/-! ### floors -/
def flo (s l w t : Int) : Int := if s = 0 then t * w / l else (rt (t * t * (l * l + 4 * s * w)) - t * l) / (2 * s)
theorem flo_is {s l w t : Int} (h : Good s l w) (ht : 1 ≤ t) : 0 ≤ flo s l w t ∧ 0 ≤ beside s l w (flo s l w t) t ∧ beside s l w (flo s l w t + 1) t = -1 := by
  have sgp : ∀ n : Int, 0 ≤ n → 0 ≤ sg n := fun n hn => by
    unfold sg
    split
    · decide
    · split
      · omega
      · decide
  have sgn : ∀ n : Int, n < 0 → sg n = -1 := fun n hn => by
    unfold sg
    rw [if_neg (by omega), if_pos hn]
  unfold flo
  rcases h with ⟨rfl, h2, h3⟩ | h
  · rw [if_pos rfl]
    have l0 : 0 < l := by omega
    have d1 := Int.mul_ediv_self_le (x := t * w) (k := l) (by omega)
    have d2 := Int.lt_mul_ediv_self_add (x := t * w) (k := l) l0
    have d0 : 0 ≤ t * w / l := Int.ediv_nonneg (Int.mul_nonneg (by omega) h3) (by omega)
    generalize t * w / l = q at *
    refine ⟨d0, sgp _ ?_, sgn _ ?_⟩
    · have : w * t * t - l * q * t - 0 * q * q = t * (t * w - l * q) := by grind
      rw [this]
      exact Int.mul_nonneg (by omega) (by omega)
    · have : w * t * t - l * (q + 1) * t - 0 * (q + 1) * (q + 1) = -(t * (l * q + l - t * w)) := by grind
      rw [this]
      have := Int.mul_pos (a := t) (b := l * q + l - t * w) (by omega) (by omega)
      omega
  · rw [if_neg (by omega)]
    have hsw : 0 < 4 * s * w := Int.mul_pos (by omega) (by omega)
    have ll : 0 ≤ l * l := by
      rcases Int.le_total 0 l with z | z
      · exact Int.mul_nonneg z z
      · exact Int.mul_nonneg_of_nonpos_of_nonpos z z
    have w0 : 0 ≤ t * t * (l * l + 4 * s * w) := Int.mul_nonneg (Int.mul_nonneg (by omega) (by omega)) (by omega)
    obtain ⟨r0, r1, r2⟩ := rt_is w0
    generalize er : rt (t * t * (l * l + 4 * s * w)) = r at *
    -- r is at least t * l either way
    have rl : -r ≤ t * l ∧ t * l ≤ r := by
      have h0 : t * l * (t * l) ≤ t * t * (l * l + 4 * s * w) := by
        have e : t * t * (l * l + 4 * s * w) = t * l * (t * l) + t * t * (4 * s * w) := by grind
        have := Int.mul_nonneg (a := t * t) (b := 4 * s * w) (Int.mul_nonneg (by omega) (by omega)) (by omega)
        omega
      refine ⟨?_, ?_⟩
      · rcases Int.lt_or_le (t * l) (-r) with z | z
        · have : (r + 1) * (r + 1) ≤ (-(t * l)) * (-(t * l)) := Int.mul_le_mul (by omega) (by omega) (by omega) (by omega)
          have e : (-(t * l)) * (-(t * l)) = t * l * (t * l) := by grind
          omega
        · exact z
      · rcases Int.lt_or_le r (t * l) with z | z
        · have : (r + 1) * (r + 1) ≤ (t * l) * (t * l) := Int.mul_le_mul (by omega) (by omega) (by omega) (by omega)
          omega
        · exact z
    have s0 : 0 < 2 * s := by omega
    have d1 := Int.mul_ediv_self_le (x := r - t * l) (k := 2 * s) (by omega)
    have d2 := Int.lt_mul_ediv_self_add (x := r - t * l) (k := 2 * s) s0
    have d0 : 0 ≤ (r - t * l) / (2 * s) := Int.ediv_nonneg (by omega) (by omega)
    generalize (r - t * l) / (2 * s) = q at *
    have f : ∀ z : Int, 4 * s * (w * t * t - l * z * t - s * z * z) = t * t * (l * l + 4 * s * w) - (2 * s * z + t * l) * (2 * s * z + t * l) := fun z => by grind
    have sp : 0 < 4 * s := by omega
    refine ⟨d0, sgp _ ?_, sgn _ ?_⟩
    · have u1 : 0 ≤ 2 * s * q := Int.mul_nonneg (by omega) d0
      have u2 : (2 * s * q + t * l) * (2 * s * q + t * l) ≤ r * r := by
        rcases Int.le_total 0 (2 * s * q + t * l) with z | z
        · exact Int.mul_le_mul (by omega) (by omega) (by omega) (by omega)
        · have := Int.mul_le_mul (a := -(2 * s * q + t * l)) (b := -(2 * s * q + t * l)) (c := r) (d := r) (by omega) (by omega) (by omega) (by omega)
          have e : (-(2 * s * q + t * l)) * (-(2 * s * q + t * l)) = (2 * s * q + t * l) * (2 * s * q + t * l) := by grind
          omega
      have u3 := f q
      have u4 := pos_iff (u := w * t * t - l * q * t - s * q * q) sp
      rcases Int.lt_or_le (w * t * t - l * q * t - s * q * q) 0 with z | z
      · have := Int.mul_neg_of_pos_of_neg sp z
        omega
      · exact z
    · have u0 : 2 * s * (q + 1) = 2 * s * q + 2 * s := by grind
      have u2 : (r + 1) * (r + 1) ≤ (2 * s * (q + 1) + t * l) * (2 * s * (q + 1) + t * l) := Int.mul_le_mul (by omega) (by omega) (by omega) (by omega)
      have u3 := f (q + 1)
      rcases Int.lt_or_le (w * t * t - l * (q + 1) * t - s * (q + 1) * (q + 1)) 0 with z | z
      · exact z
      · have := Int.mul_nonneg (Int.le_of_lt sp) z
        omega
end RL

/-! The order of two numbers: by the program's signs, and that unlike small ones differ within thirty figures. -/
namespace RL
theorem sq_nn (x : Int) : 0 ≤ x * x := by
  rcases Int.le_total 0 x with z | z
  · exact Int.mul_nonneg z z
  · exact Int.mul_nonneg_of_nonpos_of_nonpos z z
/-- above 0 just if the number is greater than x / y -/
def Fv (s l w x y : Int) : Int := w * y * y - l * x * y - s * x * x
/-- further right it stays less -/
theorem fv_down {s l w x y x' y' : Int} (g : Good s l w) (hx : 0 ≤ x) (hy : 1 ≤ y) (hx' : 0 ≤ x') (hy' : 1 ≤ y') (h : Fv s l w x y < 0) (c : x * y' ≤ x' * y) : Fv s l w x' y' < 0 := by
  refine Classical.byContradiction fun q => ?_
  have yy : 0 < y * y' := Int.mul_pos (by omega) (by omega)
  have h1 : y' * y' * Fv s l w x y = w * (y * y') * (y * y') - l * (x * y') * (y * y') - s * (x * y') * (x * y') := by unfold Fv; grind
  have h2 : y * y * Fv s l w x' y' = w * (y * y') * (y * y') - l * (x' * y) * (y * y') - s * (x' * y) * (x' * y) := by unfold Fv; grind
  have k1 : y' * y' * Fv s l w x y < 0 := Int.mul_neg_of_pos_of_neg (Int.mul_pos (by omega) (by omega)) h
  have k2 : 0 ≤ y * y * Fv s l w x' y' := Int.mul_nonneg (sq_nn y) (by omega)
  have u0 : 0 ≤ x * y' := Int.mul_nonneg hx (by omega)
  generalize x * y' = u at *
  generalize x' * y = v at *
  generalize y * y' = Y at *
  have d : (v - u) * (l * Y + s * (u + v)) = l * v * Y + s * v * v - (l * u * Y + s * u * u) := by grind
  have k3 : (v - u) * (l * Y + s * (u + v)) < 0 := by omega
  have k4 : 0 < v - u := by
    rcases Int.lt_or_le 0 (v - u) with z | z
    · exact z
    · have : v - u = 0 := by omega
      rw [this, Int.zero_mul] at k3
      omega
  have k5 : l * Y + s * (u + v) < 0 := by
    refine Classical.byContradiction fun z => ?_
    have := Int.mul_nonneg (Int.le_of_lt k4) (Int.not_lt.mp z)
    omega
  rcases g with ⟨rfl, l0, w0⟩ | ⟨s0, w0⟩
  · have := Int.mul_pos (a := l) (b := Y) (by omega) yy
    omega
  · have e : u * (l * Y + s * u) = l * u * Y + s * u * u := by grind
    have p : 0 < w * Y * Y := Int.mul_pos (Int.mul_pos (by omega) yy) yy
    have k6 : 0 < u * (l * Y + s * u) := by omega
    have k7 : 0 < l * Y + s * u := by
      refine Classical.byContradiction fun z => ?_
      have := Int.mul_nonpos_of_nonneg_of_nonpos u0 (Int.not_lt.mp z)
      omega
    have k8 : 0 ≤ s * v := Int.mul_nonneg (by omega) (by omega)
    have e2 : s * (u + v) = s * u + s * v := by grind
    omega
theorem fv_down' {s l w x y x' y' : Int} (g : Good s l w) (hx : 0 ≤ x) (hy : 1 ≤ y) (hx' : 0 ≤ x') (hy' : 1 ≤ y') (h : Fv s l w x y ≤ 0) (c : x * y' < x' * y) : Fv s l w x' y' < 0 := by
  refine Classical.byContradiction fun q => ?_
  have yy : 0 < y * y' := Int.mul_pos (by omega) (by omega)
  have h1 : y' * y' * Fv s l w x y = w * (y * y') * (y * y') - l * (x * y') * (y * y') - s * (x * y') * (x * y') := by unfold Fv; grind
  have h2 : y * y * Fv s l w x' y' = w * (y * y') * (y * y') - l * (x' * y) * (y * y') - s * (x' * y) * (x' * y) := by unfold Fv; grind
  have k1 : y' * y' * Fv s l w x y ≤ 0 := Int.mul_nonpos_of_nonneg_of_nonpos (sq_nn y') h
  have k2 : 0 ≤ y * y * Fv s l w x' y' := Int.mul_nonneg (sq_nn y) (by omega)
  have u0 : 0 ≤ x * y' := Int.mul_nonneg hx (by omega)
  generalize x * y' = u at *
  generalize x' * y = v at *
  generalize y * y' = Y at *
  have d : (v - u) * (l * Y + s * (u + v)) = l * v * Y + s * v * v - (l * u * Y + s * u * u) := by grind
  have k3 : (v - u) * (l * Y + s * (u + v)) ≤ 0 := by omega
  have k4 : 0 < v - u := by omega
  have k5 : l * Y + s * (u + v) ≤ 0 := by
    refine Classical.byContradiction fun z => ?_
    have := Int.mul_pos k4 (Int.not_le.mp z)
    omega
  rcases g with ⟨rfl, l0, w0⟩ | ⟨s0, w0⟩
  · have := Int.mul_pos (a := l) (b := Y) (by omega) yy
    omega
  · have e : u * (l * Y + s * u) = l * u * Y + s * u * u := by grind
    have p : 0 < w * Y * Y := Int.mul_pos (Int.mul_pos (by omega) yy) yy
    have k6 : 0 < u * (l * Y + s * u) := by omega
    have k7 : 0 < l * Y + s * u := by
      refine Classical.byContradiction fun z => ?_
      have := Int.mul_nonpos_of_nonneg_of_nonpos u0 (Int.not_lt.mp z)
      omega
    have k8 : 0 ≤ s * v := Int.mul_nonneg (by omega) (by omega)
    have e2 : s * (u + v) = s * u + s * v := by grind
    omega
/-- further left it stays greater -/
theorem fv_up {s l w x y x' y' : Int} (g : Good s l w) (hx : 0 ≤ x) (hy : 1 ≤ y) (hx' : 0 ≤ x') (hy' : 1 ≤ y') (h : 0 ≤ Fv s l w x y) (c : x' * y < x * y') : 0 < Fv s l w x' y' := by
  refine Classical.byContradiction fun q => ?_
  have := fv_down' g hx' hy' hx hy (Int.not_lt.mp q) c
  omega
/-! ### the program's order -/
def sal0 (s l w sl h : Int) : Int := if sl = 0 ∨ h < 0 then sg (-h) else beside s l w h sl
def sal (s l w sl h : Int) : Int := if sl < 0 then -(sal0 s l w (-sl) (-h)) else sal0 s l w sl h
def ord (s l w s' l' w' : Int) : Int := if s' = 0 then beside s l w w' l' else -(sal s' l' w' (l * s' - l' * s) (w * s' - w' * s))
theorem sg_neg {n : Int} (h : n < 0) : sg n = -1 := by unfold sg; rw [if_neg (by omega), if_pos h]
theorem sg_pos {n : Int} (h : 0 < n) : sg n = 1 := by unfold sg; rw [if_pos h]
theorem sg_zero : sg 0 = 0 := by decide
theorem lin {s l w s' l' w' x y : Int} : s * Fv s' l' w' x y - s' * Fv s l w x y = y * ((l * s' - l' * s) * x - (w * s' - w' * s) * y) := by unfold Fv; grind
theorem lin0 {s l w s' l' w' : Int} : s' * Fv s l w (w * s' - w' * s) (l * s' - l' * s) = s * Fv s' l' w' (w * s' - w' * s) (l * s' - l' * s) := by unfold Fv; grind
theorem lin0' {s l w s' l' w' : Int} : s' * Fv s l w (-(w * s' - w' * s)) (-(l * s' - l' * s)) = s * Fv s' l' w' (-(w * s' - w' * s)) (-(l * s' - l' * s)) := by unfold Fv; grind
theorem ord_lt {s l w s' l' w' x y : Int} (g : Good s l w) (g' : Good s' l' w') (hx : 0 ≤ x) (hy : 1 ≤ y) (h : Fv s l w x y < 0) (h' : 0 ≤ Fv s' l' w' x y) : ord s l w s' l' w' = -1 := by
  unfold ord
  split
  · rename_i z
    subst z
    rcases g' with ⟨_, l0, w0⟩ | ⟨z, _⟩
    · refine sg_neg (fv_down g hx hy w0 l0 h ?_)
      have e : Fv 0 l' w' x y = y * (w' * y - l' * x) := by unfold Fv; grind
      rw [e] at h'
      have : 0 ≤ w' * y - l' * x := by
        refine Classical.byContradiction fun z => ?_
        have := Int.mul_neg_of_pos_of_neg (a := y) (by omega) (Int.not_le.mp z)
        omega
      have e2 : x * l' = l' * x := Int.mul_comm _ _
      omega
    · omega
  · rename_i z
    have g2 := g'
    rcases g' with g' | ⟨s0', w0'⟩
    · exact absurd g'.1 z
    have s0 : 0 ≤ s := by rcases g with g | g <;> omega
    -- the line at x / y
    have L : 0 < (l * s' - l' * s) * x - (w * s' - w' * s) * y := by
      have e := lin (s := s) (l := l) (w := w) (s' := s') (l' := l') (w' := w') (x := x) (y := y)
      have a1 : 0 ≤ s * Fv s' l' w' x y := Int.mul_nonneg s0 h'
      have a2 : s' * Fv s l w x y < 0 := Int.mul_neg_of_pos_of_neg (by omega) h
      refine Classical.byContradiction fun q => ?_
      have := Int.mul_nonpos_of_nonneg_of_nonpos (a := y) (by omega) (Int.not_lt.mp q)
      omega
    have e0 := lin0 (s := s) (l := l) (w := w) (s' := s') (l' := l') (w' := w')
    have e0' := lin0' (s := s) (l := l) (w := w) (s' := s') (l' := l') (w' := w')
    generalize l * s' - l' * s = sl at *
    generalize w * s' - w' * s = hh at *
    have goal1 : sal s' l' w' sl hh = 1 := by
      unfold sal sal0
      split
      · rename_i q
        -- falling line
        have m1 : sl * x ≤ 0 := Int.mul_nonpos_of_nonpos_of_nonneg (by omega) hx
        have h0 : hh < 0 := by
          refine Classical.byContradiction fun t => ?_
          have := Int.mul_nonneg (a := hh) (b := y) (by omega) (by omega)
          omega
        rw [if_neg (by omega)]
        have c : x * -sl < -hh * y := by
          have e1 : x * -sl = -(sl * x) := by grind
          have e2 : -hh * y = -(hh * y) := by grind
          omega
        have f1 := fv_down g hx hy (show 0 ≤ -hh by omega) (show 1 ≤ -sl by omega) h (Int.le_of_lt c)
        have f2 : s * Fv s' l' w' (-hh) (-sl) < 0 := by
          rw [← e0']
          exact Int.mul_neg_of_pos_of_neg (by omega) f1
        have f3 : Fv s' l' w' (-hh) (-sl) < 0 := by
          refine Classical.byContradiction fun t => ?_
          have := Int.mul_nonneg s0 (Int.not_lt.mp t)
          omega
        have f4 : beside s' l' w' (-hh) (-sl) = -1 := sg_neg f3
        rw [f4]
        decide
      · rename_i q
        split
        · rename_i t
          refine sg_pos ?_
          rcases t with t | t
          · subst t
            rw [Int.zero_mul] at L
            refine Classical.byContradiction fun r => ?_
            have := Int.mul_nonneg (a := hh) (b := y) (by omega) (by omega)
            omega
          · omega
        · rename_i t
          refine sg_pos (fv_up g2 hx hy (by omega) (by omega) h' ?_)
          have e1 : x * sl = sl * x := Int.mul_comm _ _
          omega
    rw [goal1]
theorem ord_gt {s l w s' l' w' x y : Int} (g : Good s l w) (g' : Good s' l' w') (hx : 0 ≤ x) (hy : 1 ≤ y) (h : Fv s l w x y < 0) (h' : 0 ≤ Fv s' l' w' x y) : ord s' l' w' s l w = 1 := by
  unfold ord
  split
  · rename_i z
    subst z
    rcases g with ⟨_, l0, w0⟩ | ⟨z, _⟩
    · refine sg_pos (fv_up g' hx hy w0 l0 h' ?_)
      have e : Fv 0 l w x y = y * (w * y - l * x) := by unfold Fv; grind
      rw [e] at h
      have : w * y - l * x < 0 := by
        refine Classical.byContradiction fun z => ?_
        have := Int.mul_nonneg (a := y) (by omega) (Int.not_lt.mp z)
        omega
      have e2 : x * l = l * x := Int.mul_comm _ _
      omega
    · omega
  · rename_i z
    have g2 := g
    rcases g with g | ⟨s0, w0⟩
    · exact absurd g.1 z
    have s0' : 0 ≤ s' := by rcases g' with g | g <;> omega
    have goal1 : sal s l w (l' * s - l * s') (w' * s - w * s') = -1 := by
      rcases Int.lt_or_le 0 s' with sp | sp
      · have L : (l' * s - l * s') * x < (w' * s - w * s') * y := by
          have e := lin (s := s) (l := l) (w := w) (s' := s') (l' := l') (w' := w') (x := x) (y := y)
          have a1 : 0 ≤ s * Fv s' l' w' x y := Int.mul_nonneg (by omega) h'
          have a2 : s' * Fv s l w x y < 0 := Int.mul_neg_of_pos_of_neg sp h
          have a3 : 0 < (l * s' - l' * s) * x - (w * s' - w' * s) * y := by
            refine Classical.byContradiction fun q => ?_
            have := Int.mul_nonpos_of_nonneg_of_nonpos (a := y) (by omega) (Int.not_lt.mp q)
            omega
          have e1 : (l * s' - l' * s) * x = -((l' * s - l * s') * x) := by grind
          have e2 : (w * s' - w' * s) * y = -((w' * s - w * s') * y) := by grind
          omega
        have e0 := lin0' (s := s') (l := l') (w := w') (s' := s) (l' := l) (w' := w)
        generalize l' * s - l * s' = sl at *
        generalize w' * s - w * s' = hh at *
        unfold sal sal0
        split
        · rename_i q
          have goal2 : (if -sl = 0 ∨ -hh < 0 then sg (- -hh) else beside s l w (-hh) (-sl)) = 1 := by
            split
            · rename_i t
              refine sg_pos ?_
              omega
            · rename_i t
              have c : -hh * y < x * -sl := by
                have e1 : x * -sl = -(sl * x) := by grind
                have e2 : -hh * y = -(hh * y) := by grind
                omega
              have f1 := fv_up g' hx hy (show 0 ≤ -hh by omega) (show 1 ≤ -sl by omega) h' c
              have f2 : 0 < s' * Fv s l w (-hh) (-sl) := by
                rw [← e0]
                exact Int.mul_pos (by omega) f1
              refine sg_pos (show 0 < Fv s l w (-hh) (-sl) from ?_)
              refine Classical.byContradiction fun t => ?_
              have := Int.mul_nonpos_of_nonneg_of_nonpos s0' (Int.not_lt.mp t)
              omega
          rw [goal2]
        · rename_i q
          have m1 : 0 ≤ sl * x := Int.mul_nonneg (by omega) hx
          have h0 : 0 < hh := by
            refine Classical.byContradiction fun t => ?_
            have := Int.mul_nonpos_of_nonpos_of_nonneg (a := hh) (b := y) (by omega) (by omega)
            omega
          split
          · exact sg_neg (by omega)
          · rename_i t
            refine sg_neg (fv_down g2 hx hy (by omega) (by omega) h ?_)
            have e1 : x * sl = sl * x := Int.mul_comm _ _
            omega
      · have s1 : s' = 0 := by omega
        subst s1
        rcases g' with ⟨_, l0, w0⟩ | ⟨zz, _⟩
        · have p1 : 0 < l' * s := Int.mul_pos (by omega) (by omega)
          have p2 : 0 ≤ w' * s := Int.mul_nonneg w0 (by omega)
          rw [Int.mul_zero, Int.mul_zero, Int.sub_zero, Int.sub_zero]
          unfold sal sal0
          rw [if_neg (by omega), if_neg (by omega)]
          refine sg_neg (fv_down g2 hx hy p2 p1 h ?_)
          have e : Fv 0 l' w' x y = y * (w' * y - l' * x) := by unfold Fv; grind
          rw [e] at h'
          have q : 0 ≤ w' * y - l' * x := by
            refine Classical.byContradiction fun z => ?_
            have := Int.mul_neg_of_pos_of_neg (a := y) (by omega) (Int.not_le.mp z)
            omega
          have q2 := Int.mul_nonneg q (show 0 ≤ s by omega)
          have e3 : (w' * y - l' * x) * s = w' * s * y - x * (l' * s) := by grind
          omega
        · omega
    rw [goal1]
    decide
/-- a number beside itself -/
theorem ord_self {s l w : Int} (g : Good s l w) : ord s l w s l w = 0 := by
  unfold ord
  split
  · rename_i z
    subst z
    unfold beside
    have e : w * l * l - l * w * l - 0 * w * w = 0 := by grind
    rw [e, sg_zero]
  · have e1 : l * s - l * s = 0 := by omega
    have e2 : w * s - w * s = 0 := by omega
    rw [e1, e2]
    unfold sal sal0
    rw [if_neg (by decide), if_pos (.inl rfl)]
    decide
/-! ### lowest terms, and one equation for one number -/
theorem gc_mul {k a b : Int} (hk : 0 ≤ k) : gc (k * a) (k * b) = k * gc a b := by
  unfold gc
  rw [Int.gcd_mul_left, Int.natCast_mul]
  congr 1
  omega
theorem gc_comm (a b : Int) : gc a b = gc b a := by
  unfold gc
  rw [Int.gcd_comm]
theorem cancel {a b c : Int} (ha : 0 < a) (h : a * b = a * c) : b = c := Int.eq_of_mul_eq_mul_left (by omega) h
theorem low_eq {c b p q : Int} (hb : 0 < b) (hq : 0 < q) (h : c * q = p * b) : b / gc c b = q / gc p q ∧ c / gc c b = p / gc p q := by
  have g1 : 0 < gc c b := gc_pos (.inr (by omega))
  have g2 : 0 < gc p q := gc_pos (.inr (by omega))
  have e : q * gc c b = b * gc p q := by
    rw [← gc_mul (by omega), ← gc_mul (by omega)]
    congr 1
    · rw [Int.mul_comm q c, h, Int.mul_comm]
    · exact Int.mul_comm _ _
  have b1 := ex_mul (gc_dvd2 c b) g1
  have c1 := ex_mul (gc_dvd1 c b) g1
  have q1 := ex_mul (gc_dvd2 p q) g2
  have p1 := ex_mul (gc_dvd1 p q) g2
  generalize b / gc c b = B at *
  generalize c / gc c b = Cc at *
  generalize q / gc p q = Qq at *
  generalize p / gc p q = Pp at *
  generalize gc c b = G at *
  generalize gc p q = K at *
  have gk : 0 < G * K := Int.mul_pos g1 g2
  have e1 : B = Qq := by
    refine cancel gk ?_
    rw [b1, q1] at e
    grind
  refine ⟨e1, ?_⟩
  have bp : 0 < B := by
    refine Classical.byContradiction fun z => ?_
    have := Int.mul_nonpos_of_nonneg_of_nonpos (Int.le_of_lt g1) (Int.not_lt.mp z)
    omega
  refine cancel (Int.mul_pos gk bp) ?_
  rw [c1, q1, p1, b1] at h
  subst e1
  grind
theorem dvd_sq {q m : Int} (h : q * q ∣ m * m) : q ∣ m := by
  have h1 : q.natAbs ^ 2 ∣ m.natAbs ^ 2 := by
    have := Int.natAbs_dvd_natAbs.mpr h
    rw [Int.natAbs_mul, Int.natAbs_mul] at this
    rw [Nat.pow_two, Nat.pow_two]
    exact this
  exact Int.natAbs_dvd_natAbs.mp ((Nat.pow_dvd_pow_iff (by decide)).mp h1)
/-- a number that is a fraction -/
theorem rat_root {a b c p q : Int} (g : Good a b c) (hp : 0 ≤ p) (hq : 1 ≤ q) (h : a * p * p + b * p * q = c * q * q) : parts a b c = (0, q / gc p q, p / gc p q) := by
  rcases g with ⟨rfl, b0, c0⟩ | ⟨a0, c0⟩
  · unfold parts
    rw [if_pos rfl]
    have h2 : c * q = p * b := by
      refine cancel (a := q) (by omega) ?_
      grind
    obtain ⟨e1, e2⟩ := low_eq (c := c) (b := b) (p := p) (q := q) (by omega) (by omega) h2
    rw [e1, e2]
  · have k : (b * b + 4 * a * c) * (q * q) = (2 * a * p + b * q) * (2 * a * p + b * q) := by grind
    obtain ⟨m, hm⟩ : q ∣ (2 * a * p + b * q) := dvd_sq ⟨b * b + 4 * a * c, by rw [← k, Int.mul_comm]⟩
    have qq : 0 < q * q := Int.mul_pos (by omega) (by omega)
    have d : b * b + 4 * a * c = m * m := by
      refine cancel qq ?_
      rw [hm] at k
      grind
    have hac : 0 < 4 * a * c := Int.mul_pos (by omega) (by omega)
    -- the root is m itself
    have m0 : 0 ≤ m := by
      refine Classical.byContradiction fun z => ?_
      have r := rt_gt (b := b) (r := -m) hac (by omega) (by rw [d]; grind)
      have e1 : 2 * a * p = q * (m - b) := by
        have : q * (m - b) = q * m - b * q := by grind
        omega
      have e2 : 0 ≤ 2 * a * p := Int.mul_nonneg (by omega) hp
      have e3 : q * (m - b) < 0 := Int.mul_neg_of_pos_of_neg (by omega) (by omega)
      omega
    have er : rt (b * b + 4 * a * c) = m := by
      refine (rt_of ⟨m0, by omega, ?_⟩).symm
      have : (m + 1) * (m + 1) = m * m + 2 * m + 1 := by grind
      omega
    unfold parts
    rw [if_neg (by omega), er, if_pos (by omega)]
    have h2 : (m - b) * q = p * (2 * a) := by
      have : (m - b) * q = q * m - b * q := by grind
      have : p * (2 * a) = 2 * a * p := by grind
      omega
    obtain ⟨e1, e2⟩ := low_eq (c := m - b) (b := 2 * a) (p := p) (q := q) (by omega) (by omega) h2
    rw [e1, e2]
/-- one equation a multiple of the other -/
theorem parts_prop {a b c a' b' c' : Int} (g : Good a b c) (g' : Good a' b' c') (h1 : a' * b = a * b') (h2 : a' * c = a * c') (h3 : b' * c = b * c') : parts a b c = parts a' b' c' := by
  rcases g with ⟨rfl, b0, c0⟩ | ⟨a0, c0⟩
  · have a1 : a' = 0 := by
      rw [Int.zero_mul] at h1
      rcases Int.mul_eq_zero.mp h1 with z | z <;> omega
    subst a1
    rcases g' with ⟨_, b0', c0'⟩ | g'
    · rw [rat_root (p := c) (q := b) (.inl ⟨rfl, b0, c0⟩) c0 b0 (by grind), rat_root (p := c) (q := b) (.inl ⟨rfl, b0', c0'⟩) c0 b0 ?_]
      have : b' * c * b = b * c' * b := by rw [h3]
      grind
    · omega
  · have gg : 1 ≤ a' ∧ 1 ≤ c' := by
      rcases g' with ⟨rfl, b1, c1⟩ | g'
      · rw [Int.zero_mul] at h1
        rcases Int.mul_eq_zero.mp h1.symm with z | z <;> omega
      · exact g'
    obtain ⟨a0', c0'⟩ := gg
    have ip := inside_pos (b := b) ⟨a0, c0⟩
    have ip' := inside_pos (b := b') ⟨a0', c0'⟩
    -- a root that is a fraction serves both
    have one : ∀ {r : Int}, 0 ≤ r → b * b + 4 * a * c = r * r → parts a b c = parts a' b' c' := fun {r} r0 e => by
      have rg := rt_gt ip.1 r0 e
      rw [rat_root (p := r - b) (q := 2 * a) (.inr ⟨a0, c0⟩) (by omega) (by omega) (by grind), rat_root (p := r - b) (q := 2 * a) (.inr ⟨a0', c0'⟩) (by omega) (by omega) ?_]
      refine cancel (a := a) (by omega) ?_
      have k : a' * (a * (r - b) * (r - b) + b * (r - b) * (2 * a)) = a' * (c * (2 * a) * (2 * a)) := by
        congr 1
        grind
      grind
    have two : ∀ {r : Int}, 0 ≤ r → b' * b' + 4 * a' * c' = r * r → parts a b c = parts a' b' c' := fun {r} r0 e => by
      have rg := rt_gt ip'.1 r0 e
      rw [rat_root (p := r - b') (q := 2 * a') (.inr ⟨a0', c0'⟩) (by omega) (by omega) (by grind), rat_root (p := r - b') (q := 2 * a') (.inr ⟨a0, c0⟩) (by omega) (by omega) ?_]
      refine cancel (a := a') (by omega) ?_
      have k : a * (a' * (r - b') * (r - b') + b' * (r - b') * (2 * a')) = a * (c' * (2 * a') * (2 * a')) := by
        congr 1
        grind
      grind
    by_cases e : rt (b * b + 4 * a * c) * rt (b * b + 4 * a * c) = b * b + 4 * a * c
    · exact one (rt_is ip.2).1 e.symm
    · by_cases e' : rt (b' * b' + 4 * a' * c') * rt (b' * b' + 4 * a' * c') = b' * b' + 4 * a' * c'
      · exact two (rt_is ip'.2).1 e'.symm
      · unfold parts
        rw [if_neg (by omega), if_neg e, if_neg (by omega), if_neg e']
        have G0 : 0 < gc (gc a b) c := gc_pos (.inr (by omega))
        have G0' : 0 < gc (gc a' b') c' := gc_pos (.inr (by omega))
        have eg : a' * gc (gc a b) c = a * gc (gc a' b') c' := by
          rw [← gc_mul (by omega), ← gc_mul (by omega), ← gc_mul (by omega), ← gc_mul (by omega), h1, h2, Int.mul_comm a' a]
        have x1 := ex_mul (Int.dvd_trans (gc_dvd1 (gc a b) c) (gc_dvd1 a b)) G0
        have x2 := ex_mul (Int.dvd_trans (gc_dvd1 (gc a b) c) (gc_dvd2 a b)) G0
        have x3 := ex_mul (gc_dvd2 (gc a b) c) G0
        have y1 := ex_mul (Int.dvd_trans (gc_dvd1 (gc a' b') c') (gc_dvd1 a' b')) G0'
        have y2 := ex_mul (Int.dvd_trans (gc_dvd1 (gc a' b') c') (gc_dvd2 a' b')) G0'
        have y3 := ex_mul (gc_dvd2 (gc a' b') c') G0'
        generalize a / gc (gc a b) c = A at *
        generalize b / gc (gc a b) c = B at *
        generalize c / gc (gc a b) c = D at *
        generalize a' / gc (gc a' b') c' = A' at *
        generalize b' / gc (gc a' b') c' = B' at *
        generalize c' / gc (gc a' b') c' = D' at *
        generalize gc (gc a b) c = G at *
        generalize gc (gc a' b') c' = G' at *
        have gg : 0 < G * G' := Int.mul_pos G0 G0'
        have ea : A = A' := by
          refine cancel gg ?_
          rw [x1, y1] at eg
          grind
        subst ea
        have Ap : 0 < A := by
          refine Classical.byContradiction fun z => ?_
          have := Int.mul_nonpos_of_nonneg_of_nonpos (Int.le_of_lt G0) (Int.not_lt.mp z)
          omega
        have ga : 0 < G * G' * A := Int.mul_pos gg Ap
        have eb : B = B' := by
          refine cancel ga ?_
          rw [x1, x2, y1, y2] at h1
          grind
        have ed : D = D' := by
          refine cancel ga ?_
          rw [x1, x3, y1, y3] at h2
          grind
        rw [eb, ed]
end RL

namespace RL
theorem mul_ab {x y X Y : Int} (hx : -X ≤ x ∧ x ≤ X) (hy : -Y ≤ y ∧ y ≤ Y) : -(X * Y) ≤ x * y ∧ x * y ≤ X * Y := by
  have X0 : 0 ≤ X := by omega
  have Y0 : 0 ≤ Y := by omega
  have a1 := Int.mul_nonneg (show 0 ≤ X - x by omega) (show 0 ≤ Y - y by omega)
  have a2 := Int.mul_nonneg (show 0 ≤ X + x by omega) (show 0 ≤ Y + y by omega)
  have a3 := Int.mul_nonneg (show 0 ≤ X - x by omega) (show 0 ≤ Y + y by omega)
  have a4 := Int.mul_nonneg (show 0 ≤ X + x by omega) (show 0 ≤ Y - y by omega)
  have e1 : (X - x) * (Y - y) = X * Y - X * y - x * Y + x * y := by grind
  have e2 : (X + x) * (Y + y) = X * Y + X * y + x * Y + x * y := by grind
  have e3 : (X - x) * (Y + y) = X * Y + X * y - x * Y - x * y := by grind
  have e4 : (X + x) * (Y - y) = X * Y - X * y + x * Y - x * y := by grind
  constructor <;> omega
structure Tiny (a b c : Int) : Prop where
  good : Good a b c
  ha : a ≤ 60
  hb : -61 ≤ b ∧ b ≤ 61
  hc : c ≤ 60
theorem Tiny.nn {a b c : Int} (h : Tiny a b c) : 0 ≤ a ∧ 0 ≤ c := by
  rcases h.good with g | g <;> omega
/-- how far the integer below is off -/
theorem off {a b c n N : Int} (t : Tiny a b c) (hN : 1 ≤ N) (hn : 0 ≤ n) (h1 : 0 ≤ Fv a b c n N) (h2 : Fv a b c (n + 1) N < 0) : n ≤ 62 * N ∧ Fv a b c n N ≤ 8000 * N := by
  obtain ⟨a0, c0⟩ := t.nn
  have nb : n ≤ 62 * N := by
    refine Classical.byContradiction fun q => ?_
    have q' : 62 * N < n := by omega
    rcases t.good with ⟨rfl, b0, _⟩ | ⟨a1, c1⟩
    · have e : Fv 0 b c n N = N * (c * N - b * n) := by unfold Fv; grind
      have k1 : n ≤ b * n := by
        have := Int.mul_le_mul_of_nonneg_right (a := 1) (b := b) (c := n) b0 hn
        omega
      have k2 : c * N ≤ 60 * N := Int.mul_le_mul_of_nonneg_right t.hc (by omega)
      have := Int.mul_neg_of_pos_of_neg (a := N) (b := c * N - b * n) (by omega) (by omega)
      omega
    · have k1 : n * n ≤ a * (n * n) := by
        have := Int.mul_le_mul_of_nonneg_right (a := 1) (b := a) (c := n * n) a1 (Int.mul_nonneg hn hn)
        omega
      have k2 : -61 * (n * N) ≤ b * (n * N) := Int.mul_le_mul_of_nonneg_right t.hb.1 (Int.mul_nonneg hn (by omega))
      have k3 : c * (N * N) ≤ 60 * (N * N) := Int.mul_le_mul_of_nonneg_right t.hc (Int.mul_nonneg (by omega) (by omega))
      have k4 : 62 * N * N ≤ n * (n - 61 * N) := Int.mul_le_mul (by omega) (by omega) (by omega) hn
      have e1 : Fv a b c n N = c * (N * N) - b * (n * N) - a * (n * n) := by unfold Fv; grind
      have e2 : n * (n - 61 * N) = n * n - 61 * (n * N) := by grind
      have e3 : 62 * N * N = 62 * (N * N) := by grind
      have k5 : 0 < N * N := Int.mul_pos (by omega) (by omega)
      omega
  refine ⟨nb, ?_⟩
  have e : Fv a b c n N - Fv a b c (n + 1) N = a * (2 * n + 1) + b * N := by unfold Fv; grind
  have k1 : a * (2 * n + 1) ≤ 60 * (2 * n + 1) := Int.mul_le_mul_of_nonneg_right t.ha (by omega)
  have k2 : b * N ≤ 61 * N := Int.mul_le_mul_of_nonneg_right t.hb.2 (by omega)
  omega
theorem sep {a b c a' b' c' n : Int} (t : Tiny a b c) (t' : Tiny a' b' c') (hn : 0 ≤ n)
    (h1 : 0 ≤ Fv a b c n 1000000000000000000000000000000) (h2 : Fv a b c (n + 1) 1000000000000000000000000000000 < 0)
    (h1' : 0 ≤ Fv a' b' c' n 1000000000000000000000000000000) (h2' : Fv a' b' c' (n + 1) 1000000000000000000000000000000 < 0) : parts a b c = parts a' b' c' := by
  obtain ⟨nb, k1⟩ := off t (by decide) hn h1 h2
  obtain ⟨_, k1'⟩ := off t' (by decide) hn h1' h2'
  obtain ⟨a0, c0⟩ := t.nn
  obtain ⟨a0', c0'⟩ := t'.nn
  have bA := t.ha
  have bA' := t'.ha
  have bC := t.hc
  have bC' := t'.hc
  have e1 : a' * Fv a b c n 1000000000000000000000000000000 - a * Fv a' b' c' n 1000000000000000000000000000000 = -(1000000000000000000000000000000 * ((a' * b - a * b') * n - (a' * c - a * c') * 1000000000000000000000000000000)) := by unfold Fv; grind
  have m1 := mul_ab (x := a') (y := Fv a b c n 1000000000000000000000000000000) (X := 60) (Y := 8000 * 1000000000000000000000000000000) (by omega) (by omega)
  have m1' := mul_ab (x := a) (y := Fv a' b' c' n 1000000000000000000000000000000) (X := 60) (Y := 8000 * 1000000000000000000000000000000) (by omega) (by omega)
  have m1n : 0 ≤ a' * Fv a b c n 1000000000000000000000000000000 := Int.mul_nonneg a0' h1
  have m1n' : 0 ≤ a * Fv a' b' c' n 1000000000000000000000000000000 := Int.mul_nonneg a0 h1'
  -- the line's rest
  have eps : -480000 ≤ (a' * b - a * b') * n - (a' * c - a * c') * 1000000000000000000000000000000 ∧ (a' * b - a * b') * n - (a' * c - a * c') * 1000000000000000000000000000000 ≤ 480000 := by omega
  have s1 := mul_ab (x := a') (y := b) (X := 60) (Y := 61) (by omega) t.hb
  have s2 := mul_ab (x := a) (y := b') (X := 60) (Y := 61) (by omega) t'.hb
  have s3 := mul_ab (x := a') (y := c) (X := 60) (Y := 60) (by omega) (by omega)
  have s4 := mul_ab (x := a) (y := c') (X := 60) (Y := 60) (by omega) (by omega)
  have hs : -7320 ≤ a' * b - a * b' ∧ a' * b - a * b' ≤ 7320 := by omega
  have hh : -7200 ≤ a' * c - a * c' ∧ a' * c - a * c' ≤ 7200 := by omega
  -- the equation's own rest at the line's zero
  have rest : ∀ (u v w : Int), Tiny u v w → 0 ≤ Fv u v w n 1000000000000000000000000000000 → Fv u v w n 1000000000000000000000000000000 ≤ 8000 * 1000000000000000000000000000000 →
      w * (a' * b - a * b') * (a' * b - a * b') - v * (a' * c - a * c') * (a' * b - a * b') - u * (a' * c - a * c') * (a' * c - a * c') = 0 := fun u v w tt f0 f1 => by
    obtain ⟨u0, w0⟩ := tt.nn
    have bu := tt.ha
    have bv := tt.hb
    generalize a' * b - a * b' = S at *
    generalize a' * c - a * c' = T at *
    generalize ee : S * n - T * 1000000000000000000000000000000 = ε at *
    have key : 1000000000000000000000000000000 * (1000000000000000000000000000000 * (w * S * S - v * T * S - u * T * T)) = S * S * Fv u v w n 1000000000000000000000000000000 + 1000000000000000000000000000000 * (ε * (v * S + 2 * u * T)) + u * (ε * ε) := by
      unfold Fv
      subst ee
      grind
    have q1 := mul_ab (x := S) (y := S) hs hs
    have q2 := mul_ab (x := S * S) (y := Fv u v w n 1000000000000000000000000000000) (X := 7320 * 7320) (Y := 8000 * 1000000000000000000000000000000) q1 (by omega)
    have q3 := mul_ab (x := v) (y := S) bv hs
    have q4 := mul_ab (x := u) (y := T) (X := 60) (Y := 7200) (by omega) hh
    have q5 := mul_ab (x := ε) (y := v * S + 2 * u * T) (X := 480000) (Y := 61 * 7320 + 2 * (60 * 7200)) eps (by
      have : 2 * u * T = 2 * (u * T) := by grind
      omega)
    have q6 := mul_ab (x := ε) (y := ε) eps eps
    have q7 := mul_ab (x := u) (y := ε * ε) (X := 60) (Y := 480000 * 480000) (by omega) q6
    omega
  have R := rest a b c t h1 k1
  have R' := rest a' b' c' t' h1' k1'
  have g := t.good
  have g' := t'.good
  by_cases z : a' * b - a * b' = 0
  · rw [z] at eps
    have z2 : a' * c - a * c' = 0 := by
      generalize a' * c - a * c' = T at *
      omega
    rcases g with ⟨rfl, b0, _⟩ | ⟨a1, c1⟩
    · have az : a' = 0 := by
        have : a' * b = 0 := by omega
        rcases Int.mul_eq_zero.mp this with y | y <;> omega
      subst az
      rcases g' with ⟨_, b0', _⟩ | g'
      · -- two fractions
        have bb := t.hb
        have bb' := t'.hb
        have e2 : Fv 0 b c n 1000000000000000000000000000000 - Fv 0 b c (n + 1) 1000000000000000000000000000000 = b * 1000000000000000000000000000000 := by unfold Fv; grind
        have e2' : Fv 0 b' c' n 1000000000000000000000000000000 - Fv 0 b' c' (n + 1) 1000000000000000000000000000000 = b' * 1000000000000000000000000000000 := by unfold Fv; grind
        have e3 : b' * Fv 0 b c n 1000000000000000000000000000000 - b * Fv 0 b' c' n 1000000000000000000000000000000 = 1000000000000000000000000000000 * (1000000000000000000000000000000 * (b' * c - b * c')) := by unfold Fv; grind
        have w1 := mul_ab (x := b') (y := Fv 0 b c n 1000000000000000000000000000000) (X := 61) (Y := 61 * 1000000000000000000000000000000) (by omega) (by omega)
        have w2 := mul_ab (x := b) (y := Fv 0 b' c' n 1000000000000000000000000000000) (X := 61) (Y := 61 * 1000000000000000000000000000000) (by omega) (by omega)
        refine parts_prop t.good t'.good (by omega) (by omega) ?_
        generalize b' * c = M at *
        generalize b * c' = M' at *
        omega
      · omega
    · refine parts_prop t.good t'.good (by omega) (by omega) ?_
      refine cancel (a := a) (by omega) ?_
      have y1 : a' * b = a * b' := by omega
      have y2 : a' * c = a * c' := by omega
      have : a * (b' * c) = a * b' * c := by grind
      rw [this, ← y1]
      have : a * (b * c') = b * (a * c') := by grind
      rw [this, ← y2]
      grind
  · generalize a' * b - a * b' = S at *
    generalize a' * c - a * c' = T at *
    rcases Int.lt_or_le 0 S with sp | sp
    · have T0 : 0 ≤ T := by
        have := Int.mul_nonneg (Int.le_of_lt sp) hn
        omega
      rw [rat_root (p := T) (q := S) t.good T0 sp (by grind), rat_root (p := T) (q := S) t'.good T0 sp (by grind)]
    · have T0 : 0 ≤ -T := by
        have := Int.mul_nonneg (show 0 ≤ -S by omega) hn
        have e : -S * n = -(S * n) := by grind
        omega
      rw [rat_root (p := -T) (q := -S) t.good T0 (by omega) (by grind), rat_root (p := -T) (q := -S) t'.good T0 (by omega) (by grind)]
end RL

namespace RL
theorem Nrm.fv {a b c s l w x y : Int} (N : Nrm a b c s l w) (hx : 0 ≤ x) (hy : 1 ≤ y) : (Fv s l w x y < 0 ↔ Fv a b c x y < 0) ∧ (0 ≤ Fv s l w x y ↔ 0 ≤ Fv a b c x y) := by
  obtain ⟨k1, k2⟩ := N.sgn x y hx hy
  have e : Fv a b c x y = -(a * x * x + b * x * y - c * y * y) := by unfold Fv; omega
  have e2 : Fv s l w x y = w * y * y - l * x * y - s * x * x := rfl
  rw [e, e2]
  generalize w * y * y - l * x * y - s * x * x = u at *
  generalize a * x * x + b * x * y - c * y * y = v at *
  constructor <;> constructor <;> intro h <;> omega
theorem sg_nn {n : Int} (h : 0 ≤ sg n) : 0 ≤ n := by
  refine Classical.byContradiction fun z => ?_
  rw [sg_neg (by omega)] at h
  omega
theorem sg_m1 {n : Int} (h : sg n = -1) : n < 0 := by
  refine Classical.byContradiction fun z => ?_
  rcases Int.lt_or_le 0 n with q | q
  · rw [sg_pos q] at h
    omega
  · have : n = 0 := by omega
    subst this
    rw [sg_zero] at h
    omega
theorem flo_fv {a b c t : Int} (g : Good a b c) (ht : 1 ≤ t) : 0 ≤ flo a b c t ∧ 0 ≤ Fv a b c (flo a b c t) t ∧ Fv a b c (flo a b c t + 1) t < 0 := by
  obtain ⟨h0, h1, h2⟩ := flo_is g ht
  exact ⟨h0, sg_nn h1, sg_m1 h2⟩
abbrev ordP (p q : Int × Int × Int) : Int := ord p.1 p.2.1 p.2.2 q.1 q.2.1 q.2.2
theorem flo_lt {a b c a' b' c' t : Int} (g : Good a b c) (g' : Good a' b' c') (ht : 1 ≤ t) (h : flo a b c t < flo a' b' c' t) : ordP (parts a b c) (parts a' b' c') = -1 ∧ ordP (parts a' b' c') (parts a b c) = 1 := by
  obtain ⟨h0, h1, h2⟩ := flo_fv g ht
  obtain ⟨h0', h1', h2'⟩ := flo_fv g' ht
  have N := parts_nrm g
  have N' := parts_nrm g'
  have k : Fv a b c (flo a' b' c' t) t < 0 := fv_down g (by omega) ht h0' ht h2 (Int.mul_le_mul_of_nonneg_right (by omega) (by omega))
  have f := (N.fv h0' ht).1.mpr k
  have f' := (N'.fv h0' ht).2.mpr h1'
  exact ⟨ord_lt N.good N'.good h0' ht f f', ord_gt N.good N'.good h0' ht f f'⟩
def dueAt (a b c a' b' c' : Int) : List Nat → Int
  | [] => 0
  | n :: r => if flo a b c (10 ^ n) = flo a' b' c' (10 ^ n) then dueAt a b c a' b' c' r else if flo a b c (10 ^ n) < flo a' b' c' (10 ^ n) then -1 else 1
def dueV (a b c a' b' c' : Int) : Int := if parts a b c = parts a' b' c' then 0 else dueAt a b c a' b' c' [3, 12, 30]
theorem ten_pos (n : Nat) : (1 : Int) ≤ 10 ^ n := by
  have e : ((10 ^ n : Nat) : Int) = 10 ^ n := by rw [Int.natCast_pow]; rfl
  have : 0 < 10 ^ n := Nat.pow_pos (by decide)
  rw [← e]
  omega
theorem dueAt_ok {a b c a' b' c' : Int} (g : Good a b c) (g' : Good a' b' c') : ∀ ns : List Nat, (∃ n ∈ ns, flo a b c (10 ^ n) ≠ flo a' b' c' (10 ^ n)) →
    ordP (parts a b c) (parts a' b' c') = dueAt a b c a' b' c' ns ∧ ordP (parts a' b' c') (parts a b c) = -dueAt a b c a' b' c' ns ∧ dueAt a b c a' b' c' ns ≠ 0
  | [], h => by
    obtain ⟨n, hn, _⟩ := h
    cases hn
  | n :: r, h => by
    unfold dueAt
    split
    · rename_i e
      refine dueAt_ok g g' r ?_
      obtain ⟨m, hm, q⟩ := h
      rcases List.mem_cons.mp hm with rfl | hm
      · exact absurd e q
      · exact ⟨m, hm, q⟩
    · rename_i e
      split
      · rename_i l
        obtain ⟨q1, q2⟩ := flo_lt g g' (ten_pos n) l
        exact ⟨q1, q2, by decide⟩
      · rename_i l
        obtain ⟨q1, q2⟩ := flo_lt g' g (ten_pos n) (show flo a' b' c' (10 ^ n) < flo a b c (10 ^ n) by omega)
        exact ⟨q2, q1, by decide⟩
theorem due_ok {a b c a' b' c' : Int} (g : Good a b c) (g' : Good a' b' c') (t : parts a b c = parts a' b' c' ∨ (Tiny a b c ∧ Tiny a' b' c')) :
    ordP (parts a b c) (parts a' b' c') = dueV a b c a' b' c' ∧ ordP (parts a' b' c') (parts a b c) = -dueV a b c a' b' c' ∧ (dueV a b c a' b' c' = 0 ↔ parts a b c = parts a' b' c') := by
  unfold dueV
  by_cases e : parts a b c = parts a' b' c'
  · rw [if_pos e, ← e]
    have N := parts_nrm g
    refine ⟨ord_self N.good, ?_, fun _ => rfl, fun _ => rfl⟩
    show ord _ _ _ _ _ _ = -0
    rw [ord_self N.good]
    rfl
  · rw [if_neg e]
    rcases t with t | ⟨t, t'⟩
    · exact absurd t e
    · have k : ∃ n ∈ [3, 12, 30], flo a b c (10 ^ n) ≠ flo a' b' c' (10 ^ n) := by
        refine ⟨30, by simp, fun z => e ?_⟩
        have e30 : (10 : Int) ^ 30 = 1000000000000000000000000000000 := by decide
        rw [e30] at z
        obtain ⟨h0, h1, h2⟩ := flo_fv g (t := 1000000000000000000000000000000) (by decide)
        obtain ⟨h0', h1', h2'⟩ := flo_fv g' (t := 1000000000000000000000000000000) (by decide)
        rw [← z] at h1' h2'
        exact sep t t' h0 h1 h2 h1' h2'
      obtain ⟨q1, q2, q3⟩ := dueAt_ok g g' _ k
      exact ⟨q1, q2, fun z => absurd z q3, fun z => absurd z e⟩
/-! ### k + sqrt(k * k + 1) and sqrt(4 * k * k + 2) -/
theorem gc_one (x : Int) : gc 1 x = 1 := by
  unfold gc
  simp
theorem near1 {k : Int} (hk : 1 ≤ k) : parts 1 (-2 * k) 1 = (1, -2 * k, 1) := by
  have r : rt (-2 * k * (-2 * k) + 4 * 1 * 1) = 2 * k := by
    refine (rt_of ⟨by omega, ?_, ?_⟩).symm
    · have : 2 * k * (2 * k) = -2 * k * (-2 * k) := by grind
      omega
    · have e1 : (2 * k + 1) * (2 * k + 1) = -2 * k * (-2 * k) + 4 * k + 1 := by grind
      omega
  unfold parts
  rw [if_neg (by decide), r, if_neg ?_]
  · have g2 : gc 1 1 = 1 := by decide
    rw [gc_one, g2]
    simp
  · have : 2 * k * (2 * k) = -2 * k * (-2 * k) := by grind
    omega
theorem near2 {k : Int} (hk : 1 ≤ k) : parts 1 0 (4 * k * k + 2) = (1, 0, 4 * k * k + 2) := by
  have e0 : 0 * 0 + 4 * 1 * (4 * k * k + 2) = 16 * (k * k) + 8 := by grind
  have r : rt (0 * 0 + 4 * 1 * (4 * k * k + 2)) = 4 * k := by
    rw [e0]
    refine (rt_of ⟨by omega, ?_, ?_⟩).symm
    · have : 4 * k * (4 * k) = 16 * (k * k) := by grind
      omega
    · have e1 : (4 * k + 1) * (4 * k + 1) = 16 * (k * k) + 8 * k + 1 := by grind
      omega
  unfold parts
  rw [if_neg (by decide), r, if_neg ?_]
  · rw [gc_one, gc_one]
    simp
  · rw [e0]
    have : 4 * k * (4 * k) = 16 * (k * k) := by grind
    omega
theorem near_ord {k : Int} (hk : 1 ≤ k) : ord 1 (-2 * k) 1 1 0 (4 * k * k + 2) = -1 ∧ ord 1 0 (4 * k * k + 2) 1 (-2 * k) 1 = 1 := by
  have kk : 0 ≤ k * k := sq_nn k
  have e4 : 4 * k * k = 4 * (k * k) := by grind
  refine ⟨?_, ?_⟩
  · unfold ord
    rw [if_neg (by decide)]
    have a1 : -2 * k * 1 - 0 * 1 = -(2 * k) := by omega
    have a2 : 1 * 1 - (4 * k * k + 2) * 1 = -(4 * k * k + 1) := by omega
    rw [a1, a2]
    unfold sal sal0
    rw [if_pos (by omega), if_neg (by omega), Int.neg_neg, Int.neg_neg, Int.neg_neg]
    have f : beside 1 0 (4 * k * k + 2) (4 * k * k + 1) (2 * k) = -1 := by
      refine sg_neg ?_
      have : (4 * k * k + 2) * (2 * k) * (2 * k) - 0 * (4 * k * k + 1) * (2 * k) - 1 * (4 * k * k + 1) * (4 * k * k + 1) = -1 := by grind
      omega
    rw [f]
  · unfold ord
    rw [if_neg (by decide)]
    have a1 : 0 * 1 - -2 * k * 1 = 2 * k := by omega
    have a2 : (4 * k * k + 2) * 1 - 1 * 1 = 4 * k * k + 1 := by omega
    rw [a1, a2]
    unfold sal sal0
    rw [if_neg (by omega), if_neg (by omega)]
    have f : beside 1 (-2 * k) 1 (4 * k * k + 1) (2 * k) = -1 := by
      refine sg_neg ?_
      have : 1 * (2 * k) * (2 * k) - -2 * k * (4 * k * k + 1) * (2 * k) - 1 * (4 * k * k + 1) * (4 * k * k + 1) = -1 := by grind
      omega
    rw [f]
    decide
/-! ### a number and a fraction -/
theorem sg_scale {k u : Int} (hk : 0 < k) : sg (k * u) = sg u := by
  have q := pos_iff (u := u) hk
  unfold sg
  by_cases p : 0 < u
  · rw [if_pos p, if_pos (q.1.mpr p)]
  · by_cases z : u = 0
    · subst z
      rw [Int.mul_zero]
    · have h1 : ¬ 0 < k * u := fun t => p (q.1.mp t)
      have h2 : ¬ k * u = 0 := fun t => z (q.2.mp t)
      rw [if_neg p, if_pos (show u < 0 by omega), if_neg h1, if_pos (show k * u < 0 by omega)]
theorem sg_opp (u : Int) : sg (-u) = -sg u := by
  unfold sg
  by_cases p : 0 < u
  · rw [if_pos p, if_neg (by omega), if_pos (by omega)]
  · by_cases z : u < 0
    · rw [if_neg p, if_pos z, if_pos (by omega)]
      decide
    · rw [if_neg p, if_neg z, if_neg (by omega), if_neg (by omega)]
      decide
theorem ord_frac {a b c y v : Int} (g : Good a b c) (hy : 1 ≤ y) (hv : 0 ≤ v) : ordP (parts a b c) (parts 0 y v) = side a b c v y ∧ ordP (parts 0 y v) (parts a b c) = -side a b c v y := by
  have N := parts_nrm g
  have g0 : 0 < gc v y := gc_pos (.inr (by omega))
  have ey := ex_mul (gc_dvd2 v y) g0
  have ev := ex_mul (gc_dvd1 v y) g0
  have epr : parts 0 y v = (0, y / gc v y, v / gc v y) := by unfold parts; rw [if_pos rfl]
  rw [epr]
  have y1 : 1 ≤ y / gc v y := by
    refine Classical.byContradiction fun z => ?_
    have := Int.mul_nonpos_of_nonneg_of_nonpos (a := gc v y) (b := y / gc v y) (by omega) (by omega)
    omega
  have v1 : 0 ≤ v / gc v y := Int.ediv_nonneg hv (by omega)
  have es : side a b c v y = side a b c (v / gc v y) (y / gc v y) := by
    have := side_same (a := a) (b := b) (c := c) (x := v / gc v y) (y := y / gc v y) (k := gc v y) (by omega) y1
    rw [← ev, ← ey] at this
    exact this
  rw [es, ← N.side v1 y1]
  generalize y / gc v y = Y at *
  generalize v / gc v y = W at *
  have gd := N.good
  show ord (parts a b c).1 (parts a b c).2.1 (parts a b c).2.2 0 Y W = _ ∧ ord 0 Y W (parts a b c).1 (parts a b c).2.1 (parts a b c).2.2 = _
  generalize (parts a b c).1 = s at *
  generalize (parts a b c).2.1 = l at *
  generalize (parts a b c).2.2 = w at *
  refine ⟨?_, ?_⟩
  · unfold ord
    rw [if_pos rfl]
  · unfold ord
    split
    · rename_i z
      subst z
      rcases gd with ⟨_, l0, w0⟩ | ⟨zz, _⟩
      · unfold beside
        have e1 : W * l * l - Y * w * l - 0 * w * w = l * (W * l - Y * w) := by grind
        have e2 : w * Y * Y - l * W * Y - 0 * W * W = Y * -(W * l - Y * w) := by grind
        rw [e1, e2, sg_scale (by omega), sg_scale (by omega), sg_opp, Int.neg_neg]
      · omega
    · rename_i z
      have s0 : 1 ≤ s := by rcases gd with g | g <;> omega
      rw [Int.mul_zero, Int.mul_zero, Int.sub_zero, Int.sub_zero]
      have p1 : 0 < Y * s := Int.mul_pos (by omega) (by omega)
      have p2 : 0 ≤ W * s := Int.mul_nonneg v1 (by omega)
      unfold sal sal0
      rw [if_neg (by omega), if_neg (by omega)]
      unfold beside
      have e1 : w * (Y * s) * (Y * s) - l * (W * s) * (Y * s) - s * (W * s) * (W * s) = s * s * (w * Y * Y - l * W * Y - s * W * W) := by grind
      rw [e1, sg_scale (Int.mul_pos (by omega) (by omega))]
end RL

/-! The texts of numbers, and that repr of what is told fits. -/
namespace RL
open PySem L2
def ts (i : Int) : Str := Str.ofString (toString i)
structure OkT (n : Nat) (x : Str) : Prop where
  len : x.length ≤ n
  cps : ∀ c ∈ x.cps.toList, c < 16 ^ 8
theorem OkT.mono {m n : Nat} {x : Str} (h : OkT m x) (l : m ≤ n) : OkT n x := ⟨Nat.le_trans h.len l, h.cps⟩
theorem OkT.of (s : String) : OkT s.length (Str.ofString s) := by
  refine ⟨Nat.le_of_eq (ofString_length s), fun c hc => ?_⟩
  rw [PyProof.Rows.signs_ofString] at hc
  obtain ⟨ch, _, rfl⟩ := List.mem_map.mp hc
  have h1 : ch.toNat < 2 ^ 32 := ch.val.toNat_lt
  have h2 : (16 : Nat) ^ 8 = 2 ^ 32 := by decide
  omega
theorem OkT.app {m n : Nat} {x y : Str} (h : OkT m x) (k : OkT n y) : OkT (m + n) (x ++ y) := by
  refine ⟨?_, fun c hc => ?_⟩
  · rw [Str.length_append]
    have := h.len
    have := k.len
    omega
  · have e : (x ++ y).cps.toList = x.cps.toList ++ y.cps.toList := by
      show (x.cps ++ y.cps).toList = _
      rw [Array.toList_append]
    rw [e] at hc
    exact (List.mem_append.mp hc).elim (h.cps c) (k.cps c)
theorem log_sm {n : Nat} {i : Int} (hn : 0 < n) (h : Sm n i) : i.natAbs.log2 < n := PySem.Flt.log2_lt_of hn h
theorem ts_ok {i : Int} (h : Sm 200 i) : OkT 201 (ts i) := (OkT.of (toString i)).mono (int_text_length_le (by decide) (log_sm (by decide) h))
theorem show_int {i : Int} (h : Sm 200 i) : (PyData.int i).showable = true ∧ (PyData.int i).leavesShort 300 = true ∧ (PyData.int i).weight ≤ 200 := by
  have l := log_sm (by decide) h
  refine ⟨?_, ?_, ?_⟩
  · show decide (i.natAbs.log2 < 1920) = true
    exact decide_eq_true (by omega)
  · show decide ((PyData.shown (.int i)).length ≤ 300) = true
    refine decide_eq_true ?_
    have e : PyData.shown (.int i) = ts i := rfl
    rw [e]
    exact Nat.le_trans (ts_ok h).len (by decide)
  · show (if i == 0 then 0 else i.natAbs.log2 + 1) ≤ 200
    split <;> omega
theorem show_str {n : Nat} {x : Str} (h : OkT n x) : (PyData.str x).leavesShort 300 = true ∧ (PyData.str x).weight ≤ n := by
  refine ⟨?_, h.len⟩
  show (x.cps.toList.all fun c => decide (c < 16 ^ 8)) = true
  rw [List.all_eq_true]
  exact fun c hc => decide_eq_true (h.cps c hc)
structure Shows (d : PyData) : Prop where
  s : d.showable = true
  n : d.hasDict = false
  p : d.depth ≤ 40
  l : d.shown.length ≤ sizeLine
/-- the four things that are told of a number -/
theorem shows_root {a b c : Int} {x y : Str} (ha : Sm 200 a) (hb : Sm 200 b) (hc : Sm 200 c) (hx : OkT 2000 x) (hy : OkT 2000 y) : Shows (.list [.tuple [.int a, .int b, .int c], .none, .str x, .str y]) := by
  obtain ⟨a1, a2, a3⟩ := show_int ha
  obtain ⟨b1, b2, b3⟩ := show_int hb
  obtain ⟨c1, c2, c3⟩ := show_int hc
  obtain ⟨x1, x2⟩ := show_str hx
  obtain ⟨y1, y2⟩ := show_str hy
  refine ⟨?_, rfl, (by simp [PyData.depth, PyData.depthAll]), ?_⟩
  · simp only [PyData.showable, PyData.showableAll] at a1 b1 c1 ⊢
    simp [a1, b1, c1]
  · have hl : (PyData.list [.tuple [.int a, .int b, .int c], .none, .str x, .str y]).leavesShort 300 = true := by
      simp only [PyData.leavesShort, PyData.leavesShortAll] at a2 b2 c2 x1 y1 ⊢
      simp only [a2, b2, c2, x1, y1, Bool.and_self]
    have hw := PyData.shown_le 300 (by decide) _ hl
    have e : (PyData.list [.tuple [.int a, .int b, .int c], .none, .str x, .str y]).weight = ((PyData.int a).weight + 1 + ((PyData.int b).weight + 1 + ((PyData.int c).weight + 1 + 0))) + 1 + (0 + 1 + ((PyData.str x).weight + 1 + ((PyData.str y).weight + 1 + 0))) := rfl
    rw [e] at hw
    rw [sizeLine_eq]
    omega
theorem shows_frac {a b c d e : Int} {x y : Str} (ha : Sm 200 a) (hb : Sm 200 b) (hc : Sm 200 c) (hd : Sm 200 d) (he : Sm 200 e) (hx : OkT 2000 x) (hy : OkT 2000 y) : Shows (.list [.tuple [.int a, .int b, .int c], .tuple [.int d, .int e], .str x, .str y]) := by
  obtain ⟨a1, a2, a3⟩ := show_int ha
  obtain ⟨b1, b2, b3⟩ := show_int hb
  obtain ⟨c1, c2, c3⟩ := show_int hc
  obtain ⟨d1, d2, d3⟩ := show_int hd
  obtain ⟨e1, e2, e3⟩ := show_int he
  obtain ⟨x1, x2⟩ := show_str hx
  obtain ⟨y1, y2⟩ := show_str hy
  refine ⟨?_, rfl, (by simp [PyData.depth, PyData.depthAll]), ?_⟩
  · simp only [PyData.showable, PyData.showableAll] at a1 b1 c1 d1 e1 ⊢
    simp [a1, b1, c1, d1, e1]
  · have hl : (PyData.list [.tuple [.int a, .int b, .int c], .tuple [.int d, .int e], .str x, .str y]).leavesShort 300 = true := by
      simp only [PyData.leavesShort, PyData.leavesShortAll] at a2 b2 c2 d2 e2 x1 y1 ⊢
      simp only [a2, b2, c2, d2, e2, x1, y1, Bool.and_self]
    have hw := PyData.shown_le 300 (by decide) _ hl
    have e' : (PyData.list [.tuple [.int a, .int b, .int c], .tuple [.int d, .int e], .str x, .str y]).weight = ((PyData.int a).weight + 1 + ((PyData.int b).weight + 1 + ((PyData.int c).weight + 1 + 0))) + 1 + (((PyData.int d).weight + 1 + ((PyData.int e).weight + 1 + 0)) + 1 + ((PyData.str x).weight + 1 + ((PyData.str y).weight + 1 + 0))) := rfl
    rw [e'] at hw
    rw [sizeLine_eq]
    omega
/-! ### the texts -/
def commas (a b c : Int) : Str := ts a ++ ", " ++ ts b ++ ", " ++ ts c
theorem join3 (x y z : Str) : Txt.join ", " [x, y, z] = x ++ ", " ++ y ++ ", " ++ z := by
  show Builtin.Str.glued ", " [x, y, z] = _
  rw [StrLaws.glued_eq_join]
  show x ++ ", " ++ (y ++ ", " ++ z) = _
  simp only [Str.append_assoc]
def ftext (t b : Int) : Str := if b = 1 then ts t else ts t ++ "/" ++ ts b
def xtext (s l w : Int) : Str := if s = 0 then ftext w l else "root of " ++ commas s l w
def rtext (s l w : Int) : Str := "Exact(" ++ commas s l w ++ ")"
theorem commas_ok {a b c : Int} (ha : Sm 200 a) (hb : Sm 200 b) (hc : Sm 200 c) : OkT 700 (commas a b c) := ((((((ts_ok ha).app (OkT.of ", ")).app (ts_ok hb)).app (OkT.of ", ")).app (ts_ok hc))).mono (by decide)
theorem ftext_ok {t b : Int} (ht : Sm 200 t) (hb : Sm 200 b) : OkT 700 (ftext t b) := by
  unfold ftext
  split
  · exact (ts_ok ht).mono (by decide)
  · exact (((ts_ok ht).app (OkT.of "/")).app (ts_ok hb)).mono (by decide)
theorem xtext_ok {a b c : Int} (ha : Sm 200 a) (hb : Sm 200 b) (hc : Sm 200 c) : OkT 1000 (xtext a b c) := by
  unfold xtext
  split
  · exact (ftext_ok hc hb).mono (by decide)
  · exact ((OkT.of "root of ").app (commas_ok ha hb hc)).mono (by decide)
theorem rtext_ok {a b c : Int} (ha : Sm 200 a) (hb : Sm 200 b) (hc : Sm 200 c) : OkT 1000 (rtext a b c) := (((OkT.of "Exact(").app (commas_ok ha hb hc)).app (OkT.of ")")).mono (by decide)
theorem OkT.fits {n : Nat} {x : Str} (h : OkT n x) (l : n ≤ 100000 := by decide) : x.length ≤ sizeLine := by
  have := h.len
  rw [sizeLine_eq]
  omega
end RL

set_option maxHeartbeats 1000000
/-! Further rules: o.f as a target within a tuple; an own binary operator; a static method read off its class; an instance called by keyword; t[::-1] of a tuple; x in a tuple of data. -/
namespace RL
open PySem L2 PySem.Spec PyProof.Rows PySem.W
section
variable {X : Cx}
def gFld (K : PySem.W.Frag) (ta : TE) (f : Str) : TG := fun v σ H Q => ta σ H fun x H1 => ∃ a C dx fs, x = .ref a ∧ H1 a = some (.ins C dx fs) ∧ Cls K C ∧ NoAttr K C f ∧ fs.length < 1000 ∧ Q σ (upd H1 a (.ins C dx (putF f v fs)))
theorem pg_fld {o : Expr} {f : Str} {pos : Pos} {ta : TE} (ho : PE X o ta) (ha : ∀ v, assign (.Attribute o f pos) X.env v = (do
      let ov ← holding [v] (eval o X.env)
      standAt pos.atName
      holding [v, ov] (setAttr ov f v)
      release [v, ov] []) := by intro _; rfl) : PG X (.Attribute o f pos) (gFld X.K ta f) := by
  refine ⟨fun pins s σ H v u Q I r h => ?_⟩
  rw [ha]
  refine wpAny_bind (wpAny_holding (thn (ho.run pins s σ H _ I h) fun ov s1 ⟨x, H1, I1, r1, a, C, dx, fs, ex, ea, c, n, l, q⟩ => ?_))
  subst ex
  obtain rfl : ov = Value.ref a := r1
  refine wpAny_bind (wpAny_standAt (wpAny_bind (wpAny_holding (setattr_ok I1 ea c n l r fun s2 I2 => ?_))))
  exact wpAny_release ⟨σ, _, I2, q⟩
end
/-! ### an own binary operator -/
section
variable {X : Cx} {k : Nat} {ps : List Str} {sp : Sp} {C g : Addr} {fd : FuncData}
def rBinOwn (C : Addr) (sp : Sp) : R2 := fun x y H Q => ∃ a dx fs b dy gs, x = .ref a ∧ H a = some (.ins C dx fs) ∧ y = .ref b ∧ H b = some (.ins C dy gs) ∧ sp [x, y] H Q E0
theorem op_binOwn {op : Operator} (hc : PySem.W.selfFirst X.K C = true) (hs : PySem.W.findIn X.K (.ref C) (PySem.dunder op.info.2) = some (some (.ref g))) (hf : PySem.W.isFn X.K (.ref g) = true) (F : FnOk X.prog X.w X.K X.mg X.base CX0 k g fd ps sp) (hb : Binds X.K fd ps []) (hr : Room k X.A) :
    OpR X (binaryOp op) (rBinOwn C sp) := by
  intro pins s σ H x y v u Q I rx ry h
  obtain ⟨a, dx, fs, b, dy, gs, rfl, ha, rfl, hy, q⟩ := h
  cases (show v = Value.ref a from rx)
  cases (show u = Value.ref b from ry)
  obtain ⟨mA, O, _⟩ := ins_get I.hok ha
  obtain ⟨od, J, _⟩ := O.look
  obtain ⟨mB, O2, _⟩ := ins_get I.hok hy
  obtain ⟨od2, J2, _⟩ := O2.look
  obtain ⟨m, hF⟩ := I.fr
  refine PySem.W.binop_K hF I.ok.mod.kin J J2.type hc hs hf ?_
  have q0 : sp ([.ref a, .ref b] ++ []) H Q E0 := q
  refine wpAny_mono (run_fn (us := [.ref a, .ref b]) (vs := [.ref a, .ref b]) F hr hb .nil pass0 I (.cons rfl (.cons rfl .nil)) q0) (fun w s' z => ?_) fun _ _ z => z
  obtain ⟨z', H', I', rz, qz⟩ := z
  exact SlX.cmpback rz ⟨z', H', I', rz, qz⟩
end
/-! ### C.m(..), m a static method -/
structure SMet (K : PySem.W.Frag) (C : Addr) (mc : Value) (m : Str) (p g : Addr) : Prop where
  at_ : PySem.W.findCls K (.ref C) mc m = some (.get (.builtin "staticmethod.__get__") (.ref p) .none (.ref C))
  rc : ∃ rest, PySem.W.recIn K p "staticmethod" = some (.ref g :: rest)
  kp : PySem.W.keepIn K (.ref g) = true
def tSMeth (C : Addr) (sp : Sp) (ta : TE) (t : TA) : TE := fun σ H Q => ta σ H fun x H1 => x = .ref C ∧ t σ H1 fun vs H2 => sp vs H2 Q E0
section
variable {X : Cx} {k : Nat} {ps : List Str} {C p g : Addr} {mc : Value} {sp : Sp} {fd : FuncData} {o e : Expr} {es : List Expr} {m : Str} {pos apos : Pos} {ta : TE} {t : TA} {pl : Sem Bool}
theorem pe_smeth (he : PE X o ta) (r : ClX.CRead X.K C mc) (c : SMet X.K C mc m p g) (F : FnOk X.prog X.w X.K X.mg X.base CX0 k g fd ps sp) (hb : Binds X.K fd ps []) (hr : Room k X.A) (ha : PA X (e :: es) t)
    (hst : starEach (e :: es) X.env = (false, eval e X.env) :: starEach es X.env := by rfl) (hpl : (backTo pos (starEach es X.env)).any (·.1) = false := by rfl)
    (ht : eval (.Call (.Attribute o m apos) (e :: es) [] pos) X.env = (do
      let ov ← eval o X.env
      standAt apos.atName
      let (f, first) ← holding [ov] (getMethod ov m pl)
      callWith pos f first (backTo pos (starEach (e :: es) X.env)) (backToKw pos (keywordEach [] X.env))) := by rfl) :
    PE X (.Call (.Attribute o m apos) (e :: es) [] pos) (tSMeth C sp ta t) := by
  refine ⟨fun pins s σ H Q I h => ?_⟩
  refine PySem.W.methodCall_KW (pl := pl) (thn (he.run pins s σ H _ I h) fun u s1 ⟨x, H1, I1, rx, ex, q⟩ => ?_) ht
  subst ex
  obtain rfl : u = Value.ref C := rx
  obtain ⟨rest, hp⟩ := c.rc
  refine PySem.W.method_cls I1.kIn r.ga (PySem.W.cls_bind I1.kIn r.rd c.at_ (wpAny_call (PySem.W.sm_get (s := { s1 with toks := s1.toks + 1 }) I1.kIn hp (PySem.W.handed_on rfl ?_))))
  have I2 := I1.tok (s1.toks + 1)
  refine PySem.W.callWith_K (first := []) (h₀ := X.base) I.ok.mod.kin c.kp (thn (ha.run pos pins _ σ H1 _ I2 q) fun us s2 ⟨vs, H2, I3, rv, q2⟩ => ⟨I3.kIn, ?_⟩) hst hpl
  have q0 : sp (vs ++ []) H2 Q E0 := by
    rw [List.append_nil]
    exact q2
  exact run_fn (us := us) F hr hb .nil pass0 I3 rv q0
end
/-! ### an instance called by one keyword -/
theorem callOK_of {M : Model} {A : Around} {E : Value → Shared → Prop} {s : Shared} {a : Addr} {pos : Pos} {Q : Value → Shared → Prop} {args : List (Bool × Sem Value)} {kws : List (Option Str × Sem Value)} (hplain : (args.any (·.1) || kws.any (·.1.isNone)) = false)
    (h : wpAny M A (evalArgs (.ref a) true args kws) (fun z s₁ => (∃ C ox od, PySem.W.InstAt s₁.heap a ox C od ∧ ox.data = .plain) ∧ wpAny M A (call (.ref a) ([] ++ z.pos) z.kw) Q E s₁) E s) : wpAny M A (callWith pos (.ref a) [] args kws) Q E s := by
  unfold callWith
  refine wpAny_bind (wpAny_holding (wpAny_mono h (fun z s₁ h₁ => wpAny_bind (wpAny_standAt ?_)) fun _ _ y => y))
  obtain ⟨⟨C, ox, od, J, hd⟩, h₁⟩ := h₁
  have L := PySem.W.kco_keeper (M := M) J hd
  simp only [hplain]
  refine wpAny_bind (L.here ?_)
  have tail : ∀ {t : Sem Value}, wpAny M A t Q E s₁ → wpAny M A (t >>= fun r => holding [r] point >>= fun _ => pure r) Q E s₁ :=
    fun ht => wpAny_bind (wpAny_mono ht (fun r s₂ hr => wpAny_bind (wpAny_holding (wpAny_point (wpAny_pure hr)))) fun _ _ y => y)
  exact tail (wpAny_operateT h₁)
section
variable {X : Cx} {k : Nat} {C g : Addr} {sp : Sp} {fd : FuncData} {fe e : Expr} {es : List Expr} {pos kpos : Pos} {p1 kw : Str} {tf : TE} {tk : TA} {t : TA}
/-- f(kw=e), f an instance of C -/
def tCallOK (X : Cx) (C : Addr) (sp : Sp) (tf : TE) (tk : TA) : TE := fun σ H Q => tf σ H fun y H1 => ∃ a, y = V.ref a ∧ tk σ H1 fun vs H2 => (∃ dx fs, H2 a = some (.ins C dx fs)) ∧ sp (V.ref a :: vs) H2 Q E0
theorem pe_callOK (hf : PE X fe tf) (c : StX.CallO X.K C g) (F : FnOk X.prog X.w X.K X.mg X.base CX0 k g fd [p1, kw] sp) (hb : ∀ (s : Shared) (u v : Value), X.K.In s.heap → BindsTo s fd ⟨[u], [(kw, v)]⟩ [(p1, u), (kw, v)]) (hr : Room k X.A) (hkw : PK X [⟨some kw, e, kpos⟩] tk)
    (hall : (backToKw pos (keywordEach [⟨some kw, e, kpos⟩] X.env)).all (·.1.isSome) = true := by rfl) (hks : (backToKw pos (keywordEach [⟨some kw, e, kpos⟩] X.env)).filterMap (·.1) = [kw] := by rfl)
    (hpl : ((backTo pos (starEach [] X.env)).any (·.1) || (backToKw pos (keywordEach [⟨some kw, e, kpos⟩] X.env)).any (·.1.isNone)) = false := by rfl)
    (ht : eval (.Call fe [] [⟨some kw, e, kpos⟩] pos) X.env = (do callWith pos (← eval fe X.env) [] (backTo pos (starEach [] X.env)) (backToKw pos (keywordEach [⟨some kw, e, kpos⟩] X.env))) := by rfl) :
    PE X (.Call fe [] [⟨some kw, e, kpos⟩] pos) (tCallOK X C sp tf tk) := by
  refine ⟨fun pins s σ H Q I h => ?_⟩
  rw [ht]
  refine wpAny_bind (thn (hf.run pins s σ H _ I h) fun u s1 ⟨y, H1, I1, ry, a, ey, q⟩ => ?_)
  subst ey
  obtain rfl : u = Value.ref a := ry
  refine callOK_of hpl (PyProof.Rows.evalArgs_kw2_nil hall (thn (hkw.run pos pins s1 σ H1 _ I1 q) fun ws s2 ⟨zs, H2, I2, rz, ⟨dx, fs, hi⟩, q2⟩ => ?_))
  obtain ⟨ox, od, J, hd⟩ := StX.insC_at I2 (C := C) (.inr ⟨dx, fs, hi⟩)
  refine ⟨⟨C, ox, od, J, hd⟩, ?_⟩
  rw [hks]
  have hl := F.len _ _ _ _ q2
  cases rz with
  | nil => cases hl
  | @cons v u vs us rv rr =>
    cases rr with
    | cons _ _ => cases hl
    | nil =>
      refine wpAny_call (PySem.W.kco_code I2.kIn J hd c.at_ c.fn c.fi (codeAny_mono (F.run X.A X.stack s2 H2 ⟨[.ref a], [(kw, u)]⟩ [.ref a, u] [.ref a, v] Q E0 hr I2.env0 (hb s2 _ _ I2.kIn) (.cons rfl (.cons rv .nil)) q2) fun r s' hq => ?_))
      cases r with
      | error e => exact False.elim hq
      | ok fl =>
        cases fl with
        | ret u => exact I2.after hq
        | next => exact False.elim hq
        | brk => exact False.elim hq
        | cont => exact False.elim hq
/-- a def by position, as a promise of its arguments alone -/
theorem fnR_of {ps : List Str} (F : FnOk X.prog X.w X.K X.mg X.base CX0 k g fd ps sp) (hb : Binds X.K fd ps []) : FnR X.prog X.w X.K X.mg X.base CX0 k g sp := by
  intro A outer s H us vs Q E hr e0 r h
  have hl : (us ++ []).length = ps.length := by
    rw [List.append_nil, ← r.length]
    exact F.len _ _ _ _ h
  have KX : X.K.In s.heap := e0.mod.kin.keeps fun b o e => (e0.bs b o e).1
  have hbb := hb s us KX hl
  rw [List.append_nil] at hbb
  exact F.run A outer s H ⟨us, []⟩ us vs Q E hr e0 hbb r h
end
/-! ### t[::-1] -/
section
variable {prog : Program} {w : World} {A : Around} {E : Value → Shared → Prop} {s : Shared}
open HT
theorem sliceApplied_rev {sl : Addr} {vl vu vs : Value} {n : Nat} {Q : Int × Int × Nat → Shared → Prop} (hs : s.heap.IsSliceOf sl vl vu vs) (pl : IsPart vl none) (pu : IsPart vu none) (ps : IsPart vs (some (-1)))
    (h : Q ((n : Int) - 1, -1, n) s) : wpAny (model prog w) A (Builtin.Slice.sliceApplied (.ref sl) (pure (n : Int))) Q E s := by
  obtain ⟨os, hos, hcs, hds⟩ := id hs
  unfold Builtin.Slice.sliceApplied Builtin.Slice.sliceFields
  refine wpAny_bind (wpAny_bind (wpAny_field hos hds (x := vl) rfl (wpAny_bind (wpAny_field hos hds (x := vu) rfl (wpAny_bind (wpAny_field hos hds (x := vs) rfl (wpAny_pure ?_)))))))
  refine wpAny_bind (slicePart_ ps ?_)
  show wpAny _ _ (if ((-1 : Int) == 0) = true then _ else _) _ _ s
  rw [if_neg (by decide)]
  refine wpAny_bind (slicePart_ pl (wpAny_bind (slicePart_ pu (wpAny_bind (wpAny_pure ?_)))))
  show wpAny _ _ (match Builtin.Slice.sliceAdjust none none (-1) (n : Int) with | (lo, hi) => pure (lo, (-1 : Int), Builtin.Slice.slicePlaces lo hi (-1))) _ _ s
  have e1 : Builtin.Slice.sliceAdjust none none (-1) (n : Int) = ((n : Int) - 1, -1) := rfl
  rw [e1]
  have e2 : Builtin.Slice.slicePlaces ((n : Int) - 1) (-1) (-1) = n := by
    unfold Builtin.Slice.slicePlaces
    rw [if_neg (by decide)]
    split
    · rw [show (-(-1 : Int)) = 1 by decide, Int.ediv_one]
      omega
    · omega
  show wpAny _ _ (pure ((n : Int) - 1, (-1 : Int), Builtin.Slice.slicePlaces ((n : Int) - 1) (-1) (-1))) _ _ s
  rw [e2]
  exact wpAny_pure h
theorem fm_congr {α β : Type} {f g : α → Option β} : ∀ {l : List α}, (∀ a ∈ l, f a = g a) → l.filterMap f = l.filterMap g
  | [], _ => rfl
  | a :: l, h => by
    rw [List.filterMap_cons, List.filterMap_cons, h a List.mem_cons_self, fm_congr fun b hb => h b (List.mem_cons_of_mem _ hb)]
theorem pick_rev (xs : Array Value) : ((List.range xs.size).filterMap fun (m : Nat) => xs[(((xs.size : Int) - 1) + (m : Int) * (-1)).toNat]?).toArray = xs.toList.reverse.toArray := by
  have e : ∀ m ∈ List.range xs.size, xs[(((xs.size : Int) - 1) + (m : Int) * (-1)).toNat]? = xs[xs.size - 1 - m]? := fun m hm => by
    have : m < xs.size := List.mem_range.mp hm
    have : (((xs.size : Int) - 1) + (m : Int) * (-1)).toNat = xs.size - 1 - m := by omega
    rw [this]
  rw [fm_congr e]
  have e3 : (List.range xs.size).filterMap (fun m => xs[xs.size - 1 - m]?) = ((List.range xs.size).map fun k => xs.size - 1 - k).filterMap (xs[·]?) := by
    rw [List.filterMap_map]
    rfl
  rw [e3, PySem.W.krv_range, List.filterMap_reverse, PySem.W.krv_all]
theorem getItem_tuple_rev {t sl : Addr} {items : Array Value} {vl vu vs : Value} {Q : Value → Shared → Prop} (ht : IsTup s.heap t items) (hs : s.heap.IsSliceOf sl vl vu vs) (pl : IsPart vl none) (pu : IsPart vu none) (ps : IsPart vs (some (-1)))
    (h : Q (.ref s.heap.objs.size) { s with heap := s.heap.push { cls := .type "tuple", data := .seq items.toList.reverse.toArray } })
    (hsz : items.size ≤ sizeLine) : wpAny (model prog w) A (getItem (.ref t) (.ref sl)) Q E s := by
  have htake : sizeOk (.seq items.toList.reverse.toArray) := by
    show items.toList.reverse.toArray.size ≤ sizeLine
    rw [List.size_toArray, List.length_reverse, Array.length_toList]
    exact hsz
  obtain ⟨os, hos, hcs, hds⟩ := id hs
  have hTs : s.TypeIs (.ref sl) "slice" := ⟨os, hos, hcs⟩
  unfold getItem
  try with_reducible refine wpAny_holding ?_
  first | refine wpAny_bind (wpAny_pure ?_) | skip
  refine wpAny_bind (wpAny_sequenceKey ht.typeIs (by decide) ?_)
  refine wpAny_bind (wpAny_callSpecial?_slot (name := Str.ofString "__getitem__") ht.typeIs PyProof.Rows.slot_tuple_getitem
    (wpAny_call_entry PyProof.Rows.slot_tuple_getitem ht.typeIs entry_tuple_getitem ?_ (args_tuple_getitem _ _)))
  show wpAny _ _ (Builtin.Tuple.tupleItemsOf (.ref t) >>= _) _ _ s
  refine wpAny_bind (tupleItemsOf_ ht ?_)
  refine wpAny_bind (wpAny_typeOf hTs ?_)
  rw [if_pos (by decide)]
  refine wpAny_bind (sliceApplied_rev hs pl pu ps ?_)
  show wpAny _ _ (if ((((items.size : Int) - 1) == 0 && (-1 : Int) == 1 && items.size == items.size) = true) then _ else _) _ _ s
  rw [if_neg (by rw [show ((-1 : Int) == 1) = false by decide, Bool.and_false, Bool.false_and]; exact Bool.false_ne_true), pick_rev]
  first
    | exact wpAny_bind (m := Builtin.Tuple.tupleExact _) (wpAny_newObj_type (wpAny_pure ⟨_, rfl, wpAny_pure h⟩) htake)
    | exact wpAny_bind (m := Builtin.Tuple.tupleExact _) (wpAny_newObj_type (wpAny_bind (wpAny_pure (wpAny_pure ⟨_, rfl, wpAny_pure h⟩))) htake)
    | exact wpAny_bind (wpAny_bind (m := Builtin.Tuple.tupleExact _) (wpAny_newObj_type (wpAny_pure (wpAny_pure ⟨_, rfl, wpAny_pure h⟩)) htake))
    | exact wpAny_bind (wpAny_bind (m := Builtin.Tuple.tupleExact _) (wpAny_newObj_type (wpAny_pure ⟨_, rfl, wpAny_pure h⟩) htake))
end
section
variable {X : Cx}
def tRevT (K : PySem.W.Frag) (te : TE) : TE := fun σ H Q => te σ H fun x H1 => ∃ a xs, x = .ref a ∧ SqT K H1 a xs ∧ ∀ p, H1 p = none → Q (.ref p) (upd H1 p (.tup xs.reverse))
theorem pe_revT {e : Expr} {te : TE} {k : Nat} {p1 p2 p3 pos : Pos} (he : PE X e te) : PE X (.Subscript e (.Slice none none (some (.UnaryOp .USub (.Constant (.int 1) k p1) p2)) p3) pos) (tRevT X.K te) := by
  refine ⟨fun pins s σ H Q I h => ?_⟩
  refine Subscript_ (thn (he.run pins s σ H _ I h) fun v s1 ⟨x, H1, I1, r1, q1⟩ => ?_)
  obtain ⟨a, xs, ex, hx, q⟩ := q1
  subst ex
  cases r1
  have hst : PO X (some (.UnaryOp .USub (.Constant (.int 1) k p1) p2)) (tPart (tUn (rU fun i => .int (-i)) (tC (.int 1)))) := po_some (pe_un un_neg pe_int)
  refine wpAny_Slice (thn (po_none.run pins s1 σ H1 (fun o H2 => o = none ∧ H2 = H1) I1 ⟨rfl, rfl⟩) fun vl s2 ⟨l, H2, I2, pl, el, e2⟩ => ?_)
  subst el e2
  refine thn (po_none.run pins s2 σ H2 (fun o H3 => o = none ∧ H3 = H2) I2 ⟨rfl, rfl⟩) fun vu s3 ⟨u, H3, I3, pu, eu, e3⟩ => ?_
  subst eu e3
  refine thn (hst.run pins s3 σ H3 (fun o H4 => o = some (-1) ∧ H4 = H3) I3 ⟨1, rfl, -1, rfl, rfl, rfl⟩) fun vs s4 ⟨o, H4, I4, ps, eo, e4⟩ => ?_
  subst eo e4
  have I5 : Inv X pins σ H4 { s4 with heap := s4.heap.push { cls := .type "slice", data := .fields #[vl, vu, vs] } } := I4.kept (t' := s4.toks) fun b ob q => Heap.get?_push_of_some _ q
  obtain ⟨its, r, ht, hz⟩ := I5.tuple hx
  have hlen := r.length
  show wpAny (model X.prog X.w) X.A (subscriptTail e (.Slice none none (some (.UnaryOp .USub (.Constant (.int 1) k p1) p2)) p3) (.ref a) (.ref s4.heap.objs.size)) (EP X pins σ Q) X.xe { s4 with heap := s4.heap.push { cls := .type "slice", data := .fields #[vl, vu, vs] } }
  refine tail_any (ops := [.ref a, .ref s4.heap.objs.size]) ht.typeIs PyProof.Rows.slot_tuple_getitem.lookup ?_ (by with_unfolding_all rfl)
  refine getItem_tuple_rev ht (Heap.IsSliceOf.new _ vl vu vs) pl pu ps ?_ (by rw [List.size_toArray]; omega)
  refine ⟨.ref _, _, I5.laid (t' := s4.toks) (o := .tup xs.reverse) (fun b ob q => Heap.get?_push_of_some _ q) (Nat.le_refl _) ?_, rfl, q _ (I5.hok.fresh (Nat.le_refl _))⟩
  exact ⟨by rw [List.length_reverse]; exact hz, _, r.reverse, IsTup.new _ _⟩
/-! ### x in a tuple of data -/
def rInT (K : PySem.W.Frag) : R2 := fun x y H Q => ∃ d ds, Dp K H x d ∧ Dp K H y (.tuple ds) ∧ SeqAt.shaped d = true ∧ SeqAt.shaped (.tuple ds) = true ∧ Q (.bl (ds.any fun z => PyData.eqv z d)) H
theorem op_inT (hu : X.A.units + 65 < cLine) : OpR X (compareOp .In) (rInT X.K) := by
  intro pins s σ H x y v u Q I rx ry h
  obtain ⟨d, ds, hd, he, sd, se, q⟩ := h
  obtain ⟨as, r1⟩ := Dp.reads I d x v hd rx
  obtain ⟨bs, r2⟩ := Dp.reads I (.tuple ds) y u he ry
  exact SeqAt.in_tuple_reads r2 r1 (SeqAt.canLay_of_shaped se) (SeqAt.canLay_of_shaped sd) (room_in_shaped sd hu) ⟨.bl _, H, I, rfl, q⟩
end
end RL

/-! The mathematics of rows of pieces: their maps, what they show. -/
namespace RL
/-- a piece: is it a rail, its ohms -/
abbrev Pc := Bool × Int
def PcOk (p : Pc) : Prop := 1 ≤ p.2 ∧ p.2 ≤ 12
structure Mx where
  a : Int
  b : Int
  c : Int
  d : Int
def stepM (m : Mx) (p : Pc) : Mx := if p.1 = true then ⟨m.a, m.a * p.2 + m.b, m.c, m.c * p.2 + m.d⟩ else ⟨m.a * p.2 + m.b, m.b * p.2, m.c * p.2 + m.d, m.d * p.2⟩
def stepS (s : Int) (p : Pc) : Int := if p.1 = true then s else s * p.2
def m1 : Mx := ⟨1, 0, 0, 1⟩
def matR (r : List Pc) : Mx := r.foldl stepM m1
def sclR (r : List Pc) : Int := r.foldl stepS 1
/-- what a map makes of a pair -/
def Mx.app (m : Mx) (e : Int × Int) : Int × Int := (m.a * e.1 + m.b * e.2, m.c * e.1 + m.d * e.2)
def act (p : Pc) (e : Int × Int) : Int × Int := if p.1 = true then (e.1 + p.2 * e.2, e.2) else (p.2 * e.1, e.1 + p.2 * e.2)
def actR (r : List Pc) (e : Int × Int) : Int × Int := r.foldr act e
theorem app_step (m : Mx) (p : Pc) (e : Int × Int) : (stepM m p).app e = m.app (act p e) := by
  unfold stepM act Mx.app
  split <;> (ext <;> dsimp <;> grind)
theorem app_fold (r : List Pc) : ∀ (m : Mx) (e : Int × Int), (r.foldl stepM m).app e = m.app (actR r e) := by
  induction r with
  | nil => exact fun _ _ => rfl
  | cons p r ih =>
    intro m e
    rw [List.foldl_cons, ih, app_step]
    rfl
theorem app_one (e : Int × Int) : m1.app e = e := by
  unfold Mx.app m1
  ext <;> dsimp <;> omega
theorem mat_app (r : List Pc) (e : Int × Int) : (matR r).app e = actR r e := by
  unfold matR
  rw [app_fold, app_one]
theorem act_app (r r' : List Pc) (e : Int × Int) : actR (r ++ r') e = actR r (actR r' e) := List.foldr_append ..
/-- a pair that stands for a fraction or an open end -/
def Pos2 (e : Int × Int) : Prop := 0 ≤ e.1 ∧ 0 ≤ e.2 ∧ (0 < e.1 ∨ 0 < e.2)
def sc (k : Int) (e : Int × Int) : Int × Int := (k * e.1, k * e.2)
theorem act_pos {p : Pc} {e : Int × Int} (hp : PcOk p) (h : Pos2 e) : Pos2 (act p e) := by
  obtain ⟨h1, h2, h3⟩ := h
  obtain ⟨q1, q2⟩ := hp
  have m1 := Int.mul_nonneg (show 0 ≤ p.2 by omega) h1
  have m2 := Int.mul_nonneg (show 0 ≤ p.2 by omega) h2
  unfold act Pos2
  split
  · dsimp
    omega
  · dsimp
    refine ⟨m1, by omega, ?_⟩
    rcases h3 with h3 | h3
    · exact .inl (Int.mul_pos (by omega) h3)
    · have := Int.mul_pos (show 0 < p.2 by omega) h3
      exact .inr (by omega)
def RowOk (r : List Pc) : Prop := ∀ p ∈ r, PcOk p
theorem RowOk.tail {p : Pc} {r : List Pc} (h : RowOk (p :: r)) : RowOk r := fun q hq => h q (List.mem_cons_of_mem _ hq)
theorem RowOk.head {p : Pc} {r : List Pc} (h : RowOk (p :: r)) : PcOk p := h p List.mem_cons_self
theorem RowOk.app {r r' : List Pc} (h : RowOk r) (h' : RowOk r') : RowOk (r ++ r') := fun q hq => (List.mem_append.mp hq).elim (h q) (h' q)
theorem actR_pos {r : List Pc} {e : Int × Int} (hr : RowOk r) (h : Pos2 e) : Pos2 (actR r e) := by
  induction r with
  | nil => exact h
  | cons p r ih => exact act_pos hr.head (ih hr.tail)
theorem act_sc (p : Pc) (k : Int) (e : Int × Int) : act p (sc k e) = sc k (act p e) := by
  unfold act sc
  split <;> (ext <;> dsimp <;> grind)
theorem actR_sc (r : List Pc) (k : Int) (e : Int × Int) : actR r (sc k e) = sc k (actR r e) := by
  induction r with
  | nil => rfl
  | cons p r ih =>
    show act p (actR r (sc k e)) = _
    rw [ih, act_sc]
    rfl
/-- .. as the law walks -/
def frt (p : Pc) (e : Int × Int) : Int × Int := if p.1 = true then (e.1 + p.2 * e.2, e.2) else if e.2 = 0 then (p.2, 1) else (p.2 * e.1, p.2 * e.2 + e.1)
def frtR (r : List Pc) (e : Int × Int) : Int × Int := r.foldr frt e
theorem frt_act {p : Pc} {e : Int × Int} (hp : PcOk p) (h : Pos2 e) : ∃ k, 0 < k ∧ act p e = sc k (frt p e) := by
  unfold act frt sc
  split
  · exact ⟨1, by decide, by ext <;> dsimp <;> omega⟩
  · split
    · rename_i z
      refine ⟨e.1, by have := h.2.2; omega, ?_⟩
      ext
      · dsimp
        grind
      · dsimp
        rw [z]
        omega
    · exact ⟨1, by decide, by ext <;> dsimp <;> omega⟩
theorem frt_pos {p : Pc} {e : Int × Int} (hp : PcOk p) (h : Pos2 e) : Pos2 (frt p e) := by
  obtain ⟨k, hk, ek⟩ := frt_act hp h
  have := act_pos hp h
  rw [ek] at this
  unfold sc Pos2 at this
  obtain ⟨a, b, c⟩ := this
  have t1 : ∀ x : Int, 0 ≤ k * x → 0 ≤ x := fun x hx => by
    rcases Int.lt_or_le x 0 with z | z
    · have := Int.mul_neg_of_pos_of_neg hk z
      omega
    · exact z
  have t2 : ∀ x : Int, 0 < k * x → 0 < x := fun x hx => by
    rcases Int.lt_or_le 0 x with z | z
    · exact z
    · have := Int.mul_nonpos_of_nonneg_of_nonpos (Int.le_of_lt hk) z
      omega
  exact ⟨t1 _ a, t1 _ b, c.imp (t2 _) (t2 _)⟩
theorem frtR_pos {r : List Pc} {e : Int × Int} (hr : RowOk r) (h : Pos2 e) : Pos2 (frtR r e) := by
  induction r with
  | nil => exact h
  | cons p r ih => exact frt_pos hr.head (ih hr.tail)
theorem sc_sc (j k : Int) (e : Int × Int) : sc j (sc k e) = sc (j * k) e := by
  unfold sc
  ext <;> dsimp <;> grind
theorem frtR_act {r : List Pc} {e : Int × Int} (hr : RowOk r) (h : Pos2 e) : ∃ k, 0 < k ∧ actR r e = sc k (frtR r e) := by
  induction r with
  | nil => exact ⟨1, by decide, by unfold sc; ext <;> dsimp [actR, frtR] <;> omega⟩
  | cons p r ih =>
    obtain ⟨k, hk, ek⟩ := ih hr.tail
    obtain ⟨j, hj, ej⟩ := frt_act hr.head (frtR_pos hr.tail h)
    refine ⟨k * j, Int.mul_pos hk hj, ?_⟩
    show act p (actR r e) = sc (k * j) (frt p (frtR r e))
    rw [ek, act_sc, ej, sc_sc]
/-! ### lowest terms -/
def low (e : Int × Int) : Int × Int := (e.1 / gc e.1 e.2, e.2 / gc e.1 e.2)
theorem gc_pos2 {e : Int × Int} (h : Pos2 e) : 0 < gc e.1 e.2 := gc_pos (by have := h.2.2; omega)
theorem gc_sm {t b : Int} {n : Nat} (h : Pos2 (t, b)) (ht : Sm n t) (hb : Sm n b) : Sm n (gc t b) := by
  have g0 : 0 < gc t b := gc_pos2 h
  rcases h.2.2 with z | z
  · have := Int.le_of_dvd z (gc_dvd1 t b)
    exact ht.of (by omega) this
  · have := Int.le_of_dvd z (gc_dvd2 t b)
    exact hb.of (by omega) this
theorem low_sc {k : Int} (hk : 0 < k) (e : Int × Int) : low (sc k e) = low e := by
  unfold low sc
  dsimp
  rw [gc_mul (Int.le_of_lt hk), Int.mul_ediv_mul_of_pos _ _ hk, Int.mul_ediv_mul_of_pos _ _ hk]
theorem low_is {e : Int × Int} (h : Pos2 e) : e = sc (gc e.1 e.2) (low e) := by
  unfold low sc
  ext
  · exact ex_mul (gc_dvd1 _ _) (gc_pos2 h)
  · exact ex_mul (gc_dvd2 _ _) (gc_pos2 h)
theorem pos_sc {k : Int} {e : Int × Int} (hk : 0 < k) (h : Pos2 (sc k e)) : Pos2 e := by
  unfold sc Pos2 at h
  obtain ⟨a, b, c⟩ := h
  have t1 : ∀ x : Int, 0 ≤ k * x → 0 ≤ x := fun x hx => by
    rcases Int.lt_or_le x 0 with z | z
    · have := Int.mul_neg_of_pos_of_neg hk z
      omega
    · exact z
  have t2 : ∀ x : Int, 0 < k * x → 0 < x := fun x hx => by
    rcases Int.lt_or_le 0 x with z | z
    · exact z
    · have := Int.mul_nonpos_of_nonneg_of_nonpos (Int.le_of_lt hk) z
      omega
  exact ⟨t1 _ a, t1 _ b, c.imp (t2 _) (t2 _)⟩
theorem low_pos {e : Int × Int} (h : Pos2 e) : Pos2 (low e) := pos_sc (gc_pos2 h) (by rw [← low_is h]; exact h)
theorem low_low {e : Int × Int} (h : Pos2 e) : low (low e) = low e := by
  have := low_sc (gc_pos2 h) (low e)
  rw [← low_is h] at this
  exact this.symm
/-- what the map shows is what the walk shows -/
theorem shows_front {r : List Pc} {e : Int × Int} (hr : RowOk r) (h : Pos2 e) : low ((matR r).app e) = low (frtR r e) := by
  obtain ⟨k, hk, ek⟩ := frtR_act hr h
  rw [mat_app, ek, low_sc hk]
theorem shows_two {r r' : List Pc} {e : Int × Int} (hr : RowOk r) (hr' : RowOk r') (h : Pos2 e) : low ((matR (r ++ r')).app e) = low (frtR r (low (frtR r' e))) := by
  have p' := frtR_pos hr' h
  have pl := low_pos p'
  obtain ⟨k, hk, ek⟩ := frtR_act hr pl
  obtain ⟨j, hj, ej⟩ := frtR_act hr' h
  rw [mat_app, act_app, ej, actR_sc, low_sc hj]
  conv => lhs; rw [low_is p']
  rw [actR_sc, low_sc (gc_pos2 p'), ek, low_sc hk]
/-! ### the four fractions -/
theorem low_frac {x s : Int} (hs : 0 < s) : 0 < s / gc x s ∧ x / gc x s * s = s / gc x s * x := by
  have g0 : 0 < gc x s := gc_pos (.inr (by omega))
  have e1 := ex_mul (gc_dvd1 x s) g0
  have e2 := ex_mul (gc_dvd2 x s) g0
  refine ⟨?_, ?_⟩
  · rcases Int.lt_or_le 0 (s / gc x s) with z | z
    · exact z
    · have := Int.mul_nonpos_of_nonneg_of_nonpos (Int.le_of_lt g0) z
      omega
  · generalize x / gc x s = u at *
    generalize s / gc x s = v at *
    generalize gc x s = g at *
    subst e1
    rw [e2]
    grind
theorem by_numbers {m : Mx} {s : Int} {e : Int × Int} (hs : 0 < s) {a0 a1 b0 b1 c0 c1 d0 d1 : Int} (ha : 0 < a1 ∧ a0 * s = a1 * m.a) (hb : 0 < b1 ∧ b0 * s = b1 * m.b) (hc : 0 < c1 ∧ c0 * s = c1 * m.c) (hd : 0 < d1 ∧ d0 * s = d1 * m.d) :
    low ((a0 * b1 * e.1 + b0 * a1 * e.2) * c1 * d1, (c0 * d1 * e.1 + d0 * c1 * e.2) * a1 * b1) = low (m.app e) := by
  have hP : 0 < a1 * b1 * c1 * d1 := Int.mul_pos (Int.mul_pos (Int.mul_pos ha.1 hb.1) hc.1) hd.1
  rw [← low_sc hs, ← low_sc hP (m.app e)]
  congr 1
  unfold sc Mx.app
  obtain ⟨_, ha⟩ := ha
  obtain ⟨_, hb⟩ := hb
  obtain ⟨_, hc⟩ := hc
  obtain ⟨_, hd⟩ := hd
  ext
  · dsimp
    grind
  · dsimp
    grind
theorem by_numbers_pos {m : Mx} {s : Int} {e : Int × Int} (hs : 0 < s) {a0 a1 b0 b1 c0 c1 d0 d1 : Int} (ha : 0 < a1 ∧ a0 * s = a1 * m.a) (hb : 0 < b1 ∧ b0 * s = b1 * m.b) (hc : 0 < c1 ∧ c0 * s = c1 * m.c) (hd : 0 < d1 ∧ d0 * s = d1 * m.d) (hp : Pos2 (m.app e)) :
    Pos2 ((a0 * b1 * e.1 + b0 * a1 * e.2) * c1 * d1, (c0 * d1 * e.1 + d0 * c1 * e.2) * a1 * b1) := by
  have hP : 0 < a1 * b1 * c1 * d1 := Int.mul_pos (Int.mul_pos (Int.mul_pos ha.1 hb.1) hc.1) hd.1
  refine pos_sc hs ?_
  have e1 : sc s ((a0 * b1 * e.1 + b0 * a1 * e.2) * c1 * d1, (c0 * d1 * e.1 + d0 * c1 * e.2) * a1 * b1) = sc (a1 * b1 * c1 * d1) (m.app e) := by
    unfold sc Mx.app
    obtain ⟨_, ha⟩ := ha
    obtain ⟨_, hb⟩ := hb
    obtain ⟨_, hc⟩ := hc
    obtain ⟨_, hd⟩ := hd
    ext
    · dsimp
      grind
    · dsimp
      grind
  rw [e1]
  obtain ⟨p1, p2, p3⟩ := hp
  exact ⟨Int.mul_nonneg (Int.le_of_lt hP) p1, Int.mul_nonneg (Int.le_of_lt hP) p2, p3.imp (Int.mul_pos hP) (Int.mul_pos hP)⟩
/-! ### signs and sizes -/
def MxOk (m : Mx) : Prop := 0 ≤ m.a ∧ 0 ≤ m.b ∧ 0 ≤ m.c ∧ 0 ≤ m.d ∧ 0 < m.a * m.d - m.b * m.c
theorem step_ok {m : Mx} {p : Pc} (hp : PcOk p) (h : MxOk m) : MxOk (stepM m p) := by
  obtain ⟨h1, h2, h3, h4, h5⟩ := h
  have q0 : 0 ≤ p.2 := by have := hp.1; omega
  have z1 := Int.mul_nonneg h1 q0
  have z2 := Int.mul_nonneg h2 q0
  have z3 := Int.mul_nonneg h3 q0
  have z4 := Int.mul_nonneg h4 q0
  unfold stepM MxOk
  split
  · dsimp
    refine ⟨h1, by omega, h3, by omega, ?_⟩
    have : m.a * (m.c * p.2 + m.d) - (m.a * p.2 + m.b) * m.c = m.a * m.d - m.b * m.c := by grind
    omega
  · dsimp
    refine ⟨by omega, by omega, by omega, by omega, ?_⟩
    have : (m.a * p.2 + m.b) * (m.d * p.2) - m.b * p.2 * (m.c * p.2 + m.d) = p.2 * p.2 * (m.a * m.d - m.b * m.c) := by grind
    rw [this]
    have q1 : 0 < p.2 := by have := hp.1; omega
    exact Int.mul_pos (Int.mul_pos q1 q1) h5
theorem fold_ok {r : List Pc} : ∀ {m : Mx}, RowOk r → MxOk m → MxOk (r.foldl stepM m) := by
  induction r with
  | nil => exact fun _ h => h
  | cons p r ih => exact fun hr h => ih hr.tail (step_ok hr.head h)
theorem matR_ok {r : List Pc} (hr : RowOk r) : MxOk (matR r) := fold_ok hr ⟨by decide, by decide, by decide, by decide, by decide⟩
theorem scl_fold {r : List Pc} : ∀ {s : Int}, RowOk r → 0 < s → 0 < r.foldl stepS s := by
  induction r with
  | nil => exact fun _ h => h
  | cons p r ih =>
    intro s hr h
    refine ih hr.tail ?_
    unfold stepS
    split
    · exact h
    · exact Int.mul_pos h (by have := hr.head.1; omega)
theorem sclR_pos {r : List Pc} (hr : RowOk r) : 0 < sclR r := scl_fold hr (by decide)
def MxSm (n : Nat) (m : Mx) : Prop := Sm n m.a ∧ Sm n m.b ∧ Sm n m.c ∧ Sm n m.d
theorem ohm_sm {p : Pc} (hp : PcOk p) : Sm 4 p.2 := by
  obtain ⟨h1, h2⟩ := hp
  unfold Sm
  omega
theorem step_sm {m : Mx} {p : Pc} {n : Nat} (hp : PcOk p) (h : MxSm n m) : MxSm (n + 5) (stepM m p) := by
  obtain ⟨h1, h2, h3, h4⟩ := h
  have o := ohm_sm hp
  have up : ∀ {x : Int}, Sm n x → Sm (n + 4) x := fun z => z.mono (by omega)
  unfold stepM MxSm
  split
  · exact ⟨h1.mono (by omega), (h1.mul o).add (up h2), h3.mono (by omega), (h3.mul o).add (up h4)⟩
  · exact ⟨(h1.mul o).add (up h2), (h2.mul o).mono (by omega), (h3.mul o).add (up h4), (h4.mul o).mono (by omega)⟩
theorem fold_sm {r : List Pc} : ∀ {m : Mx} {n : Nat}, RowOk r → MxSm n m → MxSm (n + 5 * r.length) (r.foldl stepM m) := by
  induction r with
  | nil => exact fun _ h => h
  | cons p r ih =>
    intro m n hr h
    have := ih hr.tail (step_sm hr.head h)
    rw [List.foldl_cons, List.length_cons]
    have e : n + 5 * (r.length + 1) = n + 5 + 5 * r.length := by omega
    rw [e]
    exact this
theorem MxSm.mono {m n : Nat} {x : Mx} (h : MxSm m x) (l : m ≤ n) : MxSm n x := ⟨h.1.mono l, h.2.1.mono l, h.2.2.1.mono l, h.2.2.2.mono l⟩
theorem m1_sm : MxSm 1 m1 := ⟨by unfold Sm; decide, by unfold Sm; decide, by unfold Sm; decide, by unfold Sm; decide⟩
theorem matR_sm {r : List Pc} (hr : RowOk r) (hl : r.length ≤ 8) : MxSm 41 (matR r) := (fold_sm hr m1_sm).mono (by omega)
theorem scl_sm {r : List Pc} : ∀ {s : Int} {n : Nat}, RowOk r → Sm n s → Sm (n + 4 * r.length) (r.foldl stepS s) := by
  induction r with
  | nil => exact fun _ h => h
  | cons p r ih =>
    intro s n hr h
    rw [List.foldl_cons, List.length_cons]
    have e : n + 4 * (r.length + 1) = n + 4 + 4 * r.length := by omega
    rw [e]
    refine ih hr.tail ?_
    unfold stepS
    split
    · exact h.mono (by omega)
    · exact h.mul (ohm_sm hr.head)
theorem sclR_sm {r : List Pc} (hr : RowOk r) (hl : r.length ≤ 8) : Sm 41 (sclR r) := (scl_sm (n := 1) hr (by unfold Sm; decide)).mono (by omega)
theorem frt_sm {p : Pc} {e : Int × Int} {n : Nat} (hp : PcOk p) (h1 : Sm n e.1) (h2 : Sm n e.2) : Sm (n + 5) (frt p e).1 ∧ Sm (n + 5) (frt p e).2 := by
  have o := ohm_sm hp
  have up : ∀ {x : Int}, Sm n x → Sm (n + 4) x := fun z => z.mono (by omega)
  have c : ∀ {x y : Int}, Sm n x → Sm n y → Sm (n + 5) (x + p.2 * y) := fun hx hy => (up hx).add ((o.mul hy).mono (by omega))
  have c' : ∀ {x y : Int}, Sm n x → Sm n y → Sm (n + 5) (p.2 * y + x) := fun hx hy => by
    rw [Int.add_comm]
    exact c hx hy
  unfold frt
  split
  · exact ⟨c h1 h2, h2.mono (by omega)⟩
  · split
    · exact ⟨o.mono (by omega), Sm.mono (m := 1) (x := (1 : Int)) (by unfold Sm; decide) (by omega)⟩
    · exact ⟨(o.mul h1).mono (by omega), c' h1 h2⟩
theorem frtR_sm {r : List Pc} {e : Int × Int} {n : Nat} (hr : RowOk r) (h1 : Sm n e.1) (h2 : Sm n e.2) : Sm (n + 5 * r.length) (frtR r e).1 ∧ Sm (n + 5 * r.length) (frtR r e).2 := by
  induction r with
  | nil => exact ⟨h1, h2⟩
  | cons p r ih =>
    obtain ⟨a, b⟩ := ih hr.tail
    rw [List.length_cons]
    have e2 : n + 5 * (r.length + 1) = n + 5 * r.length + 5 := by omega
    rw [e2]
    exact frt_sm hr.head a b
theorem app_sm {m : Mx} {e : Int × Int} {j k : Nat} (h : MxSm j m) (h1 : Sm k e.1) (h2 : Sm k e.2) : Sm (j + k + 1) (m.app e).1 ∧ Sm (j + k + 1) (m.app e).2 :=
  ⟨(h.1.mul h1).add (h.2.1.mul h2), (h.2.2.1.mul h1).add (h.2.2.2.mul h2)⟩
theorem low_sm {e : Int × Int} {n : Nat} (h : Pos2 e) (h1 : Sm n e.1) (h2 : Sm n e.2) : Sm n (low e).1 ∧ Sm n (low e).2 := ⟨h1.div (gc_pos2 h), h2.div (gc_pos2 h)⟩
/-! ### what is shown rises with the load -/
def below (e f : Int × Int) : Bool := decide (e.1 * f.2 < f.1 * e.2)
theorem below_sc {j k : Int} (hj : 0 < j) (hk : 0 < k) (e f : Int × Int) : below (sc j e) (sc k f) = below e f := by
  unfold below sc
  rw [Bool.eq_iff_iff, decide_eq_true_iff, decide_eq_true_iff]
  dsimp
  have h : 0 < j * k := Int.mul_pos hj hk
  have e1 : j * e.1 * (k * f.2) = j * k * (e.1 * f.2) := by grind
  have e2 : k * f.1 * (j * e.2) = j * k * (f.1 * e.2) := by grind
  rw [e1, e2]
  exact ⟨fun z => Int.lt_of_mul_lt_mul_left z (Int.le_of_lt h), fun z => Int.mul_lt_mul_of_pos_left z h⟩
theorem below_app {m : Mx} (h : MxOk m) (e f : Int × Int) : below (m.app e) (m.app f) = below e f := by
  unfold below Mx.app
  rw [Bool.eq_iff_iff, decide_eq_true_iff, decide_eq_true_iff]
  dsimp
  obtain ⟨_, _, _, _, hd⟩ := h
  have e1 : (m.a * e.1 + m.b * e.2) * (m.c * f.1 + m.d * f.2) - (m.a * f.1 + m.b * f.2) * (m.c * e.1 + m.d * e.2) = (m.a * m.d - m.b * m.c) * (e.1 * f.2 - f.1 * e.2) := by grind
  constructor
  · intro z
    rcases Int.lt_or_le (e.1 * f.2 - f.1 * e.2) 0 with y | y
    · omega
    · have := Int.mul_nonneg (Int.le_of_lt hd) y
      omega
  · intro z
    have := Int.mul_neg_of_pos_of_neg hd (show e.1 * f.2 - f.1 * e.2 < 0 by omega)
    omega
theorem below_low {e f : Int × Int} (he : Pos2 e) (hf : Pos2 f) : below (low e) (low f) = below e f := by
  conv => rhs; rw [low_is he, low_is hf]
  rw [below_sc (gc_pos2 he) (gc_pos2 hf)]
theorem app_pos {r : List Pc} {e : Int × Int} (hr : RowOk r) (h : Pos2 e) : Pos2 ((matR r).app e) := by
  rw [mat_app]
  exact actR_pos hr h
theorem below_shows {r : List Pc} {e f : Int × Int} (hr : RowOk r) (he : Pos2 e) (hf : Pos2 f) : below (low (frtR r e)) (low (frtR r f)) = below e f := by
  rw [← shows_front hr he, ← shows_front hr hf, below_low (app_pos hr he) (app_pos hr hf), below_app (matR_ok hr)]
end RL

namespace RL
open PySem L2
def top (i : Nat) : Stmt := PySem.Challenge.pw_rungladders_k14_ladders_refused.main.body.getD i (.Pass ⟨0, 0, 0, 0⟩)
/-! ### a def as its callers see it -/
structure Df (P : Program) (w : World) (K : PySem.W.Frag) (mg : Str → Option Value) (base : Heap) (k : Nat) (x : Str) (ps : List Str) (sp : Sp) : Prop where
  ex : ∃ (f : Addr) (fd : FuncData), FnOk P w K mg base CX0 k f fd ps sp ∧ mg x = some (.ref f) ∧ PySem.W.keepIn K (.ref f) = true ∧ Binds K fd ps []
section
variable {X : Cx} {k : Nat} {ps : List Str} {sp : Sp} {x : Str} {p pos : Pos} {e : Expr} {es : List Expr} {t : TA}
theorem pe_df (D : Df X.prog X.w X.K X.mg X.base k x ps sp) (hr : Room k X.A) (hg : Gl X x)
    (ha : PA X (e :: es) t) (hdb : (x == ("__debug__" : Str)) = false := by decide) (he : starEach (e :: es) X.env = (false, eval e X.env) :: starEach es X.env := by rfl) (hpl : (backTo pos (starEach es X.env)).any (·.1) = false := by rfl) :
    PE X (.Call (.Name x p) (e :: es) [] pos) (tCall sp [] E0 t) := by
  obtain ⟨f, fd, G, hm, hk, hb⟩ := D.ex
  exact pe_call G hr hg hm hk hb .nil pass0 ha hdb he hpl
end
theorem pe_fldK {X : Cx} {K : PySem.W.Frag} {e : Expr} {f : Str} {pos : Pos} {ta : TE} (he : PE X e ta) (hK : X.K = K := by rfl) (hb : attributeBase e f X.env (eval e X.env) = eval e X.env := by rfl) : PE X (.Attribute e f pos) (tFld K ta f) := by
  subst hK
  exact pe_fld he hb
structure Txt (K : PySem.W.Frag) (mg : Str → Option Value) : Prop where
  len : mg "len" = none
  abs : mg "abs" = none
  int_ : mg "int" = none
  bool_ : mg "bool" = none
  tuple_ : mg "tuple" = none
  isinstance : mg "isinstance" = none
  divmod : mg "divmod" = none
  max : mg "max" = none
  min : mg "min" = none
  range : mg "range" = none
  all : mg "all" = none
  repr : mg "repr" = none
  str_ : mg "str" = none
  enumerate : mg "enumerate" = none
/-! ### heaps -/
def But (c : Addr) (H H' : Hp) : Prop := ∀ b o, b ≠ c → H b = some o → H' b = some o
theorem But.refl (c : Addr) (H : Hp) : But c H H := fun _ _ _ h => h
theorem But.trans {c : Addr} {H H1 H2 : Hp} (a : But c H H1) (b : But c H1 H2) : But c H H2 := fun x o n h => b x o n (a x o n h)
theorem But.of {c : Addr} {H H' : Hp} (h : Same H H') : But c H H' := fun x o _ e => h x o e
theorem same_upd {H : Hp} {p : Addr} {o : HO} (h : H p = none) : Same H (upd H p o) := fun b x e => by
  rw [upd_ne (ne_of_none e h)]
  exact e
theorem But.upd {c : Addr} {H : Hp} {o : HO} : But c H (upd H c o) := fun b x n e => by
  rw [upd_ne n]
  exact e
theorem But.free {c : Addr} {H H' : Hp} (e : But c H H') {l : Addr} (n : l ≠ c) (h : H' l = none) : H l = none := by
  cases q : H l with
  | none => rfl
  | some o =>
    rw [e l o n q] at h
    cases h
def CupAt (c : Addr) (H : Hp) : Prop := ∃ x y : Int, H c = some (.lst [.int x, .int y]) ∧ 0 ≤ x ∧ x < 2147483629 ∧ 0 ≤ y
theorem CupAt.same {c : Addr} {H H' : Hp} (h : CupAt c H) (s : Same H H') : CupAt c H' := by
  obtain ⟨x, y, a, b⟩ := h
  exact ⟨x, y, s _ _ a, b⟩
theorem CupAt.ne {c b : Addr} {H : Hp} (h : CupAt c H) (n : H b = none) : c ≠ b := by
  obtain ⟨x, y, a, _⟩ := h
  exact ne_of_none a n
/-! ### promises -/
def spCup (K : PySem.W.Frag) : Sp := fun vs H Q _ => ∃ (a : Addr) (ns : List Int) (i : Nat), vs = [.ref a, .int (i : Int)] ∧ SqL K H a (ns.map V.int) ∧ i ≤ 100 ∧ ns.length ≤ 63 ∧
  ∀ H' c, Same H H' → H c = none → CupAt c H' → Q (.ref c) H'
def spSip : Sp := fun vs H Q _ => ∃ (c : Addr) (m : Int), vs = [.ref c, .int m] ∧ CupAt c H ∧ 0 < m ∧ Sm 200 m ∧
  ∀ H' r, But c H H' → CupAt c H' → 0 ≤ r → r < m → Q (.int r) H'
def spPick : Sp := fun vs H Q _ => ∃ (c l : Addr) (xs : List V), vs = [.ref c, .ref l] ∧ CupAt c H ∧ c ≠ l ∧ H l = some (.lst xs) ∧ 0 < xs.length ∧ xs.length ≤ 100 ∧
  ∀ H' v, But c H H' → CupAt c H' → v ∈ xs → Q v H'
def spPair : Sp := fun vs H Q _ => ∃ (t b : Int), vs = [.int t, .int b] ∧ Pos2 (t, b) ∧ Sm 4000 t ∧ Sm 4000 b ∧
  ∀ H' p, Same H H' → H p = none → H' p = some (.tup [.int (low (t, b)).1, .int (low (t, b)).2]) → Q (.ref p) H'
section
variable {P : Program} {w : World} {K : PySem.W.Frag} {mg : Str → Option Value} {base : Heap}
abbrev s_law_sip : Stmt := top 71
theorem sc_law_sip : FnScope ["_law_cup_here", "_law_many", "_law_part"] ["_law_cup_here", "_law_many"] (defScope s_law_sip) := ⟨rfl, rfl, rfl, by decide +kernel, rfl, by decide +kernel, by decide +kernel⟩

theorem ok_sip {f : Addr} {fd : FuncData} (F : Fun K "_law_sip" "_law_sip" s_law_sip f fd) (T : Txt K mg) : FnOk P w K mg base CX0 1 f fd ["_law_cup_here", "_law_many"] spSip := by
  refine F.ok sc_law_sip (fun vs H Q E h => ?_) (fun cdv A outer s H vs Q E hr h => ?_)
  · obtain ⟨c, m, rfl, _⟩ := h
    rfl
  · obtain ⟨c, m, rfl, ⟨x, y, hc, x0, x1, y0⟩, m0, ms, k⟩ := h
    refine ⟨_, (pss_cons (ps_asg (pe_op op_mod (pe_callTy call_int1 (by rfl) T.int_ (by decide +kernel) (pa_cons (pe_op op_add (pe_op op_mul (pe_ix ix_list (pv 0) pe_int (fun _ _ => rfl)) pe_int) pe_int) pa_nil)) pe_int) (pg_sub (pv 0) pe_int set_list))
      (pss_cons (ps_if (pt_cmpR op_gt (pe_ix ix_list (pv 0) pe_int (fun _ _ => rfl)) pe_int (nomark _)) (pss_cons (ps_asg (pe_callB call_divmodW (by rfl) T.divmod (by decide +kernel) (pa_cons (pe_ix ix_list (pv 0) pe_int (fun _ _ => rfl)) (pa_cons (pv 1) pa_nil))) (pg_tup rfl (pgs_cons (pg_sub (pv 0) pe_int set_list) (pgs_cons (pg_name (i := 2) sc_law_sip.nd rfl (.inl rfl)) pgs_nil))))
      (pss_one (ps_ret (pv 2)))) pss_nil)
      (pss_one (ps_ret (pe_op op_mod (pe_callTy call_int1 (by rfl) T.int_ (by decide +kernel) (pa_cons (pe_op op_fdivW (pe_ix ix_list (pv 0) pe_int (fun _ _ => rfl)) pe_int) pa_nil)) (pv 1)))))), ?_⟩
    -- cup[0] = ..
    refine ⟨_, rfl, c, _, _, _, rfl, rfl, SqL.of hc, atI_nat (j := 0) rfl, _, _, rfl, rfl, .inr ⟨by decide, by decide⟩, _, _, rfl, rfl, .inl ⟨_, rfl, _, _, rfl, rfl, (by decide : (0 : Int) < 2147483629), _, rfl, c, _, _, _, rfl, rfl, hc, rfl, ?_⟩⟩
    have z0 : 0 ≤ (x * 48271 + 11) % 2147483629 := Int.emod_nonneg _ (by decide)
    have z1 : (x * 48271 + 11) % 2147483629 < 2147483629 := Int.emod_lt_of_pos _ (by decide)
    have hc1 : (upd H c (HO.lst ([V.int x, V.int y].set 0 (V.int ((x * 48271 + 11) % 2147483629))))) c = some (.lst [.int ((x * 48271 + 11) % 2147483629), .int y]) := upd_same
    have b1 : But c H (upd H c (HO.lst ([V.int x, V.int y].set 0 (V.int ((x * 48271 + 11) % 2147483629))))) := But.upd
    -- if cup[1] > 0
    refine ⟨_, rfl, c, _, _, _, rfl, rfl, SqL.of hc1, atI_nat (j := 1) rfl, _, _, rfl, rfl, _, rfl, ite2 (fun e => ?_) (fun e => ?_)⟩
    · have e0 : 0 < y := of_decide_eq_true e
      refine ⟨_, rfl, c, _, _, _, rfl, rfl, SqL.of hc1, atI_nat (j := 1) rfl, _, rfl, _, _, rfl, ⟨m0, PyProof.noPylong_of_log2 (PySem.Flt.log2_lt_of (by decide) (Nat.lt_of_lt_of_le ms (Nat.pow_le_pow_right (by decide) (by decide : 200 ≤ 9000))))⟩, fun p hp => ?_⟩
      have ncp : c ≠ p := ne_of_none hc1 hp
      have hc2 : (upd (upd H c (HO.lst ([V.int x, V.int y].set 0 (V.int ((x * 48271 + 11) % 2147483629))))) p (HO.tup [V.int (y / m), V.int (y % m)])) c = some (.lst [.int ((x * 48271 + 11) % 2147483629), .int y]) := by
        rw [upd_ne ncp]
        exact hc1
      refine ⟨p, _, rfl, SqT.of upd_same, rfl, _, _, rfl, _, rfl, c, _, _, _, rfl, rfl, hc2, rfl, _, _, rfl, rfl, _, rfl, ?_⟩
      refine k _ _ ?_ ⟨_, y / m, upd_same, z0, z1, Int.ediv_nonneg y0 (by omega)⟩ (Int.emod_nonneg _ (by omega)) (Int.emod_lt_of_pos _ m0)
      exact (b1.trans (But.of (same_upd hp))).trans But.upd
    · refine ⟨_, rfl, c, _, _, _, rfl, rfl, SqL.of hc1, atI_nat (j := 0) rfl, _, _, rfl, rfl, ⟨by decide, by decide⟩, .inl ⟨_, rfl, _, rfl, _, _, rfl, rfl, m0, ?_⟩⟩
      exact k _ _ b1 ⟨_, y, hc1, z0, z1, y0⟩ (Int.emod_nonneg _ (by omega)) (Int.emod_lt_of_pos _ m0)
abbrev s_law_pick : Stmt := top 72
theorem sc_law_pick : FnScope ["_law_cup_here", "_law_things"] ["_law_cup_here", "_law_things"] (defScope s_law_pick) := ⟨rfl, rfl, rfl, by decide +kernel, rfl, by decide +kernel, by decide +kernel⟩

theorem ok_pick {f : Addr} {fd : FuncData} (F : Fun K "_law_pick" "_law_pick" s_law_pick f fd) (T : Txt K mg) (D_law_sip : Df P w K mg base 1 "_law_sip" ["_law_cup_here", "_law_many"] spSip) : FnOk P w K mg base CX0 2 f fd ["_law_cup_here", "_law_things"] spPick := by
  refine F.ok sc_law_pick (fun vs H Q E h => ?_) (fun cdv A outer s H vs Q E hr h => ?_)
  · obtain ⟨c, l, xs, rfl, _⟩ := h
    rfl
  · obtain ⟨c, l, xs, rfl, hc, ncl, hl, l0, l1, k⟩ := h
    refine ⟨_, (pss_one (ps_ret (pe_ix ix_list (pv 1) (pe_df D_law_sip (hr.mono (by decide)) (by rfl) (pa_cons (pv 0) (pa_cons (pe_callB call_len_seq (by rfl) T.len (by decide +kernel) (pa_cons (pv 1) pa_nil)) pa_nil))) (fun _ _ => rfl)))), ?_⟩
    refine ⟨_, rfl, _, rfl, _, rfl, l, _, rfl, .inl (SqL.of hl), c, _, rfl, hc, (by omega), ?_, fun H' r b hc' r0 r1 => ?_⟩
    · unfold Sm
      have : (2 : Nat) ^ 7 ≤ 2 ^ 200 := Nat.pow_le_pow_right (by decide) (by decide)
      have : (2 : Nat) ^ 7 = 128 := by decide
      omega
    · obtain ⟨n, rfl⟩ := Int.eq_ofNat_of_zero_le r0
      have hn : n < xs.length := by omega
      refine ⟨l, xs, _, _, rfl, rfl, SqL.of (b _ _ ncl.symm hl), atI_nat (List.getElem?_eq_getElem hn), ?_⟩
      exact k _ _ b hc' (List.getElem_mem hn)
end
end RL

namespace RL
open PySem L2
section
variable {P : Program} {w : World} {K : PySem.W.Frag} {mg : Str → Option Value} {base : Heap}
theorem cutV2 (xs : List V) : cutV xs none (some 2) = xs.take 2 := by
  unfold cutV
  rw [HT.sIx_none, show HT.sIx xs.length xs.length (some 2) = min 2 xs.length from HT.sIx_nat xs.length xs.length 2]
  rw [Nat.sub_zero, List.drop_zero]
  rcases Nat.le_total 2 xs.length with h | h
  · rw [Nat.min_eq_left h]
  · rw [Nat.min_eq_right h, List.take_length, List.take_of_length_le h]
abbrev s_law_cup : Stmt := top 70
theorem sc_law_cup : FnScope ["_law_script", "_law_spot", "_law_cell", "_law_one"] ["_law_script", "_law_spot"] (defScope s_law_cup) := ⟨rfl, rfl, rfl, by decide +kernel, rfl, by decide +kernel, by decide +kernel⟩

theorem ok_cup {f : Addr} {fd : FuncData} (F : Fun K "_law_cup" "_law_cup" s_law_cup f fd) (T : Txt K mg) : FnOk P w K mg base CX0 1 f fd ["_law_script", "_law_spot"] (spCup K) := by
  refine F.ok sc_law_cup (fun vs H Q E h => ?_) (fun cdv A outer s H vs Q E hr h => ?_)
  · obtain ⟨a, ns, i, rfl, _⟩ := h
    rfl
  · obtain ⟨a, ns, i, rfl, hS, hi, hn, k⟩ := h
    refine ⟨_, (pss_cons (ps_set (i := 2) sc_law_cup.nd rfl (.inl rfl) (pe_ifExp (pt_cmpR op_lt (pv 1) (pe_callB call_len_seq (by rfl) T.len (by decide +kernel) (pa_cons (pv 0) pa_nil)) (nomark _)) (pe_ix ix_list (pv 0) (pv 1) (fun _ _ => rfl)) (pe_op op_add (pe_op op_mul pe_int (pv 1)) pe_int)))
      (pss_cons (ps_for PassesOwn.never rfl (pi_list (pe_ifExp (pt_cmpR op_ge (pv 1) (pe_callB call_len_seq (by rfl) T.len (by decide +kernel) (pa_cons (pv 0) pa_nil)) (nomark _)) (pe_slice sl_list (pv 0) po_none (po_some pe_int)) (pe_lst pa_nil))) (pg_name (i := 3) sc_law_cup.nd rfl (.inl rfl)) (pss_one (ps_set (i := 2) sc_law_cup.nd rfl (.inl rfl) (pe_op op_mod (pe_callTy call_int1 (by rfl) T.int_ (by decide +kernel) (pa_cons (pe_op op_add (pe_op op_mul (pv 2) pe_int) (pv 3)) pa_nil)) pe_int))))
      (pss_one (ps_ret (pe_lst (pa_cons (pe_op op_mod (pe_callTy call_int1 (by rfl) T.int_ (by decide +kernel) (pa_cons (pe_op op_add (pe_op op_add (pe_op op_mul (pv 2) pe_int) (pe_op op_mul pe_int (pv 1))) pe_int) pa_nil)) pe_int) (pa_cons (pe_ifExp (PW.pt (pw_or (pt_cmpR op_lt (pv 2) pe_int (nomark _)) (pw_or1 (pt_cmpR op_ge (pv 2) (pe_op op_pow pe_int pe_int) (nomark _))))) (pe_callB call_abs (by rfl) T.abs (by decide +kernel) (pa_cons (pv 2) pa_nil)) pe_int) pa_nil))))))), ?_⟩
    have hlen : (ns.map V.int).length = ns.length := List.length_map ..
    have isI : ∀ (xs : List Int) (j : Nat) (y : V), (xs.map V.int)[j]? = some y → ∃ u, y = V.int u := fun xs j y hj => by
      rw [List.getElem?_map] at hj
      cases q : xs[j]? with
      | none =>
        rw [q] at hj
        cases hj
      | some u =>
        rw [q] at hj
        exact ⟨u, (Option.some.inj hj).symm⟩
    refine ⟨_, rfl, _, rfl, a, _, rfl, .inl hS, _, _, rfl, rfl, _, rfl, ite2 (fun e => ?_) (fun e => ?_)⟩
    · have e0 : (i : Int) < (ns.map V.int).length := of_decide_eq_true e
      have hin : i < ns.length := by omega
      refine ⟨_, rfl, _, rfl, a, _, _, _, rfl, rfl, hS, atI_nat (v := V.int ns[i]) (by rw [List.getElem?_map, List.getElem?_eq_getElem hin]; rfl), ?_⟩
      refine ⟨_, rfl, _, rfl, a, _, rfl, .inl hS, _, _, rfl, rfl, _, rfl, ite2 (fun e2 => absurd (of_decide_eq_true e2) (by omega)) (fun e2 => ?_)⟩
      refine ⟨Nat.zero_le _, fun l hl0 => ?_⟩
      have sm : Same H (upd H l (.lst [])) := same_upd hl0
      have hl : SqL K (upd H l (.lst [])) l (([] : List Int).map V.int) := SqL.of upd_same
      refine ⟨l, rfl, ⟨_, hl⟩, for_list (K := K) (a := l) (xs := ([] : List Int).map V.int) (fun j σ H' => ∃ (c2 : Int) (v3 : Option V), σ = [some (.ref a), some (.int i), some (.int c2), v3] ∧ H' = upd H l (.lst [])) ⟨ns[i], none, rfl, rfl⟩ (fun _ _ _ _ h => by obtain ⟨_, _, _, rfl⟩ := h; exact hl) ?_ ?_⟩
      · rintro j y σ H' hj ⟨c2, v3, rfl, rfl⟩
        obtain ⟨u, rfl⟩ := isI _ _ _ hj
        refine ⟨_, rfl, _, _, rfl, rfl, .inr ⟨by decide, by decide⟩, _, rfl, _, _, rfl, rfl, .inl ⟨_, rfl, _, _, rfl, rfl, (by decide : (0 : Int) < 1000000007), ?_⟩⟩
        exact ⟨_, _, rfl, rfl⟩
      · rintro σ H' ⟨c2, v3, rfl, rfl⟩
        refine ⟨_, rfl, _, _, rfl, rfl, .inr ⟨by decide, by decide⟩, _, rfl, _, _, rfl, rfl, .inl ⟨by decide, by decide⟩, _, _, rfl, rfl, _, _, rfl, rfl, .inl ⟨_, rfl, _, _, rfl, rfl, (by decide : (0 : Int) < 2147483629), ?_⟩⟩
        have z0 : 0 ≤ (c2 * 4099 + 271 * (i : Int) + 17) % 2147483629 := Int.emod_nonneg _ (by decide)
        have z1 : (c2 * 4099 + 271 * (i : Int) + 17) % 2147483629 < 2147483629 := Int.emod_lt_of_pos _ (by decide)
        refine ⟨_, rfl, _, _, rfl, rfl, _, rfl, ite2 (fun e3 => ?_) (fun e3 => ?_)⟩
        · refine iteT ⟨_, rfl, _, rfl, (by show 2 ≤ sizeLine; decide), fun p hp => ?_⟩
          refine k _ p (sm.trans (same_upd hp)) (sm.free hp) ⟨_, _, upd_same, z0, z1, ?_⟩
          split <;> omega
        · refine ⟨_, rfl, _, _, rfl, rfl, ⟨by decide, by decide, by decide⟩, _, _, rfl, rfl, _, rfl, ite2 (fun e4 => ?_) (fun e4 => ?_)⟩
          · refine ⟨_, rfl, _, rfl, (by show 2 ≤ sizeLine; decide), fun p hp => ?_⟩
            refine k _ p (sm.trans (same_upd hp)) (sm.free hp) ⟨_, _, upd_same, z0, z1, ?_⟩
            split <;> omega
          · refine ⟨(by show 2 ≤ sizeLine; decide), fun p hp => ?_⟩
            exact k _ p (sm.trans (same_upd hp)) (sm.free hp) ⟨_, _, upd_same, z0, z1, by decide⟩
    · have e0 : ¬ (i : Int) < (ns.map V.int).length := fun z => e (decide_eq_true z)
      refine ⟨_, rfl, _, _, rfl, rfl, .inl ⟨by decide, by decide⟩, _, _, rfl, rfl, ?_⟩
      refine ⟨_, rfl, _, rfl, a, _, rfl, .inl hS, _, _, rfl, rfl, _, rfl, ite2 (fun e2 => ?_) (fun e2 => absurd (decide_eq_true (show ((ns.map V.int).length : Int) ≤ (i : Int) by omega)) e2)⟩
      refine ⟨_, rfl, 2, rfl, a, _, rfl, hS, fun l hl0 => ?_⟩
      have sm := same_upd (o := .lst (cutV (ns.map V.int) none (some 2))) hl0
      have hl : SqL K (upd H l (.lst (cutV (ns.map V.int) none (some 2)))) l ((ns.take 2).map V.int) := by
        refine SqL.of ?_
        rw [upd_same, cutV2, List.map_take]
      refine ⟨l, rfl, ⟨_, hl⟩, for_list (K := K) (a := l) (xs := (ns.take 2).map V.int) (fun j σ H' => ∃ (c2 : Int) (v3 : Option V), σ = [some (.ref a), some (.int i), some (.int c2), v3] ∧ H' = upd H l (.lst (cutV (ns.map V.int) none (some 2)))) ⟨_, none, rfl, rfl⟩ (fun _ _ _ _ h => by obtain ⟨_, _, _, rfl⟩ := h; exact hl) ?_ ?_⟩
      · rintro j y σ H' hj ⟨c2, v3, rfl, rfl⟩
        obtain ⟨u, rfl⟩ := isI _ _ _ hj
        refine ⟨_, rfl, _, _, rfl, rfl, .inr ⟨by decide, by decide⟩, _, rfl, _, _, rfl, rfl, .inl ⟨_, rfl, _, _, rfl, rfl, (by decide : (0 : Int) < 1000000007), ?_⟩⟩
        exact ⟨_, _, rfl, rfl⟩
      · rintro σ H' ⟨c2, v3, rfl, rfl⟩
        refine ⟨_, rfl, _, _, rfl, rfl, .inr ⟨by decide, by decide⟩, _, rfl, _, _, rfl, rfl, .inl ⟨by decide, by decide⟩, _, _, rfl, rfl, _, _, rfl, rfl, .inl ⟨_, rfl, _, _, rfl, rfl, (by decide : (0 : Int) < 2147483629), ?_⟩⟩
        have z0 : 0 ≤ (c2 * 4099 + 271 * (i : Int) + 17) % 2147483629 := Int.emod_nonneg _ (by decide)
        have z1 : (c2 * 4099 + 271 * (i : Int) + 17) % 2147483629 < 2147483629 := Int.emod_lt_of_pos _ (by decide)
        refine ⟨_, rfl, _, _, rfl, rfl, _, rfl, ite2 (fun e3 => ?_) (fun e3 => ?_)⟩
        · refine iteT ⟨_, rfl, _, rfl, (by show 2 ≤ sizeLine; decide), fun p hp => ?_⟩
          refine k _ p (sm.trans (same_upd hp)) (sm.free hp) ⟨_, _, upd_same, z0, z1, ?_⟩
          split <;> omega
        · refine ⟨_, rfl, _, _, rfl, rfl, ⟨by decide, by decide, by decide⟩, _, _, rfl, rfl, _, rfl, ite2 (fun e4 => ?_) (fun e4 => ?_)⟩
          · refine ⟨_, rfl, _, rfl, (by show 2 ≤ sizeLine; decide), fun p hp => ?_⟩
            refine k _ p (sm.trans (same_upd hp)) (sm.free hp) ⟨_, _, upd_same, z0, z1, ?_⟩
            split <;> omega
          · refine ⟨(by show 2 ≤ sizeLine; decide), fun p hp => ?_⟩
            exact k _ p (sm.trans (same_upd hp)) (sm.free hp) ⟨_, _, upd_same, z0, z1, by decide⟩
end
end RL

namespace RL
open PySem L2
theorem mx {a b : Nat} {i j : Int} (hi : Sm a i) (hj : Sm b j) (h : a + b ≤ 134217728 := by decide) : CMulX i j := mulx_ok hi hj h
theorem dvw {b : Nat} {i j : Int} (h : 0 < j) (hb : Sm b j) (h0 : 0 < b := by decide) (h9 : b ≤ 9000 := by decide) : CDivW i j := wide_div h hb h0 h9
structure Txt2 (K : PySem.W.Frag) (mg : Str → Option Value) (tG : Tok) (aO : Addr) : Prop extends Txt K mg where
  mgG : mg "GREATEST" = some (.int 1000000000000 tG)
  mgO : mg "OPEN" = some (.ref aO)
  opn : ∃ (o : Obj) (its : Array Value) (n : Nat), K.lookup aO = some o ∧ o.cls = .type "tuple" ∧ o.data = .seq its n ∧ its.size ≤ sizeLine ∧ Vals [.int 1, .int 0] its.toList
/-- a resistance's two integers -/
def ResP (t b : Int) : Prop := (0 ≤ t ∧ t ≤ 1000000000000 ∧ 1 ≤ b ∧ b ≤ 1000000000000) ∨ (t = 1 ∧ b = 0)
def spIsInt : Sp := fun vs H Q _ => (∃ i, vs = [.int i] ∧ Q (.bl true) H) ∨ (∃ p xs, vs = [.ref p] ∧ H p = some (.tup xs) ∧ Q (.bl false) H)
def spWithin : Sp := fun vs H Q _ => ∃ v lo hi : Int, vs = [.int v, .int lo, .int hi] ∧ lo ≤ v ∧ v ≤ hi ∧ Q (.bl true) H
def spIsPair : Sp := fun vs H Q _ => ∃ (p : Addr) (t b : Int), vs = [.ref p] ∧ H p = some (.tup [.int t, .int b]) ∧ Q (.bl true) H
def spIsRes : Sp := fun vs H Q _ => (∃ i : Int, vs = [.int i] ∧ 0 ≤ i ∧ i ≤ 1000000000000 ∧ Q (.bl true) H) ∨ (∃ (p : Addr) (t b : Int), vs = [.ref p] ∧ H p = some (.tup [.int t, .int b]) ∧ ResP t b ∧ Q (.bl true) H)
def spPairOf : Sp := fun vs H Q _ => (∃ i, vs = [.int i] ∧ ∀ H' p, Same H H' → H p = none → H' p = some (.tup [.int i, .int 1]) → Q (.ref p) H') ∨ (∃ p xs, vs = [.ref p] ∧ H p = some (.tup xs) ∧ Q (.ref p) H)
def spGcd : Sp := fun vs H Q _ => ∃ x y : Int, vs = [.int x, .int y] ∧ Q (.int (gc x y)) H
def spLow : Sp := fun vs H Q _ => ∃ (t b : Int), vs = [.int t, .int b] ∧ Pos2 (t, b) ∧ Sm 4000 t ∧ Sm 4000 b ∧
  ∀ H' p, Same H H' → H p = none → H' p = some (.tup [.int (low (t, b)).1, .int (low (t, b)).2]) → Q (.ref p) H'
def spLowP : Sp := fun vs H Q _ => ∃ (v : V) (e : Int × Int), vs = [v] ∧ ((∃ i, v = .int i ∧ e = (i, 1)) ∨ (∃ p, v = .ref p ∧ H p = some (.tup [.int e.1, .int e.2]))) ∧ Pos2 e ∧ Sm 4000 e.1 ∧ Sm 4000 e.2 ∧
  ∀ H' p, Same H H' → H p = none → H' p = some (.tup [.int (low e).1, .int (low e).2]) → Q (.ref p) H'
section
variable {P : Program} {w : World} {K : PySem.W.Frag} {mg : Str → Option Value} {base : Heap} {tG : Tok} {aO : Addr}
abbrev s_is_integer : Stmt := top 8
theorem sc_is_integer : FnScope ["value"] ["value"] (defScope s_is_integer) := ⟨rfl, rfl, rfl, by decide +kernel, rfl, by decide +kernel, by decide +kernel⟩

theorem ok_isint {f : Addr} {fd : FuncData} (F : Fun K "is_integer" "is_integer" s_is_integer f fd) (T : Txt K mg) : FnOk P w K mg base CX0 1 f fd ["value"] spIsInt := by
  refine F.ok sc_is_integer (fun vs H Q E h => ?_) (fun cdv A outer s H vs Q E hr h => ?_)
  · rcases h with ⟨i, rfl, _⟩ | ⟨p, xs, rfl, _⟩ <;> rfl
  · refine ⟨_, (pss_one (ps_ret (pe_and (pe_callB call_isi (by rfl) T.isinstance (by decide +kernel) (pa_cons (pv 0) (pa_cons (pe_bltn (v := .ty "int") (by rfl) T.int_ (by decide +kernel) rfl) pa_nil))) (pe_one (pe_not (pe_callB call_isi (by rfl) T.isinstance (by decide +kernel) (pa_cons (pv 0) (pa_cons (pe_bltn (v := .ty "bool") (by rfl) T.bool_ (by decide +kernel) rfl) pa_nil)))))))), ?_⟩
    rcases h with ⟨i, rfl, k⟩ | ⟨p, xs, rfl, hp, k⟩
    · refine ⟨_, rfl, _, _, _, _, true, rfl, .ty _, .base (.int i), kit_ty (by decide +kernel), true, rfl, iteT ?_⟩
      exact ⟨_, rfl, _, _, _, _, false, rfl, .ty _, .base (.int i), kit_ty (by decide +kernel), false, rfl, k⟩
    · refine ⟨_, rfl, _, _, _, _, false, rfl, .ty _, .base (.tup hp), kit_ty (by decide +kernel), false, rfl, iteF ?_⟩
      exact k
abbrev s_is_integer_within : Stmt := top 9
theorem sc_is_integer_within : FnScope ["value", "least", "most"] ["value", "least", "most"] (defScope s_is_integer_within) := ⟨rfl, rfl, rfl, by decide +kernel, rfl, by decide +kernel, by decide +kernel⟩

theorem ok_within {f : Addr} {fd : FuncData} (F : Fun K "is_integer_within" "is_integer_within" s_is_integer_within f fd) (D_is_integer : Df P w K mg base 1 "is_integer" ["value"] spIsInt) : FnOk P w K mg base CX0 2 f fd ["value", "least", "most"] spWithin := by
  refine F.ok sc_is_integer_within (fun vs H Q E h => ?_) (fun cdv A outer s H vs Q E hr h => ?_)
  · obtain ⟨v, lo, hi, rfl, _⟩ := h
    rfl
  · obtain ⟨v, lo, hi, rfl, h1, h2, k⟩ := h
    refine ⟨_, (pss_one (ps_ret (pe_and (pe_df D_is_integer (hr.mono (by decide)) (by rfl) (pa_cons (pv 0) pa_nil)) (pe_one (pe_chain op_le op_le (pv 1) (pv 0) (pv 2)))))), ?_⟩
    refine ⟨_, rfl, .inl ⟨v, rfl, true, rfl, iteT ?_⟩⟩
    refine ⟨_, rfl, _, rfl, _, _, rfl, rfl, _, rfl, ite2 (fun _ => ?_) (fun e => absurd (decide_eq_true h1) e)⟩
    refine ⟨_, rfl, _, _, rfl, rfl, ?_⟩
    show Q (.bl (decide (v ≤ hi))) H
    rw [decide_eq_true h2]
    exact k
abbrev s_is_pair_of_integers : Stmt := top 11
theorem sc_is_pair_of_integers : FnScope ["value"] ["value"] (defScope s_is_pair_of_integers) := ⟨rfl, rfl, rfl, by decide +kernel, rfl, by decide +kernel, by decide +kernel⟩

theorem ok_ispair {f : Addr} {fd : FuncData} (F : Fun K "is_pair_of_integers" "is_pair_of_integers" s_is_pair_of_integers f fd) (T : Txt K mg) (D_is_integer : Df P w K mg base 1 "is_integer" ["value"] spIsInt) : FnOk P w K mg base CX0 2 f fd ["value"] spIsPair := by
  refine F.ok sc_is_pair_of_integers (fun vs H Q E h => ?_) (fun cdv A outer s H vs Q E hr h => ?_)
  · obtain ⟨p, t, b, rfl, _⟩ := h
    rfl
  · obtain ⟨p, t, b, rfl, hp, k⟩ := h
    refine ⟨_, (pss_one (ps_ret (pe_and (pe_callB call_isi (by rfl) T.isinstance (by decide +kernel) (pa_cons (pv 0) (pa_cons (pe_bltn (v := .ty "tuple") (by rfl) T.tuple_ (by decide +kernel) rfl) pa_nil))) (pe_and (pe_cmpR op_eq (pe_callB call_len_seq (by rfl) T.len (by decide +kernel) (pa_cons (pv 0) pa_nil)) pe_int (nomark _)) (pe_and (pe_df D_is_integer (hr.mono (by decide)) (by rfl) (pa_cons (pe_ix ix_tup (pv 0) pe_int (fun _ _ => rfl)) pa_nil)) (pe_one (pe_df D_is_integer (hr.mono (by decide)) (by rfl) (pa_cons (pe_ix ix_tup (pv 0) pe_int (fun _ _ => rfl)) pa_nil)))))))), ?_⟩
    refine ⟨_, rfl, _, _, _, _, true, rfl, .ty _, .base (.tup hp), kit_ty (by decide +kernel), true, rfl, iteT ?_⟩
    refine ⟨_, rfl, p, _, rfl, .inr (SqT.of hp), rfl, true, rfl, iteT ?_⟩
    refine ⟨_, rfl, p, _, _, _, rfl, rfl, SqT.of hp, atI_nat (j := 0) rfl, .inl ⟨t, rfl, true, rfl, iteT ?_⟩⟩
    exact ⟨_, rfl, p, _, _, _, rfl, rfl, SqT.of hp, atI_nat (j := 1) rfl, .inl ⟨b, rfl, k⟩⟩
abbrev s_is_resistance : Stmt := top 12
theorem sc_is_resistance : FnScope ["value", "top", "bottom"] ["value"] (defScope s_is_resistance) := ⟨rfl, rfl, rfl, by decide +kernel, rfl, by decide +kernel, by decide +kernel⟩

theorem ok_isres {f : Addr} {fd : FuncData} (F : Fun K "is_resistance" "is_resistance" s_is_resistance f fd) (T : Txt2 K mg tG aO) (D_is_integer : Df P w K mg base 1 "is_integer" ["value"] spIsInt) (D_is_pair_of_integers : Df P w K mg base 2 "is_pair_of_integers" ["value"] spIsPair) : FnOk P w K mg base CX0 3 f fd ["value"] spIsRes := by
  refine F.ok sc_is_resistance (fun vs H Q E h => ?_) (fun cdv A outer s H vs Q E hr h => ?_)
  · rcases h with ⟨i, rfl, _⟩ | ⟨p, t, b, rfl, _⟩ <;> rfl
  · refine ⟨_, (pss_cons (ps_if (pt_val (pe_df D_is_integer (hr.mono (by decide)) (by rfl) (pa_cons (pv 0) pa_nil))) (pss_one (ps_ret (pe_chain op_le op_le pe_int (pv 0) (pe_glob (v := .int 1000000000000) rfl T.mgG ⟨_, rfl⟩)))) pss_nil)
      (pss_cons (ps_if (pt_not (pt_val (pe_df D_is_pair_of_integers (hr.mono (by decide)) (by rfl) (pa_cons (pv 0) pa_nil)))) (pss_one (ps_ret pe_bl)) pss_nil)
      (pss_cons (ps_asg (pv 0) (pg_tup rfl (pgs_cons (pg_name (i := 1) sc_is_resistance.nd rfl (.inl rfl)) (pgs_cons (pg_name (i := 2) sc_is_resistance.nd rfl (.inl rfl)) pgs_nil))))
      (pss_one (ps_ret (pe_or (pe_cmpR (op_eqD hr.units) (pv 0) (pe_glob (v := .ref aO) rfl T.mgO rfl) (nomark _)) (pe_one (pe_and (pe_chain op_le op_le pe_int (pv 1) (pe_glob (v := .int 1000000000000) rfl T.mgG ⟨_, rfl⟩)) (pe_one (pe_chain op_le op_le pe_int (pv 2) (pe_glob (v := .int 1000000000000) rfl T.mgG ⟨_, rfl⟩))))))))))), ?_⟩
    rcases h with ⟨i, rfl, i0, i1, k⟩ | ⟨p, t, b, rfl, hp, hR, k⟩
    · refine ⟨_, rfl, .inl ⟨i, rfl, true, rfl, iteT ?_⟩⟩
      refine ⟨_, rfl, _, _, rfl, rfl, _, rfl, ite2 (fun _ => ?_) (fun e => absurd (decide_eq_true i0) e)⟩
      refine ⟨_, _, rfl, rfl, ?_⟩
      show Q (.bl (decide (i ≤ 1000000000000))) H
      rw [decide_eq_true i1]
      exact k
    · refine ⟨_, rfl, .inr ⟨p, _, rfl, hp, false, rfl, iteF ?_⟩⟩
      refine ⟨_, rfl, p, t, b, rfl, hp, true, rfl, iteF ?_⟩
      refine ⟨_, rfl, p, _, rfl, SqT.of hp, rfl, _, _, rfl, _, _, rfl, rfl, ?_⟩
      refine ⟨_, rfl, .tuple [.int t, .int b], .tuple [.int 1, .int 0], .tup (SqT.of hp) (.cons (.int _) (.cons (.int _) .nil)), .tup (.inr T.opn) (.cons (.int _) (.cons (.int _) .nil)), rfl, rfl, _, rfl, ite2 (fun _ => k) (fun e => ?_)⟩
      rcases hR with ⟨t0, t1, b0, b1⟩ | ⟨rfl, rfl⟩
      · refine ⟨_, rfl, _, _, rfl, rfl, _, rfl, ite2 (fun _ => ?_) (fun e => absurd (decide_eq_true t0) e)⟩
        refine ⟨_, _, rfl, rfl, _, rfl, ite2 (fun _ => ?_) (fun e => absurd (decide_eq_true t1) e)⟩
        refine ⟨_, rfl, _, _, rfl, rfl, _, rfl, ite2 (fun _ => ?_) (fun e => absurd (decide_eq_true b0) e)⟩
        refine ⟨_, _, rfl, rfl, ?_⟩
        show Q (.bl (decide (b ≤ 1000000000000))) H
        rw [decide_eq_true b1]
        exact k
      · exact absurd (SeqAt.eqv_refl _ (by decide +kernel)) e
abbrev s_pair_of : Stmt := top 13
theorem sc_pair_of : FnScope ["fraction_or_open"] ["fraction_or_open"] (defScope s_pair_of) := ⟨rfl, rfl, rfl, by decide +kernel, rfl, by decide +kernel, by decide +kernel⟩

theorem ok_pairof {f : Addr} {fd : FuncData} (F : Fun K "pair_of" "pair_of" s_pair_of f fd) (D_is_integer : Df P w K mg base 1 "is_integer" ["value"] spIsInt) : FnOk P w K mg base CX0 2 f fd ["fraction_or_open"] spPairOf := by
  refine F.ok sc_pair_of (fun vs H Q E h => ?_) (fun cdv A outer s H vs Q E hr h => ?_)
  · rcases h with ⟨i, rfl, _⟩ | ⟨p, xs, rfl, _⟩ <;> rfl
  · refine ⟨_, (pss_cons (ps_if (pt_val (pe_df D_is_integer (hr.mono (by decide)) (by rfl) (pa_cons (pv 0) pa_nil))) (pss_one (ps_ret (pe_tup (pa_cons (pv 0) (pa_cons pe_int pa_nil))))) pss_nil)
      (pss_one (ps_ret (pv 0)))), ?_⟩
    rcases h with ⟨i, rfl, k⟩ | ⟨p, xs, rfl, hp, k⟩
    · refine ⟨_, rfl, .inl ⟨i, rfl, true, rfl, iteT ?_⟩⟩
      exact ⟨_, rfl, (by show 2 ≤ sizeLine; decide), fun q hq => k _ q (same_upd hq) hq upd_same⟩
    · refine ⟨_, rfl, .inr ⟨p, _, rfl, hp, false, rfl, iteF ?_⟩⟩
      exact ⟨_, rfl, k⟩
abbrev s_common_divisor : Stmt := top 14
theorem sc_common_divisor : FnScope ["first", "second", "high", "low"] ["first", "second"] (defScope s_common_divisor) := ⟨rfl, rfl, rfl, by decide +kernel, rfl, by decide +kernel, by decide +kernel⟩

theorem ok_gcd {f : Addr} {fd : FuncData} (F : Fun K "common_divisor" "common_divisor" s_common_divisor f fd) (T : Txt K mg) : FnOk P w K mg base CX0 1 f fd ["first", "second"] spGcd := by
  refine F.ok sc_common_divisor (fun vs H Q E h => ?_) (fun cdv A outer s H vs Q E hr h => ?_)
  · obtain ⟨t, b, rfl, _⟩ := h
    rfl
  · obtain ⟨t, b, rfl, k⟩ := h
    refine ⟨_, (pss_cons (ps_par (by rfl) sc_common_divisor.nd (i := 2) (j := 3) rfl rfl (by decide) rfl rfl (pa_cons (pe_callB call_abs (by rfl) T.abs (by decide +kernel) (pa_cons (pv 0) pa_nil)) (pa_cons (pe_callB call_abs (by rfl) T.abs (by decide +kernel) (pa_cons (pv 1) pa_nil)) pa_nil)) (by rfl))
      (pss_cons (ps_while PassesOwn.never (pt_cmpR op_gt (pv 3) pe_int (nomark _)) (pss_one (ps_par (by rfl) sc_common_divisor.nd (i := 2) (j := 3) rfl rfl (by decide) rfl rfl (pa_cons (pv 3) (pa_cons (pe_op op_mod (pv 2) (pv 3)) pa_nil)) (by rfl))))
      (pss_one (ps_ret (pv 2))))), ?_⟩
    refine ⟨_, rfl, _, rfl, _, rfl, _, rfl, _, _, rfl, ?_⟩
    refine while_by (fun σ H' => H' = H ∧ ∃ x y : Int, σ = [some (.int t), some (.int b), some (.int x), some (.int y)] ∧ 0 ≤ x ∧ 0 ≤ y ∧ gc x y = gc t b) (fun σ _ => match σ with | [_, _, _, some (.int y)] => y.toNat | _ => 0) ⟨rfl, _, _, rfl, by split <;> omega, by split <;> omega, gc_abs _ _⟩ ?_ ?_
    · rintro σ H' ⟨rfl, x, y, rfl, x0, y0, eg⟩
      refine ⟨_, rfl, _, _, rfl, rfl, _, rfl, ite2 (fun e => ?_) (fun e => ?_)⟩
      · have e0 : 0 < y := of_decide_eq_true e
        refine ⟨_, rfl, _, rfl, _, rfl, _, _, rfl, rfl, e0, _, _, rfl, ?_⟩
        have q1 := Int.emod_nonneg x (show y ≠ 0 by omega)
        have q2 := Int.emod_lt_of_pos x e0
        refine ⟨⟨rfl, y, x % y, rfl, y0, q1, ?_⟩, ?_⟩
        · rw [gc_step x0 e0, eg]
        · show (x % y).toNat < y.toNat
          omega
      · have e0 : ¬ 0 < y := fun z => e (decide_eq_true z)
        have y1 : y = 0 := by omega
        subst y1
        rw [gc_zero x0] at eg
        subst eg
        exact ⟨_, rfl, k⟩
    · rintro σ H' Q1 Q2 hq h
      obtain ⟨v, e1, i, j, e2, e3, z⟩ := h
      exact ⟨v, e1, i, j, e2, e3, z.imp fun k z => ⟨z.1, hq _ _ z.2⟩⟩
abbrev s_lowest_terms : Stmt := top 15
theorem sc_lowest_terms : FnScope ["top", "bottom", "divisor"] ["top", "bottom"] (defScope s_lowest_terms) := ⟨rfl, rfl, rfl, by decide +kernel, rfl, by decide +kernel, by decide +kernel⟩

theorem ok_low {f : Addr} {fd : FuncData} (F : Fun K "lowest_terms" "lowest_terms" s_lowest_terms f fd) (D_common_divisor : Df P w K mg base 1 "common_divisor" ["first", "second"] spGcd) : FnOk P w K mg base CX0 2 f fd ["top", "bottom"] spLow := by
  refine F.ok sc_lowest_terms (fun vs H Q E h => ?_) (fun cdv A outer s H vs Q E hr h => ?_)
  · obtain ⟨t, b, rfl, _⟩ := h
    rfl
  · obtain ⟨t, b, rfl, tb, ts, bs, k⟩ := h
    refine ⟨_, (pss_cons (ps_set (i := 2) sc_lowest_terms.nd rfl (.inl rfl) (pe_df D_common_divisor (hr.mono (by decide)) (by rfl) (pa_cons (pv 0) (pa_cons (pv 1) pa_nil))))
      (pss_one (ps_ret (pe_tup (pa_cons (pe_op op_fdivW (pv 0) (pv 2)) (pa_cons (pe_op op_fdivW (pv 1) (pv 2)) pa_nil)))))), ?_⟩
    have g0 : 0 < gc t b := gc_pos2 tb
    have gs : Sm 4000 (gc t b) := gc_sm tb ts bs
    refine ⟨_, rfl, _, rfl, t, b, rfl, ?_⟩
    refine ⟨_, rfl, _, rfl, _, _, rfl, rfl, dvw g0 gs, _, rfl, _, rfl, _, _, rfl, rfl, dvw g0 gs, (by show 2 ≤ sizeLine; decide), fun p hp => ?_⟩
    exact k _ _ (same_upd hp) hp upd_same
abbrev s_lowest_pair : Stmt := top 16
theorem sc_lowest_pair : FnScope ["fraction_or_open", "top", "bottom"] ["fraction_or_open"] (defScope s_lowest_pair) := ⟨rfl, rfl, rfl, by decide +kernel, rfl, by decide +kernel, by decide +kernel⟩

theorem ok_lowp {f : Addr} {fd : FuncData} (F : Fun K "lowest_pair" "lowest_pair" s_lowest_pair f fd) (D_pair_of : Df P w K mg base 2 "pair_of" ["fraction_or_open"] spPairOf) (D_lowest_terms : Df P w K mg base 2 "lowest_terms" ["top", "bottom"] spLow) : FnOk P w K mg base CX0 3 f fd ["fraction_or_open"] spLowP := by
  refine F.ok sc_lowest_pair (fun vs H Q E h => ?_) (fun cdv A outer s H vs Q E hr h => ?_)
  · obtain ⟨v, e, rfl, _⟩ := h
    rfl
  · obtain ⟨v, e, rfl, hv, ep, e1, e2, k⟩ := h
    refine ⟨_, (pss_cons (ps_asg (pe_df D_pair_of (hr.mono (by decide)) (by rfl) (pa_cons (pv 0) pa_nil)) (pg_tup rfl (pgs_cons (pg_name (i := 1) sc_lowest_pair.nd rfl (.inl rfl)) (pgs_cons (pg_name (i := 2) sc_lowest_pair.nd rfl (.inl rfl)) pgs_nil))))
      (pss_one (ps_ret (pe_df D_lowest_terms (hr.mono (by decide)) (by rfl) (pa_cons (pv 1) (pa_cons (pv 2) pa_nil)))))), ?_⟩
    rcases hv with ⟨i, rfl, rfl⟩ | ⟨p, rfl, hp⟩
    · refine ⟨_, rfl, .inl ⟨i, rfl, fun H1 t s1 nt ht => ?_⟩⟩
      refine ⟨t, _, rfl, SqT.of ht, rfl, _, _, rfl, _, _, rfl, rfl, ?_⟩
      exact ⟨_, rfl, _, rfl, _, _, rfl, ep, e1, e2, fun H2 t2 s2 nt2 ht2 => k _ t2 (s1.trans s2) (s1.free nt2) ht2⟩
    · refine ⟨_, rfl, .inr ⟨p, _, rfl, hp, ?_⟩⟩
      refine ⟨p, _, rfl, SqT.of hp, rfl, _, _, rfl, _, _, rfl, rfl, ?_⟩
      exact ⟨_, rfl, _, rfl, _, _, rfl, ep, e1, e2, fun H2 t2 s2 nt2 ht2 => k _ t2 s2 nt2 ht2⟩
end
end RL

set_option maxHeartbeats 1000000
/-! for i, x in enumerate(t), t a tuple. -/
namespace RL
open PySem L2 PySem.Spec PyProof.Rows
open AutoSeq1 (wpAny_loadPart')
theorem meets_enumerate_newT (l : Addr) (items : Array Value) (n : Nat) (dct : Option Addr) (sl : Array (Option Value)) :
    Meets (Builtin.«enumerate.__new__» ⟨[.type "enumerate", .ref l], []⟩) (fun _ R s => s.heap.get? l = some { cls := .type "tuple", dict := dct, data := .seq items n, slots := sl } ∧
      R (.ok (.ret (.ref (s.heap.push { cls := .type "tuple_iterator", data := .fields #[.ref l, .int 0 0] }).objs.size)))
        { s with heap := (s.heap.push { cls := .type "tuple_iterator", data := .fields #[.ref l, .int 0 0] }).push { cls := .type "enumerate", data := .fields #[.none, .bool false, .ref s.heap.objs.size, rawInt 0, .none, .none] } }) :=
  .of_wp fun prog w A R s h => by
    obtain ⟨hp, g, d, tk, os⟩ := s; obtain ⟨hl, h⟩ := h
    have hsub := sub_enumerate
    have hL : Heap.IsTuple (Shared.heap ⟨hp, g, d, tk, os⟩) l items := ⟨_, hl, rfl, n, rfl⟩
    wp_walk using wpAny_loadPart' hl
    refine wpAny_stack_any fun st => wpAny_pure ?_
    split
    · rename_i c _ _ _ _ _
      cases (c == Value.type "enumerate")
      · wp_walk using wpAny_loadPart' hl, wpAny_pyIter_tuple hL
        exact ⟨_, rfl, h⟩
      · wp_walk using wpAny_loadPart' hl, wpAny_pyIter_tuple hL
        exact ⟨_, rfl, h⟩
    · wp_walk using wpAny_loadPart' hl, wpAny_pyIter_tuple hL
      exact ⟨_, rfl, h⟩
section
variable {prog : Program} {w : World} {A : Around} {E : Value → Shared → Prop} {s : Shared}
theorem call_enumerate_tuple {l : Addr} {items : Array Value} {Q : Value → Shared → Prop} (hL : s.heap.IsTuple l items)
    (h : ∀ h', IsEnum h' (s.heap.objs.size + 1) s.heap.objs.size 0 .none → h'.IsTupleIter s.heap.objs.size l 0 → h'.objs.size = s.heap.objs.size + 2 →
      (∀ b o, s.heap.get? b = some o → h'.get? b = some o) → Q (.ref (s.heap.objs.size + 1)) { s with heap := h' }) :
    wpAny (model prog w) A (call (.type "enumerate") [.ref l]) Q E s := by
  obtain ⟨⟨c, dct, dt, sl⟩, hl, hc, n, hd⟩ := hL
  replace hc : c = .type "tuple" := hc
  replace hd : dt = .seq items n := hd
  subst hc hd
  refine callType_new F.called_enumerate (by decide) (F.typeCall_enumerate_1 _) (F.newCall_enumerate_1 _) (fun obj => F.args_object_init_2 obj _) F.entry_enumerate_new
    (meets_enumerate_newT l items n dct sl) ⟨hl, ?_⟩
  have hz : (s.heap.push { cls := .type "tuple_iterator", data := .fields #[.ref l, .int 0 0] }).objs.size = s.heap.objs.size + 1 := Heap.size_push ..
  show _ ∧ _
  rw [hz]
  have he : IsEnum ((s.heap.push { cls := .type "tuple_iterator", data := .fields #[.ref l, .int 0 0] }).push
      { cls := .type "enumerate", data := .fields #[.none, .bool false, .ref s.heap.objs.size, rawInt 0, .none, .none] }) (s.heap.objs.size + 1) s.heap.objs.size 0 .none := by
    have := Heap.get?_push_size (s.heap.push { cls := .type "tuple_iterator", data := .fields #[.ref l, .int 0 0] })
      (o := { cls := .type "enumerate", data := .fields #[.none, .bool false, .ref s.heap.objs.size, rawInt 0, .none, .none] }) rfl
    rw [hz] at this; exact this
  refine ⟨⟨_, he, rfl⟩, h _ he ⟨_, Heap.get?_push_of_some _ (Heap.get?_push_size _ rfl), rfl, rfl⟩ (by rw [Heap.size_push, hz]) fun b o x => Heap.get?_push_of_some _ (Heap.get?_push_of_some _ x)⟩
end
/-- the tuple at a as it stands at each turn, each item in a new pair -/
def IteT (K : PySem.W.Frag) (a : Addr) : It :=
  ⟨fun i H => ∃ (xs : List V) (x : V), SqT K H a xs ∧ xs[i]? = some x, fun i H v H' => ∃ T x, v = .ref T ∧ H T = none ∧ H' = upd H T (.tup [.int (i : Nat), x]) ∧ ∀ xs, SqT K H a xs → xs[i]? = some x, fun i H => ∃ xs : List V, SqT K H a xs ∧ xs.length = i⟩
theorem turn_enumT {P : Program} {w : World} {K : PySem.W.Frag} {elts : List Expr} {kk : Nat} {tpos : Pos} (a e it : Addr) :
    Turn P w K (.Tuple elts kk tpos) (IteT K a) [e, it] e (fun i h => (∃ old, IsEnum h e it ((i : Nat) : Int) old) ∧ h.IsTupleIter it a i ∧ e ≠ it ∧ a ≠ it ∧ a ≠ e) where
  mem := by simp
  obj := fun i h st b hb => by
    obtain ⟨⟨old, he⟩, ⟨o, ho, hc, hd⟩, _⟩ := st
    have e' : b = e ∨ b = it := by simpa using hb
    rcases e' with z | z
    · rw [z]; exact ⟨_, he, fun v q => nomatch q⟩
    · rw [z]; exact ⟨o, ho, fun v q => by rw [hd] at q; cases q⟩
  keep := fun i h h' st k => let ⟨⟨old, he⟩, hi, hne⟩ := st; ⟨⟨old, k e (by simp) _ he⟩, hi.at fun o q => k it (by simp) o q, hne⟩
  item := by
    intro X hP hw hK hc i pins s σ H E I hf st hg
    subst hP hw hK
    obtain ⟨⟨old, he⟩, hit, hne, hai, hae⟩ := st
    obtain ⟨xs, x, hq, hx⟩ := hg
    obtain ⟨its, rv, p, hz⟩ := I.tuple hq
    obtain ⟨u, hu, ru⟩ := rv.get hx
    have hel : e < s.heap.objs.size := Heap.lt_size he
    have hil : it < s.heap.objs.size := by obtain ⟨_, q, _⟩ := hit; exact Heap.lt_size q
    have hi : i < its.toArray.size := by
      have := (List.getElem?_eq_some_iff.mp hu).1
      simpa using this
    refine wpAny_pyNext_enum_itemD (Draws.tuple (A := X.A.in1) (I.ok.hd hc) it a hai its.toArray) he ⟨hit, p⟩ hi hne (by simp [hne, Ne.symm hae]) fun x' h' tk hPx ho st' hT hsz hk => ?_
    have ex : x' = u := by
      have h1 : its.toArray[i]? = some u := by simpa using hu
      rw [h1] at hPx
      exact (Option.some.inj hPx).symm
    subst ex
    refine ⟨_, rfl, wpAny_letOwnedTupleGo_enum (s := { s with heap := h', toks := tk + 1 }) ho fun h'' he' sb => ?_⟩
    have hT2 : h''.get? s.heap.objs.size = some { cls := .type "tuple", data := .seq #[.int i tk, x'] } := (sb.2 _ (Nat.ne_of_gt hel)).trans hT
    have new : ObjOk X.prog X.w (upd H s.heap.objs.size (.tup [.int (i : Nat), x])) h'' s.heap.objs.size (.tup [.int (i : Nat), x]) :=
      ⟨by show 2 ≤ sizeLine; decide, [.int i tk, x'], .cons ⟨_, rfl⟩ (.cons ru .nil), ⟨_, hT2, rfl, _, rfl⟩⟩
    have I1 : Inv X pins σ (upd H s.heap.objs.size (.tup [.int (i : Nat), x])) { s with heap := h'', toks := tk + 1 } :=
      I.turnedNew (ch := [e, it]) (fun b ob hb q => (sb.2 b (fun z => hb (by simp [z]))).trans (hk b ob (fun z => hb (by simp [z])) (fun z => hb (by simp [z])) q)) hf (Nat.le_refl _) new
    refine ⟨.ref s.heap.objs.size, _, I1, rfl, ⟨_, x, rfl, I.hok.fresh (Nat.le_refl _), rfl, fun ys hy => by rw [I.tuple_inj hy hq]; exact hx⟩, ⟨⟨x', ?_⟩, st'.1.at fun o q => (sb.2 it (Ne.symm hne)).trans q, hne, hai, hae⟩, fun b hb => ?_⟩
    · have e1 : ((i + 1 : Nat) : Int) = (i : Int) + 1 := by omega
      rw [e1]; exact he'
    · have hb' : b < s.heap.objs.size := by
        have e' : b = e ∨ b = it := by simpa using hb
        rcases e' with z | z
        · rw [z]; exact hel
        · rw [z]; exact hil
      rw [upd_ne (Nat.ne_of_lt hb')]
      exact (hf b hb).1
  done := by
    intro X hP hw hK hc i pins s σ H E I hf st hg
    subst hP hw hK
    obtain ⟨⟨old, he⟩, hit, hne, hai, hae⟩ := st
    obtain ⟨xs, hq, hx⟩ := hg
    obtain ⟨its, rv, p, hz⟩ := I.tuple hq
    obtain ⟨f0, f1, f2, f3, f4, f5⟩ := hf it (by simp)
    have hl := rv.length
    have en : its.toArray.size = i := by simp; omega
    have hit' : s.heap.IsTupleIter it a its.toArray.size := by rw [en]; exact hit
    exact wpAny_pyNext_enum_endD (Draws.tuple (A := X.A.in1) (I.ok.hd hc) it a hai its.toArray) he ⟨hit', p⟩ fun h' eb => ⟨rfl, I.turned (t' := s.toks) (fun b o hb q => eb b o hb q) f0 f1 f3 f4 f5⟩
  self := fun A i s Q E st h => let ⟨⟨_, he⟩, _⟩ := st; wpAny_pyIter_enum he h
def iEnumT (K : PySem.W.Frag) (ta : TA) : TI := fun σ H R => ta σ H fun vs H1 => ∃ a xs, vs = [.ref a] ∧ SqT K H1 a xs ∧ R (IteT K a) H1
theorem pi_enumT {X : Cx} {e : Expr} {ta : TA} {p pos tpos : Pos} {elts : List Expr} {kk : Nat} (hg : Gl X "enumerate") (hm : X.mg "enumerate" = none) (ha : PA X [e] ta) (hs : starEach [e] X.env = [(false, eval e X.env)] := by rfl) :
    PI X (.Tuple elts kk tpos) (.Call (.Name "enumerate" p) [e] [] pos) (iEnumT X.K ta) := by
  refine ⟨fun pins s σ H R I h => ?_⟩
  refine Call_ (ld_blt I hg hm boot_enumerate (PyProof.Rows.callWith_type1 (thn (ha.run pos pins s σ H _ I h) fun us s1 ⟨vs, H1, I1, r1, q1⟩ => ?_) hs rfl))
  obtain ⟨a, xs, ex, hq, q⟩ := q1
  subst ex
  cases r1 with
  | cons r rr =>
    cases rr
    cases r
    obtain ⟨its, rv, p', hz⟩ := I1.tuple hq
    have hal : a < s1.heap.objs.size := by obtain ⟨o, ho, _⟩ := id p'; exact Heap.lt_size ho
    refine call_enumerate_tuple p' fun h' he hit hsz hk => wpAny_pyIter_enum he ?_
    have I2 : Inv X pins σ H1 { s1 with heap := h' } := I1.kept (t' := s1.toks) hk
    refine ⟨s1.heap.objs.size + 1, [s1.heap.objs.size + 1, s1.heap.objs.size], _, _, H1, rfl, I2, turn_enumT a (s1.heap.objs.size + 1) s1.heap.objs.size, ⟨⟨.none, he⟩, hit, Nat.succ_ne_self _, Nat.ne_of_lt hal, Nat.ne_of_lt (Nat.lt_succ_of_lt hal)⟩, fun b hb => ?_, q⟩
    have e' : b = s1.heap.objs.size + 1 ∨ b = s1.heap.objs.size := by simpa using hb
    have hle : s1.heap.objs.size ≤ b := by
      rcases e' with z | z
      · rw [z]; exact Nat.le_add_right _ _
      · rw [z]; exact Nat.le_refl _
    exact I1.fpOk hle (I1.hok.fresh hle)
/-- the loop, for a tuple that stands in the heap and whose places are alike by the invariant -/
theorem for_enumT {K : PySem.W.Frag} {a : Addr} {xs : List V} {g : TG} {tb : TS} {D : Ends} {σ : L2.St} {H : Hp} (Pv : Nat → L2.St → Hp → Prop) (h0 : Pv 0 σ H) (hl : ∀ i σ H, i ≤ xs.length → Pv i σ H → SqT K H a xs)
    (hs : ∀ i x σ H T, xs[i]? = some x → Pv i σ H → H T = none → g (.ref T) σ (upd H T (.tup [.int (i : Nat), x])) fun σ2 H2 => tb { D with nx := Pv (i + 1), ct := Pv (i + 1), bk := D.nx } σ2 H2) (hd : ∀ σ H, Pv xs.length σ H → D.nx σ H) :
    ∃ W : Nat → Nat → L2.St → Hp → Prop, (∃ m, W 0 m σ H) ∧ ∀ i m σ H, W i m σ H →
      ((IteT K a).stop i H ∧ D.nx σ H) ∨ ((IteT K a).go i H ∧ ∃ N : L2.St → Hp → Prop, (∀ σ' H', N σ' H' → ∃ m', m' < m ∧ W (i + 1) m' σ' H') ∧ ∀ x H', (IteT K a).yld i H x H' → g x σ H' fun σ2 H2 => tb { D with nx := N, ct := N, bk := D.nx } σ2 H2) := by
  refine ⟨fun i m σ H => m = xs.length - i ∧ i ≤ xs.length ∧ Pv i σ H, ⟨xs.length, by simp, Nat.zero_le _, h0⟩, ?_⟩
  rintro i m σ H ⟨rfl, hi, p⟩
  have q := hl i σ H hi p
  by_cases hlt : i < xs.length
  · refine .inr ⟨⟨xs, xs[i], q, by simp [hlt]⟩, Pv (i + 1), fun σ' H' p' => ⟨xs.length - (i + 1), by omega, rfl, hlt, p'⟩, fun x H' y => ?_⟩
    obtain ⟨T, x', rfl, nT, rfl, hx⟩ := y
    exact hs i x' σ H T (hx xs q) p nT
  · have : i = xs.length := by omega
    subst this
    exact .inl ⟨⟨xs, q, rfl⟩, hd σ H p⟩
/-- a def by position, as a promise of its arguments alone -/
theorem fnR_mk {P : Program} {w : World} {K : PySem.W.Frag} {mg : Str → Option Value} {base : Heap} {k : Nat} {g : Addr} {fd : FuncData} {ps : List Str} {sp : Sp} (F : FnOk P w K mg base CX0 k g fd ps sp) (hb : Binds K fd ps []) : FnR P w K mg base CX0 k g sp := by
  intro A outer s H us vs Q E hr e0 r h
  have hl : (us ++ []).length = ps.length := by
    rw [List.append_nil, ← r.length]
    exact F.len _ _ _ _ h
  have KX : K.In s.heap := e0.mod.kin.keeps fun b o e => (e0.bs b o e).1
  have hbb := hb s us KX hl
  rw [List.append_nil] at hbb
  exact F.run A outer s H ⟨us, []⟩ us vs Q E hr e0 hbb r h
end RL

namespace RL
open PySem L2
/-! ### the texts of pieces -/
def wd (r : Bool) : Str := if r = true then Str.ofString "rail" else Str.ofString "rung"
def ptx (p : Pc) : Str := wd p.1 ++ Str.ofString " " ++ ts p.2
theorem ptx_dec : ∀ r r' : Bool, ∀ i j : Fin 12, ptx (r, (i.val : Int) + 1) = ptx (r', (j.val : Int) + 1) → r = r' ∧ i = j := by decide +kernel
theorem ptx_free_dec : ∀ r : Bool, ∀ i : Fin 12, 44 ∉ TL.tl (ptx (r, (i.val : Int) + 1)) ∧ (ptx (r, (i.val : Int) + 1)).length ≤ 7 := by decide +kernel
theorem pc_fin {p : Pc} (h : PcOk p) : ∃ i : Fin 12, p = (p.1, (i.val : Int) + 1) := by
  obtain ⟨h1, h2⟩ := h
  refine ⟨⟨(p.2 - 1).toNat, by omega⟩, ?_⟩
  ext
  · rfl
  · dsimp
    omega
theorem ptx_inj {p q : Pc} (hp : PcOk p) (hq : PcOk q) (h : ptx p = ptx q) : p = q := by
  obtain ⟨i, ei⟩ := pc_fin hp
  obtain ⟨j, ej⟩ := pc_fin hq
  rw [ei, ej] at h
  obtain ⟨a, b⟩ := ptx_dec _ _ _ _ h
  rw [ei, ej, a, b]
theorem ptx_free {p : Pc} (hp : PcOk p) : 44 ∉ TL.tl (ptx p) := by
  obtain ⟨i, ei⟩ := pc_fin hp
  rw [ei]
  exact (ptx_free_dec _ _).1
theorem ptx_len {p : Pc} (hp : PcOk p) : (ptx p).length ≤ 7 := by
  obtain ⟨i, ei⟩ := pc_fin hp
  rw [ei]
  exact (ptx_free_dec _ _).2
theorem wd_inj {r r' : Bool} (h : wd r = wd r') : r = r' := by
  revert r r'
  decide +kernel
theorem both {R G : Prop} (f : R → G) (r : R) : G := f r
theorem ne_selfV (v : V) : ¬ (!decide (v = v)) = true := by
  rw [decide_eq_true rfl]
  decide
/-! ### rows in the heap -/
def PieceAt (H : Hp) (v : V) (p : Pc) : Prop := ∃ t, v = .ref t ∧ H t = some (.tup [.str (wd p.1), .int p.2])
def PiecesAt (H : Hp) (vs : List V) (r : List Pc) : Prop := vs.length = r.length ∧ ∀ (i : Nat) (p : Pc), r[i]? = some p → ∃ v, vs[i]? = some v ∧ PieceAt H v p
theorem PieceAt.same {H H' : Hp} {v : V} {p : Pc} (h : PieceAt H v p) (s : Same H H') : PieceAt H' v p := by
  obtain ⟨t, e, ht⟩ := h
  exact ⟨t, e, s _ _ ht⟩
theorem PiecesAt.same {H H' : Hp} {vs : List V} {r : List Pc} (h : PiecesAt H vs r) (s : Same H H') : PiecesAt H' vs r :=
  ⟨h.1, fun i p hp => let ⟨v, hv, q⟩ := h.2 i p hp; ⟨v, hv, q.same s⟩⟩
theorem PieceAt.but {H H' : Hp} {x : Addr} {v : V} {p : Pc} (h : PieceAt H v p) (s : But x H H') (hx : ∀ xs, H x ≠ some (.tup xs)) : PieceAt H' v p := by
  obtain ⟨t, e, ht⟩ := h
  refine ⟨t, e, s _ _ ?_ ht⟩
  rintro rfl
  exact hx _ ht
theorem PiecesAt.but {H H' : Hp} {x : Addr} {vs : List V} {r : List Pc} (h : PiecesAt H vs r) (s : But x H H') (hx : ∀ xs, H x ≠ some (.tup xs)) : PiecesAt H' vs r :=
  ⟨h.1, fun i p hp => let ⟨v, hv, q⟩ := h.2 i p hp; ⟨v, hv, q.but s hx⟩⟩
theorem PiecesAt.at_ {H : Hp} {vs : List V} {r : List Pc} (h : PiecesAt H vs r) {i : Nat} {v : V} (hv : vs[i]? = some v) : ∃ p, r[i]? = some p ∧ PieceAt H v p := by
  have hi : i < r.length := by
    rw [← h.1]
    exact (List.getElem?_eq_some_iff.mp hv).1
  obtain ⟨w, hw, q⟩ := h.2 i r[i] (List.getElem?_eq_getElem hi)
  rw [hv] at hw
  cases hw
  exact ⟨_, List.getElem?_eq_getElem hi, q⟩
theorem RowOk.at_ {r : List Pc} (h : RowOk r) {i : Nat} {p : Pc} (hp : r[i]? = some p) : PcOk p := h p (List.mem_of_getElem? hp)
structure Txt3 (K : PySem.W.Frag) (mg : Str → Option Value) (tG t1 t2 t3 : Tok) (aO aW J C : Addr) : Prop extends Txt2 K mg tG aO where
  mgOh : mg "MOST_OHMS" = some (.int 12 t1)
  mgPi : mg "MOST_PIECES" = some (.int 4 t2)
  mgJo : mg "MOST_JOINED" = some (.int 8 t3)
  mgW : mg "WORDS" = some (.ref aW)
  wds : ∃ (o : Obj) (its : Array Value) (n : Nat), K.lookup aW = some o ∧ o.cls = .type "tuple" ∧ o.data = .seq its n ∧ its.size ≤ sizeLine ∧ Vals [.str (Str.ofString "rail"), .str (Str.ofString "rung")] its.toList
  mgJ : mg "JoinedRow" = some (.ref J)
  mgC : mg "Pattern" = some (.ref C)
  clJ : Cls K J
  nJ : NoAttr K J "row"
  caJ : PySem.W.findIn K (.ref J) "__class__" = some (some (.builtin "object.__class__"))
  cnJ : PySem.W.specialIn K (.builtin "object.__class__") "__get__" = some (some (.builtin "getset_descriptor.__get__"))
  ctJ : PySem.W.takesIn K (.builtin "object.__class__") = some true
  cmJ : PySem.W.mroIn K J (.type "object") = some true
  isJ : PySem.W.kitOne K (.ref J) (.ref J) = some true
  ktJ : PySem.W.kitOne K (.type "tuple") (.ref J) = some false
  cl : Cls K C
  nRow : NoAttr K C "row"
  nMat : NoAttr K C "matrix"
  nScl : NoAttr K C "scale"
  nFour : NoAttr K C "four"
/-! ### promises -/
def spJ (J : Addr) : Sp := fun vs H Q _ => ∃ (x dx : Addr) (v : V), vs = [.ref x, v] ∧ H x = some (.ins J dx []) ∧ Q .non (upd H x (.ins J dx [("row", v)]))
def spIsPiece : Sp := fun vs H Q _ => ∃ (v : V) (p : Pc), vs = [v] ∧ PieceAt H v p ∧ PcOk p ∧ Q (.bl true) H
def spChk (J : Addr) : Sp := fun vs H Q _ => ∃ p : Addr, vs = [.ref p] ∧ ((∃ j dj q, H p = some (.tup [.ref j]) ∧ H j = some (.ins J dj [("row", .ref q)]) ∧ Q (.ref q) H) ∨
  (∃ ws r, H p = some (.tup ws) ∧ PiecesAt H ws r ∧ RowOk r ∧ 1 ≤ r.length ∧ r.length ≤ 4 ∧ ∀ H', Same H H' → Q (.ref p) H'))
def MatT (m : Mx) : List V := [.int m.a, .int m.b, .int m.c, .int m.d]
def spMat : Sp := fun vs H Q _ => ∃ (q : Addr) (ws : List V) (r : List Pc), vs = [.ref q] ∧ H q = some (.tup ws) ∧ PiecesAt H ws r ∧ RowOk r ∧ r.length ≤ 8 ∧
  ∀ H' p m, Same H H' → H' p = some (.tup [.ref m, .int (sclR r)]) → H' m = some (.tup (MatT (matR r))) → H p = none → H m = none → Q (.ref p) H'
def spShown : Sp := fun vs H Q _ => ∃ (a b : Addr) (m : Mx) (e : Int × Int), vs = [.ref a, .ref b] ∧ H a = some (.tup (MatT m)) ∧ H b = some (.tup [.int e.1, .int e.2]) ∧ MxSm 3000 m ∧ Sm 4000 e.1 ∧ Sm 4000 e.2 ∧
  ∀ H' p, Same H H' → H p = none → H' p = some (.tup [.int (m.app e).1, .int (m.app e).2]) → Q (.ref p) H'
def spPtx : Sp := fun vs H Q _ => ∃ p : Pc, vs = [.str (wd p.1), .int p.2] ∧ PcOk p ∧ Q (.str (ptx p)) H
def spPwt : Sp := fun vs H Q _ => ∃ p : Pc, vs = [.str (ptx p)] ∧ PcOk p ∧ ∀ H' t, Same H H' → H t = none → H' t = some (.tup [.str (wd p.1), .int p.2]) → Q (.ref t) H'
section
variable {P : Program} {w : World} {K : PySem.W.Frag} {mg : Str → Option Value} {base : Heap} {tG t1 t2 t3 : Tok} {aO aW J C : Addr}
abbrev s_JoinedRow_init : Stmt := inClass (top 46) 0
theorem sc_JoinedRow_init : FnScope ["self", "row"] ["self", "row"] (defScope s_JoinedRow_init) := ⟨rfl, rfl, rfl, by decide +kernel, rfl, by decide +kernel, by decide +kernel⟩

theorem ok_join {f : Addr} {fd : FuncData} (F : Fun K "__init__" "JoinedRow.__init__" s_JoinedRow_init f fd) (T : Txt3 K mg tG t1 t2 t3 aO aW J C) : FnOk P w K mg base CX0 1 f fd ["self", "row"] (spJ J) := by
  refine F.ok sc_JoinedRow_init (fun vs H Q E h => ?_) (fun cdv A outer s H vs Q E hr h => ?_)
  · obtain ⟨x, dx, v, rfl, _⟩ := h
    rfl
  · obtain ⟨x, dx, v, rfl, hx, k⟩ := h
    refine ⟨_, (pss_one (ps_fld (pv 0) (pv 1) rfl)), ?_⟩
    exact ⟨_, rfl, _, rfl, x, J, dx, _, rfl, hx, T.clJ, T.nJ, (by show 0 < 1000; decide), k⟩
abbrev s_is_piece : Stmt := top 49
theorem sc_is_piece : FnScope ["value", "word", "ohms"] ["value"] (defScope s_is_piece) := ⟨rfl, rfl, rfl, by decide +kernel, rfl, by decide +kernel, by decide +kernel⟩

theorem ok_ispiece {f : Addr} {fd : FuncData} (F : Fun K "is_piece" "is_piece" s_is_piece f fd) (T : Txt3 K mg tG t1 t2 t3 aO aW J C) (D_is_integer_within : Df P w K mg base 2 "is_integer_within" ["value", "least", "most"] spWithin) : FnOk P w K mg base CX0 3 f fd ["value"] spIsPiece := by
  refine F.ok sc_is_piece (fun vs H Q E h => ?_) (fun cdv A outer s H vs Q E hr h => ?_)
  · obtain ⟨v, p, rfl, _⟩ := h
    rfl
  · obtain ⟨v, p, rfl, ⟨t, rfl, ht⟩, ⟨p1, p2⟩, k⟩ := h
    refine ⟨_, (pss_cons (ps_if (PW.pt (pw_or (pt_not (pt_val (pe_callB call_isi (by rfl) T.isinstance (by decide +kernel) (pa_cons (pv 0) (pa_cons (pe_bltn (v := .ty "tuple") (by rfl) T.tuple_ (by decide +kernel) rfl) pa_nil))))) (pw_or1 (pt_cmpR op_ne (pe_callB call_len_seq (by rfl) T.len (by decide +kernel) (pa_cons (pv 0) pa_nil)) pe_int (nomark _))))) (pss_one (ps_ret pe_bl)) pss_nil)
      (pss_cons (ps_asg (pv 0) (pg_tup rfl (pgs_cons (pg_name (i := 1) sc_is_piece.nd rfl (.inl rfl)) (pgs_cons (pg_name (i := 2) sc_is_piece.nd rfl (.inl rfl)) pgs_nil))))
      (pss_one (ps_ret (pe_and (pe_callB call_isi (by rfl) T.isinstance (by decide +kernel) (pa_cons (pv 1) (pa_cons (pe_bltn (v := .ty "str") (by rfl) T.str_ (by decide +kernel) rfl) pa_nil))) (pe_and (pe_cmpR op_in_seq (pv 1) (pe_glob (v := .ref aW) rfl T.mgW rfl) (by rfl)) (pe_one (pe_df D_is_integer_within (hr.mono (by decide)) (by rfl) (pa_cons (pv 2) (pa_cons pe_int (pa_cons (pe_glob (v := .int 12) rfl T.mgOh ⟨_, rfl⟩) pa_nil))))))))))), ?_⟩
    refine ⟨_, rfl, _, _, _, _, true, rfl, .ty _, .base (.tup ht), kit_ty (by decide +kernel), true, rfl, iteF ?_⟩
    refine ⟨_, rfl, t, _, rfl, .inr (SqT.of ht), rfl, _, rfl, ite2 (fun e => absurd e (ne_selfV (.int 2))) (fun _ => ?_)⟩
    refine ⟨_, rfl, t, _, rfl, SqT.of ht, rfl, _, _, rfl, _, _, rfl, rfl, ?_⟩
    refine ⟨_, rfl, _, _, _, _, true, rfl, .ty _, .base (.str _), kit_ty (by decide +kernel), true, rfl, iteT ?_⟩
    have hin : inV (V.str (wd p.1)) [.str (Str.ofString "rail"), .str (Str.ofString "rung")] = true := by
      cases p.1 <;> decide +kernel
    refine ⟨_, rfl, aW, _, rfl, .inr (.inr T.wds), rfl, rfl, true, congrArg V.bl hin, iteT ?_⟩
    exact ⟨_, rfl, p.2, 1, 12, rfl, p1, p2, k⟩
abbrev s_checked_row : Stmt := top 48
theorem sc_checked_row : FnScope ["pieces", "at", "piece"] ["pieces"] (defScope s_checked_row) := ⟨rfl, rfl, rfl, by decide +kernel, rfl, by decide +kernel, by decide +kernel⟩

theorem ok_chk {f : Addr} {fd : FuncData} (F : Fun K "checked_row" "checked_row" s_checked_row f fd) (T : Txt3 K mg tG t1 t2 t3 aO aW J C) (D_is_piece : Df P w K mg base 3 "is_piece" ["value"] spIsPiece) : FnOk P w K mg base CX0 4 f fd ["pieces"] (spChk J) := by
  refine F.ok sc_checked_row (fun vs H Q E h => ?_) (fun cdv A outer s H vs Q E hr h => ?_)
  · obtain ⟨p, rfl, _⟩ := h
    rfl
  · obtain ⟨p, rfl, h⟩ := h
    refine ⟨_, (pss_cons (ps_if (PW.pt (pw_and (pt_cmpR op_eq (pe_callB call_len_seq (by rfl) T.len (by decide +kernel) (pa_cons (pv 0) pa_nil)) pe_int (nomark _)) (pw_and1 (pt_val (pe_callB call_isi (by rfl) T.isinstance (by decide +kernel) (pa_cons (pe_ix ix_tup (pv 0) pe_int (fun _ _ => rfl)) (pa_cons (pe_glob (v := .ref J) rfl T.mgJ rfl) pa_nil))))))) (pss_one (ps_ret (pe_fld (pe_ix ix_tup (pv 0) pe_int (fun _ _ => rfl)) rfl))) pss_nil)
      (pss_cons (ps_if (PW.pt (pw_or (pt_cmpR op_lt (pe_callB call_len_seq (by rfl) T.len (by decide +kernel) (pa_cons (pv 0) pa_nil)) pe_int (nomark _)) (pw_or1 (pt_cmpR op_gt (pe_callB call_len_seq (by rfl) T.len (by decide +kernel) (pa_cons (pv 0) pa_nil)) (pe_glob (v := .int 4) rfl T.mgPi ⟨_, rfl⟩) (nomark _))))) (pss_one ps_never) pss_nil)
      (pss_cons (ps_for PassesOwn.never rfl (pi_enumT (by rfl) T.enumerate (pa_cons (pv 0) pa_nil)) (pg_tup rfl (pgs_cons (pg_name (i := 1) sc_checked_row.nd rfl (.inl rfl)) (pgs_cons (pg_name (i := 2) sc_checked_row.nd rfl (.inl rfl)) pgs_nil))) (pss_one (ps_if (pt_not (pt_val (pe_df D_is_piece (hr.mono (by decide)) (by rfl) (pa_cons (pv 2) pa_nil)))) (pss_one ps_never) pss_nil)))
      (pss_one (ps_ret (pv 0)))))), ?_⟩
    rcases h with ⟨j, dj, q, hp, hj, k⟩ | ⟨ws, r, hp, hw, hok, l1, l4, k⟩
    · refine ⟨_, rfl, p, _, rfl, .inr (SqT.of hp), rfl, _, rfl, ite2 (fun _ => ?_) (fun e => absurd (decide_eq_true rfl) e)⟩
      refine ⟨_, rfl, p, _, _, _, rfl, rfl, SqT.of hp, atI_nat (j := 0) rfl, _, _, _, _, true, rfl, .own J, .base (.ins hj T.clJ T.caJ T.cnJ T.ctJ T.cmJ), T.isJ, true, rfl, iteT ?_⟩
      exact ⟨_, rfl, p, _, _, _, rfl, rfl, SqT.of hp, atI_nat (j := 0) rfl, j, J, dj, _, _, rfl, hj, T.clJ, T.nJ, rfl, k⟩
    · have lw : ws.length = r.length := hw.1
      refine both (fun rest => ⟨_, rfl, p, _, rfl, .inr (SqT.of hp), rfl, _, rfl, ite2 (fun e => ?_) (fun _ => rest)⟩) ?_
      · have e1 : ws.length = 1 := by
          have := V.int.inj (of_decide_eq_true e)
          omega
        obtain ⟨t, et, ht⟩ := (hw.2 0 r[0] (List.getElem?_eq_getElem (by omega)))
        obtain ⟨a, rfl, ha⟩ := ht
        refine ⟨_, rfl, p, _, _, _, rfl, rfl, SqT.of hp, atI_nat (j := 0) et, _, _, _, _, false, rfl, .own J, .base (.tup ha), T.ktJ, false, rfl, iteF rest⟩
      refine ⟨_, rfl, p, _, rfl, .inr (SqT.of hp), _, _, rfl, rfl, _, rfl, ite2 (fun e => ?_) (fun _ => ?_)⟩
      · have := of_decide_eq_true e
        omega
      refine ⟨_, rfl, p, _, rfl, .inr (SqT.of hp), _, _, rfl, rfl, _, rfl, ite2 (fun e => ?_) (fun _ => ?_)⟩
      · have := of_decide_eq_true e
        omega
      refine ⟨_, rfl, p, _, rfl, SqT.of hp, ?_⟩
      refine for_enumT (K := K) (a := p) (xs := ws) (fun i σ H' => Same H H' ∧ ∃ v1 v2, σ = [some (.ref p), v1, v2]) ⟨Same.refl _, none, none, rfl⟩ (fun i σ H' _ h => SqT.of (h.1 _ _ hp)) ?_ ?_
      · rintro i x σ H' T0 hx ⟨sm, v1, v2, rfl⟩ nT
        refine ⟨T0, _, rfl, SqT.of upd_same, rfl, _, _, rfl, _, _, rfl, rfl, ?_⟩
        obtain ⟨pc, hpc, hx'⟩ := hw.at_ hx
        have s2 := sm.trans (same_upd (o := .tup [.int (i : Nat), x]) nT)
        exact ⟨_, rfl, _, pc, rfl, hx'.same s2, hok.at_ hpc, true, rfl, iteF ⟨s2, _, _, rfl⟩⟩
      · rintro σ H' ⟨sm, v1, v2, rfl⟩
        exact ⟨_, rfl, k _ sm⟩
abbrev s_matrix_and_scale : Stmt := top 50
theorem sc_matrix_and_scale : FnScope ["row", "a", "b", "c", "d", "scale", "word", "ohms"] ["row"] (defScope s_matrix_and_scale) := ⟨rfl, rfl, rfl, by decide +kernel, rfl, by decide +kernel, by decide +kernel⟩

theorem ok_mat {f : Addr} {fd : FuncData} (F : Fun K "matrix_and_scale" "matrix_and_scale" s_matrix_and_scale f fd) : FnOk P w K mg base CX0 1 f fd ["row"] spMat := by
  refine F.ok sc_matrix_and_scale (fun vs H Q E h => ?_) (fun cdv A outer s H vs Q E hr h => ?_)
  · obtain ⟨q, ws, r, rfl, _⟩ := h
    rfl
  · obtain ⟨q, ws, r, rfl, hq, hw, hok, l8, k⟩ := h
    refine ⟨_, (pss_cons (ps_asg (pe_tup (pa_cons pe_int (pa_cons pe_int (pa_cons pe_int (pa_cons pe_int pa_nil))))) (pg_tup rfl (pgs_cons (pg_name (i := 1) sc_matrix_and_scale.nd rfl (.inl rfl)) (pgs_cons (pg_name (i := 2) sc_matrix_and_scale.nd rfl (.inl rfl)) (pgs_cons (pg_name (i := 3) sc_matrix_and_scale.nd rfl (.inl rfl)) (pgs_cons (pg_name (i := 4) sc_matrix_and_scale.nd rfl (.inl rfl)) pgs_nil))))))
      (pss_cons (ps_set (i := 5) sc_matrix_and_scale.nd rfl (.inl rfl) pe_int)
      (pss_cons (ps_for PassesOwn.never rfl (pi_tup (pv 0)) (pg_tup rfl (pgs_cons (pg_name (i := 6) sc_matrix_and_scale.nd rfl (.inl rfl)) (pgs_cons (pg_name (i := 7) sc_matrix_and_scale.nd rfl (.inl rfl)) pgs_nil))) (pss_one (ps_if (pt_cmpR op_eq (pv 6) pe_str (nomark _)) (pss_one (ps_par (by rfl) sc_matrix_and_scale.nd (i := 2) (j := 4) rfl rfl (by decide) rfl rfl (pa_cons (pe_op op_add (pe_op op_mulX (pv 1) (pv 7)) (pv 2)) (pa_cons (pe_op op_add (pe_op op_mulX (pv 3) (pv 7)) (pv 4)) pa_nil)) (by rfl))) (pss_cons (ps_asg (pe_tup (pa_cons (pe_op op_add (pe_op op_mulX (pv 1) (pv 7)) (pv 2)) (pa_cons (pe_op op_mulX (pv 2) (pv 7)) (pa_cons (pe_op op_add (pe_op op_mulX (pv 3) (pv 7)) (pv 4)) (pa_cons (pe_op op_mulX (pv 4) (pv 7)) pa_nil))))) (pg_tup rfl (pgs_cons (pg_name (i := 1) sc_matrix_and_scale.nd rfl (.inl rfl)) (pgs_cons (pg_name (i := 2) sc_matrix_and_scale.nd rfl (.inl rfl)) (pgs_cons (pg_name (i := 3) sc_matrix_and_scale.nd rfl (.inl rfl)) (pgs_cons (pg_name (i := 4) sc_matrix_and_scale.nd rfl (.inl rfl)) pgs_nil))))))
      (pss_one (ps_set (i := 5) sc_matrix_and_scale.nd rfl (.inl rfl) (pe_op op_mulX (pv 5) (pv 7))))))))
      (pss_one (ps_ret (pe_tup (pa_cons (pe_tup (pa_cons (pv 1) (pa_cons (pv 2) (pa_cons (pv 3) (pa_cons (pv 4) pa_nil))))) (pa_cons (pv 5) pa_nil)))))))), ?_⟩
    refine ⟨(by show 4 ≤ sizeLine; decide), fun p0 hp0 => ⟨p0, _, rfl, SqT.of upd_same, rfl, _, _, rfl, _, _, rfl, _, _, rfl, _, _, rfl, rfl, ?_⟩⟩
    have s0 := same_upd (o := .tup [.int 1, .int 0, .int 0, .int 1]) hp0
    refine ⟨_, rfl, q, rfl, ⟨_, SqT.of (s0 _ _ hq)⟩, ?_⟩
    refine for_tup (K := K) (a := q) (xs := ws) (fun i σ H' => Same H H' ∧ ∃ v1 v2, σ = [some (.ref q), some (.int ((r.take i).foldl stepM m1).a), some (.int ((r.take i).foldl stepM m1).b), some (.int ((r.take i).foldl stepM m1).c), some (.int ((r.take i).foldl stepM m1).d), some (.int ((r.take i).foldl stepS 1)), v1, v2]) ⟨s0, none, none, rfl⟩ (fun i σ H' _ h => SqT.of (h.1 _ _ hq)) ?_ ?_
    · rintro i x σ H' hx ⟨sm, v1, v2, rfl⟩
      obtain ⟨pc, hpc, t, rfl, ht⟩ := hw.at_ hx
      have hi : i < r.length := (List.getElem?_eq_some_iff.mp hpc).1
      have tk : r.take (i + 1) = r.take i ++ [pc] := by
        rw [List.take_succ, hpc]
        rfl
      have f1 : (r.take (i + 1)).foldl stepM m1 = stepM ((r.take i).foldl stepM m1) pc := by rw [tk, List.foldl_append]; rfl
      have f2 : (r.take (i + 1)).foldl stepS 1 = stepS ((r.take i).foldl stepS 1) pc := by rw [tk, List.foldl_append]; rfl
      have okt : RowOk (r.take i) := fun z hz => hok z (List.mem_of_mem_take hz)
      have ms : MxSm 41 ((r.take i).foldl stepM m1) := (fold_sm okt m1_sm).mono (by rw [List.length_take]; omega)
      have ss : Sm 41 ((r.take i).foldl stepS 1) := (scl_sm (n := 1) okt (by unfold Sm; decide)).mono (by rw [List.length_take]; omega)
      obtain ⟨sa, sb, sc, sd⟩ := ms
      have po := ohm_sm (hok.at_ hpc)
      have ht' := sm _ _ ht
      rw [f1, f2]
      generalize (r.take i).foldl stepM m1 = m at *
      generalize (r.take i).foldl stepS 1 = sc0 at *
      refine ⟨t, _, rfl, SqT.of ht', rfl, _, _, rfl, _, _, rfl, rfl, ?_⟩
      refine ⟨_, rfl, rfl, _, rfl, ite2 (fun e => ?_) (fun e => ?_)⟩
      · have r1 : pc.1 = true := wd_inj (r' := true) (V.str.inj (of_decide_eq_true e))
        unfold stepM stepS
        rw [if_pos r1, if_pos r1]
        exact ⟨_, rfl, _, rfl, _, _, rfl, rfl, mx sa po, _, rfl, _, _, rfl, rfl, _, rfl, _, rfl, _, _, rfl, rfl, mx sc po, _, rfl, _, _, rfl, rfl, _, _, rfl, sm, _, _, rfl⟩
      · have r1 : ¬ pc.1 = true := fun z => e (decide_eq_true (by rw [z]; rfl))
        unfold stepM stepS
        rw [if_neg r1, if_neg r1]
        refine ⟨_, rfl, _, rfl, _, _, rfl, rfl, mx sa po, _, rfl, _, _, rfl, rfl, _, rfl, _, rfl, _, _, rfl, rfl, mx sb po, _, rfl, _, rfl, _, _, rfl, rfl, mx sc po, _, rfl, _, _, rfl, rfl, _, rfl, _, rfl, _, _, rfl, rfl, mx sd po, (by show 4 ≤ sizeLine; decide), fun p1 hp1 => ⟨p1, _, rfl, SqT.of upd_same, rfl, _, _, rfl, _, _, rfl, _, _, rfl, _, _, rfl, rfl, ?_⟩⟩
        exact ⟨_, rfl, _, rfl, _, _, rfl, rfl, mx ss po, sm.trans (same_upd hp1), _, _, rfl⟩
    · rintro σ H' ⟨sm, v1, v2, rfl⟩
      rw [hw.1, List.take_length]
      refine ⟨_, rfl, _, rfl, _, rfl, _, rfl, (by show 4 ≤ sizeLine; decide), fun m hm => ⟨_, rfl, (by show 2 ≤ sizeLine; decide), fun p hp => ?_⟩⟩
      have s1 := same_upd (o := .tup (MatT (matR r))) hm
      exact k _ p m ((sm.trans s1).trans (same_upd hp)) upd_same (same_upd hp _ _ upd_same) (sm.free (s1.free hp)) (sm.free hm)
abbrev s_shown_before : Stmt := top 51
theorem sc_shown_before : FnScope ["matrix", "pair", "a", "b", "c", "d", "top", "bottom"] ["matrix", "pair"] (defScope s_shown_before) := ⟨rfl, rfl, rfl, by decide +kernel, rfl, by decide +kernel, by decide +kernel⟩

theorem ok_shown {f : Addr} {fd : FuncData} (F : Fun K "shown_before" "shown_before" s_shown_before f fd) : FnOk P w K mg base CX0 1 f fd ["matrix", "pair"] spShown := by
  refine F.ok sc_shown_before (fun vs H Q E h => ?_) (fun cdv A outer s H vs Q E hr h => ?_)
  · obtain ⟨a, b, m, e, rfl, _⟩ := h
    rfl
  · obtain ⟨a, b, m, e, rfl, ha, hb, ⟨sa, sb, sc, sd⟩, s1, s2, k⟩ := h
    refine ⟨_, (pss_cons (ps_asg (pv 0) (pg_tup rfl (pgs_cons (pg_name (i := 2) sc_shown_before.nd rfl (.inl rfl)) (pgs_cons (pg_name (i := 3) sc_shown_before.nd rfl (.inl rfl)) (pgs_cons (pg_name (i := 4) sc_shown_before.nd rfl (.inl rfl)) (pgs_cons (pg_name (i := 5) sc_shown_before.nd rfl (.inl rfl)) pgs_nil))))))
      (pss_cons (ps_asg (pv 1) (pg_tup rfl (pgs_cons (pg_name (i := 6) sc_shown_before.nd rfl (.inl rfl)) (pgs_cons (pg_name (i := 7) sc_shown_before.nd rfl (.inl rfl)) pgs_nil))))
      (pss_one (ps_ret (pe_tup (pa_cons (pe_op op_add (pe_op op_mulX (pv 2) (pv 6)) (pe_op op_mulX (pv 3) (pv 7))) (pa_cons (pe_op op_add (pe_op op_mulX (pv 4) (pv 6)) (pe_op op_mulX (pv 5) (pv 7))) pa_nil))))))), ?_⟩
    refine ⟨_, rfl, a, _, rfl, SqT.of ha, rfl, _, _, rfl, _, _, rfl, _, _, rfl, _, _, rfl, rfl, ?_⟩
    refine ⟨_, rfl, b, _, rfl, SqT.of hb, rfl, _, _, rfl, _, _, rfl, rfl, ?_⟩
    refine ⟨_, rfl, _, rfl, _, _, rfl, rfl, mx sa s1, _, rfl, _, rfl, _, _, rfl, rfl, mx sb s2, _, _, rfl, rfl, _, rfl, _, rfl, _, _, rfl, rfl, mx sc s1, _, rfl, _, rfl, _, _, rfl, rfl, mx sd s2, _, _, rfl, rfl, (by show 2 ≤ sizeLine; decide), fun p hp => ?_⟩
    exact k _ p (same_upd hp) hp upd_same
abbrev s_piece_text : Stmt := top 53
theorem sc_piece_text : FnScope ["word", "ohms"] ["word", "ohms"] (defScope s_piece_text) := ⟨rfl, rfl, rfl, by decide +kernel, rfl, by decide +kernel, by decide +kernel⟩

theorem ok_ptx {f : Addr} {fd : FuncData} (F : Fun K "piece_text" "piece_text" s_piece_text f fd) : FnOk P w K mg base CX0 1 f fd ["word", "ohms"] spPtx := by
  refine F.ok sc_piece_text (fun vs H Q E h => ?_) (fun cdv A outer s H vs Q E hr h => ?_)
  · obtain ⟨p, rfl, _⟩ := h
    rfl
  · obtain ⟨p, rfl, hp, k⟩ := h
    refine ⟨_, (pss_one (ps_ret (pe_joined (PJ.cons (pe_fmt (pv 0)) (PJ.cons pe_str (PJ.cons (pe_fmt (pv 1)) PJ.nil)))))), ?_⟩
    have ww : OkT 4 (wd p.1) := by
      unfold wd
      split
      · exact OkT.of "rail"
      · exact OkT.of "rung"
    have oh : Sm 200 p.2 := (ohm_sm hp).mono (by decide)
    have o1 : OkT 4 (Str.empty ++ wd p.1) := by
      rw [Str.empty_append]
      exact ww
    have o2 := o1.app (OkT.of " ")
    have o3 := o2.app (ts_ok oh)
    refine ⟨_, rfl, .inl ⟨_, rfl, ww.fits, _, rfl, o1.fits, _, rfl, o2.fits, _, rfl, .inr ⟨_, rfl, Nat.lt_trans (log_sm (by decide) oh) (by decide), _, rfl, o3.fits, ?_⟩⟩⟩
    show Q (.str (((Str.empty ++ wd p.1) ++ Str.ofString " ") ++ ts p.2)) H
    rw [Str.empty_append]
    exact k
abbrev s_piece_with_text : Stmt := top 54
theorem sc_piece_with_text : FnScope ["text", "word", "ohms"] ["text"] (defScope s_piece_with_text) := ⟨rfl, rfl, rfl, by decide +kernel, rfl, by decide +kernel, by decide +kernel⟩

theorem ok_pwt {f : Addr} {fd : FuncData} (F : Fun K "piece_with_text" "piece_with_text" s_piece_with_text f fd) (T : Txt3 K mg tG t1 t2 t3 aO aW J C) (D_piece_text : Df P w K mg base 1 "piece_text" ["word", "ohms"] spPtx) : FnOk P w K mg base CX0 2 f fd ["text"] spPwt := by
  refine F.ok sc_piece_with_text (fun vs H Q E h => ?_) (fun cdv A outer s H vs Q E hr h => ?_)
  · obtain ⟨p, rfl, _⟩ := h
    rfl
  · obtain ⟨p, rfl, hp, k⟩ := h
    refine ⟨_, (pss_cons (ps_for PassesOwn.never rfl (pi_tup (pe_glob (v := .ref aW) rfl T.mgW rfl)) (pg_name (i := 1) sc_piece_with_text.nd rfl (.inl rfl)) (pss_one (ps_for PassesOwn.never rfl (pi_range2 rfl T.range (pa_cons pe_int (pa_cons (pe_op op_add (pe_glob (v := .int 12) rfl T.mgOh ⟨_, rfl⟩) pe_int) pa_nil))) (pg_name (i := 2) sc_piece_with_text.nd rfl (.inl rfl)) (pss_one (ps_if (pt_cmpR op_eq (pv 0) (pe_df D_piece_text (hr.mono (by decide)) (by rfl) (pa_cons (pv 1) (pa_cons (pv 2) pa_nil))) (nomark _)) (pss_one (ps_ret (pe_tup (pa_cons (pv 1) (pa_cons (pv 2) pa_nil))))) pss_nil)))))
      (pss_one (ps_ret pe_non))), ?_⟩
    have hW : SqT K H aW [.str (Str.ofString "rail"), .str (Str.ofString "rung")] := .inr T.wds
    refine ⟨aW, rfl, ⟨_, hW⟩, ?_⟩
    refine for_tup (K := K) (a := aW) (xs := [.str (Str.ofString "rail"), .str (Str.ofString "rung")]) (fun i σ H' => H' = H ∧ (∃ v1 v2, σ = [some (.str (ptx p)), v1, v2]) ∧ (1 ≤ i → p.1 = false) ∧ (2 ≤ i → False)) ⟨rfl, ⟨none, none, rfl⟩, by omega, by omega⟩ (fun i σ H' _ h => by rw [h.1]; exact hW) ?_ ?_
    · rintro i x σ H' hx ⟨rfl, ⟨v1, v2, rfl⟩, i1, i2⟩
      obtain ⟨r, rfl, hr1, hr2⟩ : ∃ r : Bool, x = .str (wd r) ∧ (p.1 ≠ r → (1 ≤ i + 1 → p.1 = false)) ∧ (p.1 ≠ r → (2 ≤ i + 1 → False)) := by
        match i, hx with
        | 0, hx =>
          cases hx
          refine ⟨true, rfl, fun z _ => by simpa using z, fun z y => absurd y (by decide)⟩
        | 1, hx =>
          cases hx
          exact ⟨false, rfl, fun z _ => i1 (by decide), fun z _ => z (i1 (by decide))⟩
      refine ⟨_, _, rfl, rfl, 1, 13, rfl, ⟨by decide, by decide, by decide, by decide⟩, ?_⟩
      refine for_range (lo := 1) (n := Int.toNat (13 - 1)) (fun j σ H'' => H'' = H' ∧ (∃ v2, σ = [some (.str (ptx p)), some (.str (wd r)), v2]) ∧ (p.1 = r → (j : Int) < p.2)) ⟨rfl, ⟨_, rfl⟩, fun _ => by have := hp.1; omega⟩ ?_ ?_
      · rintro j σ H'' hj ⟨rfl, ⟨v2, rfl⟩, hjp⟩
        have hj12 : j < 12 := hj
        have hq : PcOk (r, 1 + (j : Int)) := ⟨by dsimp; omega, by dsimp; omega⟩
        refine ⟨_, rfl, _, rfl, _, rfl, (r, 1 + (j : Int)), rfl, hq, rfl, _, rfl, ite2 (fun e => ?_) (fun e => ?_)⟩
        · have e1 : p = (r, 1 + (j : Int)) := ptx_inj hp hq (V.str.inj (of_decide_eq_true e))
          refine ⟨_, rfl, _, rfl, (by show 2 ≤ sizeLine; decide), fun t ht => ?_⟩
          refine k _ t (same_upd ht) ht ?_
          rw [upd_same, e1]
        · refine ⟨rfl, ⟨_, rfl⟩, fun z => ?_⟩
          have := hjp z
          rcases Int.lt_or_le ((j : Int) + 1) p.2 with y | y
          · omega
          · refine absurd (decide_eq_true ?_) e
            have e2 : p = (r, 1 + (j : Int)) := by
              ext
              · exact z
              · show p.2 = 1 + (j : Int)
                omega
            rw [← e2]
      · rintro σ H'' ⟨rfl, ⟨v2, rfl⟩, hjp⟩
        have ne : p.1 ≠ r := fun z => by
          have h1 : (12 : Int) < p.2 := hjp z
          have := hp.2
          omega
        exact ⟨rfl, ⟨_, _, rfl⟩, hr1 ne, hr2 ne⟩
    · rintro σ H' ⟨rfl, _, _, z⟩
      exact (z (by decide)).elim
end
end RL

set_option maxHeartbeats 1000000
namespace RL
open PySem L2 PySem.Spec PyProof.Rows
/-- a def with a star parameter behind one -/
def star1 (sp : Sp) : Sp := fun vs H Q E => ∃ ws rest, vs = ws ++ rest ∧ ws.length = 1 ∧ rest.length ≤ sizeLine ∧ ∀ p, H p = Option.none → sp (ws ++ [V.ref p]) (L2.upd H p (.tup rest)) Q E
theorem okStar {P : Program} {w : World} {K : PySem.W.Frag} {mg : Str → Option Value} {base : Heap} {x qual : Str} {st : Stmt} {f : Addr} {fd : FuncData} {N : List Str} {p1 pv : Str} {k : Nat} {sp : Sp} (F : Fun K x qual st f fd) (S : FnScope N ([p1] ++ [pv]) (defScope st))
    (hb : ∀ (kV doc pm cdv ct : Value) (an : Option Addr) (us rest : List Value), us.length = [p1].length → bindArgs (PySem.W.fnOf x qual (defArgs st) (defBody st) (defScope st) .none kV doc pm an cdv ct) ⟨us ++ rest, []⟩ = (newTuple rest >>= fun t => pure ([p1].zip us ++ [(pv, t)])))
    (hbody : ∀ (cdv : Value) (A : Around) (outer : List Env) (s : Shared) (H : Hp) (vs : List V) (Q : VK) (E : XK), Room k (A.deeper (envOfC qual (defScope st) s.heap.objs.size f cdv)) → sp vs H Q E →
      ∃ t, PSs (cxOf CX0 P w K mg base N qual (defScope st) f cdv A outer s H E).nox (defBody st) t ∧ t { nx := fun _ H' => Q .non H', rt := Q } (start N vs) H) : FnR P w K mg base CX0 (k + 1) f (star1 sp) := by
  obtain ⟨oc, od, kV, doc, pm, an, cdv, ct, osl, rfl, lk, hcd⟩ := F.ex
  exact StX.fn_star (ps := [p1]) lk hcd S StX.cxUp_none (hb kV doc pm cdv ct an) fun A outer s H vs Q E hr hsp => by
    obtain ⟨t, h, q⟩ := hbody cdv A outer s H vs Q E hr hsp
    exact ⟨t, h.nox, q⟩
/-! ### a pattern in the heap -/
def FrAt (H : Hp) (a : Addr) (x s : Int) : Prop := H a = some (.tup [.int (low (x, s)).1, .int (low (x, s)).2])
def PF (q m f : Addr) (s : Int) : List (Str × V) := [("row", .ref q), ("matrix", .ref m), ("scale", .int s), ("four", .ref f)]
def PatAt (C : Addr) (H : Hp) (x : Addr) (r : List Pc) : Prop := ∃ (dx q m f : Addr) (ws : List V) (f1 f2 f3 f4 : Addr), H x = some (.ins C dx (PF q m f (sclR r))) ∧ H q = some (.tup ws) ∧ PiecesAt H ws r ∧ H m = some (.tup (MatT (matR r))) ∧
  H f = some (.tup [.ref f1, .ref f2, .ref f3, .ref f4]) ∧ FrAt H f1 (matR r).a (sclR r) ∧ FrAt H f2 (matR r).b (sclR r) ∧ FrAt H f3 (matR r).c (sclR r) ∧ FrAt H f4 (matR r).d (sclR r)
theorem PatAt.same {C : Addr} {H H' : Hp} {x : Addr} {r : List Pc} (h : PatAt C H x r) (s : Same H H') : PatAt C H' x r := by
  obtain ⟨dx, q, m, f, ws, f1, f2, f3, f4, h1, h2, h3, h4, h5, h6, h7, h8, h9⟩ := h
  exact ⟨dx, q, m, f, ws, f1, f2, f3, f4, s _ _ h1, s _ _ h2, h3.same s, s _ _ h4, s _ _ h5, s _ _ h6, s _ _ h7, s _ _ h8, s _ _ h9⟩
theorem PatAt.but {C : Addr} {H H' : Hp} {x c : Addr} {r : List Pc} (h : PatAt C H x r) (hc : CupAt c H) (s : But c H H') : PatAt C H' x r := by
  obtain ⟨dx, q, m, f, ws, f1, f2, f3, f4, h1, h2, h3, h4, h5, h6, h7, h8, h9⟩ := h
  obtain ⟨u, v, hc, _⟩ := hc
  have st : ∀ {a : Addr} {xs : List V}, H a = some (.tup xs) → H' a = some (.tup xs) := fun {a xs} e => s _ _ (ne_of e hc (by intro z; cases z)) e
  exact ⟨dx, q, m, f, ws, f1, f2, f3, f4, s _ _ (ne_of h1 hc (by intro z; cases z)) h1, st h2, h3.but s (fun xs z => by rw [hc] at z; cases z), st h4, st h5, st h6, st h7, st h8, st h9⟩
theorem str_ne {a b : Str} (h : (a == b) = false) : ¬ a = b := fun z => by
  rw [z] at h
  simp at h
theorem nrm : (("row" : Str) == ("matrix" : Str)) = false := by decide +kernel
theorem nrf : (("row" : Str) == ("four" : Str)) = false := by decide +kernel
theorem nmf : (("matrix" : Str) == ("four" : Str)) = false := by decide +kernel
theorem nmr : (("matrix" : Str) == ("row" : Str)) = false := by decide +kernel
theorem nfr : (("four" : Str) == ("row" : Str)) = false := by decide +kernel
theorem nfm : (("four" : Str) == ("matrix" : Str)) = false := by decide +kernel
theorem wrs : (("row" : Str) == ("scale" : Str)) = false := by decide +kernel
theorem wms : (("matrix" : Str) == ("scale" : Str)) = false := by decide +kernel
theorem wsf : (("scale" : Str) == ("four" : Str)) = false := by decide +kernel
theorem wsr : (("scale" : Str) == ("row" : Str)) = false := by decide +kernel
theorem wsm : (("scale" : Str) == ("matrix" : Str)) = false := by decide +kernel
theorem wfs : (("four" : Str) == ("scale" : Str)) = false := by decide +kernel
theorem putScl (a b v : V) : putF "scale" v [("row", a), ("matrix", b)] = ([("row", a), ("matrix", b), ("scale", v)] : List (Str × V)) := by
  unfold putF
  rw [if_neg (str_ne wrs)]
  unfold putF
  rw [if_neg (str_ne wms)]
  rfl
theorem putM (a v : V) : putF "matrix" v [("row", a)] = ([("row", a), ("matrix", v)] : List (Str × V)) := by
  unfold putF
  rw [if_neg (str_ne nrm)]
  rfl
theorem putFour (a b c v : V) : putF "four" v [("row", a), ("matrix", b), ("scale", c)] = ([("row", a), ("matrix", b), ("scale", c), ("four", v)] : List (Str × V)) := by
  unfold putF
  rw [if_neg (str_ne nrf)]
  unfold putF
  rw [if_neg (str_ne nmf)]
  unfold putF
  rw [if_neg (str_ne wsf)]
  rfl
theorem lkM2 (a b c : V) : ([("row", a), ("matrix", b), ("scale", c)] : List (Str × V)).lookup ("matrix" : Str) = some b := by
  simp [List.lookup, nmr]
theorem lkS2 (a b c : V) : ([("row", a), ("matrix", b), ("scale", c)] : List (Str × V)).lookup ("scale" : Str) = some c := by
  simp [List.lookup, wsr, wsm]
theorem lkR (q m f : Addr) {s : Int} : (PF q m f s).lookup ("row" : Str) = some (.ref q) := by
  simp [PF, List.lookup]
theorem lkM (q m f : Addr) {s : Int} : (PF q m f s).lookup ("matrix" : Str) = some (.ref m) := by
  simp [PF, List.lookup, nmr]
theorem lkSc (q m f : Addr) {s : Int} : (PF q m f s).lookup ("scale" : Str) = some (.int s) := by
  simp [PF, List.lookup, wsr, wsm]
theorem lkF (q m f : Addr) {s : Int} : (PF q m f s).lookup ("four" : Str) = some (.ref f) := by
  simp [PF, List.lookup, nfr, nfm, wfs]
def spPI (C J : Addr) : Sp := fun vs H Q _ => ∃ (x dx p : Addr) (r : List Pc), vs = [.ref x, .ref p] ∧ H x = some (.ins C dx []) ∧ RowOk r ∧ 1 ≤ r.length ∧ r.length ≤ 8 ∧
  ((∃ j dj q ws, H p = some (.tup [.ref j]) ∧ H j = some (.ins J dj [("row", .ref q)]) ∧ H q = some (.tup ws) ∧ PiecesAt H ws r) ∨ (∃ ws, H p = some (.tup ws) ∧ PiecesAt H ws r ∧ r.length ≤ 4)) ∧
  ∀ H', But x H H' → PatAt C H' x r → Q .non H'
def LoadAt (H : Hp) (v : V) (e : Int × Int) : Prop := (∃ i, v = .int i ∧ 0 ≤ i ∧ i ≤ 1000000000000 ∧ e = (i, 1)) ∨ (∃ p, v = .ref p ∧ H p = some (.tup [.int e.1, .int e.2]) ∧ ResP e.1 e.2)
theorem LoadAt.pos {H : Hp} {v : V} {e : Int × Int} (h : LoadAt H v e) : Pos2 e := by
  rcases h with ⟨i, _, h1, h2, rfl⟩ | ⟨p, _, _, h⟩
  · exact ⟨h1, by show (0 : Int) ≤ 1; decide, .inr (by show (0 : Int) < 1; decide)⟩
  · rcases h with ⟨h1, _, h2, _⟩ | ⟨h1, h2⟩
    · exact ⟨h1, by omega, .inr (by omega)⟩
    · exact ⟨by omega, by omega, .inl (by omega)⟩
theorem sm_lt {n : Nat} {x : Int} (h0 : 0 ≤ x) (h : x < 2 ^ n) : Sm n x := by
  unfold Sm
  have e : ((2 ^ n : Nat) : Int) = 2 ^ n := by rw [Int.natCast_pow]; rfl
  omega
theorem LoadAt.sm {H : Hp} {v : V} {e : Int × Int} (h : LoadAt H v e) : Sm 41 e.1 ∧ Sm 41 e.2 := by
  have k : ∀ z : Int, 0 ≤ z → z ≤ 1000000000000 → Sm 41 z := fun z h1 h2 => sm_lt h1 (by
    have e : (2 : Int) ^ 41 = 2199023255552 := by decide
    rw [e]
    omega)
  rcases h with ⟨i, _, h1, h2, rfl⟩ | ⟨p, _, _, h⟩
  · exact ⟨k _ h1 h2, k 1 (by decide) (by decide)⟩
  · rcases h with ⟨h1, h2, h3, h4⟩ | ⟨h1, h2⟩
    · exact ⟨k _ h1 h2, k _ (by omega) h4⟩
    · exact ⟨k _ (by omega) (by omega), k _ (by omega) (by omega)⟩
def spCall (C : Addr) : Sp := fun vs H Q _ => ∃ (x : Addr) (v : V) (r : List Pc) (e : Int × Int), vs = [.ref x, v] ∧ PatAt C H x r ∧ RowOk r ∧ r.length ≤ 8 ∧ LoadAt H v e ∧
  ∀ H' p, Same H H' → H p = none → H' p = some (.tup [.int (low ((matR r).app e)).1, .int (low ((matR r).app e)).2]) → Q (.ref p) H'
def spNum (C : Addr) : Sp := fun vs H Q _ => ∃ (x dx q m f : Addr) (s : Int), vs = [.ref x] ∧ H x = some (.ins C dx (PF q m f s)) ∧ Q (.ref f) H
def spAdd (C : Addr) : Sp := fun vs H Q _ => ∃ (x y : Addr) (r r' : List Pc), vs = [.ref x, .ref y] ∧ PatAt C H x r ∧ PatAt C H y r' ∧ RowOk r ∧ RowOk r' ∧ 1 ≤ r.length ∧ 1 ≤ r'.length ∧ r.length + r'.length ≤ 8 ∧
  ∀ H' z, Same H H' → H z = none → PatAt C H' z (r ++ r') → Q (.ref z) H'
def spTurn (C : Addr) : Sp := fun vs H Q _ => ∃ (x : Addr) (r : List Pc), vs = [.ref x] ∧ PatAt C H x r ∧ RowOk r ∧ 1 ≤ r.length ∧ r.length ≤ 8 ∧ ∀ H' z, Same H H' → H z = none → PatAt C H' z r.reverse → Q (.ref z) H'
def rowTx (r : List Pc) : Str := Txt.join (Str.ofString ", ") (r.map ptx)
def spRead (C : Addr) : Sp := fun vs H Q _ => ∃ r : List Pc, vs = [.str (rowTx r)] ∧ RowOk r ∧ 1 ≤ r.length ∧ r.length ≤ 8 ∧ ∀ H' z, Same H H' → H z = none → PatAt C H' z r → Q (.ref z) H'
structure PatD (P : Program) (w : World) (K : PySem.W.Frag) (mg : Str → Option Value) (base : Heap) (C J f : Addr) : Prop where
  m : Mk K C f
  fn : FnR P w K mg base CX0 5 f (star1 (spPI C J))
structure JoinD (P : Program) (w : World) (K : PySem.W.Frag) (mg : Str → Option Value) (base : Heap) (J f : Addr) (fd : FuncData) : Prop where
  m : Mk K J f
  fn : FnOk P w K mg base CX0 1 f fd ["self", "row"] (spJ J)
  bd : Binds K fd ["self", "row"] []
/-- a new pattern of a row: what is left to be shown behind the row's tuple -/
theorem make_pat {C J : Addr} {H : Hp} {q : Addr} {ws : List V} {r : List Pc} {Q : V → Hp → Prop} (hq : H q = some (.tup ws)) (hw : PiecesAt H ws r) (hok : RowOk r) (l1 : 1 ≤ r.length) (l8 : r.length ≤ 8) (k : ∀ H' z, Same H H' → H z = none → PatAt C H' z r → Q (.ref z) H') :
    ∀ j dj, H j = none → H dj = none → dj ≠ j → spJ J [.ref j, .ref q] (upd (upd H dj (.own j)) j (.ins J dj [])) (fun v H2 => v = .non ∧ ∀ z dz, H2 z = none → H2 dz = none → dz ≠ z →
      star1 (spPI C J) [.ref z, .ref j] (upd (upd H2 dz (.own z)) z (.ins C dz [])) (fun v H3 => v = .non ∧ Q (.ref z) H3) E0) E0 := by
  intro j dj nj ndj nej
  refine ⟨j, dj, .ref q, rfl, upd_same, rfl, fun z dz nz ndz nez => ⟨[.ref z], [.ref j], rfl, rfl, (by show 1 ≤ sizeLine; decide), fun p np => ?_⟩⟩
  -- the heap ahead of the pattern's own
  have s1 : Same H (upd (upd (upd H dj (.own j)) j (.ins J dj [])) j (.ins J dj [("row", .ref q)])) := fun b o e => by
    rw [upd_ne (ne_of_none e nj), upd_ne (ne_of_none e nj), upd_ne (ne_of_none e ndj)]
    exact e
  have hj : (upd (upd (upd H dj (.own j)) j (.ins J dj [])) j (.ins J dj [("row", .ref q)])) j = some (.ins J dj [("row", .ref q)]) := upd_same
  generalize upd (upd (upd H dj (.own j)) j (.ins J dj [])) j (.ins J dj [("row", .ref q)]) = H2 at *
  have s2 : Same H2 (upd (upd H2 dz (.own z)) z (.ins C dz [])) := fun b o e => by
    rw [upd_ne (ne_of_none e nz), upd_ne (ne_of_none e ndz)]
    exact e
  have s3 := s2.trans (same_upd (o := .tup [.ref j]) np)
  have hz : (upd (upd (upd H2 dz (.own z)) z (.ins C dz [])) p (.tup [.ref j])) z = some (.ins C dz []) := by
    rw [upd_ne (ne_of_none (upd_same (H := upd H2 dz (.own z)) (a := z) (o := .ins C dz [])) np), upd_same]
  have s13 := s1.trans s3
  refine ⟨z, dz, p, r, rfl, hz, hok, l1, l8, .inl ⟨j, dj, q, ws, upd_same, s3 _ _ hj, s13 _ _ hq, hw.same s13⟩, fun H' b hP => ⟨rfl, k H' z ?_ (s1.free nz) hP⟩⟩
  intro b' o e
  exact b _ _ (ne_of_none (s1 _ _ e) nz) (s13 _ _ e)
section
variable {P : Program} {w : World} {K : PySem.W.Frag} {mg : Str → Option Value} {base : Heap} {tG t1 t2 t3 : Tok} {aO aW J C fP fJ : Addr} {fdJ : FuncData}
def FrsAt (H : Hp) (vs : List V) (es : List Int) (s : Int) : Prop := vs.length = es.length ∧ ∀ (i : Nat) (e : Int), es[i]? = some e → ∃ t, vs[i]? = some (.ref t) ∧ FrAt H t e s
abbrev s_Pattern_init : Stmt := inClass (top 47) 0
theorem sc_Pattern_init : FnScope ["self", "pieces", "entry"] ["self", "pieces"] (defScope s_Pattern_init) := ⟨rfl, rfl, rfl, by decide +kernel, rfl, by decide +kernel, by decide +kernel⟩

theorem ok_pinit {f : Addr} {fd : FuncData} (F : Fun K "__init__" "Pattern.__init__" s_Pattern_init f fd) (T : Txt3 K mg tG t1 t2 t3 aO aW J C) (D_checked_row : Df P w K mg base 4 "checked_row" ["pieces"] (spChk J)) (D_matrix_and_scale : Df P w K mg base 1 "matrix_and_scale" ["row"] spMat) (D_lowest_terms : Df P w K mg base 2 "lowest_terms" ["top", "bottom"] spLow) :
    FnR P w K mg base CX0 5 f (star1 (spPI C J)) := by
  refine okStar (p1 := "self") (pv := "pieces") F sc_Pattern_init (fun _ _ _ _ _ _ => StX.bind_star1 (B := fun us => bindArgs _ ⟨us, []⟩) (fun _ => rfl) (fun _ _ _ => rfl)) (fun cdv A outer s H vs Q E hr h => ?_)
  obtain ⟨x, dx, p, r, rfl, hx, hok, l1, l8, hp, k⟩ := h
  refine ⟨_, (C8.pss_cut (ps_fld (pv 0) (pe_df D_checked_row (hr.mono (by decide)) (by rfl) (pa_cons (pv 1) pa_nil)) rfl)
      (pss_cons (ps_asg (pe_df D_matrix_and_scale (hr.mono (by decide)) (by rfl) (pa_cons (pe_fld (pv 0) rfl) pa_nil)) (pg_tup rfl (pgs_cons (pg_fld (pv 0)) (pgs_cons (pg_fld (pv 0)) pgs_nil))))
      (pss_one (ps_fld (pv 0) (pe_callTy call_tuple_of (by rfl) T.tuple_ (by decide +kernel) (pa_cons (pe_lc (own := [("entry", 2)]) (g := gName 2) (tt := tYes) rfl sc_Pattern_init.nd (pi_tup (pe_fld (pv 0) rfl)) (blkOk_by (N := ["self", "pieces", "entry"]) (sc := defScope s_Pattern_init) (by decide +kernel)) (fun _ _ _ _ _ => pg_name (i := 2) sc_Pattern_init.nd rfl (Or.inl rfl)) (fun _ _ _ _ _ => pts_nil) (fun _ _ _ _ _ => (pe_df D_lowest_terms (hr.mono (by decide)) (by rfl) (pa_cons (pv 2) (pa_cons (pe_fldK (K := K) (pv 0)) pa_nil))))) pa_nil)) rfl)))), ?_⟩
  -- self.row = ..
  have notT : ∀ {H' : Hp} {fs : List (Str × V)}, H' x = some (.ins C dx fs) → ∀ xs, H' x ≠ some (.tup xs) := fun e xs z => by rw [e] at z; cases z
  refine ⟨fun σ' H' => σ' = [some (.ref x), some (.ref p), none] ∧ ∃ (q : Addr) (ws : List V), But x H H' ∧ H' x = some (.ins C dx [("row", .ref q)]) ∧ H' q = some (.tup ws) ∧ PiecesAt H' ws r, ?_, ?_⟩
  · have set1 : ∀ (H1 : Hp) (q : Addr) (ws : List V), Same H H1 → H1 q = some (.tup ws) → PiecesAt H1 ws r → ∃ (q' : Addr) (ws' : List V), But x H (upd H1 x (.ins C dx [("row", .ref q)])) ∧ (upd H1 x (.ins C dx [("row", .ref q)])) x = some (.ins C dx [("row", .ref q')]) ∧ (upd H1 x (.ins C dx [("row", .ref q)])) q' = some (.tup ws') ∧ PiecesAt (upd H1 x (.ins C dx [("row", .ref q)])) ws' r := fun H1 q ws s1 hq hw => by
      have hx1 := s1 _ _ hx
      have b1 : But x H1 (upd H1 x (.ins C dx [("row", .ref q)])) := But.upd
      exact ⟨q, ws, (But.of s1).trans b1, upd_same, b1 _ _ (ne_of hq hx1 (by intro z; cases z)) hq, hw.but b1 (notT hx1)⟩
    rcases hp with ⟨j, dj, q, ws, h1, h2, h3, h4⟩ | ⟨ws, h1, h2, h3⟩
    · exact ⟨_, rfl, p, rfl, .inl ⟨j, dj, q, h1, h2, _, rfl, x, C, dx, _, rfl, hx, T.cl, T.nRow, (by show 0 < 1000; decide), rfl, set1 H q ws (Same.refl _) h3 h4⟩⟩
    · exact ⟨_, rfl, p, rfl, .inr ⟨ws, r, h1, h2, hok, l1, h3, fun H1 s1 => ⟨_, rfl, x, C, dx, _, rfl, s1 _ _ hx, T.cl, T.nRow, (by show 0 < 1000; decide), rfl, set1 H1 p ws s1 (s1 _ _ h1) (h2.same s1)⟩⟩⟩
  rintro σ' H2 ⟨rfl, q, ws, bb1, hx2, hq2, hw2⟩
  -- self.matrix, scale = ..
  refine ⟨_, rfl, x, C, dx, _, _, rfl, hx2, T.cl, T.nRow, rfl, q, ws, r, rfl, hq2, hw2, hok, l8, fun H3 pm m s3 hpm hm npm nm => ?_⟩
  have hx3 := s3 _ _ hx2
  refine ⟨pm, _, rfl, SqT.of hpm, rfl, _, _, rfl, _, rfl, x, C, dx, _, rfl, hx3, T.cl, T.nMat, (by show 1 < 1000; decide), ?_⟩
  rw [putM]
  have b4 : But x H3 (upd H3 x (.ins C dx [("row", .ref q), ("matrix", .ref m)])) := But.upd
  have hx4 : (upd H3 x (.ins C dx [("row", .ref q), ("matrix", .ref m)])) x = some (.ins C dx [("row", .ref q), ("matrix", .ref m)]) := upd_same
  have tp4 : ∀ {a : Addr} {xs : List V}, H3 a = some (.tup xs) → (upd H3 x (.ins C dx [("row", .ref q), ("matrix", .ref m)])) a = some (.tup xs) := fun {a xs} e => b4 _ _ (ne_of e hx3 (by intro z; cases z)) e
  have hm4 := tp4 hm
  have hq4 := tp4 (s3 _ _ hq2)
  have hw4 := (hw2.same s3).but b4 (notT hx3)
  have bb4 := (bb1.trans (But.of s3)).trans b4
  clear tp4
  generalize upd H3 x (.ins C dx [("row", .ref q), ("matrix", .ref m)]) = H4' at *
  refine ⟨_, _, rfl, _, rfl, x, C, dx, _, rfl, hx4, T.cl, T.nScl, (by show 2 < 1000; decide), rfl, ?_⟩
  rw [putScl]
  have b4' : But x H4' (upd H4' x (.ins C dx [("row", .ref q), ("matrix", .ref m), ("scale", .int (sclR r))])) := But.upd
  have hm4 := b4' _ _ (ne_of hm4 hx4 (by intro z; cases z)) hm4
  have hq4 := b4' _ _ (ne_of hq4 hx4 (by intro z; cases z)) hq4
  have hw4 := hw4.but b4' (notT hx4)
  have bb4 := bb4.trans b4'
  have hx4 : (upd H4' x (.ins C dx [("row", .ref q), ("matrix", .ref m), ("scale", .int (sclR r))])) x = some (.ins C dx [("row", .ref q), ("matrix", .ref m), ("scale", .int (sclR r))]) := upd_same
  clear b4 b4'
  generalize upd H4' x (.ins C dx [("row", .ref q), ("matrix", .ref m), ("scale", .int (sclR r))]) = H4 at *
  -- self.four = ..
  have sp := sclR_pos hok
  have ss := sclR_sm hok l8
  obtain ⟨ma, mb, mc, md, _⟩ := matR_ok hok
  obtain ⟨sa, sb, sc, sd⟩ := matR_sm hok l8
  refine ⟨_, rfl, x, C, dx, _, _, rfl, hx4, T.cl, T.nMat, lkM2 _ _ _, m, rfl, ⟨_, SqT.of hm4⟩, fun D hD => ?_⟩
  refine lc_tup (K := K) (a := m) (xs := MatT (matR r)) (fun i H' => But D H4 H' ∧ ∃ vs, H' D = some (.lst vs) ∧ FrsAt H' vs ([(matR r).a, (matR r).b, (matR r).c, (matR r).d].take i) (sclR r)) ⟨But.upd, [], upd_same, rfl, fun i e z => by simp at z⟩ (fun i H' _ h => SqT.of (h.1 _ _ (ne_of_none hm4 hD) hm4)) ?_ ?_
  · rintro i y H' hi ⟨bD, vs, hDi, hF⟩
    refine ⟨rfl, ?_⟩
    unfold tYes
    refine iteT ?_
    obtain ⟨z, rfl, z0, zs, ez, hi4⟩ : ∃ z : Int, y = .int z ∧ 0 ≤ z ∧ Sm 41 z ∧ [(matR r).a, (matR r).b, (matR r).c, (matR r).d].take (i + 1) = [(matR r).a, (matR r).b, (matR r).c, (matR r).d].take i ++ [z] ∧ i < 4 := by
      match i, hi with
      | 0, hi => cases hi; exact ⟨_, rfl, ma, sa, rfl, by decide⟩
      | 1, hi => cases hi; exact ⟨_, rfl, mb, sb, rfl, by decide⟩
      | 2, hi => cases hi; exact ⟨_, rfl, mc, sc, rfl, by decide⟩
      | 3, hi => cases hi; exact ⟨_, rfl, md, sd, rfl, by decide⟩
    have lv : vs.length = i := by
      rw [hF.1, List.length_take]
      show min i 4 = i
      omega
    refine ⟨_, rfl, _, rfl, x, C, dx, _, _, rfl, bD _ _ (ne_of_none hx4 hD) hx4, T.cl, T.nScl, lkS2 _ _ _, z, sclR r, rfl, ⟨z0, Int.le_of_lt sp, .inr sp⟩, zs.mono (by decide), ss.mono (by decide), fun H5 t s5 nt ht => ?_⟩
    have hD5 := s5 _ _ hDi
    refine ⟨vs, hD5, small1000 (by omega), ?_, vs ++ [.ref t], upd_same, ?_⟩
    · intro b o nb e
      rw [upd_ne nb]
      exact s5 _ _ (bD _ _ nb e)
    · rw [ez]
      refine ⟨by rw [List.length_append, List.length_append, hF.1]; rfl, fun j e hj => ?_⟩
      have up : ∀ {a : Addr} {xs : List V}, H5 a = some (.tup xs) → (upd H5 D (.lst (vs ++ [.ref t]))) a = some (.tup xs) := fun {a xs} e => by
        rw [upd_ne (ne_of e hD5 (by intro z; cases z))]
        exact e
      by_cases hji : j < ([(matR r).a, (matR r).b, (matR r).c, (matR r).d].take i).length
      · rw [List.getElem?_append_left hji] at hj
        obtain ⟨u, hu, hf⟩ := hF.2 j e hj
        refine ⟨u, ?_, up (s5 _ _ hf)⟩
        rw [List.getElem?_append_left (by rw [hF.1]; exact hji)]
        exact hu
      · rw [List.getElem?_append_right (by omega)] at hj
        have j0 : j - ([(matR r).a, (matR r).b, (matR r).c, (matR r).d].take i).length = 0 := by
          have := (List.getElem?_eq_some_iff.mp hj).1
          simp at this
          rw [List.length_take] at hji ⊢
          have e4 : ([(matR r).a, (matR r).b, (matR r).c, (matR r).d] : List Int).length = 4 := rfl
          omega
        rw [j0] at hj
        cases hj
        refine ⟨t, ?_, up ht⟩
        rw [List.getElem?_append_right (by rw [hF.1]; omega), hF.1, j0]
        rfl
  · rintro H' ⟨bD, vs, hDn, hF⟩
    have sD : Same H4 H' := fun b o e => bD _ _ (ne_of_none e hD) e
    refine ⟨D, _, rfl, .inl ⟨SqL.of hDn, fun l hl => ?_⟩⟩
    have s6 := sD.trans (same_upd (o := .tup vs) hl)
    have hx6 := s6 _ _ hx4
    refine ⟨_, rfl, x, C, dx, _, rfl, hx6, T.cl, T.nFour, (by show 3 < 1000; decide), ?_⟩
    rw [putFour]
    have b7 : But x (upd H' l (.tup vs)) (upd (upd H' l (.tup vs)) x (.ins C dx (PF q m l (sclR r)))) := But.upd
    have tp : ∀ {a : Addr} {xs : List V}, (upd H' l (.tup vs)) a = some (.tup xs) → (upd (upd H' l (.tup vs)) x (.ins C dx (PF q m l (sclR r)))) a = some (.tup xs) := fun {a xs} e => b7 _ _ (ne_of e hx6 (by intro z; cases z)) e
    have hF' : FrsAt H' vs [(matR r).a, (matR r).b, (matR r).c, (matR r).d] (sclR r) := hF
    obtain ⟨g1, e1, a1⟩ := hF'.2 0 _ rfl
    obtain ⟨g2, e2, a2⟩ := hF'.2 1 _ rfl
    obtain ⟨g3, e3, a3⟩ := hF'.2 2 _ rfl
    obtain ⟨g4, e4, a4⟩ := hF'.2 3 _ rfl
    have ev : vs = [.ref g1, .ref g2, .ref g3, .ref g4] := by
      match vs, hF'.1, e1, e2, e3, e4 with
      | [_, _, _, _], _, e1, e2, e3, e4 =>
        cases e1
        cases e2
        cases e3
        cases e4
        rfl
    subst ev
    have sl := same_upd (o := .tup [.ref g1, .ref g2, .ref g3, .ref g4]) hl
    exact k _ ((bb4.trans (But.of s6)).trans b7) ⟨dx, q, m, l, ws, g1, g2, g3, g4, upd_same, tp (s6 _ _ hq4), (hw4.same s6).but b7 (notT hx6), tp (s6 _ _ hm4), tp upd_same, tp (sl _ _ a1), tp (sl _ _ a2), tp (sl _ _ a3), tp (sl _ _ a4)⟩
end
end RL

set_option maxHeartbeats 1000000
namespace RL
open PySem L2 PySem.Spec PyProof.Rows
theorem PiecesAt.rev {H : Hp} {vs : List V} {r : List Pc} (h : PiecesAt H vs r) : PiecesAt H vs.reverse r.reverse := by
  refine ⟨by rw [List.length_reverse, List.length_reverse, h.1], fun i p hp => ?_⟩
  have hi : i < r.length := by
    have := (List.getElem?_eq_some_iff.mp hp).1
    rw [List.length_reverse] at this
    exact this
  rw [List.getElem?_reverse hi] at hp
  obtain ⟨v, hv, q⟩ := h.2 _ p hp
  refine ⟨v, ?_, q⟩
  rw [List.getElem?_reverse (by rw [h.1]; exact hi), h.1]
  exact hv
theorem PiecesAt.app {H : Hp} {vs vs' : List V} {r r' : List Pc} (h : PiecesAt H vs r) (h' : PiecesAt H vs' r') : PiecesAt H (vs ++ vs') (r ++ r') := by
  refine ⟨by rw [List.length_append, List.length_append, h.1, h'.1], fun i p hp => ?_⟩
  by_cases hi : i < r.length
  · rw [List.getElem?_append_left hi] at hp
    obtain ⟨v, hv, q⟩ := h.2 _ p hp
    exact ⟨v, by rw [List.getElem?_append_left (by rw [h.1]; exact hi)]; exact hv, q⟩
  · rw [List.getElem?_append_right (by omega)] at hp
    obtain ⟨v, hv, q⟩ := h'.2 _ p hp
    exact ⟨v, by rw [List.getElem?_append_right (by rw [h.1]; omega), h.1]; exact hv, q⟩
theorem RowOk.rev {r : List Pc} (h : RowOk r) : RowOk r.reverse := fun p hp => h p (List.mem_reverse.mp hp)
theorem parts_split {r : List Pc} (hok : RowOk r) (l1 : 1 ≤ r.length) : Txt.split (rowTx r) (Str.ofString ", ") = r.map ptx := by
  refine TL.split_join (s := 44) (S := [32]) (by decide +kernel) (by decide +kernel) (fun z => ?_) (fun p hp => ?_)
  · have := congrArg List.length z
    rw [List.length_map] at this
    have e0 : ([] : List Str).length = 0 := rfl
    omega
  · obtain ⟨q, hq, rfl⟩ := List.mem_map.mp hp
    exact ptx_free (hok q hq)
theorem join_len (y : Str) : ∀ l : List Str, (Str.join y l).length ≤ (l.map (·.length)).sum + l.length * y.length
  | [] => by
    show (Str.join y []).length ≤ _
    exact Nat.zero_le _
  | [x] => by
    show x.length ≤ _
    simp
  | x :: z :: l => by
    have ih := join_len y (z :: l)
    show (x ++ y ++ Str.join y (z :: l)).length ≤ _
    rw [Str.length_append, Str.length_append]
    simp only [List.map_cons, List.sum_cons, List.length_cons] at ih ⊢
    have : (l.length + 1 + 1) * y.length = (l.length + 1) * y.length + y.length := Nat.succ_mul _ _
    omega
theorem sum_len {r : List Pc} (hok : RowOk r) : ((r.map ptx).map (·.length)).sum ≤ 7 * r.length := by
  induction r with
  | nil => exact Nat.le_refl _
  | cons p r ih =>
    have h1 := ih hok.tail
    have h2 := ptx_len hok.head
    simp only [List.map_cons, List.sum_cons, List.length_cons]
    omega
theorem rowTx_len {r : List Pc} (hok : RowOk r) (l8 : r.length ≤ 8) : (rowTx r).length ≤ 100 := by
  unfold rowTx
  rw [TL.join_eq]
  have h1 := join_len (Str.ofString ", ") (r.map ptx)
  have h2 := sum_len hok
  rw [List.length_map] at h1
  have h3 : (Str.ofString ", ").length = 2 := by decide +kernel
  rw [h3] at h1
  omega
theorem eqv_none_tup (xs : List PyData) : PyData.eqv (.tuple xs) .none = false := by simp [PyData.eqv]
/-! ### what the class has, as its users see it -/
structure OwC (P : Program) (w : World) (K : PySem.W.Frag) (mg : Str → Option Value) (base : Heap) (C g : Addr) (fd : FuncData) : Prop where
  co : StX.CallO K C g
  ok : FnOk P w K mg base CX0 4 g fd ["self", "load"] (spCall C)
  fr : FnR P w K mg base CX0 4 g (spCall C)
  kb : ∀ (s : Shared) (u v : Value), K.In s.heap → BindsTo s fd ⟨[u], [("load", v)]⟩ [("self", u), ("load", v)]
structure OwA (P : Program) (w : World) (K : PySem.W.Frag) (mg : Str → Option Value) (base : Heap) (C g : Addr) (fd : FuncData) : Prop where
  sf : PySem.W.selfFirst K C = true
  at_ : PySem.W.findIn K (.ref C) (PySem.dunder Operator.Add.info.2) = some (some (.ref g))
  fn : PySem.W.isFn K (.ref g) = true
  ok : FnOk P w K mg base CX0 7 g fd ["self", "other"] (spAdd C)
  b : Binds K fd ["self", "other"] []
structure OwR (P : Program) (w : World) (K : PySem.W.Frag) (mg : Str → Option Value) (base : Heap) (C p g : Addr) (fd : FuncData) : Prop where
  rd : ClX.CRead K C (.type "type")
  sm : SMet K C (.type "type") "read" p g
  ok : FnOk P w K mg base CX0 7 g fd ["text"] (spRead C)
  b : Binds K fd ["text"] []
structure OwT (P : Program) (w : World) (K : PySem.W.Frag) (mg : Str → Option Value) (base : Heap) (C g : Addr) (fd : FuncData) : Prop where
  m : Meth K C "turned" g
  ok : FnOk P w K mg base CX0 7 g fd ["self"] (spTurn C)
  b : Binds K fd ["self"] []
structure OwN (P : Program) (w : World) (K : PySem.W.Frag) (mg : Str → Option Value) (base : Heap) (C p g : Addr) (fd : FuncData) : Prop where
  pr : PropOf K C "numbers" p g
  ok : FnOk P w K mg base CX0 1 g fd ["self"] (spNum C)
  b : Binds K fd ["self"] []
section
variable {P : Program} {w : World} {K : PySem.W.Frag} {mg : Str → Option Value} {base : Heap} {tG t1 t2 t3 : Tok} {aO aW J C fP fJ : Addr} {fdJ : FuncData}
theorem dp_row {H : Hp} {vs : List V} {r : List Pc} (h : PiecesAt H vs r) {q : Addr} (hq : H q = some (.tup vs)) : Dp K H (.ref q) (.tuple (r.map fun p => .tuple [.str (wd p.1), .int p.2])) := by
  refine .tup (SqT.of hq) ?_
  clear hq
  induction r generalizing vs with
  | nil =>
    match vs, h.1 with
    | [], _ => exact .nil
  | cons p r ih =>
    match vs, h.1, h.2 with
    | v :: vs, hl, h2 =>
      obtain ⟨v', hv, t, rfl, ht⟩ := h2 0 p rfl
      cases hv
      exact .cons (.tup (SqT.of ht) (.cons (.str _) (.cons (.int _) .nil))) (ih ⟨by simpa using hl, fun i p hp => h2 (i + 1) p hp⟩)
theorem wd_ok (r : Bool) : PyData.strOk (wd r) = true := by cases r <;> decide +kernel
theorem row_lay : ∀ r : List Pc, PyData.canLayAll0 (r.map fun p => .tuple [.str (wd p.1), .int p.2]) = true
  | [] => rfl
  | p :: r => by simp [PyData.canLayAll0, PyData.canLay0, row_lay r, wd_ok]
theorem row_depth : ∀ r : List Pc, PyData.depthAll (r.map fun p => .tuple [.str (wd p.1), .int p.2]) ≤ 1
  | [] => by simp [PyData.depthAll]
  | p :: r => by
    have h := row_depth r
    simp [PyData.depthAll, PyData.depth]
    omega
theorem sh_row (r : List Pc) : SeqAt.shaped (.tuple (r.map fun p => .tuple [.str (wd p.1), .int p.2])) = true := by
  have h1 := row_lay r
  have h2 := row_depth r
  unfold SeqAt.shaped
  simp [PyData.canLay0, PyData.depth, h1]
  omega
theorem units65 {k : Nat} {A : Around} (r : Room k A) : A.units + 65 < cLine := by
  have := r.un
  omega
abbrev s_Pattern_call : Stmt := inClass (top 47) 1
theorem sc_Pattern_call : FnScope ["self", "load"] ["self", "load"] (defScope s_Pattern_call) := ⟨rfl, rfl, rfl, by decide +kernel, rfl, by decide +kernel, by decide +kernel⟩

theorem ok_call {f : Addr} {fd : FuncData} (F : Fun K "__call__" "Pattern.__call__" s_Pattern_call f fd) (T : Txt3 K mg tG t1 t2 t3 aO aW J C) (D_is_resistance : Df P w K mg base 3 "is_resistance" ["value"] spIsRes) (D_pair_of : Df P w K mg base 2 "pair_of" ["fraction_or_open"] spPairOf) (D_shown_before : Df P w K mg base 1 "shown_before" ["matrix", "pair"] spShown) (D_lowest_pair : Df P w K mg base 3 "lowest_pair" ["fraction_or_open"] spLowP) :
    FnOk P w K mg base CX0 4 f fd ["self", "load"] (spCall C) := by
  refine F.ok sc_Pattern_call (fun vs H Q E h => ?_) (fun cdv A outer s H vs Q E hr h => ?_)
  · obtain ⟨x, v, r, e, rfl, _⟩ := h
    rfl
  · obtain ⟨x, v, r, e, rfl, hP, hok, l8, hL, k⟩ := h
    refine ⟨_, (pss_cons (ps_if (pt_not (pt_val (pe_df D_is_resistance (hr.mono (by decide)) (by rfl) (pa_cons (pv 1) pa_nil)))) (pss_one ps_never) pss_nil)
      (pss_one (ps_ret (pe_df D_lowest_pair (hr.mono (by decide)) (by rfl) (pa_cons (pe_df D_shown_before (hr.mono (by decide)) (by rfl) (pa_cons (pe_fld (pv 0) rfl) (pa_cons (pe_df D_pair_of (hr.mono (by decide)) (by rfl) (pa_cons (pv 1) pa_nil)) pa_nil))) pa_nil))))), ?_⟩
    have ep := hL.pos
    obtain ⟨es1, es2⟩ := hL.sm
    obtain ⟨dx, q, m, f', ws, f1, f2, f3, f4, hx, hq, hw, hm, _⟩ := hP
    have ms := matR_sm hok l8
    have ap := app_pos hok ep
    obtain ⟨as1, as2⟩ := app_sm (j := 41) (k := 41) ms es1 es2
    rcases hL with ⟨i, rfl, i0, i1, rfl⟩ | ⟨p, rfl, hp, hR⟩
    · refine ⟨_, rfl, .inl ⟨i, rfl, i0, i1, true, rfl, iteF ?_⟩⟩
      refine ⟨_, rfl, x, C, dx, _, _, rfl, hx, T.cl, T.nMat, lkM _ _ _, _, rfl, .inl ⟨i, rfl, fun H1 t s1 nt ht => ?_⟩⟩
      refine ⟨m, t, matR r, (i, 1), rfl, s1 _ _ hm, ht, ms.mono (by decide), es1.mono (by decide), es2.mono (by decide), fun H2 p' s2 np hp' => ?_⟩
      exact ⟨_, _, rfl, .inr ⟨p', rfl, hp'⟩, ap, as1.mono (by decide), as2.mono (by decide), fun H3 p3 s3 np3 hp3 => k _ p3 ((s1.trans s2).trans s3) ((s1.trans s2).free np3) hp3⟩
    · refine ⟨_, rfl, .inr ⟨p, _, _, rfl, hp, hR, true, rfl, iteF ?_⟩⟩
      refine ⟨_, rfl, x, C, dx, _, _, rfl, hx, T.cl, T.nMat, lkM _ _ _, _, rfl, .inr ⟨p, _, rfl, hp, ?_⟩⟩
      refine ⟨m, p, matR r, e, rfl, (Same.refl H) _ _ hm, hp, ms.mono (by decide), es1.mono (by decide), es2.mono (by decide), fun H2 p' s2 np hp' => ?_⟩
      exact ⟨_, _, rfl, .inr ⟨p', rfl, hp'⟩, ap, as1.mono (by decide), as2.mono (by decide), fun H3 p3 s3 np3 hp3 => k _ p3 (s2.trans s3) (s2.free np3) hp3⟩
abbrev s_Pattern_numbers : Stmt := inClass (top 47) 3
theorem sc_Pattern_numbers : FnScope ["self"] ["self"] (defScope s_Pattern_numbers) := ⟨rfl, rfl, rfl, by decide +kernel, rfl, by decide +kernel, by decide +kernel⟩

theorem ok_num {f : Addr} {fd : FuncData} (F : Fun K "numbers" "Pattern.numbers" s_Pattern_numbers f fd) (T : Txt3 K mg tG t1 t2 t3 aO aW J C) : FnOk P w K mg base CX0 1 f fd ["self"] (spNum C) := by
  refine F.ok sc_Pattern_numbers (fun vs H Q E h => ?_) (fun cdv A outer s H vs Q E hr h => ?_)
  · obtain ⟨x, dx, q, m, f, s0, rfl, _⟩ := h
    rfl
  · obtain ⟨x, dx, q, m, f, s0, rfl, hx, k⟩ := h
    refine ⟨_, (pss_one (ps_ret (pe_fld (pv 0) rfl))), ?_⟩
    exact ⟨_, rfl, x, C, dx, _, _, rfl, hx, T.cl, T.nFour, lkF _ _ _, k⟩
abbrev s_Pattern_add : Stmt := inClass (top 47) 4
theorem sc_Pattern_add : FnScope ["self", "other", "row"] ["self", "other"] (defScope s_Pattern_add) := ⟨rfl, rfl, rfl, by decide +kernel, rfl, by decide +kernel, by decide +kernel⟩

theorem ok_add {f : Addr} {fd : FuncData} (F : Fun K "__add__" "Pattern.__add__" s_Pattern_add f fd) (T : Txt3 K mg tG t1 t2 t3 aO aW J C) (X_pat : PatD P w K mg base C J fP) (X_join : JoinD P w K mg base J fJ fdJ) : FnOk P w K mg base CX0 7 f fd ["self", "other"] (spAdd C) := by
  refine F.ok sc_Pattern_add (fun vs H Q E h => ?_) (fun cdv A outer s H vs Q E hr h => ?_)
  · obtain ⟨x, y, r, r', rfl, _⟩ := h
    rfl
  · obtain ⟨x, y, r, r', rfl, hP, hP', hok, hok', l1, l1', l8, k⟩ := h
    refine ⟨_, (pss_cons (ps_set (i := 2) sc_Pattern_add.nd rfl (.inl rfl) (pe_op op_catA (pe_fld (pv 0) rfl) (pe_fld (pv 1) rfl)))
      (pss_cons (ps_if (pt_cmpR op_gt (pe_callB call_len_seq (by rfl) T.len (by decide +kernel) (pa_cons (pv 2) pa_nil)) (pe_glob (v := .int 8) rfl T.mgJo ⟨_, rfl⟩) (nomark _)) (pss_one ps_never) pss_nil)
      (pss_one (ps_ret (StX.pe_makeR X_pat.m X_pat.fn (hr.mono (by decide)) rfl T.mgC pass0 (pa_cons (pe_make X_join.m X_join.fn (hr.mono (by decide)) rfl T.mgJ X_join.bd .nil pass0 (pa_cons (pv 2) pa_nil)) pa_nil)))))), ?_⟩
    obtain ⟨dx, q, m, f', ws, f1, f2, f3, f4, hx, hq, hw, hm, _⟩ := hP
    obtain ⟨dy, q', m', g', ws', g1, g2, g3, g4, hy, hq', hw', hm', _⟩ := hP'
    have e1 := hw.1
    have e2 := hw'.1
    refine ⟨_, rfl, x, C, dx, _, _, rfl, hx, T.cl, T.nRow, lkR _ _ _, _, rfl, y, C, dy, _, _, rfl, hy, T.cl, T.nRow, lkR _ _ _, q, q', ws, ws', rfl, rfl, SqT.of hq, SqT.of hq', Nat.le_trans (by omega) (small1000 (show 8 ≤ 1000 by decide)), fun z => ?_, fun _ z => ?_, fun _ _ p np => ?_⟩
    · rw [z] at e1
      have : ([] : List V).length = 0 := rfl
      omega
    · rw [z] at e2
      have : ([] : List V).length = 0 := rfl
      omega
    have s1 := same_upd (o := .tup (ws ++ ws')) np
    have hp : (upd H p (.tup (ws ++ ws'))) p = some (.tup (ws ++ ws')) := upd_same
    have hpp := (hw.app hw').same s1
    refine ⟨_, rfl, p, _, rfl, .inr (SqT.of hp), _, _, rfl, rfl, _, rfl, ite2 (fun e => ?_) (fun _ => ?_)⟩
    · have h1 := of_decide_eq_true e
      rw [List.length_append] at h1
      omega
    exact ⟨_, rfl, make_pat hp hpp (hok.app hok') (by rw [List.length_append]; omega) (by rw [List.length_append]; omega) fun H' z s2 nz hz => k H' z (s1.trans s2) (s1.free nz) hz⟩
abbrev s_Pattern_read : Stmt := inClass (top 47) 10
theorem sc_Pattern_read : FnScope ["text", "parts", "row", "part"] ["text"] (defScope s_Pattern_read) := ⟨rfl, rfl, rfl, by decide +kernel, rfl, by decide +kernel, by decide +kernel⟩

theorem ok_read {f : Addr} {fd : FuncData} (F : Fun K "read" "Pattern.read" s_Pattern_read f fd) (T : Txt3 K mg tG t1 t2 t3 aO aW J C) (X_pat : PatD P w K mg base C J fP) (X_join : JoinD P w K mg base J fJ fdJ) (D_piece_with_text : Df P w K mg base 2 "piece_with_text" ["text"] spPwt) : FnOk P w K mg base CX0 7 f fd ["text"] (spRead C) := by
  refine F.ok sc_Pattern_read (fun vs H Q E h => ?_) (fun cdv A outer s H vs Q E hr h => ?_)
  · obtain ⟨r, rfl, _⟩ := h
    rfl
  · obtain ⟨r, rfl, hok, l1, l8, k⟩ := h
    refine ⟨_, (pss_cons (ps_if (pt_not (pt_val (pe_callB call_isi (by rfl) T.isinstance (by decide +kernel) (pa_cons (pv 0) (pa_cons (pe_bltn (v := .ty "str") (by rfl) T.str_ (by decide +kernel) rfl) pa_nil))))) (pss_one ps_never) pss_nil)
      (pss_cons (ps_set (i := 1) sc_Pattern_read.nd rfl (.inl rfl) (pe_split (pv 0) pe_str))
      (pss_cons (ps_if (pt_cmpR op_gt (pe_callB call_len_seq (by rfl) T.len (by decide +kernel) (pa_cons (pv 1) pa_nil)) (pe_glob (v := .int 8) rfl T.mgJo ⟨_, rfl⟩) (nomark _)) (pss_one ps_never) pss_nil)
      (pss_cons (ps_set (i := 2) sc_Pattern_read.nd rfl (.inl rfl) (pe_callTy call_tuple_of (by rfl) T.tuple_ (by decide +kernel) (pa_cons (pe_lc (own := [("part", 3)]) (g := gName 3) (tt := tYes) rfl sc_Pattern_read.nd (pi_list (pv 1)) (blkOk_by (N := ["text", "parts", "row", "part"]) (sc := defScope s_Pattern_read) (by decide +kernel)) (fun _ _ _ _ _ => pg_name (i := 3) sc_Pattern_read.nd rfl (Or.inl rfl)) (fun _ _ _ _ _ => pts_nil) (fun _ _ _ _ _ => (pe_df D_piece_with_text (hr.mono (by decide)) (by rfl) (pa_cons (pv 3) pa_nil)))) pa_nil)))
      (pss_cons (ps_if (pt_cmpR (op_inT (units65 hr)) pe_non (pv 2) (by rfl)) (pss_one ps_never) pss_nil)
      (pss_one (ps_ret (StX.pe_makeR X_pat.m X_pat.fn (hr.mono (by decide)) rfl T.mgC pass0 (pa_cons (pe_make X_join.m X_join.fn (hr.mono (by decide)) rfl T.mgJ X_join.bd .nil pass0 (pa_cons (pv 2) pa_nil)) pa_nil))))))))), ?_⟩
    refine ⟨_, rfl, _, _, _, _, true, rfl, .ty _, .base (.str _), kit_ty (by decide +kernel), true, rfl, iteF ?_⟩
    refine ⟨_, rfl, ⟨_, rfl⟩, _, _, rfl, rfl, by decide +kernel, Nat.le_trans (Nat.add_le_add_right (rowTx_len hok l8) 2) (small1000 (show 101 ≤ 999 + 1 by decide)), fun p np => ?_⟩
    rw [parts_split hok l1]
    have s1 := same_upd (o := .lst ((r.map ptx).map V.str)) np
    have hp : (upd H p (.lst ((r.map ptx).map V.str))) p = some (.lst ((r.map ptx).map V.str)) := upd_same
    have len : ((r.map ptx).map V.str).length = r.length := by rw [List.length_map, List.length_map]
    generalize upd H p (.lst ((r.map ptx).map V.str)) = H1 at *
    refine ⟨_, rfl, p, _, rfl, .inl (SqL.of hp), _, _, rfl, rfl, _, rfl, ite2 (fun e => ?_) (fun _ => ?_)⟩
    · have h1 := of_decide_eq_true e
      rw [len] at h1
      omega
    refine ⟨_, rfl, p, rfl, ⟨_, SqL.of hp⟩, fun D hD => ?_⟩
    refine lc_list (K := K) (a := p) (xs := (r.map ptx).map V.str) (fun i H' => But D H1 H' ∧ ∃ vs, H' D = some (.lst vs) ∧ PiecesAt H' vs (r.take i)) ⟨But.upd, [], upd_same, rfl, fun i e z => by simp at z⟩ (fun i H' _ h => SqL.of (h.1 _ _ (ne_of_none hp hD) hp)) ?_ ?_
    · rintro i y H' hi ⟨bD, vs, hDi, hF⟩
      refine ⟨rfl, ?_⟩
      unfold tYes
      refine iteT ?_
      obtain ⟨pc, rfl, hpc⟩ : ∃ pc, y = .str (ptx pc) ∧ r[i]? = some pc := by
        rw [List.getElem?_map, List.getElem?_map] at hi
        cases e : r[i]? with
        | none =>
          rw [e] at hi
          cases hi
        | some pc =>
          rw [e] at hi
          exact ⟨pc, (Option.some.inj hi).symm, rfl⟩
      have il : i < r.length := (List.getElem?_eq_some_iff.mp hpc).1
      have lv : vs.length = i := by
        rw [hF.1, List.length_take]
        omega
      have tk : r.take (i + 1) = r.take i ++ [pc] := by
        rw [List.take_succ, hpc]
        rfl
      refine ⟨_, rfl, pc, rfl, hok.at_ hpc, fun H5 t s5 nt ht => ?_⟩
      have hD5 := s5 _ _ hDi
      have bD2 : But D H5 (upd H5 D (.lst (vs ++ [.ref t]))) := But.upd
      refine ⟨vs, hD5, small1000 (by omega), ?_, vs ++ [.ref t], upd_same, ?_⟩
      · intro b o nb e
        rw [upd_ne nb]
        exact s5 _ _ (bD _ _ nb e)
      · rw [tk]
        refine ((hF.same s5).app ⟨rfl, fun j p hj => ?_⟩).but bD2 (fun xs z => by rw [hD5] at z; cases z)
        match j, hj with
        | 0, hj =>
          cases hj
          exact ⟨_, rfl, t, rfl, ht⟩
    · rintro H' ⟨bD, vs, hDn, hF⟩
      rw [len, List.take_length] at hF
      have sD : Same H1 H' := fun b o e => bD _ _ (ne_of_none e hD) e
      refine ⟨D, _, rfl, .inl ⟨SqL.of hDn, fun l hl => ?_⟩⟩
      have s6 := same_upd (o := .tup vs) hl
      have hF6 := hF.same s6
      have hl6 : (upd H' l (.tup vs)) l = some (.tup vs) := upd_same
      have sA := (s1.trans sD).trans s6
      generalize upd H' l (.tup vs) = H6 at *
      refine ⟨_, rfl, .none, _, .non, dp_row hF6 hl6, rfl, sh_row r, _, rfl, ite2 (fun e => ?_) (fun _ => ?_)⟩
      · exfalso
        rw [List.any_eq_true] at e
        obtain ⟨z, hz, ez⟩ := e
        obtain ⟨pc, _, rfl⟩ := List.mem_map.mp hz
        rw [eqv_none_tup] at ez
        cases ez
      exact ⟨_, rfl, make_pat hl6 hF6 hok l1 l8 fun H' z s2 nz hz => k H' z (sA.trans s2) (sA.free nz) hz⟩
end
end RL

set_option maxHeartbeats 1000000
namespace RL
open PySem L2 PySem.Spec PyProof.Rows
def RowL (H : Hp) (a : Addr) (r : List Pc) : Prop := ∃ ws, H a = some (.lst ws) ∧ PiecesAt H ws r
def PairAt (H : Hp) (t : Addr) (e : Int × Int) : Prop := H t = some (.tup [.int e.1, .int e.2])
theorem RowL.same {H H' : Hp} {a : Addr} {r : List Pc} (h : RowL H a r) (s : Same H H') : RowL H' a r := by
  obtain ⟨ws, h1, h2⟩ := h
  exact ⟨ws, s _ _ h1, h2.same s⟩
theorem RowL.but {H H' : Hp} {a c : Addr} {r : List Pc} (h : RowL H a r) (hc : CupAt c H) (na : a ≠ c) (s : But c H H') : RowL H' a r := by
  obtain ⟨ws, h1, h2⟩ := h
  obtain ⟨u, v, hc, _⟩ := hc
  exact ⟨ws, s _ _ na h1, h2.but s (fun xs z => by rw [hc] at z; cases z)⟩
theorem But.tup {c a : Addr} {H H' : Hp} {xs : List V} (b : But c H H') (hc : CupAt c H) (h : H a = some (.tup xs)) : H' a = some (.tup xs) := by
  obtain ⟨u, v, hc, _⟩ := hc
  exact b _ _ (ne_of h hc (by intro z; cases z)) h
def spFront : Sp := fun vs H Q _ => ∃ (a p : Addr) (r : List Pc) (e : Int × Int), vs = [.ref a, .ref p] ∧ RowL H a r ∧ RowOk r ∧ r.length ≤ 8 ∧ PairAt H p e ∧ Pos2 e ∧ Sm 1000 e.1 ∧ Sm 1000 e.2 ∧
  ∀ H' t, Same H H' → H t = none → PairAt H' t (low (frtR r e)) → Q (.ref t) H'
def spRow : Sp := fun vs H Q _ => ∃ (c : Addr) (m : Int), vs = [.ref c, .int m] ∧ CupAt c H ∧ 1 ≤ m ∧ m ≤ 8 ∧
  ∀ H' a r, But c H H' → CupAt c H' → H a = none → a ≠ c → RowL H' a r → RowOk r → 1 ≤ r.length → (r.length : Int) ≤ m → Q (.ref a) H'
def spWords : Sp := fun vs H Q _ => ∃ (a : Addr) (r : List Pc), vs = [.ref a] ∧ RowL H a r ∧ RowOk r ∧ r.length ≤ 8 ∧ ∀ H', Same H H' → Q (.str (rowTx r)) H'
def spEnd : Sp := fun vs H Q _ => ∃ c : Addr, vs = [.ref c] ∧ CupAt c H ∧ ∀ H' t e, But c H H' → CupAt c H' → PairAt H' t e → ResP e.1 e.2 → Q (.ref t) H'
def spReadL (C : Addr) : Sp := fun vs H Q _ => ∃ (a : Addr) (r : List Pc), vs = [.ref a] ∧ RowL H a r ∧ RowOk r ∧ 1 ≤ r.length ∧ r.length ≤ 8 ∧ ∀ H' z, Same H H' → H z = none → PatAt C H' z r → Q (.ref z) H'
theorem ResP.pos {e : Int × Int} (h : ResP e.1 e.2) : Pos2 e := by
  rcases h with ⟨h1, _, h2, _⟩ | ⟨h1, h2⟩
  · exact ⟨h1, by omega, .inr (by omega)⟩
  · exact ⟨by omega, by omega, .inl (by omega)⟩
theorem ResP.sm {e : Int × Int} (h : ResP e.1 e.2) : Sm 41 e.1 ∧ Sm 41 e.2 := by
  have k : ∀ z : Int, 0 ≤ z → z ≤ 1000000000000 → Sm 41 z := fun z h1 h2 => sm_lt h1 (by
    have e : (2 : Int) ^ 41 = 2199023255552 := by decide
    rw [e]
    omega)
  rcases h with ⟨h1, h2, h3, h4⟩ | ⟨h1, h2⟩
  · exact ⟨k _ h1 h2, k _ (by omega) h4⟩
  · exact ⟨k _ (by omega) (by omega), k _ (by omega) (by omega)⟩
theorem low_res {t b : Int} (t0 : 0 ≤ t) (t1 : t ≤ 1000000000000) (b0 : 1 ≤ b) (b1 : b ≤ 1000000000000) : ResP (low (t, b)).1 (low (t, b)).2 := by
  have hp : Pos2 (t, b) := ⟨t0, by show 0 ≤ b; omega, .inr (by show 0 < b; omega)⟩
  have g0 : 0 < gc t b := gc_pos2 hp
  have e := low_is hp
  have e1 : t = gc t b * (low (t, b)).1 := congrArg Prod.fst e
  have e2 : b = gc t b * (low (t, b)).2 := congrArg Prod.snd e
  obtain ⟨l1, l2, _⟩ := low_pos hp
  have g1 : 1 ≤ gc t b := g0
  have m1 := Int.mul_le_mul_of_nonneg_right g1 l1
  have m2 := Int.mul_le_mul_of_nonneg_right g1 l2
  rw [Int.one_mul] at m1 m2
  rw [← e1] at m1
  rw [← e2] at m2
  refine .inl ⟨l1, by omega, ?_, by omega⟩
  rcases Int.lt_or_le 0 (low (t, b)).2 with z | z
  · omega
  · have := Int.mul_nonpos_of_nonneg_of_nonpos (Int.le_of_lt g0) z
    omega
/-- the walk, from the last piece to the first -/
theorem walk_front (l : List Pc) (e : Int × Int) : l.foldl (fun e p => frt p e) e = frtR l.reverse e := by
  unfold frtR
  rw [List.foldr_reverse]
section
variable {P : Program} {w : World} {K : PySem.W.Frag} {mg : Str → Option Value} {base : Heap} {tG t1 t2 t3 : Tok} {aO aW J C fP fJ : Addr} {fdJ : FuncData}
abbrev s_law_row : Stmt := top 73
theorem sc_law_row : FnScope ["_law_cup_here", "_law_most", "_law_found", "_law_turn"] ["_law_cup_here", "_law_most"] (defScope s_law_row) := ⟨rfl, rfl, rfl, by decide +kernel, rfl, by decide +kernel, by decide +kernel⟩

theorem ok_row {f : Addr} {fd : FuncData} (F : Fun K "_law_row" "_law_row" s_law_row f fd) (T : Txt K mg) (D_law_sip : Df P w K mg base 1 "_law_sip" ["_law_cup_here", "_law_many"] spSip) (D_law_pick : Df P w K mg base 2 "_law_pick" ["_law_cup_here", "_law_things"] spPick) : FnOk P w K mg base CX0 3 f fd ["_law_cup_here", "_law_most"] spRow := by
  refine F.ok sc_law_row (fun vs H Q E h => ?_) (fun cdv A outer s H vs Q E hr h => ?_)
  · obtain ⟨c, m, rfl, _⟩ := h
    rfl
  · obtain ⟨c, m, rfl, hc, m1, m8, k⟩ := h
    refine ⟨_, (pss_cons (ps_set (i := 2) sc_law_row.nd rfl (.inl rfl) (pe_lst pa_nil))
      (pss_cons (ps_for PassesOwn.never rfl (pi_range1 rfl T.range (pa_cons (pe_op op_add pe_int (pe_df D_law_sip (hr.mono (by decide)) (by rfl) (pa_cons (pv 0) (pa_cons (pv 1) pa_nil)))) pa_nil)) (pg_name (i := 3) sc_law_row.nd rfl (.inl rfl)) (pss_one (ps_expr (pe_bm PySem.F.plainAttrs_list PySem.F.slot_list_append PySem.F.type_list_append mt_append (pv 2) (pa_cons (pe_tup (pa_cons (pe_df D_law_pick (hr.mono (by decide)) (by rfl) (pa_cons (pv 0) (pa_cons (pe_lst (pa_cons pe_str (pa_cons pe_str pa_nil))) pa_nil))) (pa_cons (pe_op op_add pe_int (pe_df D_law_sip (hr.mono (by decide)) (by rfl) (pa_cons (pv 0) (pa_cons pe_int pa_nil)))) pa_nil))) pa_nil)))))
      (pss_one (ps_ret (pv 2))))), ?_⟩
    refine ⟨Nat.zero_le _, fun a na => ?_⟩
    have s1 := same_upd (o := .lst []) na
    have nac : a ≠ c := (hc.ne na).symm
    have ha1 : (upd H a (.lst [])) a = some (.lst []) := upd_same
    have hc1 := hc.same s1
    generalize upd H a (.lst []) = H1 at *
    refine ⟨_, rfl, _, rfl, c, m, rfl, hc1, by omega, (sm_lt (n := 200) (by omega) (Int.lt_of_le_of_lt m8 (by decide))), fun H2 n b2 hc2 n0 n1 => ⟨_, _, rfl, rfl, _, rfl, by omega, by omega, ?_⟩⟩
    refine for_range (lo := 0) (n := (1 + n).toNat) (fun i σ H' => But c H H' ∧ CupAt c H' ∧ (∃ v, σ = [some (.ref c), some (.int m), some (.ref a), v]) ∧ ∃ r, r.length = i ∧ RowL H' a r ∧ RowOk r) ⟨(But.of s1).trans b2, hc2, ⟨none, rfl⟩, [], rfl, ⟨[], b2 _ _ nac ha1, rfl, fun i p z => by simp at z⟩, fun p hp => by simp at hp⟩ ?_ ?_
    · rintro i σ H' hi ⟨bH, hcH, ⟨v, rfl⟩, r, lr, ⟨ws, ha, hw⟩, hok⟩
      have hi9 : i < 9 := by omega
      refine ⟨_, rfl, .inl ⟨rfl, _, SqL.of ha⟩, _, rfl, (by show 2 ≤ sizeLine; decide), fun l nl => ?_⟩
      have sl := same_upd (o := .lst [.str (Str.ofString "rail"), .str (Str.ofString "rung")]) nl
      have hl : (upd H' l (.lst [.str (Str.ofString "rail"), .str (Str.ofString "rung")])) l = some (.lst [.str (Str.ofString "rail"), .str (Str.ofString "rung")]) := upd_same
      refine ⟨c, l, _, rfl, hcH.same sl, hcH.ne nl, hl, by show 0 < 2; decide, by show 2 ≤ 100; decide, fun H3 v3 b3 hc3 hv3 => ?_⟩
      obtain ⟨w3, rfl⟩ : ∃ b : Bool, v3 = .str (wd b) := by
        simp only [List.mem_cons, List.not_mem_nil, or_false] at hv3
        rcases hv3 with rfl | rfl
        · exact ⟨true, rfl⟩
        · exact ⟨false, rfl⟩
      refine ⟨_, rfl, c, 12, rfl, hc3, by decide, (by unfold Sm; decide), fun H4 o b4 hc4 o0 o1 => ⟨_, _, rfl, rfl, (by show 2 ≤ sizeLine; decide), fun t nt => ?_⟩⟩
      have st := same_upd (o := .tup [.str (wd w3), .int (1 + o)]) nt
      have bb := ((But.of (c := c) sl).trans b3).trans b4
      have ha4 : H4 a = some (.lst ws) := bb _ _ nac ha
      have nat : a ≠ t := ne_of_none ha4 nt
      have hw4 : PiecesAt H4 ws r := hw.but bb (fun xs z => by obtain ⟨u, v, h, _⟩ := hcH; rw [h] at z; cases z)
      have bt : But a (upd H4 t (.tup [.str (wd w3), .int (1 + o)])) (upd (upd H4 t (.tup [.str (wd w3), .int (1 + o)])) a (.lst (ws ++ [.ref t]))) := But.upd
      have ha5 := st _ _ ha4
      refine ⟨a, _, _, rfl, rfl, ha5, small1000 (by rw [hw.1]; omega), ?_⟩
      have okp : PcOk (w3, 1 + o) := ⟨by dsimp; omega, by dsimp; omega⟩
      refine ⟨?_, ?_, ⟨_, rfl⟩, r ++ [(w3, 1 + o)], by rw [List.length_append, lr]; rfl, ⟨_, upd_same, ?_⟩, hok.app fun p hp => by rw [List.mem_singleton] at hp; rw [hp]; exact okp⟩
      · refine fun b o' nb e => ?_
        have nba : b ≠ a := ne_of_none e na
        exact bt _ _ nba (st _ _ (bb _ _ nb (bH _ _ nb e)))
      · obtain ⟨u, v, h, z⟩ := hc4
        exact ⟨u, v, bt _ _ nac.symm (st _ _ h), z⟩
      · refine ((hw4.same st).app ⟨rfl, fun j p hj => ?_⟩).but bt (fun xs z => by rw [ha5] at z; cases z)
        match j, hj with
        | 0, hj =>
          cases hj
          exact ⟨_, rfl, t, rfl, upd_same⟩
    · rintro σ H' ⟨bH, hcH, ⟨v, rfl⟩, r, lr, hR, hok⟩
      exact ⟨_, rfl, k H' a r bH hcH na nac hR hok (by omega) (by omega)⟩
abbrev s_law_words : Stmt := top 74
theorem sc_law_words : FnScope ["_law_row_here", "_law_word", "_law_ohms"] ["_law_row_here"] (defScope s_law_words) := ⟨rfl, rfl, rfl, by decide +kernel, rfl, by decide +kernel, by decide +kernel⟩

theorem ok_words {f : Addr} {fd : FuncData} (F : Fun K "_law_words" "_law_words" s_law_words f fd) (T : Txt K mg) : FnOk P w K mg base CX0 1 f fd ["_law_row_here"] spWords := by
  refine F.ok sc_law_words (fun vs H Q E h => ?_) (fun cdv A outer s H vs Q E hr h => ?_)
  · obtain ⟨a, r, rfl, _⟩ := h
    rfl
  · obtain ⟨a, r, rfl, ⟨ws, ha, hw⟩, hok, l8, k⟩ := h
    refine ⟨_, (pss_one (ps_ret (pe_join pe_str (pe_lc (own := [("_law_word", 1), ("_law_ohms", 2)]) (g := gTup K 2 (gCons (gName 1) (gCons (gName 2) gNil))) (tt := tYes) rfl sc_law_words.nd (pi_list (pv 0)) (blkOk_by (N := ["_law_row_here", "_law_word", "_law_ohms"]) (sc := defScope s_law_words) (by decide +kernel)) (fun _ _ _ _ _ => pg_tup rfl (pgs_cons (pg_name (i := 1) sc_law_words.nd rfl (Or.inl rfl)) (pgs_cons (pg_name (i := 2) sc_law_words.nd rfl (Or.inl rfl)) pgs_nil))) (fun _ _ _ _ _ => pts_nil) (fun _ _ _ _ _ => (pe_op op_add_str (pe_op op_add_str (pv 1) pe_str) (pe_callTy call_str_int (by rfl) T.str_ (by decide +kernel) (pa_cons (pv 2) pa_nil)))))))), ?_⟩
    refine ⟨⟨_, rfl⟩, _, rfl, a, rfl, ⟨_, SqL.of ha⟩, fun D hD => ?_⟩
    refine lc_list (K := K) (a := a) (xs := ws) (fun i H' => But D H H' ∧ H' D = some (.lst (((r.take i).map ptx).map V.str))) ⟨But.upd, upd_same⟩ (fun i H' _ h => SqL.of (h.1 _ _ (ne_of_none ha hD) ha)) ?_ ?_
    · rintro i y H1 hi ⟨bD, hDi⟩
      obtain ⟨pc, hpc, t, rfl, ht⟩ := hw.at_ hi
      have ht1 := bD _ _ (ne_of_none ht hD) ht
      have ok := hok.at_ hpc
      have oh : Sm 200 pc.2 := (ohm_sm ok).mono (by decide)
      have ww : OkT 4 (wd pc.1) := by
        unfold wd
        split
        · exact OkT.of "rail"
        · exact OkT.of "rung"
      have lens : ∀ {m n : Nat} {x y : Str}, OkT m x → OkT n y → m + n ≤ 100000 → x.length + y.length ≤ sizeLine := fun {m n x y} h1 h2 h3 => by
        have := h1.len
        have := h2.len
        rw [sizeLine_eq]
        omega
      refine ⟨t, _, rfl, SqT.of ht1, rfl, _, _, rfl, _, _, rfl, rfl, rfl, ?_⟩
      unfold tYes
      refine iteT ?_
      refine ⟨_, rfl, _, _, rfl, rfl, lens ww (OkT.of " ") (by decide), _, rfl, _, rfl, Nat.lt_trans (log_sm (by decide) oh) (by decide), _, _, rfl, rfl, lens (ww.app (OkT.of " ")) (ts_ok oh) (by decide), _, hDi, ?_, ?_, ?_⟩
      · rw [List.length_map, List.length_map, List.length_take]
        exact small1000 (by omega)
      · intro q o nq e
        rw [upd_ne nq]
        exact bD _ _ nq e
      · rw [upd_same, List.take_succ, hpc]
        simp only [Option.toList, List.map_append, List.map_cons, List.map_nil]
        rfl
    · rintro H1 ⟨bD, hDn⟩
      rw [hw.1, List.take_length] at hDn
      refine ⟨_, D, r.map ptx, rfl, rfl, .inl (SqL.of hDn), ?_, ?_⟩
      · have h2 := sum_len hok
        have h3 : (Str.ofString ", ").length = 2 := by decide +kernel
        rw [List.length_map]
        show _ + r.length * (Str.ofString ", ").length ≤ 16777216
        rw [h3]
        omega
      · exact k _ fun q o e => bD _ _ (ne_of_none e hD) e
variable {pr gr : Addr} {fr : FuncData}
abbrev s_law_read : Stmt := top 75
theorem sc_law_read : FnScope ["_law_row_here"] ["_law_row_here"] (defScope s_law_read) := ⟨rfl, rfl, rfl, by decide +kernel, rfl, by decide +kernel, by decide +kernel⟩

theorem ok_readL {f : Addr} {fd : FuncData} (F : Fun K "_law_read" "_law_read" s_law_read f fd) (T : Txt3 K mg tG t1 t2 t3 aO aW J C) (OR : OwR P w K mg base C pr gr fr) (D_law_words : Df P w K mg base 1 "_law_words" ["_law_row_here"] spWords) : FnOk P w K mg base CX0 8 f fd ["_law_row_here"] (spReadL C) := by
  refine F.ok sc_law_read (fun vs H Q E h => ?_) (fun cdv A outer s H vs Q E hr h => ?_)
  · obtain ⟨a, r, rfl, _⟩ := h
    rfl
  · obtain ⟨a, r, rfl, hR, hok, l1, l8, k⟩ := h
    refine ⟨_, (pss_one (ps_ret (pe_smeth (pe_glob (v := .ref C) rfl T.mgC rfl) OR.rd OR.sm OR.ok OR.b (hr.mono (by decide)) (pa_cons (pe_df D_law_words (hr.mono (by decide)) (by rfl) (pa_cons (pv 0) pa_nil)) pa_nil)))), ?_⟩
    exact ⟨rfl, _, rfl, a, r, rfl, hR, hok, l8, fun H1 s1 => ⟨r, rfl, hok, l1, l8, fun H2 z s2 nz hz => k _ z (s1.trans s2) (s1.free nz) hz⟩⟩
end
end RL

set_option maxHeartbeats 1000000
namespace RL
open PySem L2 PySem.Spec PyProof.Rows
structure Txt4 (K : PySem.W.Frag) (mg : Str → Option Value) (tG t1 t2 t3 tP tC : Tok) (aO aW J C Ce Cl : Addr) : Prop extends Txt3 K mg tG t1 t2 t3 aO aW J C where
  mgP : mg "GREATEST_PART" = some (.int 10000000000000000000000000000000000000000 tP)
  mgCo : mg "MOST_SECTIONS" = some (.int 100 tC)
  mgE : mg "Exact" = some (.ref Ce)
  clE : Cls K Ce
  nP : NoAttr K Ce "parts"
  mgL : mg "Ladder" = some (.ref Cl)
  clL : Cls K Cl
  nSec : NoAttr K Cl "section"
  nBeh : NoAttr K Cl "behind"
  nFar : NoAttr K Cl "far"
def spRoot : Sp := fun vs H Q _ => ∃ n : Int, vs = [.int n] ∧ 0 ≤ n ∧ Sm 4000 n ∧ ∀ H', Same H H' → Q (.int (rt n)) H'
def spSign : Sp := fun vs H Q _ => ∃ n : Int, vs = [.int n] ∧ Q (.int (sg n)) H
def spUnder : Sp := fun vs H Q _ => ∃ s l w : Int, vs = [.int s, .int l, .int w] ∧ Sm 1000 s ∧ Sm 1000 l ∧ Sm 1000 w ∧ Q (.int (l * l + 4 * s * w)) H
def spEqF : Sp := fun vs H Q _ => ∃ (t b : Int), vs = [.int t, .int b] ∧ Pos2 (t, b) ∧ Sm 4000 t ∧ Sm 4000 b ∧
  ∀ H' p, Same H H' → H p = none → H' p = some (.tup [.int 0, .int (b / gc t b), .int (t / gc t b)]) → Q (.ref p) H'
def spSimp : Sp := fun vs H Q _ => ∃ a b c : Int, vs = [.int a, .int b, .int c] ∧ Good a b c ∧ Sm 133 a ∧ Sm 133 b ∧ Sm 133 c ∧
  ∀ H' p, Same H H' → H p = none → H' p = some (.tup [.int (parts a b c).1, .int (parts a b c).2.1, .int (parts a b c).2.2]) → Q (.ref p) H'
section
variable {P : Program} {w : World} {K : PySem.W.Frag} {mg : Str → Option Value} {base : Heap} {tG t1 t2 t3 tP tC : Tok} {aO aW J C Ce Cl fP fJ : Addr} {fdJ : FuncData}
theorem dbl {g w : Int} (h : 0 ≤ w) (l : g * g ≤ w) : g ≤ w := by
  rcases Int.lt_or_le w g with z | z
  · have : g * 1 ≤ g * g := Int.mul_le_mul_of_nonneg_left (by omega) (by omega)
    omega
  · exact z
theorem pow_up {a b : Nat} (h : a ≤ b) : (2 : Int) ^ a ≤ 2 ^ b := by
  have := Nat.pow_le_pow_right (n := 2) (by decide) h
  have e : ∀ k : Nat, ((2 ^ k : Nat) : Int) = 2 ^ k := fun k => by rw [Int.natCast_pow]; rfl
  rw [← e, ← e]
  omega
theorem bits_lt {n : Int} (h : 0 ≤ n) : n < 2 ^ (Builtin.Int.intBits n) := by
  unfold Builtin.Int.intBits
  by_cases z : n = 0
  · subst z
    decide
  · rw [if_neg (by simpa using z)]
    have := Nat.lt_log2_self (n := n.natAbs)
    have e : ((2 ^ (n.natAbs.log2 + 1) : Nat) : Int) = 2 ^ (n.natAbs.log2 + 1) := by rw [Int.natCast_pow]; rfl
    rw [← e]
    omega
theorem bits_le {n : Int} {m : Nat} (h : Sm m n) : Builtin.Int.intBits n ≤ m := PyProof.Rows.intBits_le h
abbrev s_square_root : Stmt := top 20
theorem sc_square_root : FnScope ["number", "guess"] ["number"] (defScope s_square_root) := ⟨rfl, rfl, rfl, by decide +kernel, rfl, by decide +kernel, by decide +kernel⟩

theorem ok_sqrt {f : Addr} {fd : FuncData} (F : Fun K "square_root" "square_root" s_square_root f fd) : FnOk P w K mg base CX0 1 f fd ["number"] spRoot := by
  refine F.ok sc_square_root (fun vs H Q E h => ?_) (fun cdv A outer s H vs Q E hr h => ?_)
  · obtain ⟨n, rfl, _⟩ := h
    rfl
  · obtain ⟨n, rfl, n0, ns, k⟩ := h
    refine ⟨_, (pss_cons (ps_set (i := 1) sc_square_root.nd rfl (.inl rfl) (pe_op op_oneShl pe_int (pe_op op_fdivW (pe_op op_add (pe_bits (pv 0)) pe_int) pe_int)))
      (pss_cons (ps_while PassesOwn.never (pt_cmpR op_gt (pe_op op_mulX (pv 1) (pv 1)) (pv 0) (nomark _)) (pss_one (ps_set (i := 1) sc_square_root.nd rfl (.inl rfl) (pe_op op_fdivW (pe_op op_add (pv 1) (pe_op op_fdivW (pv 0) (pv 1))) pe_int))))
      (pss_one (ps_ret (pv 1))))), ?_⟩
    have hb := bits_le ns
    have hl := bits_lt n0
    refine ⟨_, rfl, n, rfl, _, _, rfl, rfl, _, _, rfl, rfl, dvw (b := 3) (by decide) (by unfold Sm; decide), ?_⟩
    have ek : ((Builtin.Int.intBits n : Nat) + 1 : Int) / 2 = (((Builtin.Int.intBits n + 1) / 2 : Nat) : Int) := by omega
    generalize Builtin.Int.intBits n = b at *
    refine ⟨(b + 1) / 2, rfl, congrArg V.int ek, (by omega), ?_⟩
    have ks : (b + 1) / 2 ≤ 2000 := by omega
    have kb : b ≤ (b + 1) / 2 + (b + 1) / 2 := by omega
    generalize (b + 1) / 2 = q at *
    have p0 : (0 : Int) < 2 ^ q := Int.pow_pos (by decide)
    have hp : n < 2 ^ q * 2 ^ q := by
      rw [← Int.pow_add]
      exact Int.lt_of_lt_of_le hl (pow_up kb)
    have gs : Sm 2001 (2 ^ q) := by
      unfold Sm
      rw [Int.natAbs_pow]
      exact Nat.pow_lt_pow_right (by decide) (by omega)
    refine while_by (fun σ H' => H' = H ∧ ∃ g : Int, σ = [some (.int n), some (.int g)] ∧ 0 ≤ g ∧ n < (g + 1) * (g + 1) ∧ Sm 2001 g) (fun σ _ => match σ with | [_, some (.int g)] => g.toNat | _ => 0) ⟨rfl, 2 ^ q, rfl, by omega, ?_, gs⟩ ?_ ?_
    · have e : ((2 : Int) ^ q + 1) * (2 ^ q + 1) = 2 ^ q * 2 ^ q + 2 * 2 ^ q + 1 := by
        generalize (2 : Int) ^ q = u
        grind
      omega
    · rintro σ H' ⟨rfl, g, rfl, g0, g1, gs⟩
      refine ⟨_, rfl, _, rfl, _, _, rfl, rfl, mx gs gs, _, rfl, _, _, rfl, rfl, _, rfl, ite2 (fun e => ?_) (fun e => ?_)⟩
      · have e0 : n < g * g := of_decide_eq_true e
        obtain ⟨h1, h2, h3, h4⟩ := newton n0 g0 g1 e0
        refine ⟨_, rfl, _, rfl, _, rfl, _, _, rfl, rfl, dvw h1 gs, _, _, rfl, rfl, _, _, rfl, rfl, dvw (b := 3) (by decide) (by unfold Sm; decide), ⟨rfl, _, rfl, h2, h4, gs.of (by omega) (by omega)⟩, ?_⟩
        show ((g + n / g) / 2).toNat < g.toNat
        omega
      · have e0 : ¬ n < g * g := fun z => e (decide_eq_true z)
        refine ⟨_, rfl, ?_⟩
        rw [rt_of ⟨g0, by omega, g1⟩]
        exact k _ (Same.refl _)
    · rintro σ H' Q1 Q2 hq h
      obtain ⟨v, e1, v2, e2, i, j, e3, e4, cm, v3, e5, i2, j2, e6, e7, z⟩ := h
      exact ⟨v, e1, v2, e2, i, j, e3, e4, cm, v3, e5, i2, j2, e6, e7, z.imp fun k z => ⟨z.1, hq _ _ z.2⟩⟩
abbrev s_sign : Stmt := top 19
theorem sc_sign : FnScope ["number"] ["number"] (defScope s_sign) := ⟨rfl, rfl, rfl, by decide +kernel, rfl, by decide +kernel, by decide +kernel⟩

theorem ok_sign {f : Addr} {fd : FuncData} (F : Fun K "sign" "sign" s_sign f fd) : FnOk P w K mg base CX0 1 f fd ["number"] spSign := by
  refine F.ok sc_sign (fun vs H Q E h => ?_) (fun cdv A outer s H vs Q E hr h => ?_)
  · obtain ⟨n, rfl, _⟩ := h
    rfl
  · obtain ⟨n, rfl, k⟩ := h
    refine ⟨_, (pss_cons (ps_if (pt_cmpR op_gt (pv 0) pe_int (nomark _)) (pss_one (ps_ret pe_int)) pss_nil)
      (pss_cons (ps_if (pt_cmpR op_lt (pv 0) pe_int (nomark _)) (pss_one (ps_ret (pe_un un_neg pe_int))) pss_nil)
      (pss_one (ps_ret pe_int)))), ?_⟩
    unfold sg at k
    refine ⟨_, rfl, _, _, rfl, rfl, _, rfl, ite2 (fun e => ?_) (fun e => ?_)⟩
    · rw [if_pos (show 0 < n from of_decide_eq_true e)] at k
      exact k
    · rw [if_neg (show ¬ 0 < n from fun z => e (decide_eq_true z))] at k
      refine ⟨_, rfl, _, _, rfl, rfl, _, rfl, ite2 (fun e2 => ?_) (fun e2 => ?_)⟩
      · rw [if_pos (show n < 0 from of_decide_eq_true e2)] at k
        exact ⟨1, rfl, k⟩
      · rw [if_neg (show ¬ n < 0 from fun z => e2 (decide_eq_true z))] at k
        exact k
abbrev s_under_root : Stmt := top 62
theorem sc_under_root : FnScope ["square", "line", "whole"] ["square", "line", "whole"] (defScope s_under_root) := ⟨rfl, rfl, rfl, by decide +kernel, rfl, by decide +kernel, by decide +kernel⟩

theorem ok_under {f : Addr} {fd : FuncData} (F : Fun K "under_root" "under_root" s_under_root f fd) : FnOk P w K mg base CX0 1 f fd ["square", "line", "whole"] spUnder := by
  refine F.ok sc_under_root (fun vs H Q E h => ?_) (fun cdv A outer s H vs Q E hr h => ?_)
  · obtain ⟨a, b, c, rfl, _⟩ := h
    rfl
  · obtain ⟨a, b, c, rfl, ha, hb, hc, k⟩ := h
    refine ⟨_, (pss_one (ps_ret (pe_op op_add (pe_op op_mulX (pv 1) (pv 1)) (pe_op op_mulX (pe_op op_mul pe_int (pv 0)) (pv 2))))), ?_⟩
    have h4 : Sm 1003 (4 * a) := Sm.mul (m := 3) (n := 1000) (x := 4) (by unfold Sm; decide) ha
    exact ⟨_, rfl, _, rfl, _, _, rfl, rfl, mx hb hb, _, rfl, _, _, rfl, rfl, .inl ⟨by decide, by decide⟩, _, rfl, _, _, rfl, rfl, mx h4 hc, _, _, rfl, rfl, k⟩
abbrev s_equation_of_fraction : Stmt := top 64
theorem sc_equation_of_fraction : FnScope ["top", "bottom", "top_part", "bottom_part"] ["top", "bottom"] (defScope s_equation_of_fraction) := ⟨rfl, rfl, rfl, by decide +kernel, rfl, by decide +kernel, by decide +kernel⟩

theorem ok_eqf {f : Addr} {fd : FuncData} (F : Fun K "equation_of_fraction" "equation_of_fraction" s_equation_of_fraction f fd) (D_lowest_terms : Df P w K mg base 2 "lowest_terms" ["top", "bottom"] spLow) : FnOk P w K mg base CX0 3 f fd ["top", "bottom"] spEqF := by
  refine F.ok sc_equation_of_fraction (fun vs H Q E h => ?_) (fun cdv A outer s H vs Q E hr h => ?_)
  · obtain ⟨t, b, rfl, _⟩ := h
    rfl
  · obtain ⟨t, b, rfl, tb, ts, bs, k⟩ := h
    refine ⟨_, (pss_cons (ps_asg (pe_df D_lowest_terms (hr.mono (by decide)) (by rfl) (pa_cons (pv 0) (pa_cons (pv 1) pa_nil))) (pg_tup rfl (pgs_cons (pg_name (i := 2) sc_equation_of_fraction.nd rfl (.inl rfl)) (pgs_cons (pg_name (i := 3) sc_equation_of_fraction.nd rfl (.inl rfl)) pgs_nil))))
      (pss_one (ps_ret (pe_tup (pa_cons pe_int (pa_cons (pv 3) (pa_cons (pv 2) pa_nil))))))), ?_⟩
    refine ⟨_, rfl, _, rfl, t, b, rfl, tb, ts, bs, fun H1 p sm np hp => ?_⟩
    refine ⟨p, _, rfl, SqT.of hp, rfl, _, _, rfl, _, _, rfl, rfl, ?_⟩
    exact ⟨_, rfl, _, rfl, (by show 3 ≤ sizeLine; decide), fun q hq => k _ q (sm.trans (same_upd hq)) (sm.free hq) upd_same⟩
abbrev s_simplest_equation : Stmt := top 63
theorem sc_simplest_equation : FnScope ["square", "line", "whole", "inside", "root", "divisor"] ["square", "line", "whole"] (defScope s_simplest_equation) := ⟨rfl, rfl, rfl, by decide +kernel, rfl, by decide +kernel, by decide +kernel⟩

theorem ok_simp {f : Addr} {fd : FuncData} (F : Fun K "simplest_equation" "simplest_equation" s_simplest_equation f fd) (D_common_divisor : Df P w K mg base 1 "common_divisor" ["first", "second"] spGcd) (D_square_root : Df P w K mg base 1 "square_root" ["number"] spRoot)
    (D_under_root : Df P w K mg base 1 "under_root" ["square", "line", "whole"] spUnder) (D_equation_of_fraction : Df P w K mg base 3 "equation_of_fraction" ["top", "bottom"] spEqF) : FnOk P w K mg base CX0 4 f fd ["square", "line", "whole"] spSimp := by
  refine F.ok sc_simplest_equation (fun vs H Q E h => ?_) (fun cdv A outer s H vs Q E hr h => ?_)
  · obtain ⟨a, b, c, rfl, _⟩ := h
    rfl
  · obtain ⟨a, b, c, rfl, hG, ha, hb, hc, k⟩ := h
    refine ⟨_, (pss_cons (ps_if (pt_cmpR op_eq (pv 0) pe_int (nomark _)) (pss_one (ps_ret (pe_df D_equation_of_fraction (hr.mono (by decide)) (by rfl) (pa_cons (pv 2) (pa_cons (pv 1) pa_nil))))) pss_nil)
      (pss_cons (ps_set (i := 3) sc_simplest_equation.nd rfl (.inl rfl) (pe_df D_under_root (hr.mono (by decide)) (by rfl) (pa_cons (pv 0) (pa_cons (pv 1) (pa_cons (pv 2) pa_nil)))))
      (pss_cons (ps_set (i := 4) sc_simplest_equation.nd rfl (.inl rfl) (pe_df D_square_root (hr.mono (by decide)) (by rfl) (pa_cons (pv 3) pa_nil)))
      (pss_cons (ps_if (pt_cmpR op_eq (pe_op op_mulX (pv 4) (pv 4)) (pv 3) (nomark _)) (pss_one (ps_ret (pe_df D_equation_of_fraction (hr.mono (by decide)) (by rfl) (pa_cons (pe_op op_sub (pv 4) (pv 1)) (pa_cons (pe_op op_mul pe_int (pv 0)) pa_nil))))) pss_nil)
      (pss_cons (ps_set (i := 5) sc_simplest_equation.nd rfl (.inl rfl) (pe_df D_common_divisor (hr.mono (by decide)) (by rfl) (pa_cons (pe_df D_common_divisor (hr.mono (by decide)) (by rfl) (pa_cons (pv 0) (pa_cons (pv 1) pa_nil))) (pa_cons (pv 2) pa_nil))))
      (pss_one (ps_ret (pe_tup (pa_cons (pe_op op_fdivW (pv 0) (pv 5)) (pa_cons (pe_op op_fdivW (pv 1) (pv 5)) (pa_cons (pe_op op_fdivW (pv 2) (pv 5)) pa_nil))))))))))), ?_⟩
    unfold parts at k
    refine ⟨_, rfl, rfl, _, rfl, ite2 (fun e => ?_) (fun e => ?_)⟩
    · have a0 : a = 0 := V.int.inj (of_decide_eq_true e)
      rw [if_pos a0] at k
      have b0 : 1 ≤ b ∧ 0 ≤ c := by
        rcases hG with z | z
        · exact z.2
        · omega
      exact ⟨_, rfl, _, rfl, c, b, rfl, ⟨b0.2, by show 0 ≤ b; omega, .inr (by show 0 < b; omega)⟩, hc.mono (by decide), hb.mono (by decide), k⟩
    · have a0 : ¬ a = 0 := fun z => e (decide_eq_true (congrArg V.int z))
      rw [if_neg a0] at k
      have hg : 1 ≤ a ∧ 1 ≤ c := by
        rcases hG with z | z
        · exact absurd z.1 a0
        · exact z
      have ip := inside_pos (b := b) hg
      have hd : Sm 270 (b * b + 4 * a * c) := by
        have h4 : Sm 3 4 := by unfold Sm; decide
        have e1 : Sm (133 + 133) (b * b) := hb.mul hb
        have e2 : Sm (3 + 133 + 133) (4 * a * c) := (h4.mul ha).mul hc
        exact (Sm.add (n := 269) (e1.mono (by decide)) (e2.mono (by decide)))
      have hr0 : Sm 135 (rt (b * b + 4 * a * c)) := rt_sm (n := 135) ip.2 hd
      refine ⟨_, rfl, _, rfl, _, rfl, a, b, c, rfl, ha.mono (by decide), hb.mono (by decide), hc.mono (by decide), ?_⟩
      refine ⟨_, rfl, _, rfl, ip.2, hd.mono (by decide), fun H1 sm => ?_⟩
      refine ⟨_, rfl, _, rfl, _, _, rfl, rfl, mx hr0 hr0, _, rfl, rfl, _, rfl, ite2 (fun e2 => ?_) (fun e2 => ?_)⟩
      · have e3 : rt (b * b + 4 * a * c) * rt (b * b + 4 * a * c) = b * b + 4 * a * c := V.int.inj (of_decide_eq_true e2)
        rw [if_pos e3] at k
        have rg := rt_gt ip.1 (rt_is ip.2).1 e3.symm
        refine ⟨_, rfl, _, rfl, _, _, rfl, rfl, _, rfl, _, _, rfl, rfl, .inl ⟨by decide, by decide⟩, _, _, rfl, ⟨by show 0 ≤ rt (b * b + 4 * a * c) - b; omega, by show 0 ≤ 2 * a; omega, .inr (by show 0 < 2 * a; omega)⟩, ?_, ?_, fun H2 p sm2 np hp => ?_⟩
        · exact (hr0.sub (hb.mono (by decide))).mono (by decide)
        · exact (Sm.mul (m := 2) (n := 133) (x := 2) (by unfold Sm; decide) ha).mono (by decide)
        · exact k _ p (sm.trans sm2) (sm.free np) hp
      · have e3 : ¬ rt (b * b + 4 * a * c) * rt (b * b + 4 * a * c) = b * b + 4 * a * c := fun z => e2 (decide_eq_true (congrArg V.int z))
        rw [if_neg e3] at k
        have g0 : 0 < gc (gc a b) c := gc_pos (.inr (by omega))
        have gb : gc (gc a b) c ≤ c := Int.le_of_dvd (by omega) (gc_dvd2 _ _)
        have gs : Sm 133 (gc (gc a b) c) := hc.of (by omega) gb
        refine ⟨_, rfl, _, rfl, a, b, rfl, _, rfl, _, _, rfl, ?_⟩
        refine ⟨_, rfl, _, rfl, _, _, rfl, rfl, dvw g0 gs, _, rfl, _, rfl, _, _, rfl, rfl, dvw g0 gs, _, rfl, _, rfl, _, _, rfl, rfl, dvw g0 gs, (by show 3 ≤ sizeLine; decide), fun p hp => ?_⟩
        exact k _ _ (sm.trans (same_upd hp)) (sm.free hp) upd_same
end
end RL

set_option maxHeartbeats 1000000
namespace RL
open PySem L2 PySem.Spec PyProof.Rows
theorem sm12 {i : Int} (h1 : 0 ≤ i) (h2 : i ≤ 1000000000000) : Sm 1000 i := by
  have e : (10 : Int) ^ 40 = 10000000000000000000000000000000000000000 := by decide
  exact (sm40 (x := i) (by omega) (by omega)).mono (by decide)
def ExAt (C : Addr) (H : Hp) (x : Addr) (s l w : Int) : Prop := ∃ dx p : Addr, H x = some (.ins C dx [("parts", .ref p)]) ∧ H p = some (.tup [.int s, .int l, .int w])
def Big (a b c : Int) : Prop := Good a b c ∧ a ≤ 10000000000000000000000000000000000000000 ∧ -10000000000000000000000000000000000000000 ≤ b ∧ b ≤ 10000000000000000000000000000000000000000 ∧ c ≤ 10000000000000000000000000000000000000000
theorem Big.sm {a b c : Int} (h : Big a b c) : Sm 133 a ∧ Sm 133 b ∧ Sm 133 c := by
  obtain ⟨g, h1, h2, h3, h4⟩ := h
  have e : (10 : Int) ^ 40 = 10000000000000000000000000000000000000000 := by decide
  have a0 : 0 ≤ a ∧ 0 ≤ c := by
    rcases g with g | g <;> omega
  exact ⟨sm40 (by omega) (by omega), sm40 (by omega) (by omega), sm40 (by omega) (by omega)⟩
def spInit (C : Addr) : Sp := fun vs H Q _ => ∃ (x dx : Addr) (a b c : Int), vs = [.ref x, .int a, .int b, .int c] ∧ H x = some (.ins C dx []) ∧ Big a b c ∧
  ∀ H' : Hp, But x H H' → ExAt C H' x (parts a b c).1 (parts a b c).2.1 (parts a b c).2.2 → Q .non H'
theorem eqv3 {a b c d e f : Int} : PyData.eqv (.tuple [.int a, .int b, .int c]) (.tuple [.int d, .int e, .int f]) = decide ((a, b, c) = (d, e, f)) := by
  rw [Bool.eq_iff_iff]
  simp [PyData.eqv, PyData.eqvAll]
def spFt : Sp := fun vs H Q _ => ∃ t b : Int, vs = [.int t, .int b] ∧ Sm 200 t ∧ Sm 200 b ∧ Q (.str (ftext t b)) H
def spCm : Sp := fun vs H Q _ => ∃ (p : Addr) (a b c : Int), vs = [.ref p] ∧ H p = some (.tup [.int a, .int b, .int c]) ∧ Sm 200 a ∧ Sm 200 b ∧ Sm 200 c ∧ ∀ H', Same H H' → Q (.str (commas a b c)) H'
def spStr (C : Addr) : Sp := fun vs H Q _ => ∃ (x : Addr) (s l w : Int), vs = [.ref x] ∧ ExAt C H x s l w ∧ Sm 200 s ∧ Sm 200 l ∧ Sm 200 w ∧ ∀ H', Same H H' → Q (.str (xtext s l w)) H'
def spRep (C : Addr) : Sp := fun vs H Q _ => ∃ (x : Addr) (s l w : Int), vs = [.ref x] ∧ ExAt C H x s l w ∧ Sm 200 s ∧ Sm 200 l ∧ Sm 200 w ∧ ∀ H', Same H H' → Q (.str (rtext s l w)) H'
def spEqn (C : Addr) : Sp := fun vs H Q _ => ∃ (x dx p : Addr), vs = [.ref x] ∧ H x = some (.ins C dx [("parts", .ref p)]) ∧ Q (.ref p) H
def spFrac (C : Addr) : Sp := fun vs H Q _ => ∃ (x : Addr) (s l w : Int), vs = [.ref x] ∧ ExAt C H x s l w ∧ (s = 0 → ∀ H' q, Same H H' → H' q = some (.tup [.int w, .int l]) → Q (.ref q) H') ∧ (s ≠ 0 → Q .non H)
/-! ### a new Exact, by position and by keywords -/
structure ExD (P : Program) (w : World) (K : PySem.W.Frag) (mg : Str → Option Value) (base : Heap) (C : Addr) : Prop where
  ex : ∃ (fI : Addr) (fdI : FuncData), Mk K C fI ∧ FnOk P w K mg base CX0 5 fI fdI ["self", "square", "line", "whole"] (spInit C) ∧ Binds K fdI ["self", "square", "line", "whole"] []
theorem pe_exact {X : Cx} {C : Addr} {p pos : Pos} {e : Expr} {es : List Expr} {t : TA} (D : ExD X.prog X.w X.K X.mg X.base C) (hr : Room 6 X.A) (hg : Gl X "Exact") (hm : X.mg "Exact" = some (.ref C))
    (ha : PA X (e :: es) t) (he : starEach (e :: es) X.env = (false, eval e X.env) :: starEach es X.env := by rfl) (hpl : (backTo pos (starEach es X.env)).any (·.1) = false := by rfl) :
    PE X (.Call (.Name "Exact" p) (e :: es) [] pos) (tMake C (spInit C) [] E0 t) := by
  obtain ⟨fI, fdI, M, G, hb⟩ := D.ex
  exact pe_make M G hr hg hm hb .nil pass0 ha (by decide) he hpl
theorem ExAt.same {C x : Addr} {H H' : Hp} {s l w : Int} (h : ExAt C H x s l w) (sm : Same H H') : ExAt C H' x s l w := by
  obtain ⟨dx, p, a, b⟩ := h
  exact ⟨dx, p, sm _ _ a, sm _ _ b⟩
theorem ExAt.but {C x c : Addr} {H H' : Hp} {s l w : Int} (h : ExAt C H x s l w) (hc : CupAt c H) (sm : But c H H') : ExAt C H' x s l w := by
  obtain ⟨dx, p, a, b⟩ := h
  refine ⟨dx, p, ?_, sm.tup hc b⟩
  obtain ⟨u, v, e, _⟩ := hc
  exact sm _ _ (ne_of a e (by intro z; cases z)) a
theorem div_pos {b g : Int} (hb : 0 < b) (d : g ∣ b) (hg : 0 < g) : 1 ≤ b / g := by
  have e := ex_mul d hg
  rcases Int.lt_or_le 0 (b / g) with z | z
  · omega
  · have := Int.mul_nonpos_of_nonneg_of_nonpos (Int.le_of_lt hg) z
    omega
theorem div_div {a g : Int} (ha : 0 < a) (d : g ∣ a) (hg : 0 < g) : a / (a / g) = g := by
  have e := ex_mul d hg
  have p := div_pos ha d hg
  generalize a / g = q at *
  subst e
  exact Int.mul_ediv_cancel _ (by omega)
def spNormal : Sp := fun vs H Q _ => ∃ a b c : Int, vs = [.int a, .int b, .int c] ∧ Good a b c ∧ Sm 133 a ∧ Sm 133 b ∧ Sm 133 c ∧
  ∀ H' p, Same H H' → H' p = some (.tup [.int (parts a b c).1, .int (parts a b c).2.1, .int (parts a b c).2.2]) → Q (.ref p) H'
section
variable {P : Program} {w : World} {K : PySem.W.Frag} {mg : Str → Option Value} {base : Heap} {tG t1 t2 t3 tP tC : Tok} {aO aW J C Ce Cl fP fJ : Addr} {fdJ : FuncData}
abbrev s_Exact_init : Stmt := inClass (top 61) 0
theorem sc_Exact_init : FnScope ["self", "square", "line", "whole"] ["self", "square", "line", "whole"] (defScope s_Exact_init) := ⟨rfl, rfl, rfl, by decide +kernel, rfl, by decide +kernel, by decide +kernel⟩

theorem ok_init {f : Addr} {fd : FuncData} (F : Fun K "__init__" "Exact.__init__" s_Exact_init f fd) (T : Txt4 K mg tG t1 t2 t3 tP tC aO aW J C Ce Cl) (D_is_integer_within : Df P w K mg base 2 "is_integer_within" ["value", "least", "most"] spWithin) (D_simplest_equation : Df P w K mg base 4 "simplest_equation" ["square", "line", "whole"] spSimp) :
    FnOk P w K mg base CX0 5 f fd ["self", "square", "line", "whole"] (spInit Ce) := by
  refine F.ok sc_Exact_init (fun vs H Q E h => ?_) (fun cdv A outer s H vs Q E hr h => ?_)
  · obtain ⟨x, dx, a, b, c, rfl, _⟩ := h
    rfl
  · obtain ⟨x, dx, a, b, c, rfl, hx, hB, k⟩ := h
    refine ⟨_, (pss_cons (ps_if (pt_not (pt_val (pe_df D_is_integer_within (hr.mono (by decide)) (by rfl) (pa_cons (pv 1) (pa_cons pe_int (pa_cons (pe_glob (v := .int 10000000000000000000000000000000000000000) rfl T.mgP ⟨_, rfl⟩) pa_nil)))))) (pss_one ps_never) pss_nil)
      (pss_cons (ps_if (PW.pt (pw_or (pt_not (pt_val (pe_df D_is_integer_within (hr.mono (by decide)) (by rfl) (pa_cons (pv 2) (pa_cons (pe_un un_neg (pe_glob (v := .int 10000000000000000000000000000000000000000) rfl T.mgP ⟨_, rfl⟩)) (pa_cons (pe_glob (v := .int 10000000000000000000000000000000000000000) rfl T.mgP ⟨_, rfl⟩) pa_nil)))))) (pw_or1 (PW.pt (pw_and (pt_cmpR op_eq (pv 1) pe_int (nomark _)) (pw_and1 (pt_cmpR op_lt (pv 2) pe_int (nomark _)))))))) (pss_one ps_never) pss_nil)
      (pss_cons (ps_if (PW.pt (pw_or (pt_not (pt_val (pe_df D_is_integer_within (hr.mono (by decide)) (by rfl) (pa_cons (pv 3) (pa_cons pe_int (pa_cons (pe_glob (v := .int 10000000000000000000000000000000000000000) rfl T.mgP ⟨_, rfl⟩) pa_nil)))))) (pw_or1 (PW.pt (pw_and (pt_cmpR op_ne (pv 1) pe_int (nomark _)) (pw_and1 (pt_cmpR op_eq (pv 3) pe_int (nomark _)))))))) (pss_one ps_never) pss_nil)
      (pss_one (ps_fld (pv 0) (pe_df D_simplest_equation (hr.mono (by decide)) (by rfl) (pa_cons (pv 1) (pa_cons (pv 2) (pa_cons (pv 3) pa_nil)))) rfl))))), ?_⟩
    obtain ⟨sa, sb, sc⟩ := hB.sm
    obtain ⟨g, h1, h2, h3, h4⟩ := hB
    have a0 : 0 ≤ a ∧ 0 ≤ c := by
      rcases g with g | g <;> omega
    refine ⟨_, rfl, a, 0, _, rfl, a0.1, h1, true, rfl, iteF ?_⟩
    refine ⟨_, rfl, _, rfl, b, _, _, rfl, h2, h3, true, rfl, iteF ?_⟩
    refine both (fun rest => ⟨_, rfl, rfl, _, rfl, ite2 (fun e => ⟨_, rfl, _, _, rfl, rfl, _, rfl, ite2 (fun e2 => ?_) (fun _ => rest)⟩) (fun _ => iteF rest)⟩) ?_
    · have e3 : a = 0 := V.int.inj (of_decide_eq_true e)
      have e4 : b < 1 := of_decide_eq_true e2
      rcases g with g | g <;> omega
    refine ⟨_, rfl, c, 0, _, rfl, a0.2, h4, true, rfl, iteF ?_⟩
    refine both (fun rest => ⟨_, rfl, rfl, _, rfl, ite2 (fun e => ⟨_, rfl, rfl, _, rfl, ite2 (fun e2 => ?_) (fun _ => rest)⟩) (fun _ => iteF rest)⟩) ?_
    · have e3 : ¬ a = 0 := fun z => by
        have e5 : (!decide (V.int a = V.int 0)) = true := e
        rw [decide_eq_true (congrArg V.int z)] at e5
        cases e5
      have e4 : c = 0 := V.int.inj (of_decide_eq_true e2)
      rcases g with g | g <;> omega
    refine ⟨_, rfl, _, rfl, _, rfl, a, b, c, rfl, g, sa, sb, sc, fun H1 p sm np hp => ?_⟩
    have hx1 := sm _ _ hx
    have nxp : x ≠ p := ne_of hx1 hp (by intro z; cases z)
    refine ⟨_, rfl, x, Ce, dx, _, rfl, hx1, T.clE, T.nP, (by show 0 < 1000; decide), ?_⟩
    refine k _ ((But.of sm).trans But.upd) ⟨dx, p, upd_same, ?_⟩
    rw [upd_ne nxp.symm]
    exact hp
theorem lg {i : Int} (h : Sm 200 i) : i.natAbs.log2 < 1920 := Nat.lt_trans (log_sm (by decide) h) (by decide)
abbrev s_fraction_text : Stmt := top 18
theorem sc_fraction_text : FnScope ["top", "bottom"] ["top", "bottom"] (defScope s_fraction_text) := ⟨rfl, rfl, rfl, by decide +kernel, rfl, by decide +kernel, by decide +kernel⟩

theorem ok_ft {f : Addr} {fd : FuncData} (F : Fun K "fraction_text" "fraction_text" s_fraction_text f fd) (T : Txt K mg) : FnOk P w K mg base CX0 1 f fd ["top", "bottom"] spFt := by
  refine F.ok sc_fraction_text (fun vs H Q E h => ?_) (fun cdv A outer s H vs Q E hr h => ?_)
  · obtain ⟨t, b, rfl, _⟩ := h
    rfl
  · obtain ⟨t, b, rfl, ht, hb, k⟩ := h
    refine ⟨_, (pss_cons (ps_if (pt_cmpR op_eq (pv 1) pe_int (nomark _)) (pss_one (ps_ret (pe_callTy call_str_int (by rfl) T.str_ (by decide +kernel) (pa_cons (pv 0) pa_nil)))) pss_nil)
      (pss_one (ps_ret (pe_joined (PJ.cons (pe_fmt (pv 0)) (PJ.cons pe_str (PJ.cons (pe_fmt (pv 1)) PJ.nil))))))), ?_⟩
    unfold ftext at k
    refine ⟨_, rfl, rfl, _, rfl, ite2 (fun e => ?_) (fun e => ?_)⟩
    · rw [if_pos (V.int.inj (of_decide_eq_true e))] at k
      exact ⟨_, rfl, _, rfl, lg ht, k⟩
    · rw [if_neg (fun z => e (decide_eq_true (congrArg V.int z)))] at k
      have o1 : OkT 201 (Str.empty ++ ts t) := by
        rw [Str.empty_append]
        exact ts_ok ht
      have o2 := o1.app (OkT.of "/")
      have o3 := o2.app (ts_ok hb)
      refine ⟨_, rfl, .inr ⟨_, rfl, lg ht, _, rfl, o1.fits, _, rfl, o2.fits, _, rfl, .inr ⟨_, rfl, lg hb, _, rfl, o3.fits, ?_⟩⟩⟩
      show Q (.str (((Str.empty ++ ts t) ++ "/") ++ ts b)) H
      rw [Str.empty_append]
      exact k
abbrev s_with_commas : Stmt := top 65
theorem sc_with_commas : FnScope ["parts", "part"] ["parts"] (defScope s_with_commas) := ⟨rfl, rfl, rfl, by decide +kernel, rfl, by decide +kernel, by decide +kernel⟩

theorem ok_cm {f : Addr} {fd : FuncData} (F : Fun K "with_commas" "with_commas" s_with_commas f fd) (T : Txt K mg) : FnOk P w K mg base CX0 1 f fd ["parts"] spCm := by
  refine F.ok sc_with_commas (fun vs H Q E h => ?_) (fun cdv A outer s H vs Q E hr h => ?_)
  · obtain ⟨p, a, b, c, rfl, _⟩ := h
    rfl
  · obtain ⟨p, a, b, c, rfl, hp, ha, hb, hc, k⟩ := h
    refine ⟨_, (pss_one (ps_ret (pe_join pe_str (pe_lc (own := [("part", 1)]) (g := gName 1) (tt := tYes) rfl sc_with_commas.nd (pi_tup (pv 0)) (blkOk_by (N := ["parts", "part"]) (sc := defScope s_with_commas) (by decide +kernel)) (fun _ _ _ _ _ => pg_name (i := 1) sc_with_commas.nd rfl (Or.inl rfl)) (fun _ _ _ _ _ => pts_nil) (fun _ _ _ _ _ => (pe_callTy call_str_int (by rfl) T.str_ (by decide +kernel) (pa_cons (pv 1) pa_nil))))))), ?_⟩
    refine ⟨⟨_, rfl⟩, _, rfl, p, rfl, ⟨_, SqT.of hp⟩, fun D hD => ?_⟩
    refine lc_tup (K := K) (a := p) (xs := [.int a, .int b, .int c]) (fun i H' => But D H H' ∧ H' D = some (.lst (([ts a, ts b, ts c].take i).map V.str))) ⟨But.upd, upd_same⟩ (fun i H' _ h => SqT.of (h.1 _ _ (ne_of_none hp hD) hp)) ?_ ?_
    · rintro i y H1 hi ⟨bD, hDi⟩
      refine ⟨rfl, ?_⟩
      unfold tYes
      refine iteT ?_
      obtain ⟨z, rfl, hz, ez⟩ : ∃ z : Int, y = .int z ∧ Sm 200 z ∧ [ts a, ts b, ts c].take (i + 1) = [ts a, ts b, ts c].take i ++ [ts z] := by
        match i, hi with
        | 0, hi =>
          cases hi
          exact ⟨a, rfl, ha, rfl⟩
        | 1, hi =>
          cases hi
          exact ⟨b, rfl, hb, rfl⟩
        | 2, hi =>
          cases hi
          exact ⟨c, rfl, hc, rfl⟩
      refine ⟨_, rfl, _, rfl, lg hz, _, hDi, ?_, ?_, ?_⟩
      · rw [List.length_map, List.length_take]
        exact small1000 (Nat.le_trans (Nat.min_le_right _ _) (by show 3 ≤ 1000; decide))
      · intro q o nq e
        rw [upd_ne nq]
        exact bD _ _ nq e
      · rw [upd_same, ez, List.map_append]
        rfl
    · rintro H1 ⟨bD, hDn⟩
      refine ⟨_, D, [ts a, ts b, ts c], rfl, rfl, .inl (SqL.of hDn), ?_, ?_⟩
      · have l1 := (ts_ok ha).len
        have l2 := (ts_ok hb).len
        have l3 := (ts_ok hc).len
        show ((ts a).length + ((ts b).length + ((ts c).length + 0))) + 3 * 2 ≤ 16777216
        omega
      · rw [join3]
        exact k _ fun q o e => bD _ _ (ne_of_none e hD) e
abbrev s_Exact_str : Stmt := inClass (top 61) 7
theorem sc_Exact_str : FnScope ["self"] ["self"] (defScope s_Exact_str) := ⟨rfl, rfl, rfl, by decide +kernel, rfl, by decide +kernel, by decide +kernel⟩

theorem ok_str {f : Addr} {fd : FuncData} (F : Fun K "__str__" "Exact.__str__" s_Exact_str f fd) (T : Txt4 K mg tG t1 t2 t3 tP tC aO aW J C Ce Cl) (D_fraction_text : Df P w K mg base 1 "fraction_text" ["top", "bottom"] spFt) (D_with_commas : Df P w K mg base 1 "with_commas" ["parts"] spCm) : FnOk P w K mg base CX0 2 f fd ["self"] (spStr Ce) := by
  refine F.ok sc_Exact_str (fun vs H Q E h => ?_) (fun cdv A outer s H vs Q E hr h => ?_)
  · obtain ⟨x, a, b, c, rfl, _⟩ := h
    rfl
  · obtain ⟨x, a, b, c, rfl, ⟨dx, pp, hx, hpp⟩, ha, hb, hc, k⟩ := h
    refine ⟨_, (pss_cons (ps_if (pt_cmpR op_eq (pe_ix ix_tup (pe_fld (pv 0) rfl) pe_int (fun _ _ => rfl)) pe_int (nomark _)) (pss_one (ps_ret (pe_callTy SkE.call_str_str (by rfl) T.str_ (by decide +kernel) (pa_cons (pe_df D_fraction_text (hr.mono (by decide)) (by rfl) (pa_cons (pe_ix ix_tup (pe_fld (pv 0) rfl) pe_int (fun _ _ => rfl)) (pa_cons (pe_ix ix_tup (pe_fld (pv 0) rfl) pe_int (fun _ _ => rfl)) pa_nil))) pa_nil)))) pss_nil)
      (pss_one (ps_ret (pe_joined (PJ.cons pe_str (PJ.cons (pe_fmt (pe_df D_with_commas (hr.mono (by decide)) (by rfl) (pa_cons (pe_fld (pv 0) rfl) pa_nil))) PJ.nil)))))), ?_⟩
    unfold xtext at k
    refine ⟨_, rfl, x, Ce, dx, _, _, rfl, hx, T.clE, T.nP, rfl, pp, _, _, _, rfl, rfl, SqT.of hpp, atI_nat (j := 0) rfl, rfl, _, rfl, ite2 (fun e => ?_) (fun e => ?_)⟩
    · rw [if_pos (V.int.inj (of_decide_eq_true e))] at k
      exact ⟨_, rfl, x, Ce, dx, _, _, rfl, hx, T.clE, T.nP, rfl, pp, _, _, _, rfl, rfl, SqT.of hpp, atI_nat (j := 2) rfl, _, rfl, x, Ce, dx, _, _, rfl, hx, T.clE, T.nP, rfl, pp, _, _, _, rfl, rfl, SqT.of hpp, atI_nat (j := 1) rfl, c, b, rfl, hc, hb, _, rfl, k _ (Same.refl _)⟩
    · rw [if_neg (fun z => e (decide_eq_true (congrArg V.int z)))] at k
      have o1 : OkT 8 (Str.empty ++ Str.ofString "root of ") := by
        rw [Str.empty_append]
        exact OkT.of "root of "
      have o2 := o1.app (commas_ok ha hb hc)
      refine ⟨_, rfl, o1.fits, _, rfl, x, Ce, dx, _, _, rfl, hx, T.clE, T.nP, rfl, pp, a, b, c, rfl, hpp, ha, hb, hc, fun H1 s1 => .inl ⟨_, rfl, (commas_ok ha hb hc).fits, _, rfl, o2.fits, ?_⟩⟩
      show Q (.str ((Str.empty ++ Str.ofString "root of ") ++ commas a b c)) H1
      rw [Str.empty_append]
      exact k _ s1
abbrev s_Exact_repr : Stmt := inClass (top 61) 8
theorem sc_Exact_repr : FnScope ["self"] ["self"] (defScope s_Exact_repr) := ⟨rfl, rfl, rfl, by decide +kernel, rfl, by decide +kernel, by decide +kernel⟩

theorem ok_rep {f : Addr} {fd : FuncData} (F : Fun K "__repr__" "Exact.__repr__" s_Exact_repr f fd) (T : Txt4 K mg tG t1 t2 t3 tP tC aO aW J C Ce Cl) (D_with_commas : Df P w K mg base 1 "with_commas" ["parts"] spCm) : FnOk P w K mg base CX0 2 f fd ["self"] (spRep Ce) := by
  refine F.ok sc_Exact_repr (fun vs H Q E h => ?_) (fun cdv A outer s H vs Q E hr h => ?_)
  · obtain ⟨x, a, b, c, rfl, _⟩ := h
    rfl
  · obtain ⟨x, a, b, c, rfl, ⟨dx, pp, hx, hpp⟩, ha, hb, hc, k⟩ := h
    refine ⟨_, (pss_one (ps_ret (pe_joined (PJ.cons pe_str (PJ.cons (pe_fmt (pe_df D_with_commas (hr.mono (by decide)) (by rfl) (pa_cons (pe_fld (pv 0) rfl) pa_nil))) (PJ.cons pe_str PJ.nil)))))), ?_⟩
    have o1 : OkT 6 (Str.empty ++ Str.ofString "Exact(") := by
      rw [Str.empty_append]
      exact OkT.of "Exact("
    have o2 := o1.app (commas_ok ha hb hc)
    have o3 := o2.app (OkT.of ")")
    refine ⟨_, rfl, o1.fits, _, rfl, x, Ce, dx, _, _, rfl, hx, T.clE, T.nP, rfl, pp, a, b, c, rfl, hpp, ha, hb, hc, fun H1 s1 => .inl ⟨_, rfl, (commas_ok ha hb hc).fits, _, rfl, o2.fits, _, rfl, o3.fits, ?_⟩⟩
    show Q (.str (((Str.empty ++ Str.ofString "Exact(") ++ commas a b c) ++ Str.ofString ")")) H1
    rw [Str.empty_append]
    exact k _ s1
abbrev s_Exact_fraction : Stmt := inClass (top 61) 1
theorem sc_Exact_fraction : FnScope ["self", "square", "line", "whole"] ["self"] (defScope s_Exact_fraction) := ⟨rfl, rfl, rfl, by decide +kernel, rfl, by decide +kernel, by decide +kernel⟩

theorem ok_frac {f : Addr} {fd : FuncData} (F : Fun K "fraction" "Exact.fraction" s_Exact_fraction f fd) (T : Txt4 K mg tG t1 t2 t3 tP tC aO aW J C Ce Cl) : FnOk P w K mg base CX0 1 f fd ["self"] (spFrac Ce) := by
  refine F.ok sc_Exact_fraction (fun vs H Q E h => ?_) (fun cdv A outer s H vs Q E hr h => ?_)
  · obtain ⟨x, a, b, c, rfl, _⟩ := h
    rfl
  · obtain ⟨x, a, b, c, rfl, ⟨dx, pp, hx, hpp⟩, k1, k2⟩ := h
    refine ⟨_, (pss_cons (ps_asg (pe_fld (pv 0) rfl) (pg_tup rfl (pgs_cons (pg_name (i := 1) sc_Exact_fraction.nd rfl (.inl rfl)) (pgs_cons (pg_name (i := 2) sc_Exact_fraction.nd rfl (.inl rfl)) (pgs_cons (pg_name (i := 3) sc_Exact_fraction.nd rfl (.inl rfl)) pgs_nil)))))
      (pss_cons (ps_if (pt_cmpR op_eq (pv 1) pe_int (nomark _)) (pss_one (ps_ret (pe_tup (pa_cons (pv 3) (pa_cons (pv 2) pa_nil))))) pss_nil)
      (pss_one (ps_ret pe_non)))), ?_⟩
    refine ⟨_, rfl, x, Ce, dx, _, _, rfl, hx, T.clE, T.nP, rfl, pp, _, rfl, SqT.of hpp, rfl, _, _, rfl, _, _, rfl, _, _, rfl, rfl, ?_⟩
    refine ⟨_, rfl, rfl, _, rfl, ite2 (fun e => ?_) (fun e => ?_)⟩
    · have a0 : a = 0 := V.int.inj (of_decide_eq_true e)
      exact ⟨_, rfl, _, rfl, (by show 2 ≤ sizeLine; decide), fun q hq => k1 a0 _ q (same_upd hq) upd_same⟩
    · exact k2 fun z => e (decide_eq_true (congrArg V.int z))
abbrev s_Exact_equation : Stmt := inClass (top 61) 2
theorem sc_Exact_equation : FnScope ["self"] ["self"] (defScope s_Exact_equation) := ⟨rfl, rfl, rfl, by decide +kernel, rfl, by decide +kernel, by decide +kernel⟩

theorem ok_eqn {f : Addr} {fd : FuncData} (F : Fun K "equation" "Exact.equation" s_Exact_equation f fd) (T : Txt4 K mg tG t1 t2 t3 tP tC aO aW J C Ce Cl) : FnOk P w K mg base CX0 1 f fd ["self"] (spEqn Ce) := by
  refine F.ok sc_Exact_equation (fun vs H Q E h => ?_) (fun cdv A outer s H vs Q E hr h => ?_)
  · obtain ⟨x, dx, p, rfl, _⟩ := h
    rfl
  · obtain ⟨x, dx, p, rfl, hx, k⟩ := h
    refine ⟨_, (pss_one (ps_ret (pe_fld (pv 0) rfl))), ?_⟩
    exact ⟨_, rfl, x, Ce, dx, _, _, rfl, hx, T.clE, T.nP, rfl, k⟩
end
end RL

/-! When two rows show the same: their four fractions. -/
namespace RL
theorem step_det (m : Mx) (p : Pc) : (stepM m p).a * (stepM m p).d - (stepM m p).b * (stepM m p).c = (if p.1 = true then 1 else p.2 * p.2) * (m.a * m.d - m.b * m.c) := by
  unfold stepM
  split <;> dsimp <;> grind
theorem fold_det (r : List Pc) : ∀ (m : Mx) (s : Int), m.a * m.d - m.b * m.c = s * s → (r.foldl stepM m).a * (r.foldl stepM m).d - (r.foldl stepM m).b * (r.foldl stepM m).c = (r.foldl stepS s) * (r.foldl stepS s) := by
  induction r with
  | nil => exact fun _ _ h => h
  | cons p r ih =>
    intro m s h
    rw [List.foldl_cons, List.foldl_cons]
    refine ih _ _ ?_
    rw [step_det, h]
    unfold stepS
    split
    · omega
    · grind
theorem matR_det (r : List Pc) : (matR r).a * (matR r).d - (matR r).b * (matR r).c = sclR r * sclR r := fold_det r m1 1 (by decide)
theorem low_cross {x y : Int × Int} (hx : Pos2 x) (hy : Pos2 y) (h : low x = low y) : ∃ g k : Int, 0 < g ∧ 0 < k ∧ sc k x = sc g y := by
  refine ⟨gc x.1 x.2, gc y.1 y.2, gc_pos2 hx, gc_pos2 hy, ?_⟩
  have e1 := low_is hx
  have e2 := low_is hy
  rw [h] at e1
  generalize gc x.1 x.2 = g at *
  generalize gc y.1 y.2 = k at *
  generalize low y = l at *
  rw [e1, e2]
  unfold sc
  ext <;> dsimp <;> grind
theorem sq_eq {x y : Int} (hx : 0 < x) (hy : 0 < y) (h : x * x = y * y) : x = y := by
  have e : (x - y) * (x + y) = 0 := by grind
  rcases Int.mul_eq_zero.mp e with z | z <;> omega
/-- shown alike in front of three loads: the maps are alike but for a factor -/
theorem three {A B C D s A' B' C' D' s' g1 k1 g2 k2 : Int} (hs : 0 < s) (hs' : 0 < s') (hg1 : 0 < g1) (hk1 : 0 < k1) (hg2 : 0 < g2) (hk2 : 0 < k2) (d : A * D - B * C = s * s) (d' : A' * D' - B' * C' = s' * s')
    (a1 : k1 * A = g1 * A') (c1 : k1 * C = g1 * C') (b2 : k2 * B = g2 * B') (d2 : k2 * D = g2 * D') (h3 : (A + B) * (C' + D') = (A' + B') * (C + D)) :
    A * s' = A' * s ∧ B * s' = B' * s ∧ C * s' = C' * s ∧ D * s' = D' * s := by
  have hss : 0 < s * s := Int.mul_pos hs hs
  have e1 : g2 * k1 * (s * s) = g1 * k2 * (s * s) := by
    have : g1 * g2 * ((A + B) * (C' + D')) = g1 * g2 * ((A' + B') * (C + D)) := by rw [h3]
    have l : g1 * g2 * ((A + B) * (C' + D')) = (A + B) * (g2 * (g1 * C') + g1 * (g2 * D')) := by grind
    have r : g1 * g2 * ((A' + B') * (C + D)) = (g2 * (g1 * A') + g1 * (g2 * B')) * (C + D) := by grind
    rw [l, r, ← c1, ← d2, ← a1, ← b2] at this
    rw [← d]
    grind
  have e2 : g2 * k1 = g1 * k2 := Int.eq_of_mul_eq_mul_right (by omega) e1
  have e3 : g1 * g2 * (s' * s') = k1 * k2 * (s * s) := by
    rw [← d, ← d']
    have : g1 * g2 * (A' * D' - B' * C') = (g1 * A') * (g2 * D') - (g2 * B') * (g1 * C') := by grind
    rw [this, ← a1, ← d2, ← b2, ← c1]
    grind
  have e4 : g2 * ((g1 * s') * (g1 * s')) = g2 * ((k1 * s) * (k1 * s)) := by
    have l : g2 * ((g1 * s') * (g1 * s')) = g1 * (g1 * g2 * (s' * s')) := by grind
    have r : g2 * ((k1 * s) * (k1 * s)) = (g2 * k1) * k1 * (s * s) := by grind
    rw [l, r, e3, e2]
    grind
  have e5 : (g1 * s') * (g1 * s') = (k1 * s) * (k1 * s) := Int.eq_of_mul_eq_mul_left (by omega) e4
  have e6 : g1 * s' = k1 * s := sq_eq (Int.mul_pos hg1 hs') (Int.mul_pos hk1 hs) e5
  have e7 : g2 * s' = k2 * s := by
    refine Int.eq_of_mul_eq_mul_left (a := g1) (by omega) ?_
    have l : g1 * (g2 * s') = g2 * (g1 * s') := by grind
    have r : g1 * (k2 * s) = (g1 * k2) * s := by grind
    rw [l, r, e6, ← e2]
    grind
  have fin : ∀ {g k X X' : Int}, 0 < g → k * X = g * X' → g * s' = k * s → X * s' = X' * s := fun {g k X X'} hg h1 h2 => by
    refine Int.eq_of_mul_eq_mul_left (a := g) (by omega) ?_
    have l : g * (X * s') = X * (g * s') := by grind
    have r : g * (X' * s) = (g * X') * s := by grind
    rw [l, r, h2, ← h1]
    grind
  exact ⟨fin hg1 a1 e6, fin hg2 b2 e7, fin hg1 c1 e6, fin hg2 d2 e7⟩
def fourOf (r : List Pc) : (Int × Int) × (Int × Int) × (Int × Int) × (Int × Int) := (low ((matR r).a, sclR r), low ((matR r).b, sclR r), low ((matR r).c, sclR r), low ((matR r).d, sclR r))
theorem low_frac_iff {x s x' s' : Int} (hs : 0 < s) (hs' : 0 < s') (h : x * s' = x' * s) : low (x, s) = low (x', s') := by
  obtain ⟨e1, e2⟩ := low_eq hs hs' h
  unfold low
  ext
  · exact e2
  · exact e1
theorem low_frac_back {x s x' s' : Int} (hs : 0 < s) (hs' : 0 < s') (h : low (x, s) = low (x', s')) : x * s' = x' * s := by
  have a := low_frac (x := x) hs
  have b := low_frac (x := x') hs'
  have h1 : x / gc x s = x' / gc x' s' := congrArg Prod.fst h
  have h2 : s / gc x s = s' / gc x' s' := congrArg Prod.snd h
  rw [← h1, ← h2] at b
  obtain ⟨a0, a1⟩ := a
  obtain ⟨b0, b1⟩ := b
  generalize x / gc x s = u at *
  generalize s / gc x s = v at *
  refine Int.eq_of_mul_eq_mul_left (a := v) (by omega) ?_
  have l : v * (x * s') = (v * x) * s' := by grind
  have r : v * (x' * s) = (v * x') * s := by grind
  rw [l, r, ← a1, ← b1]
  grind
/-- the same four fractions: the same shown in front of every load -/
theorem four_shows {r r' : List Pc} {e : Int × Int} (hr : RowOk r) (hr' : RowOk r') (h : fourOf r = fourOf r') : low ((matR r).app e) = low ((matR r').app e) := by
  have s0 := sclR_pos hr
  have s0' := sclR_pos hr'
  unfold fourOf at h
  simp only [Prod.mk.injEq] at h
  obtain ⟨h1, h2, h3, h4⟩ := h
  have a := low_frac_back s0 s0' h1
  have b := low_frac_back s0 s0' h2
  have c := low_frac_back s0 s0' h3
  have d := low_frac_back s0 s0' h4
  rw [← low_sc s0', ← low_sc s0 ((matR r').app e)]
  congr 1
  unfold sc Mx.app
  ext
  · dsimp
    grind
  · dsimp
    grind
/-- shown alike in front of 0, 1 and an open end: the same four fractions -/
theorem shows_four {r r' : List Pc} (hr : RowOk r) (hr' : RowOk r') (h0 : low ((matR r).app (0, 1)) = low ((matR r').app (0, 1))) (h1 : low ((matR r).app (1, 1)) = low ((matR r').app (1, 1))) (h2 : low ((matR r).app (1, 0)) = low ((matR r').app (1, 0))) : fourOf r = fourOf r' := by
  have p0 : Pos2 (0, 1) := ⟨by decide, by decide, .inr (by decide)⟩
  have p1 : Pos2 (1, 1) := ⟨by decide, by decide, .inr (by decide)⟩
  have p2 : Pos2 (1, 0) := ⟨by decide, by decide, .inl (by decide)⟩
  obtain ⟨g2, k2, hg2, hk2, e2⟩ := low_cross (app_pos hr p0) (app_pos hr' p0) h0
  obtain ⟨g1, k1, hg1, hk1, e1⟩ := low_cross (app_pos hr p2) (app_pos hr' p2) h2
  obtain ⟨g3, k3, hg3, hk3, e3⟩ := low_cross (app_pos hr p1) (app_pos hr' p1) h1
  unfold sc Mx.app at e1 e2 e3
  simp only [Prod.mk.injEq, Int.mul_zero, Int.mul_one, Int.zero_add, Int.add_zero] at e1 e2 e3
  have s0 := sclR_pos hr
  have s0' := sclR_pos hr'
  have cr : ((matR r).a + (matR r).b) * ((matR r').c + (matR r').d) = ((matR r').a + (matR r').b) * ((matR r).c + (matR r).d) := by
    obtain ⟨x1, x2⟩ := e3
    refine Int.eq_of_mul_eq_mul_left (a := k3 * g3) (by have := Int.mul_pos hk3 hg3; omega) ?_
    have l : k3 * g3 * (((matR r).a + (matR r).b) * ((matR r').c + (matR r').d)) = (k3 * ((matR r).a + (matR r).b)) * (g3 * ((matR r').c + (matR r').d)) := by grind
    have r0 : k3 * g3 * (((matR r').a + (matR r').b) * ((matR r).c + (matR r).d)) = (g3 * ((matR r').a + (matR r').b)) * (k3 * ((matR r).c + (matR r).d)) := by grind
    rw [l, r0, x1, x2]
  obtain ⟨fa, fb, fc, fd⟩ := three s0 s0' hg1 hk1 hg2 hk2 (matR_det r) (matR_det r') e1.1 e1.2 e2.1 e2.2 cr
  unfold fourOf
  rw [low_frac_iff s0 s0' fa, low_frac_iff s0 s0' fb, low_frac_iff s0 s0' fc, low_frac_iff s0 s0' fd]
end RL

/-! Limits of ladders: their equations, fixed points. -/
namespace RL
/-! ### a closer bound of a row's map -/
def MxLe (N : Int) (m : Mx) : Prop := 0 ≤ m.a ∧ m.a ≤ N ∧ 0 ≤ m.b ∧ m.b ≤ N ∧ 0 ≤ m.c ∧ m.c ≤ N ∧ 0 ≤ m.d ∧ m.d ≤ N
theorem step_le {m : Mx} {p : Pc} {N : Int} (hp : PcOk p) (h : MxLe N m) : MxLe (13 * N) (stepM m p) := by
  obtain ⟨a0, a1, b0, b1, c0, c1, d0, d1⟩ := h
  obtain ⟨o1, o2⟩ := hp
  have up : ∀ x : Int, 0 ≤ x → x ≤ N → 0 ≤ x * p.2 ∧ x * p.2 ≤ 12 * N := fun x h0 h1 => by
    refine ⟨Int.mul_nonneg h0 (by omega), ?_⟩
    have e1 : x * p.2 ≤ x * 12 := Int.mul_le_mul_of_nonneg_left o2 h0
    omega
  have ua := up _ a0 a1
  have ub := up _ b0 b1
  have uc := up _ c0 c1
  have ud := up _ d0 d1
  unfold stepM MxLe
  split <;> (dsimp only; omega)
theorem fold_le {r : List Pc} : ∀ {m : Mx} {N : Int}, RowOk r → MxLe N m → MxLe (13 ^ r.length * N) (r.foldl stepM m) := by
  induction r with
  | nil =>
    intro m N _ h
    show MxLe (13 ^ 0 * N) m
    rw [Int.pow_zero, Int.one_mul]
    exact h
  | cons p r ih =>
    intro m N hr h
    have := ih hr.tail (step_le hr.head h)
    rw [List.foldl_cons, show (p :: r).length = r.length + 1 from rfl, Int.pow_succ]
    rw [← Int.mul_assoc] at this
    exact this
theorem matR_le {r : List Pc} (hr : RowOk r) (l8 : r.length ≤ 8) : MxLe 815730721 (matR r) := by
  have h := fold_le (N := 1) hr (m := m1) ⟨by decide, by decide, by decide, by decide, by decide, by decide, by decide, by decide⟩
  have e : (13 : Int) ^ r.length * 1 ≤ 815730721 := by
    rw [Int.mul_one]
    have e8 : (13 : Int) ^ 8 = 815730721 := by decide
    rw [← e8]
    have h8 : (13 : Nat) ^ r.length ≤ 13 ^ 8 := Nat.pow_le_pow_right (by decide) l8
    have c1 : ((13 ^ r.length : Nat) : Int) = (13 : Int) ^ r.length := by rw [Int.natCast_pow]; rfl
    have c2 : ((13 ^ 8 : Nat) : Int) = (13 : Int) ^ 8 := by decide
    rw [← c1, ← c2]
    exact Int.ofNat_le.mpr h8
  obtain ⟨a0, a1, b0, b1, c0, c1, d0, d1⟩ := h
  exact ⟨a0, Int.le_trans a1 e, b0, Int.le_trans b1 e, c0, Int.le_trans c1 e, d0, Int.le_trans d1 e⟩
theorem sm30 {x : Int} (h0 : 0 ≤ x) (h1 : x ≤ 815730721) : Sm 30 x := by
  unfold Sm
  omega
theorem matR_sm30 {r : List Pc} (hr : RowOk r) (l8 : r.length ≤ 8) : MxSm 30 (matR r) := by
  obtain ⟨a0, a1, b0, b1, c0, c1, d0, d1⟩ := matR_le hr l8
  exact ⟨sm30 a0 a1, sm30 b0 b1, sm30 c0 c1, sm30 d0 d1⟩
/-! ### the equation of the limit -/
def eqL (r : List Pc) : Int × Int × Int := if (matR r).b = 0 then (0, 1, 0) else parts (matR r).c ((matR r).d - (matR r).a) (matR r).b
theorem eqL_good {r : List Pc} (hr : RowOk r) (hc : (matR r).c ≠ 0) : Good (eqL r).1 (eqL r).2.1 (eqL r).2.2 := by
  unfold eqL
  obtain ⟨a0, b0, c0, d0, _⟩ := matR_ok hr
  split
  · exact .inl ⟨rfl, by decide, by decide⟩
  · rename_i z
    exact (parts_nrm (.inr ⟨by omega, by omega⟩)).good
theorem dvd_cop {t c u : Int} (h : t ∣ c * u) (g : Int.gcd t u = 1) : t ∣ c := by
  have h1 : t.natAbs ∣ c.natAbs * u.natAbs := by
    rw [← Int.natAbs_mul]
    exact Int.natAbs_dvd_natAbs.mpr h
  exact Int.natAbs_dvd_natAbs.mp (Nat.Coprime.dvd_of_dvd_mul_right g h1)
theorem coprime_low {p q : Int} (h : 0 < gc p q) : gc (p / gc p q) (q / gc p q) = 1 := by
  have e1 := ex_mul (gc_dvd1 p q) h
  have e2 := ex_mul (gc_dvd2 p q) h
  have e := gc_mul (k := gc p q) (a := p / gc p q) (b := q / gc p q) (Int.le_of_lt h)
  rw [← e1, ← e2] at e
  generalize gc (p / gc p q) (q / gc p q) = y at *
  generalize gc p q = g at *
  have : g * 1 = g * y := by omega
  exact (Int.eq_of_mul_eq_mul_left (by omega) this).symm
/-- a limit that is a fraction -/
theorem parts_frac {a b c : Int} (ha : 1 ≤ a) (hc : 1 ≤ c) (h0 : (parts a b c).1 = 0) : 1 ≤ (parts a b c).2.1 ∧ 1 ≤ (parts a b c).2.2 ∧ (parts a b c).2.2 ≤ c ∧ gc (parts a b c).2.2 (parts a b c).2.1 = 1 ∧
    a * (parts a b c).2.2 * (parts a b c).2.2 + b * (parts a b c).2.2 * (parts a b c).2.1 = c * (parts a b c).2.1 * (parts a b c).2.1 := by
  have N := parts_nrm (a := a) (b := b) (c := c) (.inr ⟨ha, hc⟩)
  have co : gc (parts a b c).2.2 (parts a b c).2.1 = 1 := by
    unfold parts at h0 ⊢
    rw [if_neg (by omega)] at h0 ⊢
    split
    · exact coprime_low (gc_pos (.inr (by omega)))
    · rename_i z
      rw [if_neg z] at h0
      have g0 : 0 < gc (gc a b) c := gc_pos (.inr (by omega))
      have d : gc (gc a b) c ∣ a := Int.dvd_trans (gc_dvd1 _ _) (gc_dvd1 _ _)
      have e := ex_mul d g0
      replace h0 : a / gc (gc a b) c = 0 := h0
      rw [h0] at e
      omega
  have G := N.good
  rw [h0] at G
  obtain ⟨l1, w0⟩ : 1 ≤ (parts a b c).2.1 ∧ 0 ≤ (parts a b c).2.2 := by
    rcases G with g | g
    · exact g.2
    · omega
  have sg := (N.sgn (parts a b c).2.2 (parts a b c).2.1 w0 l1).2
  rw [h0] at sg
  generalize (parts a b c).2.1 = u at *
  generalize (parts a b c).2.2 = t at *
  have e0 : a * t * t + b * t * u - c * u * u = 0 := sg.mp (by grind)
  have e1 : a * t * t + b * t * u = c * u * u := by omega
  have t0 : t ≠ 0 := fun z => by
    subst z
    have : 0 < c * u * u := Int.mul_pos (Int.mul_pos (by omega) (by omega)) (by omega)
    have z1 : a * 0 * 0 + b * 0 * u = 0 := by grind
    omega
  refine ⟨l1, by omega, ?_, co, e1⟩
  have dv : t ∣ c * u * u := ⟨a * t + b * u, by rw [← e1]; grind⟩
  have g1 : Int.gcd t u = 1 := by
    unfold gc at co
    omega
  have dv2 : t ∣ c * u := dvd_cop dv g1
  have dv3 : t ∣ c := dvd_cop dv2 g1
  exact Int.le_of_dvd (by omega) dv3
/-- in front of its limit a ladder stays -/
theorem fixed {m : Mx} {t u : Int} (h : m.c * t * t + (m.d - m.a) * t * u = m.b * u * u) : (m.app (t, u)).1 * u = t * (m.app (t, u)).2 := by
  unfold Mx.app
  dsimp only
  grind
/-- the whole walk -/
def appN (m : Mx) : Nat → Int × Int → Int × Int
  | 0, e => e
  | n + 1, e => m.app (appN m n e)
theorem appN_pos {r : List Pc} {e : Int × Int} (hr : RowOk r) (h : Pos2 e) : ∀ n, Pos2 (appN (matR r) n e)
  | 0 => h
  | n + 1 => app_pos hr (appN_pos hr h n)
theorem appN_sm {r : List Pc} {e : Int × Int} {k : Nat} (hr : RowOk r) (l8 : r.length ≤ 8) (h1 : Sm k e.1) (h2 : Sm k e.2) : ∀ n, Sm (k + 31 * n) (appN (matR r) n e).1 ∧ Sm (k + 31 * n) (appN (matR r) n e).2
  | 0 => ⟨h1, h2⟩
  | n + 1 => by
    obtain ⟨i1, i2⟩ := appN_sm hr l8 h1 h2 n
    have := app_sm (matR_sm30 hr l8) i1 i2
    have e : k + 31 * (n + 1) = 30 + (k + 31 * n) + 1 := by omega
    rw [e]
    exact this
theorem low_cross' {x y : Int × Int} (hx : Pos2 x) (hy : Pos2 y) (h : x.1 * y.2 = y.1 * x.2) : low x = low y := by
  by_cases hz : y.2 = 0
  · have y1 : 0 < y.1 := by have := hy.2.2; omega
    have x2 : x.2 = 0 := by
      rw [hz, Int.mul_zero] at h
      rcases Int.mul_eq_zero.mp h.symm with z | z <;> omega
    have x1 : 0 < x.1 := by have := hx.2.2; omega
    have lz : ∀ z : Int × Int, 0 < z.1 → z.2 = 0 → low z = (1, 0) := fun z h1 h2 => by
      have e : z = sc z.1 (1, 0) := by
        unfold sc
        ext
        · dsimp
          omega
        · dsimp
          omega
      rw [e, low_sc h1]
      decide
    rw [lz x x1 x2, lz y y1 hz]
  · have y2 : 0 < y.2 := by have := hy.2.1; omega
    by_cases hz' : x.2 = 0
    · exfalso
      have x1 : 0 < x.1 := by have := hx.2.2; omega
      rw [hz', Int.mul_zero] at h
      have := Int.mul_pos x1 y2
      omega
    · have x2 : 0 < x.2 := by have := hx.2.1; omega
      exact low_frac_iff (x := x.1) (s := x.2) (x' := y.1) (s' := y.2) x2 y2 h
/-- .. for ever -/
theorem appN_fixed {r : List Pc} {t u : Int} (hr : RowOk r) (hp : Pos2 (t, u)) (h : (matR r).c * t * t + ((matR r).d - (matR r).a) * t * u = (matR r).b * u * u) : ∀ n, low (appN (matR r) n (t, u)) = low (t, u)
  | 0 => rfl
  | n + 1 => by
    have ih := appN_fixed hr hp h n
    have p := appN_pos hr hp n
    obtain ⟨g, k, hg, hk, e⟩ := low_cross p hp ih
    have e2 : low (sc k ((matR r).app (appN (matR r) n (t, u)))) = low (sc g ((matR r).app (t, u))) := by
      have ap : ∀ (m : Mx) (j : Int) (z : Int × Int), sc j (m.app z) = m.app (sc j z) := fun m j z => by
        unfold sc Mx.app
        ext <;> dsimp <;> grind
      rw [ap, ap, e]
    rw [low_sc hk, low_sc hg] at e2
    show low ((matR r).app (appN (matR r) n (t, u))) = _
    rw [e2]
    exact low_cross' (app_pos hr hp) hp (fixed h)
theorem goes_fixed {m : Mx} {t u : Int} (h : m.c * t * t + (m.d - m.a) * t * u = m.b * u * u) : sg ((m.app (t, u)).1 * u - t * (m.app (t, u)).2) = 0 := by
  rw [fixed h, Int.sub_self]
  rfl
end RL

set_option maxHeartbeats 1000000
namespace RL
open PySem L2 PySem.Spec PyProof.Rows
structure IsC (K : PySem.W.Frag) (C : Addr) : Prop where
  ca : PySem.W.findIn K (.ref C) "__class__" = some (some (.builtin "object.__class__"))
  cn : PySem.W.specialIn K (.builtin "object.__class__") "__get__" = some (some (.builtin "getset_descriptor.__get__"))
  ct : PySem.W.takesIn K (.builtin "object.__class__") = some true
  cm : PySem.W.mroIn K C (.type "object") = some true
  is_ : PySem.W.kitOne K (.ref C) (.ref C) = some true
/-! ### methods, by position and by one keyword -/
structure Mt (P : Program) (w : World) (K : PySem.W.Frag) (mg : Str → Option Value) (base : Heap) (C : Addr) (k : Nat) (m p1 kw : Str) (sp : Sp) : Prop where
  ex : ∃ (f : Addr) (fd : FuncData), FnOk P w K mg base CX0 k f fd [p1, kw] sp ∧ Meth K C m f ∧ Binds K fd [p1, kw] [] ∧ (∀ (s : Shared) (u v : Value), K.In s.heap → BindsTo s fd ⟨[u], [(kw, v)]⟩ [(p1, u), (kw, v)])
def tMethK (C : Addr) (m : Str) (sp : Sp) (ta : TE) (tk : TA) : TE := fun σ H Q => ta σ H fun x H1 => ∃ a dx fs, x = .ref a ∧ H1 a = some (.ins C dx fs) ∧ fs.lookup m = none ∧ tk σ H1 fun zs H2 => sp (.ref a :: zs) H2 Q E0
section
variable {X : Cx} {k : Nat} {C : Addr} {sp : Sp} {m p1 kw : Str} {p pos apos kpos : Pos} {e o : Expr} {es : List Expr} {t : TA} {ta te : TE} {tk : TA}
theorem pe_dm {pl : Sem Bool} (he : PE X o ta) (c : Cls X.K C) (D : Mt X.prog X.w X.K X.mg X.base C k m p1 kw sp) (hr : Room k X.A) (ha : PA X (e :: es) t)
    (hst : starEach (e :: es) X.env = (false, eval e X.env) :: starEach es X.env := by rfl) (hpl : (backTo pos (starEach es X.env)).any (·.1) = false := by rfl)
    (ht : eval (.Call (.Attribute o m apos) (e :: es) [] pos) X.env = (do
      let ov ← eval o X.env
      standAt apos.atName
      let (f, first) ← holding [ov] (getMethod ov m pl)
      callWith pos f first (backTo pos (starEach (e :: es) X.env)) (backToKw pos (keywordEach [] X.env))) := by rfl) :
    PE X (.Call (.Attribute o m apos) (e :: es) [] pos) (tMeth C m sp [] E0 ta t) := by
  obtain ⟨f, fd, F, hm, hb, _⟩ := D.ex
  exact pe_meth (pl := pl) he c hm F hr hb .nil pass0 ha hst hpl ht
end
theorem PatAt.butX {C : Addr} {H H' : Hp} {x c : Addr} {r : List Pc} (h : PatAt C H x r) (hc : ∀ xs, H c ≠ some (.tup xs)) (nx : x ≠ c) (s : But c H H') : PatAt C H' x r := by
  obtain ⟨dx, q, m, f, ws, f1, f2, f3, f4, h1, h2, h3, h4, h5, h6, h7, h8, h9⟩ := h
  have st : ∀ {a : Addr} {xs : List V}, H a = some (.tup xs) → H' a = some (.tup xs) := fun {a xs} e => s _ _ (fun z => hc xs (z ▸ e)) e
  exact ⟨dx, q, m, f, ws, f1, f2, f3, f4, s _ _ nx h1, st h2, h3.but s hc, st h4, st h5, st h6, st h7, st h8, st h9⟩
def LimAt (aO Ce : Addr) (H : Hp) (v : V) (r : List Pc) : Prop := ((matR r).c = 0 ∧ v = .ref aO) ∨ ((matR r).c ≠ 0 ∧ ∃ x, v = .ref x ∧ ExAt Ce H x (eqL r).1 (eqL r).2.1 (eqL r).2.2)
theorem LimAt.same {aO Ce : Addr} {H H' : Hp} {v : V} {r : List Pc} (h : LimAt aO Ce H v r) (s : Same H H') : LimAt aO Ce H' v r := by
  rcases h with h | ⟨h, x, e, hx⟩
  · exact .inl h
  · exact .inr ⟨h, x, e, hx.same s⟩
def LF (p q : Addr) (v : V) : List (Str × V) := [("section", .ref p), ("behind", .ref q), ("far", v)]
def LadAt (C aO Ce Cl : Addr) (H : Hp) (x : Addr) (r : List Pc) (e : Int × Int) : Prop := ∃ (dx p q : Addr) (v : V), H x = some (.ins Cl dx (LF p q v)) ∧ PatAt C H p r ∧ PairAt H q e ∧ LimAt aO Ce H v r
theorem LadAt.same {C aO Ce Cl : Addr} {H H' : Hp} {x : Addr} {r : List Pc} {e : Int × Int} (h : LadAt C aO Ce Cl H x r e) (s : Same H H') : LadAt C aO Ce Cl H' x r e := by
  obtain ⟨dx, p, q, v, h1, h2, h3, h4⟩ := h
  exact ⟨dx, p, q, v, s _ _ h1, h2.same s, s _ _ h3, h4.same s⟩
theorem nsb : (("section" : Str) == ("behind" : Str)) = false := by decide +kernel
theorem nsf : (("section" : Str) == ("far" : Str)) = false := by decide +kernel
theorem nbf : (("behind" : Str) == ("far" : Str)) = false := by decide +kernel
theorem nbs : (("behind" : Str) == ("section" : Str)) = false := by decide +kernel
theorem nfs : (("far" : Str) == ("section" : Str)) = false := by decide +kernel
theorem nfb : (("far" : Str) == ("behind" : Str)) = false := by decide +kernel
theorem putB (a v : V) : putF "behind" v [("section", a)] = ([("section", a), ("behind", v)] : List (Str × V)) := by
  unfold putF
  rw [if_neg (str_ne nsb)]
  rfl
theorem putFar (a b v : V) : putF "far" v [("section", a), ("behind", b)] = ([("section", a), ("behind", b), ("far", v)] : List (Str × V)) := by
  unfold putF
  rw [if_neg (str_ne nsf)]
  unfold putF
  rw [if_neg (str_ne nbf)]
  rfl
theorem lkS (p q : Addr) (v : V) : (LF p q v).lookup ("section" : Str) = some (.ref p) := by
  simp [LF, List.lookup]
theorem lkB (p q : Addr) (v : V) : (LF p q v).lookup ("behind" : Str) = some (.ref q) := by
  simp [LF, List.lookup, nbs]
theorem lkAf (p q : Addr) (v : V) : (LF p q v).lookup ("after" : Str) = none := by
  have h1 : (("after" : Str) == ("section" : Str)) = false := by decide +kernel
  have h2 : (("after" : Str) == ("behind" : Str)) = false := by decide +kernel
  have h3 : (("after" : Str) == ("far" : Str)) = false := by decide +kernel
  simp [LF, List.lookup, h1, h2, h3]
theorem lkFar (p q : Addr) (v : V) : (LF p q v).lookup ("far" : Str) = some v := by
  simp [LF, List.lookup, nfs, nfb]
def spCount : Sp := fun vs H Q _ => ∃ n : Int, vs = [.int n] ∧ 0 ≤ n ∧ n ≤ 100 ∧ Q (.bl true) H
def spPO : Sp := fun vs H Q _ => ∃ (a b : Addr) (e f : Int × Int), vs = [.ref a, .ref b] ∧ PairAt H a e ∧ PairAt H b f ∧ Sm 4000 e.1 ∧ Sm 4000 e.2 ∧ Sm 4000 f.1 ∧ Sm 4000 f.2 ∧ Q (.int (sg (e.1 * f.2 - f.1 * e.2))) H
def spChkP (C : Addr) : Sp := fun vs H Q _ => ∃ (x dx : Addr) (fs : List (Str × V)), vs = [.ref x] ∧ H x = some (.ins C dx fs) ∧ Q .non H
def spChkR : Sp := fun vs H Q _ => ∃ (v : V) (e : Int × Int), vs = [v] ∧ LoadAt H v e ∧ Q .non H
def spChkC : Sp := fun vs H Q _ => ∃ n : Int, vs = [.int n] ∧ 0 ≤ n ∧ n ≤ 100 ∧ Q .non H
def spAfter (C aO Ce Cl : Addr) : Sp := fun vs H Q _ => ∃ (x t : Addr) (r : List Pc) (e e' : Int × Int), vs = [.ref x, .ref t] ∧ LadAt C aO Ce Cl H x r e ∧ PairAt H t e' ∧ RowOk r ∧ r.length ≤ 8 ∧ Sm 4000 e'.1 ∧ Sm 4000 e'.2 ∧
  ∀ H' p, Same H H' → H p = none → PairAt H' p ((matR r).app e') → Q (.ref p) H'
def spLim (aO Ce : Addr) : Sp := fun vs H Q _ => ∃ (a : Addr) (r : List Pc), vs = [.ref a] ∧ H a = some (.tup (MatT (matR r))) ∧ RowOk r ∧ r.length ≤ 8 ∧ ∀ H' v, Same H H' → LimAt aO Ce H' v r → Q v H'
def spLad (C aO Ce Cl : Addr) : Sp := fun vs H Q _ => ∃ (x dx p : Addr) (v : V) (r : List Pc) (e : Int × Int), vs = [.ref x, .ref p, v] ∧ H x = some (.ins Cl dx []) ∧ PatAt C H p r ∧ RowOk r ∧ r.length ≤ 8 ∧ LoadAt H v e ∧
  ∀ H', But x H H' → LadAt C aO Ce Cl H' x r (low e) → Q .non H'
def spLCall (C aO Ce Cl : Addr) : Sp := fun vs H Q _ => ∃ (x : Addr) (n : Int) (r : List Pc) (e : Int × Int), vs = [.ref x, .int n] ∧ LadAt C aO Ce Cl H x r e ∧ RowOk r ∧ r.length ≤ 8 ∧ Pos2 e ∧ Sm 41 e.1 ∧ Sm 41 e.2 ∧ 0 ≤ n ∧ n ≤ 100 ∧
  ∀ H' p, Same H H' → H p = none → PairAt H' p (low (appN (matR r) n.toNat e)) → Q (.ref p) H'
def spGoes (C aO Ce Cl : Addr) : Sp := fun vs H Q _ => ∃ (x : Addr) (r : List Pc) (e : Int × Int), vs = [.ref x] ∧ LadAt C aO Ce Cl H x r e ∧ RowOk r ∧ r.length ≤ 8 ∧ Sm 1000 e.1 ∧ Sm 1000 e.2 ∧
  ∀ H', Same H H' → Q (.int (sg (((matR r).app e).1 * e.2 - e.1 * ((matR r).app e).2))) H'
def spLimit (C aO Ce Cl : Addr) : Sp := fun vs H Q _ => ∃ (x : Addr) (r : List Pc) (e : Int × Int), vs = [.ref x] ∧ LadAt C aO Ce Cl H x r e ∧ ∀ v, LimAt aO Ce H v r → Q v H
structure LadD (P : Program) (w : World) (K : PySem.W.Frag) (mg : Str → Option Value) (base : Heap) (C aO Ce Cl f : Addr) (fd : FuncData) : Prop where
  m : Mk K Cl f
  fn : FnOk P w K mg base CX0 8 f fd ["self", "pattern", "load"] (spLad C aO Ce Cl)
  bd : Binds K fd ["self", "pattern", "load"] []
structure OwL (P : Program) (w : World) (K : PySem.W.Frag) (mg : Str → Option Value) (base : Heap) (C aO Ce Cl g : Addr) (fd : FuncData) : Prop where
  co : StX.CallO K Cl g
  ok : FnOk P w K mg base CX0 5 g fd ["self", "count"] (spLCall C aO Ce Cl)
  fr : FnR P w K mg base CX0 5 g (spLCall C aO Ce Cl)
structure OwG (P : Program) (w : World) (K : PySem.W.Frag) (mg : Str → Option Value) (base : Heap) (C aO Ce Cl p g : Addr) (fd : FuncData) : Prop where
  pr : PropOf K Cl "goes" p g
  ok : FnOk P w K mg base CX0 3 g fd ["self"] (spGoes C aO Ce Cl)
  b : Binds K fd ["self"] []
structure OwM (P : Program) (w : World) (K : PySem.W.Frag) (mg : Str → Option Value) (base : Heap) (C aO Ce Cl p g : Addr) (fd : FuncData) : Prop where
  pr : PropOf K Cl "limit" p g
  ok : FnOk P w K mg base CX0 1 g fd ["self"] (spLimit C aO Ce Cl)
  b : Binds K fd ["self"] []
structure OwQ (P : Program) (w : World) (K : PySem.W.Frag) (mg : Str → Option Value) (base : Heap) (Ce p g : Addr) (fd : FuncData) : Prop where
  pr : PropOf K Ce "equation" p g
  ok : FnOk P w K mg base CX0 1 g fd ["self"] (spEqn Ce)
  b : Binds K fd ["self"] []
structure OwF (P : Program) (w : World) (K : PySem.W.Frag) (mg : Str → Option Value) (base : Heap) (Ce p g : Addr) (fd : FuncData) : Prop where
  pr : PropOf K Ce "fraction" p g
  ok : FnOk P w K mg base CX0 1 g fd ["self"] (spFrac Ce)
  b : Binds K fd ["self"] []
theorem parts010 : parts 0 1 0 = (0, 1, 0) := by decide
/-- a new exact number, of a limit -/
theorem make_lim {aO Ce : Addr} {H : Hp} {r : List Pc} {a b c : Int} {Q : V → Hp → Prop} (hB : Big a b c) (hc : (matR r).c ≠ 0) (he : eqL r = parts a b c) (k : ∀ H' v, Same H H' → LimAt aO Ce H' v r → Q v H') :
    ∀ z dz, H z = none → H dz = none → dz ≠ z → spInit Ce [.ref z, .int a, .int b, .int c] (upd (upd H dz (.own z)) z (.ins Ce dz [])) (fun v H3 => v = .non ∧ Q (.ref z) H3) E0 := by
  intro z dz nz ndz nez
  refine ⟨z, dz, a, b, c, rfl, upd_same, hB, fun H' bz hE => ⟨rfl, k H' _ (fun b' o e => ?_) (.inr ⟨hc, z, rfl, ?_⟩)⟩⟩
  · refine bz _ _ (ne_of_none e nz) ?_
    rw [upd_ne (ne_of_none e nz), upd_ne (ne_of_none e ndz)]
    exact e
  · rw [he]
    exact hE
section
variable {P : Program} {w : World} {K : PySem.W.Frag} {mg : Str → Option Value} {base : Heap} {tG t1 t2 t3 tP tC : Tok} {aO aW J C Ce Cl fP fJ : Addr} {fdJ : FuncData}
abbrev s_is_count : Stmt := top 10
theorem sc_is_count : FnScope ["value"] ["value"] (defScope s_is_count) := ⟨rfl, rfl, rfl, by decide +kernel, rfl, by decide +kernel, by decide +kernel⟩

theorem ok_count {f : Addr} {fd : FuncData} (F : Fun K "is_count" "is_count" s_is_count f fd) (T : Txt4 K mg tG t1 t2 t3 tP tC aO aW J C Ce Cl) (D_is_integer_within : Df P w K mg base 2 "is_integer_within" ["value", "least", "most"] spWithin) : FnOk P w K mg base CX0 3 f fd ["value"] spCount := by
  refine F.ok sc_is_count (fun vs H Q E h => ?_) (fun cdv A outer s H vs Q E hr h => ?_)
  · obtain ⟨n, rfl, _⟩ := h
    rfl
  · obtain ⟨n, rfl, n0, n1, k⟩ := h
    refine ⟨_, (pss_one (ps_ret (pe_df D_is_integer_within (hr.mono (by decide)) (by rfl) (pa_cons (pv 0) (pa_cons pe_int (pa_cons (pe_glob (v := .int 100) rfl T.mgCo ⟨_, rfl⟩) pa_nil)))))), ?_⟩
    exact ⟨_, rfl, n, 0, 100, rfl, n0, n1, k⟩
abbrev s_pair_order : Stmt := top 17
theorem sc_pair_order : FnScope ["first", "second"] ["first", "second"] (defScope s_pair_order) := ⟨rfl, rfl, rfl, by decide +kernel, rfl, by decide +kernel, by decide +kernel⟩

theorem ok_po {f : Addr} {fd : FuncData} (F : Fun K "pair_order" "pair_order" s_pair_order f fd) (D_sign : Df P w K mg base 1 "sign" ["number"] spSign) : FnOk P w K mg base CX0 2 f fd ["first", "second"] spPO := by
  refine F.ok sc_pair_order (fun vs H Q E h => ?_) (fun cdv A outer s H vs Q E hr h => ?_)
  · obtain ⟨a, b, e, f, rfl, _⟩ := h
    rfl
  · obtain ⟨a, b, e, f, rfl, ha, hb, e1, e2, f1, f2, k⟩ := h
    refine ⟨_, (pss_one (ps_ret (pe_df D_sign (hr.mono (by decide)) (by rfl) (pa_cons (pe_op op_sub (pe_op op_mulX (pe_ix ix_tup (pv 0) pe_int (fun _ _ => rfl)) (pe_ix ix_tup (pv 1) pe_int (fun _ _ => rfl))) (pe_op op_mulX (pe_ix ix_tup (pv 1) pe_int (fun _ _ => rfl)) (pe_ix ix_tup (pv 0) pe_int (fun _ _ => rfl)))) pa_nil)))), ?_⟩
    refine ⟨_, rfl, a, _, _, _, rfl, rfl, SqT.of ha, atI_nat (j := 0) rfl, _, rfl, b, _, _, _, rfl, rfl, SqT.of hb, atI_nat (j := 1) rfl, _, _, rfl, rfl, mx e1 f2, ?_⟩
    exact ⟨_, rfl, b, _, _, _, rfl, rfl, SqT.of hb, atI_nat (j := 0) rfl, _, rfl, a, _, _, _, rfl, rfl, SqT.of ha, atI_nat (j := 1) rfl, _, _, rfl, rfl, mx f1 e2, _, _, rfl, rfl, _, rfl, k⟩
abbrev s_check_pattern : Stmt := top 56
theorem sc_check_pattern : FnScope ["value"] ["value"] (defScope s_check_pattern) := ⟨rfl, rfl, rfl, by decide +kernel, rfl, by decide +kernel, by decide +kernel⟩

theorem ok_chkp {f : Addr} {fd : FuncData} (F : Fun K "check_pattern" "check_pattern" s_check_pattern f fd) (T : Txt4 K mg tG t1 t2 t3 tP tC aO aW J C Ce Cl) (I : IsC K C) : FnOk P w K mg base CX0 1 f fd ["value"] (spChkP C) := by
  refine F.ok sc_check_pattern (fun vs H Q E h => ?_) (fun cdv A outer s H vs Q E hr h => ?_)
  · obtain ⟨x, dx, fs, rfl, _⟩ := h
    rfl
  · obtain ⟨x, dx, fs, rfl, hx, k⟩ := h
    refine ⟨_, (pss_one (ps_if (pt_not (pt_val (pe_callB call_isi (by rfl) T.isinstance (by decide +kernel) (pa_cons (pv 0) (pa_cons (pe_glob (v := .ref C) rfl T.mgC rfl) pa_nil))))) (pss_one ps_never) pss_nil)), ?_⟩
    exact ⟨_, rfl, _, _, _, _, true, rfl, .own C, .base (.ins hx T.cl I.ca I.cn I.ct I.cm), I.is_, true, rfl, iteF k⟩
abbrev s_check_resistance : Stmt := top 57
theorem sc_check_resistance : FnScope ["value"] ["value"] (defScope s_check_resistance) := ⟨rfl, rfl, rfl, by decide +kernel, rfl, by decide +kernel, by decide +kernel⟩

theorem ok_chkr {f : Addr} {fd : FuncData} (F : Fun K "check_resistance" "check_resistance" s_check_resistance f fd) (D_is_resistance : Df P w K mg base 3 "is_resistance" ["value"] spIsRes) : FnOk P w K mg base CX0 4 f fd ["value"] spChkR := by
  refine F.ok sc_check_resistance (fun vs H Q E h => ?_) (fun cdv A outer s H vs Q E hr h => ?_)
  · obtain ⟨v, e, rfl, _⟩ := h
    rfl
  · obtain ⟨v, e, rfl, hv, k⟩ := h
    refine ⟨_, (pss_one (ps_if (pt_not (pt_val (pe_df D_is_resistance (hr.mono (by decide)) (by rfl) (pa_cons (pv 0) pa_nil)))) (pss_one ps_never) pss_nil)), ?_⟩
    rcases hv with ⟨i, rfl, i0, i1, rfl⟩ | ⟨t, rfl, ht, hR⟩
    · exact ⟨_, rfl, .inl ⟨i, rfl, i0, i1, true, rfl, iteF k⟩⟩
    · exact ⟨_, rfl, .inr ⟨t, _, _, rfl, ht, hR, true, rfl, iteF k⟩⟩
abbrev s_check_count : Stmt := top 58
theorem sc_check_count : FnScope ["value"] ["value"] (defScope s_check_count) := ⟨rfl, rfl, rfl, by decide +kernel, rfl, by decide +kernel, by decide +kernel⟩

theorem ok_chkc {f : Addr} {fd : FuncData} (F : Fun K "check_count" "check_count" s_check_count f fd) (D_is_count : Df P w K mg base 3 "is_count" ["value"] spCount) : FnOk P w K mg base CX0 4 f fd ["value"] spChkC := by
  refine F.ok sc_check_count (fun vs H Q E h => ?_) (fun cdv A outer s H vs Q E hr h => ?_)
  · obtain ⟨n, rfl, _⟩ := h
    rfl
  · obtain ⟨n, rfl, n0, n1, k⟩ := h
    refine ⟨_, (pss_one (ps_if (pt_not (pt_val (pe_df D_is_count (hr.mono (by decide)) (by rfl) (pa_cons (pv 0) pa_nil)))) (pss_one ps_never) pss_nil)), ?_⟩
    exact ⟨_, rfl, n, rfl, n0, n1, true, rfl, iteF k⟩
abbrev s_ladder_limit : Stmt := top 68
theorem sc_ladder_limit : FnScope ["matrix", "a", "b", "c", "d"] ["matrix"] (defScope s_ladder_limit) := ⟨rfl, rfl, rfl, by decide +kernel, rfl, by decide +kernel, by decide +kernel⟩

theorem ok_lim {f : Addr} {fd : FuncData} (F : Fun K "ladder_limit" "ladder_limit" s_ladder_limit f fd) (T : Txt4 K mg tG t1 t2 t3 tP tC aO aW J C Ce Cl) (X_exact : ExD P w K mg base Ce) : FnOk P w K mg base CX0 7 f fd ["matrix"] (spLim aO Ce) := by
  refine F.ok sc_ladder_limit (fun vs H Q E h => ?_) (fun cdv A outer s H vs Q E hr h => ?_)
  · obtain ⟨a, r, rfl, _⟩ := h
    rfl
  · obtain ⟨a, r, rfl, ha, hok, l8, k⟩ := h
    refine ⟨_, (pss_cons (ps_asg (pv 0) (pg_tup rfl (pgs_cons (pg_name (i := 1) sc_ladder_limit.nd rfl (.inl rfl)) (pgs_cons (pg_name (i := 2) sc_ladder_limit.nd rfl (.inl rfl)) (pgs_cons (pg_name (i := 3) sc_ladder_limit.nd rfl (.inl rfl)) (pgs_cons (pg_name (i := 4) sc_ladder_limit.nd rfl (.inl rfl)) pgs_nil))))))
      (pss_cons (ps_if (pt_cmpR op_eq (pv 3) pe_int (nomark _)) (pss_one (ps_ret (pe_glob (v := .ref aO) rfl T.mgO rfl))) pss_nil)
      (pss_cons (ps_if (pt_cmpR op_eq (pv 2) pe_int (nomark _)) (pss_one (ps_ret (pe_exact X_exact (hr.mono (by decide)) rfl T.mgE (pa_cons pe_int (pa_cons pe_int (pa_cons pe_int pa_nil)))))) pss_nil)
      (pss_one (ps_ret (pe_exact X_exact (hr.mono (by decide)) rfl T.mgE (pa_cons (pv 3) (pa_cons (pe_op op_sub (pv 4) (pv 1)) (pa_cons (pv 2) pa_nil))))))))), ?_⟩
    obtain ⟨a0, a1, b0, b1, c0, c1, d0, d1⟩ := matR_le hok l8
    refine ⟨_, rfl, a, _, rfl, SqT.of ha, rfl, _, _, rfl, _, _, rfl, _, _, rfl, _, _, rfl, rfl, ?_⟩
    refine ⟨_, rfl, rfl, _, rfl, ite2 (fun e => ?_) (fun e => ?_)⟩
    · exact k _ _ (Same.refl _) (.inl ⟨V.int.inj (of_decide_eq_true e), rfl⟩)
    have cn : (matR r).c ≠ 0 := fun z => e (decide_eq_true (congrArg V.int z))
    refine ⟨_, rfl, rfl, _, rfl, ite2 (fun e2 => ?_) (fun e2 => ?_)⟩
    · have bz : (matR r).b = 0 := V.int.inj (of_decide_eq_true e2)
      exact make_lim ⟨.inl ⟨rfl, by decide, by decide⟩, by decide, by decide, by decide, by decide⟩ cn (by unfold eqL; rw [if_pos bz, parts010]) k
    · have bn : (matR r).b ≠ 0 := fun z => e2 (decide_eq_true (congrArg V.int z))
      refine ⟨_, rfl, _, rfl, _, rfl, _, _, rfl, rfl, _, rfl, ?_⟩
      exact make_lim ⟨.inr ⟨by omega, by omega⟩, by omega, by omega, by omega, by omega⟩ cn (by unfold eqL; rw [if_neg bn]) k
abbrev s_Ladder_init : Stmt := inClass (top 67) 0
theorem sc_Ladder_init : FnScope ["self", "pattern", "load"] ["self", "pattern", "load"] (defScope s_Ladder_init) := ⟨rfl, rfl, rfl, by decide +kernel, rfl, by decide +kernel, by decide +kernel⟩

theorem ok_lad {f : Addr} {fd : FuncData} (F : Fun K "__init__" "Ladder.__init__" s_Ladder_init f fd) (T : Txt4 K mg tG t1 t2 t3 tP tC aO aW J C Ce Cl) (D_check_pattern : Df P w K mg base 1 "check_pattern" ["value"] (spChkP C)) (D_check_resistance : Df P w K mg base 4 "check_resistance" ["value"] spChkR) (D_lowest_pair : Df P w K mg base 3 "lowest_pair" ["fraction_or_open"] spLowP) (D_ladder_limit : Df P w K mg base 7 "ladder_limit" ["matrix"] (spLim aO Ce)) :
    FnOk P w K mg base CX0 8 f fd ["self", "pattern", "load"] (spLad C aO Ce Cl) := by
  refine F.ok sc_Ladder_init (fun vs H Q E h => ?_) (fun cdv A outer s H vs Q E hr h => ?_)
  · obtain ⟨x, dx, p, v, r, e, rfl, _⟩ := h
    rfl
  · obtain ⟨x, dx, p, v, r, e, rfl, hx, hP, hok, l8, hL, k⟩ := h
    refine ⟨_, (pss_cons (ps_expr (pe_df D_check_pattern (hr.mono (by decide)) (by rfl) (pa_cons (pv 1) pa_nil)))
      (pss_cons (ps_expr (pe_df D_check_resistance (hr.mono (by decide)) (by rfl) (pa_cons (pv 2) pa_nil)))
      (pss_cons (ps_fld (pv 0) (pv 1) rfl)
      (pss_cons (ps_fld (pv 0) (pe_df D_lowest_pair (hr.mono (by decide)) (by rfl) (pa_cons (pv 2) pa_nil)) rfl)
      (pss_one (ps_fld (pv 0) (pe_df D_ladder_limit (hr.mono (by decide)) (by rfl) (pa_cons (pe_fld (pv 1) rfl) pa_nil)) rfl)))))), ?_⟩
    have ep := hL.pos
    obtain ⟨es1, es2⟩ := hL.sm
    have hP0 := hP
    obtain ⟨dp, q, m, f', ws, f1, f2, f3, f4, hp, hq, hw, hm, _⟩ := hP0
    have npx : p ≠ x := ne_of hp hx (by intro z; cases z)
    refine ⟨_, rfl, p, dp, _, rfl, hp, ?_⟩
    refine ⟨_, rfl, v, e, rfl, hL, ?_⟩
    have fin : ∀ (H1 H2 H3 : Hp) (t2 : Addr) (v3 : V), Same H H1 → Same (upd H1 x (.ins Cl dx [("section", .ref p)])) H2 → PairAt H2 t2 (low e) → Same (upd H2 x (.ins Cl dx [("section", .ref p), ("behind", .ref t2)])) H3 → LimAt aO Ce H3 v3 r →
        But x H (upd H3 x (.ins Cl dx (LF p t2 v3))) ∧ LadAt C aO Ce Cl (upd H3 x (.ins Cl dx (LF p t2 v3))) x r (low e) := fun H1 H2 H3 t2 v3 s1 s2 ht s3 hv => by
      have hx1 := s1 _ _ hx
      have hx2 := s2 _ _ (upd_same (H := H1) (a := x) (o := .ins Cl dx [("section", .ref p)]))
      have hx3 := s3 _ _ (upd_same (H := H2) (a := x) (o := .ins Cl dx [("section", .ref p), ("behind", .ref t2)]))
      have nt : ∀ {Hh : Hp} {fs : List (Str × V)}, Hh x = some (.ins Cl dx fs) → ∀ xs, Hh x ≠ some (.tup xs) := fun h xs z => by rw [h] at z; cases z
      have b1 : But x H1 (upd H1 x (.ins Cl dx [("section", .ref p)])) := But.upd
      have b2 : But x H2 (upd H2 x (.ins Cl dx [("section", .ref p), ("behind", .ref t2)])) := But.upd
      have b3 : But x H3 (upd H3 x (.ins Cl dx (LF p t2 v3))) := But.upd
      have P1 := ((hP.same s1).butX (nt hx1) npx b1).same s2
      have P3 := (P1.butX (nt hx2) npx b2).same s3
      have t2x : t2 ≠ x := ne_of ht hx2 (by intro z; cases z)
      have ht3 : PairAt H3 t2 (low e) := s3 _ _ (b2 _ _ t2x ht)
      refine ⟨((((But.of s1).trans b1).trans (But.of s2)).trans b2).trans ((But.of s3).trans b3), dx, p, t2, v3, upd_same, P3.butX (nt hx3) npx b3, b3 _ _ t2x ht3, ?_⟩
      rcases hv with hv | ⟨hc, y, ey, dy, py, hy, hpy⟩
      · exact .inl hv
      · have : y ≠ x := fun z => by
          rw [z, hx3] at hy
          cases hy
        exact .inr ⟨hc, y, ey, dy, py, b3 _ _ this hy, b3 _ _ (ne_of hpy hx3 (by intro z; cases z)) hpy⟩
    have s1 : Same H H := Same.refl _
    refine ⟨_, rfl, _, rfl, x, Cl, dx, _, rfl, hx, T.clL, T.nSec, (by show 0 < 1000; decide), ?_⟩
    have hv1 : (∃ i, v = .int i ∧ e = (i, 1)) ∨ (∃ p', v = .ref p' ∧ (upd H x (.ins Cl dx [("section", .ref p)])) p' = some (.tup [.int e.1, .int e.2])) := by
      rcases hL with ⟨i, rfl, i0, i1, rfl⟩ | ⟨t, rfl, ht, hR⟩
      · exact .inl ⟨i, rfl, rfl⟩
      · refine .inr ⟨t, rfl, ?_⟩
        rw [upd_ne (ne_of ht hx (by intro z; cases z))]
        exact ht
    refine ⟨_, rfl, _, e, rfl, hv1, ep, es1.mono (by decide), es2.mono (by decide), fun H2 t2 s2 nt2 ht2 => ?_⟩
    have hx2 := s2 _ _ (upd_same (H := H) (a := x) (o := .ins Cl dx [("section", .ref p)]))
    refine ⟨_, rfl, x, Cl, dx, _, rfl, hx2, T.clL, T.nBeh, (by show 1 < 1000; decide), ?_⟩
    rw [putB]
    have hp3 : (upd H2 x (.ins Cl dx [("section", .ref p), ("behind", .ref t2)])) p = some (.ins C dp (PF q m f' (sclR r))) := by
      rw [upd_ne npx]
      refine s2 _ _ ?_
      rw [upd_ne npx]
      exact hp
    have hm3 : (upd H2 x (.ins Cl dx [("section", .ref p), ("behind", .ref t2)])) m = some (.tup (MatT (matR r))) := by
      have nmx : m ≠ x := ne_of hm hx (by intro z; cases z)
      rw [upd_ne nmx]
      refine s2 _ _ ?_
      rw [upd_ne nmx]
      exact hm
    refine ⟨_, rfl, p, C, dp, _, _, rfl, hp3, T.cl, T.nMat, lkM _ _ _, m, r, rfl, hm3, hok, l8, fun H3 v3 s3 hv3 => ?_⟩
    refine ⟨_, rfl, x, Cl, dx, _, rfl, s3 _ _ upd_same, T.clL, T.nFar, (by show 2 < 1000; decide), ?_⟩
    rw [putFar]
    obtain ⟨z1, z2⟩ := fin H H2 H3 t2 v3 s1 s2 ht2 s3 hv3
    exact k _ z1 z2
abbrev s_Ladder_after : Stmt := inClass (top 67) 3
theorem sc_Ladder_after : FnScope ["self", "pair"] ["self", "pair"] (defScope s_Ladder_after) := ⟨rfl, rfl, rfl, by decide +kernel, rfl, by decide +kernel, by decide +kernel⟩

theorem ok_after {f : Addr} {fd : FuncData} (F : Fun K "after" "Ladder.after" s_Ladder_after f fd) (T : Txt4 K mg tG t1 t2 t3 tP tC aO aW J C Ce Cl) (D_shown_before : Df P w K mg base 1 "shown_before" ["matrix", "pair"] spShown) : FnOk P w K mg base CX0 2 f fd ["self", "pair"] (spAfter C aO Ce Cl) := by
  refine F.ok sc_Ladder_after (fun vs H Q E h => ?_) (fun cdv A outer s H vs Q E hr h => ?_)
  · obtain ⟨x, t, r, e, e', rfl, _⟩ := h
    rfl
  · obtain ⟨x, t, r, e, e', rfl, ⟨dx, p, q, v, hx, hP, hq, hv⟩, ht, hok, l8, es1, es2, k⟩ := h
    refine ⟨_, (pss_one (ps_ret (pe_df D_shown_before (hr.mono (by decide)) (by rfl) (pa_cons (pe_fld (pe_fld (pv 0) rfl) rfl) (pa_cons (pv 1) pa_nil))))), ?_⟩
    obtain ⟨dp, q', m, f', ws, f1, f2, f3, f4, hp, hq', hw, hm, _⟩ := hP
    exact ⟨_, rfl, x, Cl, dx, _, _, rfl, hx, T.clL, T.nSec, lkS _ _ _, p, C, dp, _, _, rfl, hp, T.cl, T.nMat, lkM _ _ _, _, rfl, m, t, matR r, _, rfl, hm, ht, (matR_sm30 hok l8).mono (by decide), es1, es2, k⟩
abbrev s_Ladder_call : Stmt := inClass (top 67) 1
theorem sc_Ladder_call : FnScope ["self", "count", "pair", "number"] ["self", "count"] (defScope s_Ladder_call) := ⟨rfl, rfl, rfl, by decide +kernel, rfl, by decide +kernel, by decide +kernel⟩

theorem ok_lcall {f : Addr} {fd : FuncData} (F : Fun K "__call__" "Ladder.__call__" s_Ladder_call f fd) (T : Txt4 K mg tG t1 t2 t3 tP tC aO aW J C Ce Cl) (D_check_count : Df P w K mg base 4 "check_count" ["value"] spChkC) (M_after : Mt P w K mg base Cl 2 "after" "self" "pair" (spAfter C aO Ce Cl)) (D_lowest_pair : Df P w K mg base 3 "lowest_pair" ["fraction_or_open"] spLowP) : FnOk P w K mg base CX0 5 f fd ["self", "count"] (spLCall C aO Ce Cl) := by
  refine F.ok sc_Ladder_call (fun vs H Q E h => ?_) (fun cdv A outer s H vs Q E hr h => ?_)
  · obtain ⟨x, n, r, e, rfl, _⟩ := h
    rfl
  · obtain ⟨x, n, r, e, rfl, hLd, hok, l8, ep, es1, es2, n0, n1, k⟩ := h
    refine ⟨_, (pss_cons (ps_expr (pe_df D_check_count (hr.mono (by decide)) (by rfl) (pa_cons (pv 1) pa_nil)))
      (pss_cons (ps_set (i := 2) sc_Ladder_call.nd rfl (.inl rfl) (pe_fld (pv 0) rfl))
      (pss_cons (ps_for PassesOwn.never rfl (pi_range1 rfl T.range (pa_cons (pv 1) pa_nil)) (pg_name (i := 3) sc_Ladder_call.nd rfl (.inl rfl)) (pss_one (ps_set (i := 2) sc_Ladder_call.nd rfl (.inl rfl) (pe_dm (pv 0) T.clL M_after (hr.mono (by decide)) (pa_cons (pv 2) pa_nil)))))
      (pss_one (ps_ret (pe_df D_lowest_pair (hr.mono (by decide)) (by rfl) (pa_cons (pv 2) pa_nil))))))), ?_⟩
    obtain ⟨dx, p, q, v, hx, hP, hq, hv⟩ := id hLd
    refine ⟨_, rfl, n, rfl, n0, n1, ?_⟩
    refine ⟨_, rfl, x, Cl, dx, _, _, rfl, hx, T.clL, T.nBeh, lkB _ _ _, ?_⟩
    refine ⟨_, rfl, n, rfl, by omega, by omega, ?_⟩
    refine for_range (lo := 0) (n := n.toNat) (fun i σ H' => Same H H' ∧ ∃ (t : Addr) (v1 : Option V), σ = [some (.ref x), some (.int n), some (.ref t), v1] ∧ PairAt H' t (appN (matR r) i e)) ⟨Same.refl _, q, none, rfl, hq⟩ ?_ ?_
    · rintro i σ H' hi ⟨s1, t, v1, rfl, ht⟩
      obtain ⟨a1, a2⟩ := appN_sm hok l8 es1 es2 i
      refine ⟨_, rfl, x, dx, _, rfl, s1 _ _ hx, lkAf _ _ _, _, rfl, x, t, r, e, _, rfl, hLd.same s1, ht, hok, l8, a1.mono (by omega), a2.mono (by omega), fun H2 p2 s2 np2 hp2 => ?_⟩
      exact ⟨s1.trans s2, p2, _, rfl, hp2⟩
    · rintro σ H' ⟨s1, t, v1, rfl, ht⟩
      obtain ⟨a1, a2⟩ := appN_sm hok l8 es1 es2 n.toNat
      exact ⟨_, rfl, _, _, rfl, .inr ⟨t, rfl, ht⟩, appN_pos hok ep _, a1.mono (by omega), a2.mono (by omega), fun H2 p2 s2 np2 hp2 => k _ p2 (s1.trans s2) (s1.free np2) hp2⟩
abbrev s_Ladder_goes : Stmt := inClass (top 67) 5
theorem sc_Ladder_goes : FnScope ["self"] ["self"] (defScope s_Ladder_goes) := ⟨rfl, rfl, rfl, by decide +kernel, rfl, by decide +kernel, by decide +kernel⟩

theorem ok_goes {f : Addr} {fd : FuncData} (F : Fun K "goes" "Ladder.goes" s_Ladder_goes f fd) (T : Txt4 K mg tG t1 t2 t3 tP tC aO aW J C Ce Cl) (D_pair_order : Df P w K mg base 2 "pair_order" ["first", "second"] spPO) (M_after : Mt P w K mg base Cl 2 "after" "self" "pair" (spAfter C aO Ce Cl)) : FnOk P w K mg base CX0 3 f fd ["self"] (spGoes C aO Ce Cl) := by
  refine F.ok sc_Ladder_goes (fun vs H Q E h => ?_) (fun cdv A outer s H vs Q E hr h => ?_)
  · obtain ⟨x, r, e, rfl, _⟩ := h
    rfl
  · obtain ⟨x, r, e, rfl, hLd, hok, l8, es1, es2, k⟩ := h
    refine ⟨_, (pss_one (ps_ret (pe_df D_pair_order (hr.mono (by decide)) (by rfl) (pa_cons (pe_dm (pv 0) T.clL M_after (hr.mono (by decide)) (pa_cons (pe_fld (pv 0) rfl) pa_nil)) (pa_cons (pe_fld (pv 0) rfl) pa_nil))))), ?_⟩
    obtain ⟨dx, p, q, v, hx, hP, hq, hv⟩ := id hLd
    obtain ⟨a1, a2⟩ := app_sm (matR_sm30 hok l8) es1 es2
    refine ⟨_, rfl, x, dx, _, rfl, hx, lkAf _ _ _, _, rfl, x, Cl, dx, _, _, rfl, hx, T.clL, T.nBeh, lkB _ _ _, x, q, r, e, _, rfl, hLd, hq, hok, l8, es1.mono (by decide), es2.mono (by decide), fun H2 p2 s2 np2 hp2 => ?_⟩
    exact ⟨_, rfl, x, Cl, dx, _, _, rfl, s2 _ _ hx, T.clL, T.nBeh, lkB _ _ _, p2, q, _, _, rfl, hp2, s2 _ _ hq, a1.mono (by decide), a2.mono (by decide), es1.mono (by decide), es2.mono (by decide), k _ s2⟩
abbrev s_Ladder_limit : Stmt := inClass (top 67) 6
theorem sc_Ladder_limit : FnScope ["self"] ["self"] (defScope s_Ladder_limit) := ⟨rfl, rfl, rfl, by decide +kernel, rfl, by decide +kernel, by decide +kernel⟩

theorem ok_limit {f : Addr} {fd : FuncData} (F : Fun K "limit" "Ladder.limit" s_Ladder_limit f fd) (T : Txt4 K mg tG t1 t2 t3 tP tC aO aW J C Ce Cl) : FnOk P w K mg base CX0 1 f fd ["self"] (spLimit C aO Ce Cl) := by
  refine F.ok sc_Ladder_limit (fun vs H Q E h => ?_) (fun cdv A outer s H vs Q E hr h => ?_)
  · obtain ⟨x, r, e, rfl, _⟩ := h
    rfl
  · obtain ⟨x, r, e, rfl, ⟨dx, p, q, v, hx, hP, hq, hv⟩, k⟩ := h
    refine ⟨_, (pss_one (ps_ret (pe_fld (pv 0) rfl))), ?_⟩
    exact ⟨_, rfl, x, Cl, dx, _, _, rfl, hx, T.clL, T.nFar, lkFar _ _ _, k _ hv⟩
end
end RL

set_option maxHeartbeats 2000000
/-! An own exception class called with arguments by position and by keyword, its __init__ a def. -/
namespace PySem
namespace RLX
open PySem.W PySem.Calls PyProof.Rows PySem.HandSPX
section
variable {prog : Program} {w : World} {M : Model} {A : Around} {E : Value → Shared → Prop} {R : Result → Shared → Prop} {h : Heap} {g : Array GenState} {d : Drawn} {t : Nat} {os : OsState}
variable {nm q : Str} {C N : Addr} {bs bm bmB : List Value} {hdct : Bool} {sn : List Str} {sub : List Value} {ab : Bool} {col : Option Bool} {dd : Option Addr} {k0 k1 k2 k3 k5 : Option Value} {B newId initId : String}
/-- the check ahead of the making -/
theorem chk_new (F : ExcBaseFacts B newId initId bmB) (hT : ∀ X : String, bm.contains (.type X) = bmB.contains (.type X)) {rest : List Value} {kw : List (Str × Value)} {Q : Unit → Shared → Prop}
    (hC : h.get? C = some (excClassObj nm q C N bs bm hdct sn sub ab col dd k0 k1 k2 k3 k5 newId)) (hq : Q () ⟨h, g, d, t, os⟩) : wpAny M A (checkBuiltinCall newId ⟨.ref C :: rest, kw⟩) Q E ⟨h, g, d, t, os⟩ := by
  have yB : (Value.ref C :: bm).contains (.type B) = true := by
    rw [List.contains_cons, hT, F.hasB, Bool.or_true]
  have st := F.noStar
  simp only [checkBuiltinCall, F.newKind, F.newSplit, F.newRow]
  repeat (first
    | refine wpAny_loadPart_at hC ?_
    | (refine wpAny_isSubtype_exc hC ?_; rw [yB])
    | refine wpAny_staticBase_exc hC ?_
    | refine wpAny_madeBy_exc hC ?_
    | simp only [bne_self_eq_false, Bool.false_eq_true, if_false]
    | wp_step)
  exact hq
/-- what the making lays: the arguments' tuple, the exception behind it -/
abbrev laid2 (C : Addr) (rest : List Value) (h : Heap) : Heap := (h.push (W.kdv_tup rest)).push (excO C h.objs.size)
theorem run_new (F : ExcBaseFacts B newId initId bmB) (hT : ∀ X : String, bm.contains (.type X) = bmB.contains (.type X)) {rest : List Value} {kw : List (Str × Value)}
    (hC : h.get? C = some (excClassObj nm q C N bs bm hdct sn sub ab col dd k0 k1 k2 k3 k5 newId))
    (hq : R (.ok (.ret (.ref (h.objs.size + 1)))) ⟨laid2 C rest h, g, d, t, os⟩) (hz : rest.length ≤ sizeLine) :
    codeAny (model prog w) A (.builtin newId ⟨.ref C :: rest, kw⟩) R ⟨h, g, d, t, os⟩ := by
  have en := F.ends
  have yB : (Value.ref C :: bm).contains (.type B) = true := by
    rw [List.contains_cons, hT, F.hasB, Bool.or_true]
  have yA : (Value.ref C :: bm).contains (.type "AttributeError") = false := by
    rw [List.contains_cons, hT, F.noAttr]
    rfl
  have yN : (Value.ref C :: bm).contains (.type "NameError") = false := by
    rw [List.contains_cons, hT, F.noName]
    rfl
  refine codeAny_builtinAt F.entry ?_
  unfold Builtin.«BaseException.__new__»
  refine wpAt_bind ?_
  show wpAt _ _ _ (stack >>= _) _ _ _
  refine wpAt_bind (wpAt_stack fun p below => wpAt_of_wpAny ?_)
  wp_walk
  refine wpAt_of_wpAny ?_
  rw [F.owner]
  repeat (first
    | with_reducible refine wpAny_madeHere_exc F.canon hC ?_
    | with_reducible refine wpAny_loadPart_at hC ?_
    | (with_reducible refine wpAny_isSubtype_exc hC ?_; first | rw [yB] | rw [yA] | rw [yN])
    | wp_step)
  show R _ _
  rw [Heap.size_push]
  exact hq
theorem run_typeCall (F : ExcBaseFacts B newId initId bmB) (hT : ∀ X : String, bm.contains (.type X) = bmB.contains (.type X)) {rest : List Value} {kw : List (Str × Value)} {fI : Addr} {Q : Fin → Shared → Prop}
    (hC : h.get? C = some (excClassObj nm q C N bs bm hdct sn sub ab col dd k0 k1 k2 k3 k5 newId))
    (hi : W.Looks (model prog w) h (typeLookup (.ref C) "__init__") (some (.ref fI))) (hb : ∀ self, W.Looks (model prog w) h (bindSpecial (.ref fI) self) (.ref fI, [self])) (hz : rest.length ≤ sizeLine)
    (hq : codeAny (model prog w) A (.call (.ref fI) ⟨.ref (h.objs.size + 1) :: rest, kw⟩)
      (fun r s' => match r with | .ok (.ret v) => v = .none ∧ Q (.done (.ret (.ref (h.objs.size + 1)))) s' | .ok _ => False | .error e => E e s')
      ⟨laid2 C rest h, g, d, t, os⟩) :
    wpAny (model prog w) A (Builtin.«type.__call__» ⟨.ref C :: rest, kw⟩) Q E ⟨h, g, d, t, os⟩ := by
  repeat (first
    | with_reducible refine wpAny_loadPart_at hC ?_
    | with_reducible refine wpAny_madeBy_exc hC ?_
    | wp_step)
  refine codeAny_call_builtin_code (Code.quiet_builtin _ F.quiet) (chk_new F hT hC (run_new F hT hC ?_ hz))
  show wpAny _ _ _ _ _ _
  have kp : ∀ b o, h.get? b = some o → (laid2 C rest h).get? b = some o := fun b o e => Heap.get?_push_of_some _ (Heap.get?_push_of_some _ e)
  have hC1 := kp _ _ hC
  have hget : (laid2 C rest h).get? (h.objs.size + 1) = some (excO C h.objs.size) := by heap_get
  have yC : (Value.ref C :: bm).contains (.ref C) = true := by simp
  have i1 := hi.keeps kp
  have b1 := (hb (.ref (h.objs.size + 1))).keeps kp
  unfold isInstance
  repeat (first
    | with_reducible refine wpAny_loadPart_at hget ?_
    | (with_reducible refine wpAny_isSubtype_exc hC1 ?_; rw [yC])
    | wp_step)
  show wpAny _ _ (typeLookup (.ref C) _) _ _ _
  refine i1.at (wpAny_holding (wpAny_bind (b1.at (wpAny_bind (wpAny_call (codeAny_mono hq fun r s' z => ?_))))))
  rcases r with e | (v | _ | _ | _) <;> first | exact z | exact z.elim | skip
  obtain ⟨rfl, z⟩ := z
  first
    | exact wpAny_pure (wpAny_pure z)
    | (wp_walk; exact z)
theorem chk_typeCall {rest : List Value} {kw : List (Str × Value)} {Q : Unit → Shared → Prop} (hC : h.get? C = some (excClassObj nm q C N bs bm hdct sn sub ab col dd k0 k1 k2 k3 k5 newId))
    (hq : Q () ⟨h, g, d, t, os⟩) : wpAny M A (checkBuiltinCall "type.__call__" ⟨.ref C :: rest, kw⟩) Q E ⟨h, g, d, t, os⟩ := by
  have f3 := tc_sub
  have ty : (⟨h, g, d, t, os⟩ : Shared).TypeIs (.ref C) "type" := ⟨_, hC, rfl⟩
  simp only [checkBuiltinCall, tc_kind, tc_split]
  repeat (any_goals (first
    | assumption
    | with_reducible refine wpAny_loadPart_at hC ?_
    | with_reducible refine wpAny_onRaise ?_
    | with_reducible refine wpAny_map ?_
    | wp_step))
/-- C(.., k = v, ..) -/
theorem run_make (F : ExcBaseFacts B newId initId bmB) (hT : ∀ X : String, bm.contains (.type X) = bmB.contains (.type X)) {rest : List Value} {kw : List (Str × Value)} {fI : Addr}
    (hC : h.get? C = some (excClassObj nm q C N bs bm hdct sn sub ab col dd k0 k1 k2 k3 k5 newId))
    (hi : W.Looks (model prog w) h (typeLookup (.ref C) "__init__") (some (.ref fI))) (hb : ∀ self, W.Looks (model prog w) h (bindSpecial (.ref fI) self) (.ref fI, [self])) (hz : rest.length ≤ sizeLine)
    (hq : codeAny (model prog w) (A.under (.builtin "type.__call__" ⟨.ref C :: rest, kw⟩)) (.call (.ref fI) ⟨.ref (h.objs.size + 1) :: rest, kw⟩) (W.InitBack (h.objs.size + 1) R) ⟨laid2 C rest h, g, d, t, os⟩) :
    codeAny (model prog w) A (.call (.ref C) ⟨rest, kw⟩) R ⟨h, g, d, t, os⟩ := by
  have f1 := tc_lookup
  have f2 := tc_bind (.ref C)
  have ty : (⟨h, g, d, t, os⟩ : Shared).TypeIs (.ref C) "type" := ⟨_, hC, rfl⟩
  refine codeAny_of_tree ?_
  show wpAny _ _ (callAny (.ref C) _) _ _ _
  repeat (any_goals (first
    | assumption
    | with_reducible refine wpAny_loadPart_at hC ?_
    | wp_step))
  refine ⟨rfl, ?_⟩
  refine codeAny_call_builtin_at (Code.quiet_builtin _ (by decide +kernel)) entry_typeCall (chk_typeCall hC (run_typeCall F hT hC hi hb hz (codeAny_mono hq fun r s' z => ?_)))
  rcases r with e | (v | _ | _ | _) <;> exact z
end
end RLX
end PySem

set_option maxHeartbeats 2000000
/-! Own exceptions held as values: made (by position, by keyword), stored into, read, asked for their class. -/
namespace RL
open PySem L2 PySem.Spec PyProof.Rows Builtin Builtin.ObjectAttr
/-- what the class at C says: an own exception class, its __init__ a def -/
def xcB (K : PySem.W.Frag) (C : Addr) (bmB : List Value) (nid : String) : Bool :=
  PySem.W.excInitIn K C bmB nid && PySem.W.excOver K C bmB && PySem.W.hasDictIn K C && PySem.W.keepIn K (.ref C) && (PySem.W.clsIn K C).isSome &&
  decide (PySem.W.findIn K (.ref C) "__setattr__" = some (some (.builtin "object.__setattr__"))) &&
  decide (PySem.W.findIn K (.ref C) "__getattribute__" = some (some (.builtin "BaseException.__getattribute__"))) &&
  decide (PySem.W.findIn K (.ref C) "__getattr__" = some none) &&
  decide (PySem.W.findIn K (.ref C) "__class__" = some (some (.builtin "object.__class__"))) &&
  decide (PySem.W.subIn K (.ref C) (.type "BaseException") = some true) && decide (PySem.W.mroIn K C (.type "object") = some true) &&
  decide (PySem.W.findIn K (.ref C) "given" = some none) && decide (PySem.W.findIn K (.ref C) "index" = some none) && decide (PySem.W.findIn K (.ref C) "most" = some none)
structure XC (K : PySem.W.Frag) (C : Addr) : Prop where
  base : ∃ (B nid iid : String) (bmB : List Value), ExcBaseFacts B nid iid bmB ∧ StoreFacts B bmB "object.__setattr__" "object" ∧ PySem.W.excInitIn K C bmB nid = true ∧ PySem.W.excOver K C bmB = true
  hd : PySem.W.hasDictIn K C = true
  kp : PySem.W.keepIn K (.ref C) = true
  cl : (PySem.W.clsIn K C).isSome = true
  sa : PySem.W.findIn K (.ref C) "__setattr__" = some (some (.builtin "object.__setattr__"))
  ga : PySem.W.findIn K (.ref C) "__getattribute__" = some (some (.builtin "BaseException.__getattribute__"))
  gg : PySem.W.findIn K (.ref C) "__getattr__" = some none
  ca : PySem.W.findIn K (.ref C) "__class__" = some (some (.builtin "object.__class__"))
  sub : PySem.W.subIn K (.ref C) (.type "BaseException") = some true
  mo : PySem.W.mroIn K C (.type "object") = some true
  n1 : PySem.W.findIn K (.ref C) "given" = some none
  n2 : PySem.W.findIn K (.ref C) "index" = some none
  n3 : PySem.W.findIn K (.ref C) "most" = some none
theorem xcB_ok {K : PySem.W.Frag} {C : Addr} {bmB : List Value} {B nid iid : String} (F : ExcBaseFacts B nid iid bmB) (S : StoreFacts B bmB "object.__setattr__" "object") (h : xcB K C bmB nid = true) : XC K C := by
  unfold xcB at h
  simp only [Bool.and_eq_true, decide_eq_true_eq] at h
  obtain ⟨⟨⟨⟨⟨⟨⟨⟨⟨⟨⟨⟨⟨h1, h2⟩, h3⟩, h4⟩, h5⟩, h6⟩, h7⟩, h8⟩, h9⟩, h10⟩, h11⟩, h12⟩, h13⟩, h14⟩ := h
  exact ⟨⟨B, nid, iid, bmB, F, S, h1, h2⟩, h3, h4, h5, h6, h7, h8, h9, h10, h11, h12, h13, h14⟩
/-- the row that isinstance asks of object.__class__ -/
structure XK0 (K : PySem.W.Frag) : Prop where
  cn : PySem.W.specialIn K (.builtin "object.__class__") "__get__" = some (some (.builtin "getset_descriptor.__get__"))
  ct : PySem.W.takesIn K (.builtin "object.__class__") = some true
section
variable {prog : Program} {w : World} {A : Around} {R : Result → Shared → Prop} {hp : Heap} {g : Array GenState} {d : Drawn} {t : Nat} {os : OsState} {B : String} {bmB : List Value} {C : Addr}
theorem x_store {K : PySem.W.Frag} {name : Str} {tk : Tok} {v : Value} {x t1 : Addr} (SF : StoreFacts B bmB "object.__setattr__" "object") (X : K.In hp) (hx : hp.get? x = some (PySem.HandSPX.excO C t1))
    (ov : PySem.W.excOver K C bmB = true) (hh : PySem.W.hasDictIn K C = true) (ha : PySem.W.findIn K (.ref C) name = some none)
    (hq : ∀ h' tk' dx, (∀ b o, b ≠ x → hp.get? b = some o → h'.get? b = some o) → hp.objs.size ≤ dx → dx ≠ x → h'.get? x = some { PySem.HandSPX.excO C t1 with dict := some dx } →
      h'.Ns1 dx (fun y => if y = name then some v else none) → R (.ok (.ret .none)) ⟨h', g, d, tk', os⟩) :
    codeAny (model prog w) A (.call (.builtin "object.__setattr__") ⟨[.ref x, .str name tk, v], []⟩) R ⟨hp, g, d, t, os⟩ := by
  have tkr : PySem.W.takerIn K C name = some none := by
    unfold PySem.W.takerIn
    rw [ha]
    rfl
  obtain ⟨cd, hc, hd'⟩ := PySem.W.any_some hh
  have hxs : x ≠ hp.objs.size := Nat.ne_of_lt (Heap.lt_size hx)
  refine PySem.W.osa_openX (od := none) SF X ⟨hx, rfl, rfl, trivial⟩ ov tkr fun b => ?_
  refine wpAny_bind (wpAny_pure (wpAny_bind (PySem.W.instanceDict_exc (t := t1) (c2 := .none) hx (PySem.W.looks_clsIn X hc) hd' ?_)))
  show wpAny _ _ (storeInDict hp.objs.size (.str name tk) name v) _ _ _
  refine PySem.HandSPX.store_in_new ?_ ?_
  · exact ⟨_, #[], _, (Heap.get?_update_ne _ _ _ _ hxs.symm).trans (Heap.get?_push_at rfl rfl), rfl, fun e he => absurd he (by simp), fun _ => rfl⟩
  · intro h' tk' hn' hs
    have hx1 : (hp.push (PySem.W.dictOf [] 0)).get? x = some (PySem.HandSPX.excO C t1) := Heap.get?_push_of_some _ hx
    refine hq h' tk' hp.objs.size (fun b o hb ho => ?_) (Nat.le_refl _) hxs.symm ?_ hn'
    · exact (hs.2 b (Nat.ne_of_lt (Heap.lt_size ho))).trans ((Heap.get?_update_ne _ _ _ _ hb).trans (Heap.get?_push_of_some _ ho))
    · exact (hs.2 x hxs).trans (Heap.get?_update_self _ hx1 rfl)
end
section
variable {X : Cx} {pins : List (Addr × Obj)} {σ : L2.St} {H : Hp} {s : Shared} {a C dx : Addr} {f : Str} {y : V} {u : Value} {Q : Unit → Shared → Prop} {E : Value → Shared → Prop} {A : Around}
/-- self.f = y, the first one -/
theorem x_set (T : XC X.K C) (I : Inv X pins σ H s) (e : H a = some (exo a C none)) (hno : PySem.W.findIn X.K (.ref C) f = some none) (ry : RelV y u)
    (h : ∀ dx s', H dx = none → dx ≠ a → Inv X pins σ (upd (upd H dx (exd dx [(f, y)])) a (exo a C (some dx))) s' → Q () s') : wpAny (model X.prog X.w) A (setAttr (.ref a) f u) Q E s := by
  obtain ⟨B, nid, iid, bmB, FB, SF, _, ov⟩ := T.base
  obtain ⟨t1, ho⟩ := exo_at I.hok e
  obtain ⟨hp, g, d, t, os⟩ := s
  refine PySem.W.set_plain I.kIn (ox := PySem.HandSPX.excO C t1) (od := none) ⟨ho, rfl, rfl, trivial⟩ T.sa ?_
  refine x_store SF I.kIn ho ov T.hd hno (fun h' tk' dx k dn dne hx hn => ?_)
  have hnd : H dx = none := I.hok.fresh dn
  have nd : ∀ {b : Addr} {o : Obj}, hp.get? b = some o → b ≠ dx := fun {b o} q z => absurd (Heap.lt_size q) (by rw [z]; exact Nat.not_lt.mpr dn)
  have na : ∀ {b : Addr}, H b = none → b ≠ a := fun {b} n z => by
    rw [z, e] at n
    cases n
  have there : ∀ b o, hp.get? b = some o → ∃ o', h'.get? b = some o' := fun b o q => by
    by_cases hb : b = a
    · exact ⟨_, by rw [hb]; exact hx⟩
    · exact ⟨o, k b o hb q⟩
  refine h dx _ hnd dne (I.un (t' := tk') (Un.mk (fun b o q n _ _ => k b o (na n) q) (fun b o q n _ _ => ⟨o.slots, k b o (na n) q⟩) (fun b o q n _ => by rw [upd_ne (na n), upd_ne (nd q)]; exact n) (fun b o q _ => there b o q)
    (fun b xs q => by rw [upd_ne (at_ne e q exo_tup), upd_ne (ne_of_none q hnd)]; exact q) (fun b o v q => by rw [upd_ne (at_ne e q exo_frz), upd_ne (ne_of_none q hnd)]; exact q)
    (fun b ps q => ⟨#[], by rw [upd_ne (at_ne e q exo_tbl), upd_ne (ne_of_none q hnd), q]; simp⟩)) fun b o q => ?_)
  by_cases hb : b = a
  · rw [hb, upd_same] at q
    cases q
    rw [hb]
    exact exo_ok hx
  rw [upd_ne hb] at q
  by_cases hd : b = dx
  · rw [hd, upd_same] at q
    cases q
    rw [hd]
    exact exd_ok hn (relO_put (fs := []) ry fun g => True.intro)
  rw [upd_ne hd] at q
  refine (I.hok b o q).stay (fun c v hc z => k c v ?_ z) (fun c hc => ?_) (fun c xs hc => ?_)
  · rcases hc with hc | hc
    · rw [hc]
      exact hb
    · exact at_ne e hc exo_own
  · rw [upd_ne (at_ne e hc exo_own), upd_ne (ne_of_none hc hnd)]
    exact hc
  · rw [upd_ne (at_ne e hc exo_tup), upd_ne (ne_of_none hc hnd)]
    exact hc
end
/-- self.f = e -/
def tXst (K : PySem.W.Frag) (f : Str) (to te : TE) : TS := fun D σ H => te σ H fun y H1 => to σ H1 fun x H2 => ∃ a C : Addr, x = .ref a ∧ XC K C ∧ PySem.W.findIn K (.ref C) f = some none ∧ H2 a = some (exo a C none) ∧
  ∀ dx, H2 dx = none → dx ≠ a → D.nx σ (upd (upd H2 dx (exd dx [(f, y)])) a (exo a C (some dx)))
section
variable {X : Cx} {o e : Expr} {es : List Expr} {to te : TE} {ta tk : TA} {f : Str} {p p' p1 p2 pos : Pos}
theorem ps_xst (ho : PE X o to) (he : PE X e te) (hs : swapsWith e (some (.Attribute o f p')) pos.line X.env = pure false := by rfl) : PS X (.Assign [.Attribute o f p'] e pos) (tXst X.K f to te) := by
  refine ⟨fun pins s σ H D I h => plainObj_wpAny_Assign_Attribute (thn (he.run pins s σ H _ I h) fun v s1 ⟨y, H1, I1, r1, q1⟩ => thn (ho.run pins s1 σ H1 _ I1 q1) fun u s2 ⟨x, H2, I2, r2, a, C, ex, T, hno, ea, q⟩ => ?_) hs⟩
  subst ex
  cases (show u = Value.ref a from r2)
  exact x_set T I2 ea hno r1 fun dx s' n ne J => ⟨σ, _, J, q dx n ne⟩
/-- Base.m(e, ..), m a def of the class at C -/
theorem pe_xbase {C g : Addr} {mc : Value} {fd : FuncData} {ps : List Str} {sp : Sp} {k : Nat} {x m : Str} {pl : Sem Bool} (gC : X.mg x = some (.ref C)) (hg : Gl X x) (r : ClX.CRead X.K C mc) (hf : PySem.W.findCls X.K (.ref C) mc m = some (.val (.ref g)))
    (kp : PySem.W.keepIn X.K (.ref g) = true) (F : FnOk X.prog X.w X.K X.mg X.base CX0 k g fd ps sp) (hr : Room k X.A) (hb : Binds X.K fd ps []) (ha : PA X (e :: es) ta)
    (hc : eval (.Call (.Attribute (.Name x p1) m p2) (e :: es) [] pos) X.env = (do
      let ov ← eval (.Name x p1) X.env
      standAt p2.atName
      let (f, first) ← holding [ov] (getMethod ov m pl)
      callWith pos f first (backTo pos (starEach (e :: es) X.env)) (backToKw pos (keywordEach [] X.env))) := by rfl)
    (hdb : (x == ("__debug__" : Str)) = false := by decide) (he : starEach (e :: es) X.env = (false, eval e X.env) :: starEach es X.env := by rfl) (hpl : (backTo pos (starEach es X.env)).any (·.1) = false := by rfl) :
    PE X (.Call (.Attribute (.Name x p1) m p2) (e :: es) [] pos) (tCall sp [] E0 ta) := by
  refine ⟨fun pins s σ H Q I h => PySem.W.methodCall_KW (ld_glob I hg gC (PySem.W.method_cls I.kIn r.ga (ClX.getcval_ok (v := .ref g) I r ⟨hf, rfl⟩ fun s0 I0 => ?_)) hdb) hc⟩
  refine PySem.W.callWith_K (h₀ := X.base) I0.ok.mod.kin kp (thn (ha.run pos pins s0 σ H _ I0 h) fun us s1 ⟨vs, H1, I1, r1, q⟩ => ⟨I1.kIn, ?_⟩) he hpl
  exact run_fn F hr hb .nil pass0 I1 r1 q
/-- C(e, .., k = v, ..): a new exception without a dict, then __init__ -/
def tXmk (C : Addr) (n m : Nat) (sp : Sp) (gV : List V → List V → List V) (t tk : TA) : TE := fun σ H Q => t σ H fun vs H1 => tk σ H1 fun zs H2 => vs.length = n ∧ zs.length = m ∧
  ∀ a, H2 a = none → sp (gV (.ref a :: vs) zs) (upd H2 a (exo a C none)) (fun v H3 => v = .non ∧ Q (.ref a) H3) E0
/-- the class at C and its __init__ -/
structure XM (P : Program) (w : World) (K : PySem.W.Frag) (mg : Str → Option Value) (base : Heap) (k : Nat) (C : Addr) (ps : List Str) (sp : Sp) : Prop where
  xc : XC K C
  ex : ∃ (g : Addr) (fd : FuncData), PySem.W.findIn K (.ref C) "__init__" = some (some (.ref g)) ∧ PySem.W.isFn K (.ref g) = true ∧ FnOk P w K mg base CX0 k g fd ps sp ∧ Binds K fd ps [] ∧
    ∀ y z, ps = [y, z] → KBn K fd ps 1 [z] (fun us ws => us ++ ws) (fun vs zs => vs ++ zs)
theorem run_xmk {k n : Nat} {C g : Addr} {fd : FuncData} {ps ks : List Str} {sp : Sp} {gU : List Value → List Value → List Value} {gV : List V → List V → List V} {pins : List (Addr × Obj)} {σ : L2.St} {H : Hp} {s : Shared} {Q : VK} {us ws : List Value} {vs zs : List V}
    (T : XC X.K C) (iC : PySem.W.findIn X.K (.ref C) "__init__" = some (some (.ref g))) (tI : PySem.W.isFn X.K (.ref g) = true) (F : FnOk X.prog X.w X.K X.mg X.base CX0 k g fd ps sp) (hr : Room (k + 1) X.A) (hb : KBn X.K fd ps (n + 1) ks gU gV)
    (I : Inv X pins σ H s) (r : Vals vs us) (rz : Vals zs ws) (l1 : vs.length = n) (l2 : zs.length = ks.length) (ln : n ≤ 1000)
    (h : ∀ a, H a = none → sp (gV (.ref a :: vs) zs) (upd H a (exo a C none)) (fun v H2 => v = .non ∧ Q (.ref a) H2) E0) :
    wpAny (model X.prog X.w) X.A (call (.ref C) us (ks.zip ws)) (EP X pins σ Q) X.xe s := by
  obtain ⟨B, nid, iid, bmB, FB, SF, q, ov⟩ := T.base
  obtain ⟨nm, N', qn, bs, bm, hdct, sn, sub, ab, col, dd, k0, k1, k2, k3, k5, hC, hT⟩ := PySem.W.excInit_of I.kIn q
  have bf : ∀ self, PySem.W.Looks (model X.prog X.w) s.heap (bindSpecial (.ref g) self) (.ref g, [self]) := fun self => PySem.W.bind_fn I.kIn self (beq_iff_eq.mp tI)
  have li := PySem.W.looks_findIn (M := model X.prog X.w) I.kIn iC
  obtain ⟨hp, gs, dr, tk, os⟩ := s
  have hq := h (hp.objs.size + 1) (I.hok.fresh (Nat.le_succ _))
  have kk : ∀ b o, hp.get? b = some o → (PySem.RLX.laid2 C us hp).get? b = some o := fun b o e => Heap.get?_push_of_some _ (Heap.get?_push_of_some _ e)
  have hget : (PySem.RLX.laid2 C us hp).get? (hp.objs.size + 1) = some (PySem.HandSPX.excO C hp.objs.size) := by heap_get
  have I2 : Inv X pins σ (upd H (hp.objs.size + 1) (exo (hp.objs.size + 1) C none)) ⟨PySem.RLX.laid2 C us hp, gs, dr, tk, os⟩ :=
    I.laid (t' := tk) (a := hp.objs.size + 1) (o := exo (hp.objs.size + 1) C none) (h' := PySem.RLX.laid2 C us hp) kk (Nat.le_succ _) (exo_ok hget)
  have r1 : Vals (V.ref (hp.objs.size + 1) :: vs) (Value.ref (hp.objs.size + 1) :: us) := .cons rfl r
  have n1 : (Value.ref (hp.objs.size + 1) :: us).length = n + 1 := by rw [List.length_cons, ← r.length, l1]
  have hz : us.length ≤ sizeLine := by
    rw [← r.length, sizeLine_eq]
    omega
  refine wpAny_call (PySem.RLX.run_make FB hT hC li bf hz (codeAny_mono (F.run _ X.stack _ _ ⟨Value.ref (hp.objs.size + 1) :: us, ks.zip ws⟩ (gU (Value.ref (hp.objs.size + 1) :: us) ws) _ _ E0 (hr.make C us (ks.zip ws))
    (I2.env0.make C us (ks.zip ws)) (hb.to _ (Value.ref (hp.objs.size + 1) :: us) ws I2.kIn n1 (rz.length.symm.trans l2)) (hb.rel r1 rz) hq) fun r s' z => ?_))
  cases r with
  | error e => exact z.elim
  | ok fl =>
    cases fl with
    | ret u =>
      obtain ⟨v, H', I3, rv, ev, q3⟩ := I2.after z
      subst ev
      exact ⟨rv, ⟨V.ref (hp.objs.size + 1), H', I3, rfl, q3⟩⟩
    | next => exact z.elim
    | brk => exact z.elim
    | cont => exact z.elim
theorem kbn_of {K : PySem.W.Frag} {fd : FuncData} {ps : List Str} {n : Nat} (hb : Binds K fd ps []) (hl : ps.length = n) : KBn K fd ps n [] (fun us _ => us) (fun vs _ => vs) :=
  ⟨fun s us ws hK l1 l2 => by
    have e := hb s us hK (by rw [List.append_nil, l1, hl])
    rw [List.append_nil] at e
    exact e, fun r _ => r⟩
/-- C(k = v) -/
theorem pe_xmkK {C : Addr} {k : Nat} {x y z : Str} {sp : Sp} {kws : List Keyword} (M : XM X.prog X.w X.K X.mg X.base k C [y, z] sp) (hr : Room (k + 1) X.A) (hg : Gl X x) (hm : X.mg x = some (.ref C)) (hkw : PK X kws tk)
    (hall : (backToKw pos (keywordEach kws X.env)).all (·.1.isSome) = true := by rfl) (hks : (backToKw pos (keywordEach kws X.env)).filterMap (·.1) = [z] := by rfl) (hdb : (x == ("__debug__" : Str)) = false := by decide)
    (hpl : ((backTo pos (starEach [] X.env)).any (·.1) || (backToKw pos (keywordEach kws X.env)).any (·.1.isNone)) = false := by rfl) :
    PE X (.Call (.Name x p) [] kws pos) (tXmk C 0 1 sp (fun vs zs => vs ++ zs) tNil tk) := by
  obtain ⟨g, fd, iC, tI, F, _, hK⟩ := M.ex
  refine ⟨fun pins s σ H Q I h => wpAny_Call_Name_kw (ld_glob I hg hm (PySem.W.callWith_KW0 (h₀ := X.base) I.ok.mod.kin M.xc.kp hall ?_ hpl) hdb)⟩
  refine thn (hkw.run pos pins s σ H _ I h) fun ws s2 ⟨zs, H2, I2, rz, l1, l2, q2⟩ => ⟨I2.kIn, ?_⟩
  rw [hks]
  exact run_xmk (us := []) (vs := []) M.xc iC tI F hr (hK y z rfl) I2 .nil rz rfl l2 (by decide) q2
/-- C(e, ..) -/
theorem pe_xmk {C : Addr} {k : Nat} {x : Str} {sp : Sp} {ps : List Str} (M : XM X.prog X.w X.K X.mg X.base k C ps sp) (hr : Room (k + 1) X.A) (hg : Gl X x) (hm : X.mg x = some (.ref C)) (ha : PA X (e :: es) ta) (hn : ps.length = (e :: es).length + 1) (hn2 : (e :: es).length ≤ 1000)
    (hdb : (x == ("__debug__" : Str)) = false := by decide) (he : starEach (e :: es) X.env = (false, eval e X.env) :: starEach es X.env := by rfl) (hpl : (backTo pos (starEach es X.env)).any (·.1) = false := by rfl) :
    PE X (.Call (.Name x p) (e :: es) [] pos) (tXmk C (e :: es).length 0 sp (fun vs _ => vs) ta tNil) := by
  obtain ⟨g, fd, iC, tI, F, hb, _⟩ := M.ex
  refine ⟨fun pins s σ H Q I h => wpAny_Call_Name_kw (ld_glob I hg hm (PySem.W.callWith_K (h₀ := X.base) I.ok.mod.kin M.xc.kp (thn (ha.run pos pins s σ H _ I h) fun us s1 ⟨vs, H1, I1, r, l1, _, q⟩ => ⟨I1.kIn, ?_⟩) he hpl) hdb)⟩
  exact run_xmk (ks := []) (ws := []) (zs := []) M.xc iC tI F hr (kbn_of hb hn) I1 r .nil l1 rfl hn2 q
/-- C() -/
theorem pe_xmk0 {C : Addr} {k : Nat} {x : Str} {sp : Sp} {y : Str} (M : XM X.prog X.w X.K X.mg X.base k C [y] sp) (hr : Room (k + 1) X.A) (hg : Gl X x) (hm : X.mg x = some (.ref C))
    (hdb : (x == ("__debug__" : Str)) = false := by decide) :
    PE X (.Call (.Name x p) [] [] pos) (tXmk C 0 0 sp (fun vs _ => vs) tNil tNil) := by
  obtain ⟨g, fd, iC, tI, F, hb, _⟩ := M.ex
  refine ⟨fun pins s σ H Q I h => wpAny_Call_Name_kw (ld_glob I hg hm (PySem.W.callWith_K0 I.kIn M.xc.kp ?_) hdb)⟩
  obtain ⟨_, _, q⟩ := h
  exact run_xmk (us := []) (vs := []) (ks := []) (ws := []) (zs := []) M.xc iC tI F hr (kbn_of hb rfl) I .nil .nil rfl rfl (by decide) q
/-! ### asked and read -/
/-- an exception of the class at C -/
def Exo (H : Hp) (a C : Addr) : Prop := H a = some (exo a C none) ∨ ∃ (dx : Addr) (fs : List (Str × V)), H a = some (exo a C (some dx)) ∧ H dx = some (exd dx fs)
def rIsX (K : PySem.W.Frag) : List V → Hp → VK → Prop := fun xs H Q => ∃ (a C : Addr) (c : V) (u : Value) (b : Bool), xs = [.ref a, c] ∧ ClsV c u ∧ XC K C ∧ Exo H a C ∧ PySem.W.kitOne K (.ref C) u = some b ∧ Q (.bl b) H
theorem call_isX (Z : XK0 X.K) : CallR X (.builtin "isinstance") (rIsX X.K) := by
  intro pins s σ H xs us Q I r h
  obtain ⟨a, C, c, u, b, rfl, kc, T, hx, e, q⟩ := h
  obtain ⟨u1, u2, rfl, r1, r2⟩ := vals2 r
  have e2 := kc.eq r2
  subst e2
  cases (show u1 = Value.ref a from r1)
  have key : ∃ ox od, PySem.W.InstAt s.heap a ox C od := by
    rcases hx with hx | ⟨dx, fs, hx, hd⟩
    · obtain ⟨t1, ho⟩ := exo_at I.hok hx
      exact ⟨_, none, ho, rfl, rfl, trivial⟩
    · obtain ⟨t1, ho⟩ := exo_at I.hok hx
      obtain ⟨mA, ⟨od, es, ep, hod, _⟩, _⟩ := exd_at I.hok hd
      exact ⟨_, some od, ho, rfl, rfl, hod⟩
  obtain ⟨ox, od, J⟩ := key
  exact PySem.W.kia_one (PySem.W.kitx_exc (ox := ox) (od := od) T.cl T.ga T.gg T.sub T.ca Z.cn Z.ct T.mo) I.kIn J e (fun z => nomatch z) fun tk => ⟨.bl b, H, I.tok tk, rfl, q⟩
/-- e.f, e an exception with a dict -/
def tXfd (K : PySem.W.Frag) (f : Str) (te : TE) : TE := fun σ H Q => te σ H fun x H1 => ∃ (a C dx : Addr) (fs : List (Str × V)) (v : V), x = .ref a ∧ XC K C ∧ PySem.W.findIn K (.ref C) f = some none ∧ H1 a = some (exo a C (some dx)) ∧ H1 dx = some (exd dx fs) ∧ fs.lookup f = some v ∧ Q v H1
theorem pe_xfd {n : Str} (he : PE X e te) (hb : attributeBase e n X.env (eval e X.env) = eval e X.env := by rfl) : PE X (.Attribute e n pos) (tXfd X.K n te) := by
  refine ⟨fun pins s σ H Q I h => attr_of hb (thn (he.run pins s σ H _ I h) fun u s1 ⟨x, H1, I1, rx, a, C, dx, fs, v, ex, T, hno, ea, ed, l, q⟩ => ?_)⟩
  subst ex
  cases (show u = Value.ref a from rx)
  obtain ⟨t1, ho⟩ := exo_at I1.hok ea
  obtain ⟨mA, hns, hr⟩ := exd_at I1.hok ed
  obtain ⟨od, hod, hl⟩ := lookIn_ns hns
  obtain ⟨u, hu, ru⟩ := RelO.some_of (v := v) (o := mA n) (by rw [← l]; exact hr n)
  have J : PySem.W.InstAt s1.heap a _ C (some od) := ⟨ho, rfl, rfl, hod⟩
  exact HandSPX.exc_get I1.kIn J T.ga T.gg T.sub (PySem.W.findObj_own T.hd hno rfl (by rw [hl, hu])) (handed_of ru) ⟨v, H1, I1.tok _, ru, q⟩
end
end RL

set_option maxHeartbeats 1000000
/-! repr of plain things: None, bools, ints, texts, lists, tuples, flat dicts. -/
namespace RL
open PySem L2 PySem.Spec PyProof.Rows
def keyD : Key → PyData
  | .inl i => .int i
  | .inr x => .str x
/-- v is, by the heap, the data d: as Dp, or a dict of ints -/
inductive Dq (K : PySem.W.Frag) (H : Hp) : V → PyData → Prop
  | dp {v : V} {d : PyData} : Dp K H v d → d.hasDict = false → Dq K H v d
  | dk {a : Addr} {kvs : List (Key × Int)} : H a = some (.dK (kvs.map fun p => (p.1, V.int p.2))) → Dq K H (.ref a) (.dict (kvs.map fun p => (keyD p.1, .int p.2)))
theorem dk_reads {P : Program} {w : World} {h : Heap} : ∀ {kvs : List (Key × Int)} {vs : List (Key × Value)} {es : List DictEntry}, KV (kvs.map fun p => (p.1, V.int p.2)) vs → Pairs (mixKind P w) es vs →
    ReadsAll h (es.map (·.key)) ((kvs.map fun p => (keyD p.1, PyData.int p.2)).map (·.1)) [] ∧ ReadsAll h (es.map (·.val)) ((kvs.map fun p => (keyD p.1, PyData.int p.2)).map (·.2)) []
  | [], _, _, r, q => by
    cases r
    cases q
    exact ⟨.nil, .nil⟩
  | (k, i) :: kvs, _, _, r, q => by
    cases r with
    | cons r1 r2 =>
      cases q with
      | cons q1 q2 q3 =>
        obtain ⟨e1, e2⟩ := r1
        obtain ⟨h1, h2⟩ := dk_reads (P := P) (w := w) (h := h) r2 q3
        refine ⟨?_, ?_⟩
        · have q1' := q1
          rw [mixKind_is, ← e1] at q1'
          rcases keyIs_shape q1' with ⟨j, t, ek, ev⟩ | ⟨x, t, ek, ev⟩
          · have ek : k = _ := ek
            subst ek
            rw [List.map_cons, ev]
            exact ReadsAll.cons (Reads.int _ _) h1
          · have ek : k = _ := ek
            subst ek
            rw [List.map_cons, ev]
            exact ReadsAll.cons (Reads.str _ _) h1
        · obtain ⟨t, e2⟩ := e2
          rw [List.map_cons, q2, e2]
          exact ReadsAll.cons (Reads.int _ _) h2
section
variable {X : Cx}
def rRp (K : PySem.W.Frag) : List V → Hp → VK → Prop := fun vs H Q => ∃ (v : V) (d : PyData), vs = [v] ∧ Dq K H v d ∧ d.showable = true ∧ d.depth ≤ 40 ∧ d.shown.length ≤ sizeLine ∧ Q (.str d.shown) H
theorem cr_rp (hG : X.A.guards = some []) (hu : X.A.units + 64 < cLine) : CallR X (.builtin "repr") (rRp X.K) := by
  intro pins s σ H vs us Q I r h
  obtain ⟨v, d, rfl, hd, h1, h3, h4, q⟩ := h
  obtain ⟨u, rfl, ru⟩ : ∃ u, us = [u] ∧ RelV v u := by
    cases r with
    | cons r1 r2 =>
      cases r2
      exact ⟨_, rfl, r1⟩
  cases hd with
  | dp hp h2 =>
    cases hp with
    | non =>
      cases (show u = Value.none from ru)
      exact PySem.P.repr_of_none ⟨.str "None", H, I.tok _, ⟨_, rfl⟩, q⟩
    | bl b =>
      cases (show u = Value.bool b from ru)
      exact PySem.P.repr_of_bool ⟨.str (PyData.bool b).shown, H, I.tok _, ⟨_, rfl⟩, q⟩
    | int i =>
      obtain ⟨t, rfl⟩ := ru
      exact PySem.P.repr_of_int (of_decide_eq_true h1) ⟨.str (PyData.int i).shown, H, I.tok _, ⟨_, rfl⟩, q⟩
    | str x =>
      obtain ⟨t, rfl⟩ := ru
      exact PySem.P.repr_of_str ⟨.str (PyData.str x).shown, H, I.tok _, ⟨_, rfl⟩, q⟩ h4
    | @lst a xs ds hs ha =>
      exact cr_repr hG hu pins s σ H _ _ Q I (.cons ru .nil) ⟨a, _, rfl, .lst hs ha, h1, h2, h3, h4, q⟩
    | @tup a xs ds hs ha =>
      exact cr_repr hG hu pins s σ H _ _ Q I (.cons ru .nil) ⟨a, _, rfl, .tup hs ha, h1, h2, h3, h4, q⟩
  | @dk a kvs ha =>
    cases (show u = Value.ref a from ru)
    obtain ⟨_, hsys, vs, kv, o, es, ep, ho, hc, hdat, _, hp, _⟩ := (show ObjOk X.prog X.w H s.heap a (.dK _) from I.hok a _ ha)
    obtain ⟨g1, g2⟩ := dk_reads (h := s.heap) kv hp
    refine repr_of_reads' (h₀ := s.heap) (Reads.dict ho hc.1 hdat g1 g2) h1 (fun _ hm => ?_) hG (by omega) (fun _ _ z => z) (fun h' u tk hk => ⟨.str _, H, I.kept hk, ⟨_, rfl⟩, q⟩) h4
    have hm' : sysModules ∈ [a] := hm
    rw [List.mem_singleton] at hm'
    rw [← hm'] at hsys
    exact absurd hsys (by decide)
end
theorem sqT_same {K : PySem.W.Frag} {H H' : Hp} {a : Addr} {xs : List V} (e : ∀ b o, H b = some o → H' b = some o) (h : SqT K H a xs) : SqT K H' a xs := by
  rcases h with (h | ⟨o, h⟩) | h
  · exact .inl (.inl (e _ _ h))
  · exact .inl (.inr ⟨o, e _ _ h⟩)
  · exact .inr h
mutual
theorem dp_same {K : PySem.W.Frag} {H H' : Hp} (s : ∀ b o, H b = some o → H' b = some o) : ∀ (d : PyData) (v : V), Dp K H v d → Dp K H' v d
  | .none, _, h => by
    cases h
    exact .non
  | .bool b, _, h => by
    cases h
    exact .bl b
  | .int i, _, h => by
    cases h
    exact .int i
  | .str x, _, h => by
    cases h
    exact .str x
  | .list ds, _, h => by
    cases h with
    | lst a b => exact .lst (Same.seq s a) (dpAll_same s ds _ b)
  | .tuple ds, _, h => by
    cases h with
    | tup a b => exact .tup (sqT_same s a) (dpAll_same s ds _ b)
  | .dict _, _, h => by cases h
theorem dpAll_same {K : PySem.W.Frag} {H H' : Hp} (s : ∀ b o, H b = some o → H' b = some o) : ∀ (ds : List PyData) (vs : List V), DpAll K H vs ds → DpAll K H' vs ds
  | [], _, h => by
    cases h
    exact .nil
  | d :: ds, _, h => by
    cases h with
    | cons a b => exact .cons (dp_same s d _ a) (dpAll_same s ds _ b)
end
theorem Dq.same {K : PySem.W.Frag} {H H' : Hp} {v : V} {d : PyData} (h : Dq K H v d) (s : Same H H') : Dq K H' v d := by
  cases h with
  | dp a b => exact .dp (dp_same s _ _ a) b
  | dk a => exact .dk (s _ _ a)
end RL

set_option maxHeartbeats 1000000
/-! Pairs of exceptions, made by position and by name. -/
namespace RL
open PySem L2
/-- __init__(self, f): the base's __init__, then self.f = f -/
def spI (K : PySem.W.Frag) (f : Str) : Sp := fun vs H Q _ => ∃ (a C : Addr) (y : V), vs = [.ref a, y] ∧ XC K C ∧ PySem.W.findIn K (.ref C) f = some none ∧ H a = some (exo a C none) ∧
  ∀ dx, H dx = none → dx ≠ a → Q .non (upd (upd H dx (exd dx [(f, y)])) a (exo a C (some dx)))
def spN : Sp := fun vs H Q _ => ∃ v : V, vs = [v] ∧ Q .non H
/-- at a: an exception of the class at C whose f is y -/
def Xv (H : Hp) (a C : Addr) (f : Str) (y : V) : Prop := ∃ dx : Addr, H a = some (exo a C (some dx)) ∧ H dx = some (exd dx [(f, y)])
theorem Xv.same {H H' : Hp} {a C : Addr} {f : Str} {y : V} (h : Xv H a C f y) (s : Same H H') : Xv H' a C f y := by
  obtain ⟨dx, h1, h2⟩ := h
  exact ⟨dx, s _ _ h1, s _ _ h2⟩
/-- v: a list of two such exceptions -/
def Pr (H : Hp) (v : V) (C : Addr) (f : Str) (y : V) : Prop := ∃ l a b : Addr, v = .ref l ∧ H l = some (.lst [.ref a, .ref b]) ∧ Xv H a C f y ∧ Xv H b C f y
theorem Pr.same {H H' : Hp} {v : V} {C : Addr} {f : Str} {y : V} (h : Pr H v C f y) (s : Same H H') : Pr H' v C f y := by
  obtain ⟨l, a, b, e, h1, h2, h3⟩ := h
  exact ⟨l, a, b, e, s _ _ h1, h2.same s, h3.same s⟩
theorem new_upd {H : Hp} {p : Addr} {o : HO} (h : H p = none) : Same H (upd H p o) := fun b x e => by
  rw [upd_ne (ne_of_none e h)]
  exact e
theorem xv_new {H : Hp} {a dx C : Addr} {f : Str} {y : V} (na : H a = none) (nd : H dx = none) (ne : dx ≠ a) : Same H (upd (upd (upd H a (exo a C none)) dx (exd dx [(f, y)])) a (exo a C (some dx))) ∧ Xv (upd (upd (upd H a (exo a C none)) dx (exd dx [(f, y)])) a (exo a C (some dx))) a C f y := by
  refine ⟨fun b o e => ?_, dx, upd_same, ?_⟩
  · rw [upd_ne (ne_of_none e na), upd_ne (ne_of_none e nd), upd_ne (ne_of_none e na)]
    exact e
  · rw [upd_ne ne, upd_same]
def tPair (C : Addr) (f : Str) (i : Nat) : TE := fun σ H Q => ∃ y, σ[i]? = some (some y) ∧ ∀ v H', Same H H' → Pr H' v C f y → (∀ l, v = .ref l → H l = none) → Q v H'
section
variable {X : Cx} {e1 e2 : Expr} {x : Str} {p1 p2 p3 p4 p5 pos : Pos} {nm : Option Str} {kpos : Pos} {i : Nat}
theorem xmk_one {K : PySem.W.Frag} {a C : Addr} {f : Str} {y : V} {H : Hp} {R : Hp → Prop} (T : XC K C) (hno : PySem.W.findIn K (.ref C) f = some none) (na : H a = none) (h : ∀ H', Same H H' → Xv H' a C f y → R H') :
    spI K f [.ref a, y] (upd H a (exo a C none)) (fun v H3 => v = .non ∧ R H3) E0 := by
  refine ⟨a, C, y, rfl, T, hno, upd_same, fun dx nd ne => ⟨rfl, ?_⟩⟩
  rw [upd_ne ne] at nd
  obtain ⟨s1, x1⟩ := xv_new (C := C) (f := f) (y := y) na nd ne
  exact h _ s1 x1
theorem pe_pair {C : Addr} {k : Nat} {f : Str} (M : XM X.prog X.w X.K X.mg X.base k C ["self", f] (spI X.K f)) (hno : PySem.W.findIn X.K (.ref C) f = some none) (hr : Room (k + 1) X.A) (hg : Gl X x) (hm : X.mg x = some (.ref C))
    (h1 : PE X e1 (tVar i)) (h2 : PE X e2 (tVar i)) (hs : starEach [.Call (.Name x p1) [e1] [] p2, .Call (.Name x p3) [] [⟨nm, e2, kpos⟩] p4] X.env = (false, eval (.Call (.Name x p1) [e1] [] p2) X.env) :: starEach [.Call (.Name x p3) [] [⟨nm, e2, kpos⟩] p4] X.env := by rfl)
    (hs2 : starEach [.Call (.Name x p3) [] [⟨nm, e2, kpos⟩] p4] X.env = (false, eval (.Call (.Name x p3) [] [⟨nm, e2, kpos⟩] p4) X.env) :: starEach [] X.env := by rfl) (hs1 : starEach [e1] X.env = (false, eval e1 X.env) :: starEach [] X.env := by rfl) (hdb : (x == ("__debug__" : Str)) = false := by decide)
    (hks : (backToKw p4 (keywordEach [⟨nm, e2, kpos⟩] X.env)).filterMap (·.1) = [f] := by rfl) (hall : (backToKw p4 (keywordEach [⟨nm, e2, kpos⟩] X.env)).all (·.1.isSome) = true := by rfl) (hpl : ((backTo p4 (starEach [] X.env)).any (·.1) || (backToKw p4 (keywordEach [⟨nm, e2, kpos⟩] X.env)).any (·.1.isNone)) = false := by rfl) :
    PE X (.List [.Call (.Name x p1) [e1] [] p2, .Call (.Name x p3) [] [⟨nm, e2, kpos⟩] p4] pos) (tPair C f i) := by
  have hp := pe_lst (pos := pos) (pa_cons (pe_xmk (p := p1) (pos := p2) M hr hg hm (pa_cons h1 pa_nil hs1) rfl (Nat.succ_le_of_lt (by decide : 0 < 1000)) hdb hs1 rfl) (pa_cons (pe_xmkK (p := p3) (pos := p4) M hr hg hm (pk_cons (nm := nm) (kpos := kpos) h2 pk_nil) hall hks hdb hpl) pa_nil hs2) hs)
  refine ⟨fun pins s σ H Q I h => hp.run pins s σ H Q I ?_⟩
  obtain ⟨y, ey, q⟩ := h
  refine ⟨y, ey, rfl, rfl, fun a na => xmk_one M.xc hno na fun H1 s1 x1 => ?_⟩
  refine ⟨y, ey, rfl, rfl, fun b nb => xmk_one M.xc hno nb fun H2 s2 x2 => ?_⟩
  refine ⟨(by show 2 ≤ sizeLine; decide), fun l nl => ?_⟩
  have s3 := new_upd (o := .lst [.ref a, .ref b]) nl
  exact q _ _ ((s1.trans s2).trans s3) ⟨l, a, b, rfl, upd_same, (x1.same s2).same s3, x2.same s3⟩ (fun l' e => by cases e; exact (s1.trans s2).free nl)
/-- C() -/
def tMk0 (C : Addr) : TE := fun _ H Q => ∀ a, H a = none → Q (.ref a) (upd H a (exo a C none))
theorem pe_mk0 {C : Addr} {k : Nat} {y : Str} (M : XM X.prog X.w X.K X.mg X.base k C [y] spN) (hr : Room (k + 1) X.A) (hg : Gl X x) (hm : X.mg x = some (.ref C)) (hdb : (x == ("__debug__" : Str)) = false := by decide) : PE X (.Call (.Name x p1) [] [] p2) (tMk0 C) := by
  have hp := pe_xmk0 (p := p1) (pos := p2) M hr hg hm hdb
  exact ⟨fun pins s σ H Q I h => hp.run pins s σ H Q I ⟨rfl, rfl, fun a na => ⟨.ref a, rfl, rfl, h a na⟩⟩⟩
end
section
variable {X : Cx} {K : PySem.W.Frag} {e : Expr} {te : TE} {pos : Pos} {n : Str}
theorem pe_xfdK (he : PE X e te) (hK : X.K = K := by rfl) (hb : attributeBase e n X.env (eval e X.env) = eval e X.env := by rfl) : PE X (.Attribute e n pos) (tXfd K n te) := by
  subst hK
  exact pe_xfd he hb
theorem cr_rpK (hG : X.A.guards = some []) (hu : X.A.units + 64 < cLine) (hK : X.K = K := by rfl) : CallR X (.builtin "repr") (rRp K) := by
  subst hK
  exact cr_rp hG hu
end
/-- for i, x in enumerate(l) -/
theorem for_enum {K : PySem.W.Frag} {a : Addr} {xs : List V} {g : TG} {tb : TS} {D : Ends} {σ : L2.St} {H : Hp} (Pv : Nat → L2.St → Hp → Prop) (h0 : Pv 0 σ H) (hl : ∀ i σ H, i ≤ xs.length → Pv i σ H → SqL K H a xs)
    (hs : ∀ i x σ H T, xs[i]? = some x → Pv i σ H → H T = none → g (.ref T) σ (upd H T (.tup [.int (i : Nat), x])) fun σ2 H2 => tb { D with nx := Pv (i + 1), ct := Pv (i + 1), bk := D.nx } σ2 H2) (hd : ∀ σ H, Pv xs.length σ H → D.nx σ H) :
    ∃ W : Nat → Nat → L2.St → Hp → Prop, (∃ m, W 0 m σ H) ∧ ∀ i m σ H, W i m σ H →
      ((Ite K a).stop i H ∧ D.nx σ H) ∨ ((Ite K a).go i H ∧ ∃ N : L2.St → Hp → Prop, (∀ σ' H', N σ' H' → ∃ m', m' < m ∧ W (i + 1) m' σ' H') ∧ ∀ x H', (Ite K a).yld i H x H' → g x σ H' fun σ2 H2 => tb { D with nx := N, ct := N, bk := D.nx } σ2 H2) := by
  refine ⟨fun i m σ H => m = xs.length - i ∧ i ≤ xs.length ∧ Pv i σ H, ⟨xs.length, by simp, Nat.zero_le _, h0⟩, ?_⟩
  rintro i m σ H ⟨rfl, hi, p⟩
  have q := hl i σ H hi p
  by_cases hlt : i < xs.length
  · refine .inr ⟨⟨xs, xs[i], q, by simp [hlt]⟩, Pv (i + 1), fun σ' H' p' => ⟨xs.length - (i + 1), by omega, rfl, hlt, p'⟩, fun x H' y => ?_⟩
    obtain ⟨T, z, rfl, nT, rfl, ez⟩ := y
    exact hs i z σ H T (ez xs q) p nT
  · have e : i = xs.length := by omega
    rw [e] at p ⊢
    exact .inl ⟨⟨xs, q, Nat.le_refl _⟩, hd σ H p⟩
end RL

set_option maxHeartbeats 2000000
/-! try: .. except (A, B, C) as e: .. where the suite calls defs that ask e and make lists. -/
namespace RL
open PySem L2 PySem.Spec PyProof.Rows
/-! ### the clause -/
theorem fly_keeps {B : Heap} {l : List Env} {a : Addr} {Z : Obj → Prop} {h h' : Heap} (fl : HandSPX.FlyingZ B l a Z h) (k : ∀ b o, h.get? b = some o → h'.get? b = some o) : HandSPX.FlyingZ B l a Z h' := by
  obtain ⟨g1, g2, g3, oe, vs, T, oT, ts, he, hz, hd, h1, hnT, hTe, hT, hdT, h3⟩ := fl
  exact ⟨fun b o e => k b o (g1 b o e), g2, g3.of_keeps fun b o e _ => ⟨o, k b o e, rfl⟩, oe, vs, T, oT, ts, k _ _ he, hz, hd, h1, hnT, hTe, k _ _ hT, hdT, h3⟩
/-- what the clause wishes of an exception of the body; it is always taken -/
def wAs3 (K : PySem.W.Frag) (cs : List Value) (i : Nat) (ts : Addr → Value → Option Addr → TS) (D : Ends) : WX := fun cls d σ H => PySem.W.exmAny K cls cs = some true ∧
  ∀ a, H a = none → ts a cls d { nx := fun σ' H' => D.nx (σ'.set i none) H', rt := D.rt, bk := fun σ' H' => D.bk (σ'.set i none) H', ct := fun σ' H' => D.ct (σ'.set i none) H' } (σ.set i (some (.ref a))) H
section
variable {X : Cx} {x1 x2 x3 n : Str} {c1 c2 c3 : Value} {i kk : Nat} {body suite : List Stmt} {b₀ : Stmt} {p1 p2 p3 tpos pos pos' : Pos} {tb : WX → TS} {ts : Addr → Value → Option Addr → TS}
theorem ps_try_as3 (hs : X.stack = X.env :: X.outer) (hf : X.env.frame = some X.env.locals) (hN : X.N.Nodup) (hi : X.N[i]? = some n) (hln : X.env.kindOf n = some .local) (n1 : Names X x1 c1) (n2 : Names X x2 c2) (n3 : Names X x3 c3)
    (hb : ∀ (W : WX) (pn : List (Addr × Obj)) (xe : Value → Shared → Prop), L2N.Takes (X.tr pn xe) W → PassesOwn (model X.prog X.w) X.A X.env xe → PSs (X.tr pn xe) body (tb W))
    (hsu : ∀ (a : Addr) (oe : Obj) (cls : Value) (d : Option Addr) (pn : List (Addr × Obj)), L2N.Zn cls d oe → (∃ vs, oe.data = .fields vs) → PSs (X.suite a ((a, oe) :: pn)) (b₀ :: suite) (ts a cls d)) :
    PS X (.Try body [.ExceptHandler (some (.Tuple [.Name x1 p1, .Name x2 p2, .Name x3 p3] kk tpos)) (some n) (b₀ :: suite) pos'] [] [] pos) (fun D σ H => tb (wAs3 X.K [c1, c2, c3] i ts D) D σ H) := by
  refine ⟨fun pins s σ H D I h => ?_⟩
  have ok := I.ok
  have hfr : X.A.frames = some (X.env :: X.outer) := by rw [ok.frames, hs]
  refine wpAny_Try_except (wpAny_mono ((hb (wAs3 X.K [c1, c2, c3] i ts D) (X.pn ++ pins) (fun e s₁ => wpAny (model X.prog X.w) X.A (noteFrame e X.env) (fun _ s₂ => wpAny (model X.prog X.w) X.A (setFlight e none) (fun _ s₃ =>
    wpAny (model X.prog X.w) X.A (handleBy e X.env [.ExceptHandler (some (.Tuple [.Name x1 p1, .Name x2 p2, .Name x3 p3] kk tpos)) (some n) (b₀ :: suite) pos']) (SP X pins D) X.xe s₃) X.xe s₂) X.xe s₁) (fun u s' xx => ?_) PassesOwn.looking).run [] s σ H D (I.toTry _) h) (fun f s1 hsp => ?_) (fun e s1 he => he))
  · obtain ⟨a, B, sI, pins', σ', H', cls, d, rfl, J', nb, up, sky, na, os, ag, hb1, hyes⟩ := xx
    have J : Inv X pins σ' H' sI := J'.ofTry ok
    rw [show (X.tr (X.pn ++ pins) _).stack = X.env :: X.outer from hs] at sky
    show wpAny (model X.prog X.w) X.A (noteFrame (.ref a) X.env) _ _ _
    refine L2N.Sky.land L2N.Zn.steady hfr hf sky fun h3 fl3 up3 => ?_
    have J3 : Inv X pins σ' H' { s' with heap := h3 } := J.landed nb fl3.1 (up.trans up3) os ag
    obtain ⟨oe3, vs3, he3, hz3, hd3⟩ := fl3.there
    have nfr : a ∉ frs (X.env :: X.outer) := fun hm => by
      obtain ⟨_, o', e', hnf⟩ := fl3.2.2.1.mem hm
      rw [he3] at e'
      cases e'
      exact hnf _ hd3
    have nL : a ≠ X.env.locals := fun z => nfr (List.mem_filterMap.mpr ⟨X.env, List.mem_cons_self, by rw [hf, z]⟩)
    have nF : a ∉ X.fs := fun hm => by
      obtain ⟨e, he, q⟩ := List.mem_filterMap.mp hm
      exact nfr (List.mem_filterMap.mpr ⟨e, List.mem_cons_of_mem _ he, q⟩)
    have S3 := J3.suite he3 hd3 na nL nF
    have look : ∀ {y : Str} {c : Value} {py : Pos} {Q : Value → Shared → Prop} {E : Value → Shared → Prop}, Names X y c → Q c { s' with heap := h3 } → wpAny (model X.prog X.w) (X.A.mark (some (.ref a))) (eval (.Name y py) X.env) Q E { s' with heap := h3 } := fun {y c py Q E} hc q => by
      obtain ⟨hg, hdbg, hm | ⟨hm, hv, hnn⟩⟩ := hc
      · exact ld_glob (X := X.suite a ((a, oe3) :: (X.pn ++ pins))) S3 hg hm q hdbg
      · exact ld_blt (X := X.suite a ((a, oe3) :: (X.pn ++ pins))) S3 hg hm hv q hnn hdbg
    refine wpAny_handleBy_cons (codeAny_handlers_test ?_) (by intro q; cases q)
    refine wpAny_Tuple (wpAny_items_cons (look n1 (wpAny_items_cons (look n2 (wpAny_items_cons (look n3 (wpAny_items_nil ⟨by size_fits, ?_⟩)))))))
    have kp : ∀ q o, h3.get? q = some o → (h3.push { cls := .type "tuple", data := .seq [c1, c2, c3].toArray }).get? q = some o := fun _ _ z => Heap.get?_push_of_some _ z
    have LT : PySem.W.Looks (model X.prog X.w) h3 (typeOf (.ref a)) cls := fun A Q E s k q => wpAny_typeOf_ref (k _ _ he3) (by rw [hz3.1]; exact q)
    refine (PySem.W.exm_tup3 (M := model X.prog X.w) (J3.kIn.keeps kp) (LT.keeps kp) (Heap.get?_push_size h3 rfl) hb1).here ?_
    refine codeAny_handlers_suite_as ?_
    refine HandSPX.lands_againZ (fly_keeps fl3 kp) fun h4 fl4 up4 => ?_
    have J4 : Inv X pins σ' H' { s' with heap := h4 } := J.landed nb fl4.1 ((up.trans up3).trans ((Heap.UpToSlots.of_keeps kp).trans up4)) os ag
    obtain ⟨oe4, vs4, he4, hz4, hd4⟩ := fl4.there
    have S4 := J4.suite he4 hd4 na nL nF
    refine store_ok (X := X.suite a ((a, oe4) :: (X.pn ++ pins))) (v := .ref a) S4 hN hi (.inl hln) rfl (fun s5 S5 => ?_) (.inr hln)
    refine wpAny_mono ((hsu a oe4 cls d (X.pn ++ pins) hz4 ⟨_, hd4⟩).run [] s5 _ H' _ S5 (hyes a na)) (fun f s6 hsp => ?_) (fun _ _ z => False.elim z)
    have fin : ∀ {σ6 : L2.St} {H6 : Hp} {Q : Shared → Prop}, Inv (X.suite a ((a, oe4) :: (X.pn ++ pins))) [] σ6 H6 s6 → (∀ s7, Inv X pins (σ6.set i none) H6 s7 → Q s7) →
        wpAny (model X.prog X.w) X.A (do bindName X.env n .none; unbindBehindTheSuite X.env n pos') (fun _ s7 => Q s7) X.xe s6 := fun {σ6 H6 Q} S6 hq => gone_ok (S6.unsuite ok) hN hi hln hq
    cases f with
    | next =>
      obtain ⟨σ6, H6, S6, q6⟩ := hsp
      exact fin S6 fun s7 J7 => ⟨_, _, J7, q6⟩
    | brk =>
      obtain ⟨σ6, H6, S6, q6⟩ := hsp
      exact fin S6 fun s7 J7 => ⟨_, _, J7, q6⟩
    | cont =>
      obtain ⟨σ6, H6, S6, q6⟩ := hsp
      exact fin S6 fun s7 J7 => ⟨_, _, J7, q6⟩
    | ret u =>
      obtain ⟨v6, σ6, H6, S6, r6, q6⟩ := hsp
      exact fin S6 fun s7 J7 => ⟨_, _, _, J7, r6, q6⟩
  · cases f with
    | next =>
      obtain ⟨σ', H', J', q⟩ := hsp
      exact wpAny_execs_nil ⟨σ', H', J'.ofTry ok, q⟩
    | brk =>
      obtain ⟨σ', H', J', q⟩ := hsp
      exact ⟨σ', H', J'.ofTry ok, q⟩
    | cont =>
      obtain ⟨σ', H', J', q⟩ := hsp
      exact ⟨σ', H', J'.ofTry ok, q⟩
    | ret u =>
      obtain ⟨v, σ', H', J', r, q⟩ := hsp
      exact ⟨v, σ', H', J'.ofTry ok, r, q⟩
end
/-! ### defs called in the suite -/
/-- the promise of a def called while the exception at p is handled; it may speak of p -/
structure FnE (P : Program) (w : World) (K : PySem.W.Frag) (mg : Str → Option Value) (base : Heap) (k : Nat) (f : Addr) (fd : FuncData) (ps : List Str) (sp : Addr × Obj → Sp) : Prop where
  len : ∀ p vs H Q E, sp p vs H Q E → vs.length = ps.length
  run : ∀ (A : Around) (outer : List Env) (s : Shared) (H : Hp) (args : Args) (us : List Value) (vs : List V) (Q : VK) (p : Addr × Obj), L2H.RoomH k A → L2H.Hot1 A p → L2H.PinOk outer H s p → Env0 P w K mg base A outer s H → BindsTo s fd args (ps.zip us) → Vals vs us → sp p vs H Q E0 →
    codeAny (model P w) A (.call (.ref f) args) (CR CX0 outer P w H s Q E0) s
section
variable {P : Program} {w : World} {K : PySem.W.Frag} {mg : Str → Option Value} {base : Heap}
theorem okE {x qual : Str} {st : Stmt} {f : Addr} {fd : FuncData} {N ps : List Str} {k : Nat} {sp : Addr × Obj → Sp} (F : Fun K x qual st f fd) (S : FnScope N ps (defScope st)) (len : ∀ p vs H Q E, sp p vs H Q E → vs.length = ps.length)
    (bd : ∀ (cdv : Value) (A : Around) (outer : List Env) (s : Shared) (H : Hp) (vs : List V) (Q : VK) (p : Addr × Obj), L2H.Hot1 A p → L2H.RoomH k (A.deeper (envOfC qual (defScope st) s.heap.objs.size f cdv)) → sp p vs H Q E0 →
      ∃ t, PSs (L2H.cxH CX0 P w K mg base N qual (defScope st) f cdv A outer s H E0 p) (defBody st) t ∧ t { nx := fun _ H' => Q .non H', rt := Q } (L2.start N vs) H) : FnE P w K mg base (k + 1) f fd ps sp := by
  obtain ⟨oc, od, kV, doc, pm, an, cdv, ct, osl, rfl, lk, hcd⟩ := F.ex
  refine ⟨len, fun A outer s H args us vs Q p hr hot hpin e0 hb r hsp => ?_⟩
  have KX : K.In s.heap := e0.mod.kin.keeps fun b o e => (e0.bs b o e).1
  have lim := e0.mod.nolimit.keeps fun b o e => (e0.bs b o e).1
  refine codeAny_call_function hr.depth (KX _ _ lk) rfl S.co S.gen rfl (PySem.W.codeRec_of KX hcd) (hb _ _ _ _ (wpAny_newFunctionEnv_cells S.kind (fun ⟨n, v⟩ hy => ?_) fun env he s1 x => ?_))
  · exact (S.par n (List.of_mem_zip hy).1).imp id fun q => ⟨q, PySem.W.cellsFrom_some _ _ _ (.inl q)⟩
  · subst he
    obtain ⟨t, ht, hq⟩ := bd cdv A outer s H vs Q p hot (hr.deeper _) hsp
    have I : Inv (L2H.cxH CX0 P w K mg base N qual (defScope st) f cdv A outer s H E0 p) [] (L2.start N vs) H s1 := L2H.inv_startH S hpin e0 (len _ _ _ _ _ hsp) r x
    refine ⟨lim.keeps x.toInCall.keep, codeAny_func (wpAny_mono (ht.run [] s1 _ H _ I hq) (fun fl s' hs => ?_) fun _ _ z => z)⟩
    cases fl with
    | ret u =>
      obtain ⟨v, σ', H', J, rv, q⟩ := hs
      exact ⟨v, H', J.os, J.bare, J.base, J.hok, rv, q⟩
    | next =>
      obtain ⟨σ', H', J, q⟩ := hs
      exact ⟨V.non, H', J.os, J.bare, J.base, J.hok, rfl, q⟩
    | brk => exact hs.elim fun _ z => z.elim fun _ y => False.elim y.2
    | cont => exact hs.elim fun _ z => z.elim fun _ y => False.elim y.2
end
structure DfE (P : Program) (w : World) (K : PySem.W.Frag) (mg : Str → Option Value) (base : Heap) (k : Nat) (x : Str) (ps : List Str) (sp : Addr × Obj → Sp) : Prop where
  ex : ∃ (f : Addr) (fd : FuncData), FnE P w K mg base k f fd ps sp ∧ mg x = some (.ref f) ∧ PySem.W.keepIn K (.ref f) = true ∧ Binds K fd ps []
section
variable {X : Cx} {k : Nat} {ps : List Str} {sp : Addr × Obj → Sp} {x : Str} {q pos : Pos} {e : Expr} {es : List Expr} {t : TA} {p : Addr × Obj}
theorem pe_dfE (D : DfE X.prog X.w X.K X.mg X.base k x ps sp) (hr : L2H.RoomH k X.A) (hot : L2H.Hot1 X.A p) (hp : p ∈ X.pn) (hg : Gl X x)
    (ha : PA X (e :: es) t) (hdb : (x == ("__debug__" : Str)) = false := by decide) (he : starEach (e :: es) X.env = (false, eval e X.env) :: starEach es X.env := by rfl) (hpl : (backTo pos (starEach es X.env)).any (·.1) = false := by rfl) :
    PE X (.Call (.Name x q) (e :: es) [] pos) (fun σ H Q => t σ H fun vs H1 => sp p vs H1 Q E0) := by
  obtain ⟨f, fd, F, hm, hk, hb⟩ := D.ex
  refine ⟨fun pins s σ H Q I h => wpAny_Call_Name_kw (ld_glob I hg hm (PySem.W.callWith_K (h₀ := X.base) I.ok.mod.kin hk (thn (ha.run pos pins s σ H _ I h) fun us s1 ⟨vs, H1, I1, r, q0⟩ => ⟨I1.kIn, ?_⟩) he hpl) hdb)⟩
  have hl : us.length = ps.length := by
    rw [← r.length]
    exact F.len _ _ _ _ _ q0
  have hbb := hb s1 us I1.kIn (by rw [List.append_nil]; exact hl)
  rw [List.append_nil] at hbb
  have P1 := I1.pin p (List.mem_append_left _ hp)
  have hpin : L2H.PinOk X.stack H1 s1 p := ⟨P1.1, P1.2.1, fun hm => (List.mem_cons.mp (I1.stkSub p.1 hm)).elim P1.2.2.1 P1.2.2.2.1, P1.2.2.2.2⟩
  refine wpAny_call (codeAny_mono (F.run X.A X.stack s1 H1 ⟨us, []⟩ us vs Q p hr hot hpin I1.env0 hbb r q0) fun z s' hq => ?_)
  cases z with
  | error e => exact hq.elim
  | ok fl =>
    cases fl with
    | ret u => exact I1.after hq
    | next => exact hq.elim
    | brk => exact hq.elim
    | cont => exact hq.elim
end
/-! ### the exception asked -/
/-- p: an exception of the class at C -/
def Px (p : Addr × Obj) (C : Addr) (H : Hp) : Prop := p.2.cls = .ref C ∧ (∃ vs, p.2.data = .fields vs) ∧ (p.2.dict = none ∨ ∃ (d : Addr) (fs : List (Str × V)), p.2.dict = some d ∧ H d = some (.xd fs))
theorem Px.same {p : Addr × Obj} {C : Addr} {H H' : Hp} (h : Px p C H) (s : Same H H') : Px p C H' := ⟨h.1, h.2.1, h.2.2.imp id fun ⟨d, fs, a, b⟩ => ⟨d, fs, a, s _ _ b⟩⟩
def rIsP (K : PySem.W.Frag) (p : Addr × Obj) : List V → Hp → VK → Prop := fun xs H Q => ∃ (C : Addr) (c : V) (u : Value) (b : Bool), xs = [.ref p.1, c] ∧ ClsV c u ∧ XC K C ∧ Px p C H ∧ PySem.W.kitOne K (.ref C) u = some b ∧ Q (.bl b) H
theorem call_isP {X : Cx} {p : Addr × Obj} (Z : XK0 X.K) (hp : p ∈ X.pn) : CallR X (.builtin "isinstance") (rIsP X.K p) := by
  intro pins s σ H xs us Q I r h
  obtain ⟨C, c, u, b, rfl, kc, T, ⟨hc, ⟨vs, hd⟩, hx⟩, e, q⟩ := h
  obtain ⟨u1, u2, rfl, r1, r2⟩ := vals2 r
  have e2 := kc.eq r2
  subst e2
  cases (show u1 = Value.ref p.1 from r1)
  obtain ⟨hget, _⟩ := I.pin p (List.mem_append_left _ hp)
  have nc : PySem.W.notCls p.2 = true := by unfold PySem.W.notCls; rw [hd] <;> rfl
  have key : ∃ od, PySem.W.InstAt s.heap p.1 p.2 C od := by
    rcases hx with hx | ⟨dx, fs, hx, hf⟩
    · exact ⟨none, hget, hc, nc, by rw [hx]; trivial⟩
    · obtain ⟨mA, ⟨od, es, ep, hod, _⟩, _⟩ := (show ObjOk X.prog X.w H s.heap dx (.xd fs) from I.hok dx _ hf)
      exact ⟨some od, hget, hc, nc, by rw [hx]; exact hod⟩
  obtain ⟨od, J⟩ := key
  exact PySem.W.kia_one (PySem.W.kitx_exc (ox := p.2) (od := od) T.cl T.ga T.gg T.sub T.ca Z.cn Z.ct T.mo) I.kIn J e (fun z => nomatch z) fun tk => ⟨.bl b, H, I.tok tk, rfl, q⟩
/-- e.f in the suite -/
def tPfd (K : PySem.W.Frag) (p : Addr × Obj) (f : Str) (te : TE) : TE := fun σ H Q => te σ H fun x H1 => ∃ (C dx : Addr) (fs : List (Str × V)) (v : V), x = .ref p.1 ∧ XC K C ∧ PySem.W.findIn K (.ref C) f = some none ∧ p.2.cls = .ref C ∧ (∃ vs, p.2.data = .fields vs) ∧ p.2.dict = some dx ∧ H1 dx = some (.xd fs) ∧ fs.lookup f = some v ∧ Q v H1
theorem pe_pfd {X : Cx} {p : Addr × Obj} {e : Expr} {te : TE} {pos : Pos} {n : Str} (hp : p ∈ X.pn) (he : PE X e te) (hb : attributeBase e n X.env (eval e X.env) = eval e X.env := by rfl) : PE X (.Attribute e n pos) (tPfd X.K p n te) := by
  refine ⟨fun pins s σ H Q I h => attr_of hb (thn (he.run pins s σ H _ I h) fun u s1 ⟨x, H1, I1, rx, C, dx, fs, v, ex, T, hno, hc, ⟨vs, hd⟩, ed, ea, l, q⟩ => ?_)⟩
  subst ex
  cases (show u = Value.ref p.1 from rx)
  obtain ⟨hget, _⟩ := I1.pin p (List.mem_append_left _ hp)
  obtain ⟨mA, hns, hr⟩ := (show ObjOk X.prog X.w H1 s1.heap dx (.xd fs) from I1.hok dx _ ea)
  obtain ⟨od, hod, hl⟩ := lookIn_ns hns
  obtain ⟨u, hu, ru⟩ := RelO.some_of (v := v) (o := mA n) (by rw [← l]; exact hr n)
  have nc : PySem.W.notCls p.2 = true := by unfold PySem.W.notCls; rw [hd] <;> rfl
  have J : PySem.W.InstAt s1.heap p.1 p.2 C (some od) := ⟨hget, hc, nc, by rw [ed]; exact hod⟩
  exact HandSPX.exc_get I1.kIn J T.ga T.gg T.sub (PySem.W.findObj_own T.hd hno rfl (by rw [hl, hu])) (handed_of ru) ⟨v, H1, I1.tok _, ru, q⟩
theorem pe_pfdK {X : Cx} {K : PySem.W.Frag} {p : Addr × Obj} {e : Expr} {te : TE} {pos : Pos} {n : Str} (hp : p ∈ X.pn) (he : PE X e te) (hK : X.K = K := by rfl) (hb : attributeBase e n X.env (eval e X.env) = eval e X.env := by rfl) : PE X (.Attribute e n pos) (tPfd K p n te) := by
  subst hK
  exact pe_pfd hp he hb
end RL

set_option maxHeartbeats 2000000
/-! [.. for x in range(..) if ..] where an exception is handled. -/
namespace RL
open PySem L2 PySem.Spec PyProof.Rows
/-- a comprehension's block there: it bears the handled exception -/
abbrev blkP (X : Cx) (p : Addr × Obj) (s : Shared) (H : Hp) (scope : Scope) (cenv : Env) (fp : List Addr) : Cx := (X.blk s H scope cenv fp).tr [p] fun _ _ => False
theorem pnB {X : Cx} {p : Addr × Obj} {s : Shared} {H : Hp} {scope : Scope} {cenv : Env} {fp : List Addr} : p ∈ (blkP X p s H scope cenv fp).pn := List.mem_cons_self
section
variable {X : Cx}
theorem lc_hot {pins : List (Addr × Obj)} {s : Shared} {σ : L2.St} {H : Hp} {Q : VK} {elt tg iter : Expr} {ifs : List Expr} {scope : Scope} {own : List (Str × Nat)} {pos pos' : Pos} {wi : TI} {g : TG} {tt : TT} {te : TE} {use : Option (Value → Sem Unit)} {Qf : Value → Shared → Prop} {p : Addr × Obj}
    (hot : L2H.Hot1 X.A p) (hp : p ∈ X.pn) (hN : X.N.Nodup) (I : Inv X pins σ H s) (hi : L2H.PIH X tg iter wi) (ok : BlkOk X.N X.env.scope scope own)
    (hg : ∀ (s : Shared) (H : Hp) (C : Addr) (cl : List (Str × Addr)) (fp : List Addr), PG (blkP X p s H scope (compEnvC scope cl C X.env) fp) tg g) (ht : ∀ (s : Shared) (H : Hp) (C : Addr) (cl : List (Str × Addr)) (fp : List Addr), PTs (blkP X p s H scope (compEnvC scope cl C X.env) fp) ifs tt)
    (he : ∀ (s : Shared) (H : Hp) (C : Addr) (cl : List (Str × Addr)) (fp : List Addr), PE (blkP X p s H scope (compEnvC scope cl C X.env) fp) elt te) (hs : ∀ x, foldedSetIterable iter X.env x = pure x)
    (h : tLc wi g tt te (own.map (·.2)) σ H Q)
    (hRR : ∀ D C s' m H', Inv X pins σ H' s' → Q (.ref D) H' → s'.heap.Ns C m → FpOk X pins H' C → compPost (model X.prog X.w) X.A X.xe use Qf (.ref D) C (.ok .next) s') :
    wpAny (model X.prog X.w) X.A (comprehension (.ListComp elt [⟨tg, iter, ifs, 0⟩] scope pos) scope X.env pos' (newList []) false (eval iter X.env) use) Qf X.xe s := by
  have hfree : ∀ y ∈ scope.names, y.2 = .free → ∃ c, X.env.cells.lookup y.1 = some c := fun y hy e => (ok.free y hy e).elim (fun k => I.ok.has _ (.inl k)) fun k => I.ok.has _ (.inr k)
  refine wpAny_comprehension_free (use := use) rfl hs (closure_ok hfree) ok.kind (fun y hy e => by rw [ok.uniq y hy, e]) (thn (hi.run pins s σ H _ I h) fun xv s1 hx => thn hx fun itv s2 h2 => ?_)
  obtain ⟨it, fp, tn, J, H2, e, I2, T, st2, f2, q⟩ := h2
  subst e
  refine wpAny_newObj_type (newEnv_comp ?_) (by show 0 ≤ sizeLine; decide)
  generalize hD : s2.heap.objs.size = D
  obtain ⟨W, ⟨m0, w0⟩, turn⟩ := q D (I2.hok.fresh (Nat.le_of_eq hD))
  generalize hs3 : ({ s2 with heap := s2.heap.push { cls := .type "list", data := .seq ([] : List Value).toArray } } : Shared) = s3
  have I3 : Inv X pins σ (upd H2 D (.lst [])) s3 := by
    rw [← hs3]
    refine I2.laid (t' := s2.toks) (fun b o e => Heap.get?_push_of_some _ e) (Nat.le_of_eq hD) ⟨Nat.zero_le _, [], 0, .nil, ?_⟩
    rw [← hD]
    exact Heap.get?_push_size _ rfl
  have h3 : s3.heap = s2.heap.push { cls := .type "list", data := .seq ([] : List Value).toArray } := by rw [← hs3]
  have f3 : ∀ b ∈ fp, FpOk X pins (upd H2 D (.lst [])) b ∧ b < s3.heap.objs.size := fun b hb => by
    obtain ⟨o, e, _⟩ := T.obj _ _ st2 b hb
    have hlt := Heap.lt_size e
    refine ⟨⟨?_, (f2 b hb).2⟩, by rw [h3, Heap.size_push]; exact Nat.lt_succ_of_lt hlt⟩
    rw [upd_ne (by rw [← hD]; exact Nat.ne_of_lt hlt)]
    exact (f2 b hb).1
  have st3 : tn 0 s3.heap := T.keep _ _ _ st2 fun b _ o e => by rw [h3]; exact Heap.get?_push_of_some _ e
  have I4' := block_start I3 ok hN f3
  -- the handled exception stays out of the block's reach
  have P3 := I3.pin p (List.mem_append_left _ hp)
  have nst : p.1 ∉ frs X.stack := fun hm => (List.mem_cons.mp (I3.stkSub p.1 hm)).elim P3.2.2.1 P3.2.2.2.1
  have kp4 : ∀ b o, s3.heap.get? b = some o → (pushCells (s3.heap.push { cls := .type "dict", data := .dict #[] }) scope.names).get? b = some o := fun b o e => pushCells_keeps _ _ _ _ (Heap.get?_push_of_some _ e)
  have I4 : Inv (blkP X p s3 (upd H2 D (.lst [])) scope (compEnvC scope (cellsFrom (s3.heap.objs.size + 1) scope.names (cloFrom X.env.cells scope.names [])) s3.heap.objs.size X.env) fp) [] (wipe σ (own.map (·.2))) (upd H2 D (.lst [])) { s3 with heap := pushCells (s3.heap.push { cls := .type "dict", data := .dict #[] }) scope.names } := by
    refine (I4'.pins_of (pins' := [p]) fun r hr => ?_).toTry _
    obtain rfl : r = p := by simpa using hr
    exact ⟨kp4 _ _ P3.1, P3.2.1, Nat.ne_of_lt (Heap.lt_size P3.1), nst, P3.2.2.2.2⟩
  have pg := hg s3 (upd H2 D (.lst [])) s3.heap.objs.size (cellsFrom (s3.heap.objs.size + 1) scope.names (cloFrom X.env.cells scope.names [])) fp
  have pt := ht s3 (upd H2 D (.lst [])) s3.heap.objs.size (cellsFrom (s3.heap.objs.size + 1) scope.names (cloFrom X.env.cells scope.names [])) fp
  have pe := he s3 (upd H2 D (.lst [])) s3.heap.objs.size (cellsFrom (s3.heap.objs.size + 1) scope.names (cloFrom X.env.cells scope.names [])) fp
  show codeAny _ _ (.compStart (.ListComp elt [⟨tg, iter, ifs, 0⟩] scope pos) 0 (.ref it) (.ref D) (compEnvC scope (cellsFrom (s3.heap.objs.size + 1) scope.names (cloFrom X.env.cells scope.names [])) s3.heap.objs.size X.env)) (compPost (model X.prog X.w) X.A X.xe use Qf (.ref D) s3.heap.objs.size) { s3 with heap := pushCells (s3.heap.push { cls := .type "dict", data := .dict #[] }) scope.names }
  have nfp : ∀ b ∈ fp, (upd H2 D (.lst [])) b = none := fun b hb => (f3 b hb).1.1
  generalize hce : compEnvC scope (cellsFrom (s3.heap.objs.size + 1) scope.names (cloFrom X.env.cells scope.names [])) s3.heap.objs.size X.env = ce at I4 pg pt pe ⊢
  have cL : ce.locals = s3.heap.objs.size := by subst hce; rfl
  have hcB : L2H.HotC (blkP X p s3 (upd H2 D (.lst [])) scope ce fp) := ⟨p, hot, pnB⟩
  generalize hH3 : upd H2 D (.lst []) = H3 at I3 I4 pg pt pe w0 nfp f3 hcB
  generalize hs4 : ({ s3 with heap := pushCells (s3.heap.push { cls := .type "dict", data := .dict #[] }) scope.names } : Shared) = s4 at I4 ⊢
  have st4 : tn 0 s4.heap := T.keep _ _ _ st3 fun b _ o e => by rw [← hs4]; exact kp4 _ _ e
  have stat : ∀ {σ' : L2.St} {H' : Hp} {s' : Shared}, Inv (blkP X p s3 H3 scope ce fp) [] σ' H' s' → (∀ b ∈ fp, H' b = none) → ∀ b ∈ fp, FpOk (blkP X p s3 H3 scope ce fp) [] H' b := fun {σ' H' s'} I' hn b hb =>
    ⟨hn b hb, (I'.ok.exf b hb).1, I'.ok.exfs b hb, .inl hb, fun x c e => (I'.ok.exf b hb).2 x c e, fun r hr => by
      obtain rfl : r = p := by simpa using (show r ∈ [p] ++ ([] : List (Addr × Obj)) from hr)
      exact (f3 b hb).1.2.2.2.2.2 r (List.mem_append_left _ hp)⟩
  have loop : codeAny (model X.prog X.w) X.A (.compLoop (.ListComp elt [⟨tg, iter, ifs, 0⟩] scope pos) 0 (.ref it) (.ref D) ce) (compPost (model X.prog X.w) X.A X.xe use Qf (.ref D) s3.heap.objs.size) s4 := by
    refine compLoop_any (fun n s' => ∃ i H', Inv (blkP X p s3 H3 scope ce fp) [] (wipe σ (own.map (·.2))) H' s' ∧ tn i s'.heap ∧ (∀ b ∈ fp, H' b = none) ∧ W i n H') ?_ m0 ⟨0, H3, I4, st4, nfp, w0⟩
    rintro n s5 ⟨i, H5, I5, st5, n5, w5⟩
    rcases turn i n H5 w5 with ⟨stop, qq⟩ | ⟨go, Nx, hNx, step⟩
    · refine thnF (T.done (blkP X p s3 H3 scope ce fp) rfl rfl rfl hcB i [] s5 _ H5 (fun _ _ => False) I5 (stat I5 n5) st5 stop) fun r s6 ⟨hr, I6⟩ => ?_
      subst hr
      have I7 : Inv X pins σ H5 s6 := I3.call' (ch := fp) I6.os I6.base I6.hok I6.bare fun b hb => ⟨(f3 b hb).1.2.2.2.1, (f3 b hb).1.2.1, (f3 b hb).1.2.2.2.2.1, (f3 b hb).1.2.2.2.2.2⟩
      have nC : H5 s3.heap.objs.size = none := by
        have z : H5 ce.locals = none := I6.free
        rw [cL] at z
        exact z
      obtain ⟨m, hn, _⟩ := I6.loc
      have hn : s6.heap.Ns ce.locals m := hn
      rw [cL] at hn
      exact hRR D s3.heap.objs.size s6 m H5 I7 qq hn (I3.fpOk (Nat.le_refl _) nC)
    · refine thnF (T.item (blkP X p s3 H3 scope ce fp) rfl rfl rfl hcB i [] s5 _ H5 (fun _ _ => False) I5 (stat I5 n5) st5 go) fun r s6 ⟨u, hr, h6⟩ => ?_
      subst hr
      refine thnF h6 fun _ s7 ⟨x, H7, I7, r7, y7, st7, n7⟩ => ?_
      have I7' := I7.pinned (stat I7 n7) (T.obj _ _ st7)
      refine thnF (pg.run _ s7 _ H7 x u _ I7' r7 (step x H7 y7)) fun _ s8 ⟨σ8, H8, I8, hw8, q8⟩ => ?_
      refine thnF (pt.run _ s8 σ8 H8 _ I8 q8) fun b s9 ⟨H9, I9, q9⟩ => ?_
      have fin : ∀ {s' : Shared} {H' : Hp}, Inv (blkP X p s3 H3 scope ce fp) ([] ++ pinsAt fp s7.heap) σ8 H' s' → Nx H' → ∃ m, m < n ∧ ∃ i H', Inv (blkP X p s3 H3 scope ce fp) [] (wipe σ (own.map (·.2))) H' s' ∧ tn i s'.heap ∧ (∀ b ∈ fp, H' b = none) ∧ W i m H' := fun {s' H'} I' nx => by
        obtain ⟨m', hm, w'⟩ := hNx H' nx
        have pin' : ∀ b ∈ fp, ∀ o, s7.heap.get? b = some o → s'.heap.get? b = some o ∧ H' b = none := fun b hb o e =>
          let z := I'.pin (b, o) (List.mem_append_right _ (List.mem_append_right _ (mem_pinsAt hb e)))
          ⟨z.1, z.2.1⟩
        have hl : (wipe σ (own.map (·.2))).length = σ8.length := by rw [← hw8, wipe_length]
        refine ⟨m', hm, i + 1, H', (I'.unpinned (pins := [])).weak hl (fun j v e => ?_), T.keep _ _ _ st7 fun b hb o e => (pin' b hb o e).1, fun b hb => ?_, w'⟩
        · rw [← hw8] at e
          exact (wipe_some e).1
        · obtain ⟨o, e, _⟩ := T.obj _ _ st7 b hb
          exact (pin' b hb o e).2
      cases b with
      | false =>
        simp only [Bool.false_eq_true, if_false] at q9 ⊢
        exact fin I9 q9
      | true =>
        simp only [if_true] at q9 ⊢
        refine thnF (pe.run _ s9 σ8 H9 _ I9 q9) fun z s10 ⟨yv, H10, I10, r10, acc, hD10, hz10, nx⟩ => ?_
        exact app_ok (X := blkP X p s3 H3 scope ce fp) I10 hD10 hz10 r10 fun s11 I11 => fin I11 nx
  exact codeAny_compStart_list loop (T.self X.A 0 _ _ _ st4 loop)
theorem pe_lcP {elt tg iter : Expr} {ifs : List Expr} {scope : Scope} {own : List (Str × Nat)} {pos : Pos} {wi : TI} {g : TG} {tt : TT} {te : TE} {p : Addr × Obj} (hot : L2H.Hot1 X.A p) (hp : p ∈ X.pn) (hN : X.N.Nodup) (hi : L2H.PIH X tg iter wi) (ok : BlkOk X.N X.env.scope scope own)
    (hg : ∀ (s : Shared) (H : Hp) (C : Addr) (cl : List (Str × Addr)) (fp : List Addr), PG (blkP X p s H scope (compEnvC scope cl C X.env) fp) tg g) (ht : ∀ (s : Shared) (H : Hp) (C : Addr) (cl : List (Str × Addr)) (fp : List Addr), PTs (blkP X p s H scope (compEnvC scope cl C X.env) fp) ifs tt)
    (he : ∀ (s : Shared) (H : Hp) (C : Addr) (cl : List (Str × Addr)) (fp : List Addr), PE (blkP X p s H scope (compEnvC scope cl C X.env) fp) elt te) (hs : ∀ x, foldedSetIterable iter X.env x = pure x := by intro _; rfl) :
    PE X (.ListComp elt [⟨tg, iter, ifs, 0⟩] scope pos) (tLc wi g tt te (own.map (·.2))) := by
  refine ⟨fun pins s σ H Q I h => ?_⟩
  rw [eval_ListComp]
  refine lc_hot hot hp hN I hi ok hg ht he hs h fun D C s' m H' I' q hn f => ⟨m, hn, fun h'' sb => ?_⟩
  obtain ⟨f0, f1, f2, f3, f4, f5⟩ := f
  exact ⟨.ref D, H', I'.turned (t' := s'.toks) (fun b o hb e => (sb.2 b hb).trans e) f0 f1 f3 f4 f5, rfl, q⟩
end
end RL

set_option maxHeartbeats 2000000
/-! raise X(e) for the package's classes; defs that raise; a lambda that may raise, handed to a def. -/
namespace RL
open PySem L2 PySem.Spec PyProof.Rows
/-! ### raise -/
/-- X(e): class and dict of the exception -/
def tMkX (C : Addr) (f : Str) (te : TE) : L2.St → Hp → XK → Prop := fun σ H Q => te σ H fun y H1 => ∀ d, H1 d = none → Q (.ref C) (some d) (upd H1 d (.xd [(f, y)]))
def oneV (R : V → Hp → Prop) : List V → Hp → Prop
  | [y], H => R y H
  | _, _ => False
theorem pmk_x {X : Cx} {k : Nat} {C : Addr} {f x : Str} {e : Expr} {te : TE} {p pos : Pos} (M : XM X.prog X.w X.K X.mg X.base k C ["self", f] (spI X.K f)) (tyC : PySem.W.typeIn X.K (.ref C) = some (.type "type")) (hno : PySem.W.findIn X.K (.ref C) f = some none)
    (hr : Room (k + 1) X.A) (hg : Gl X x) (hm : X.mg x = some (.ref C)) (he : PE X e te) (hdb : (x == ("__debug__" : Str)) = false := by decide) (hst : starEach [e] X.env = (false, eval e X.env) :: starEach [] X.env := by rfl) (hpl : (backTo pos (starEach [] X.env)).any (·.1) = false := by rfl) :
    L2N.PMk X (.Call (.Name x p) [e] [] pos) (tMkX C f te) := by
  intro pins s σ H Q I h
  obtain ⟨g, fd, iC, tI, F, hb, _⟩ := M.ex
  have T := M.xc
  obtain ⟨B, nid, iid, bmB, FB, SF, q, ov⟩ := T.base
  have h' : tCons te tNil σ H (oneV fun y H1 => ∀ d, H1 d = none → Q (.ref C) (some d) (upd H1 d (.xd [(f, y)]))) := h
  refine wpAny_Call_Name_kw (ld_glob I hg hm (PySem.W.callWith_K (h₀ := X.base) I.ok.mod.kin T.kp (thn ((pa_cons he pa_nil hst).run pos pins s σ H _ I h') fun us s1 ⟨vs, H1, I1, r, q1⟩ => ⟨I1.kIn, ?_⟩) hst hpl) hdb)
  cases r with
  | nil => exact False.elim q1
  | @cons y u vs' us' ry rr =>
    cases rr with
    | cons _ _ => exact False.elim q1
    | nil =>
      obtain ⟨nm, N', qn, bs, bm, hdct, sn, sub, ab, col, dd, k0, k1, k2, k3, k5, hC, hT⟩ := PySem.W.excInit_of I1.kIn q
      have bf : ∀ self, PySem.W.Looks (model X.prog X.w) s1.heap (bindSpecial (.ref g) self) (.ref g, [self]) := fun self => PySem.W.bind_fn I1.kIn self (beq_iff_eq.mp tI)
      have li := PySem.W.looks_findIn (M := model X.prog X.w) I1.kIn iC
      obtain ⟨hp, gs, dr, tk, os⟩ := s1
      have hsz : hp.objs.size ≤ hp.objs.size + 1 := Nat.le_succ _
      have hn : H1 (hp.objs.size + 1) = none := I1.hok.fresh hsz
      have kk : ∀ b o, hp.get? b = some o → (PySem.RLX.laid2 C [u] hp).get? b = some o := fun b o e => Heap.get?_push_of_some _ (Heap.get?_push_of_some _ e)
      have hget : (PySem.RLX.laid2 C [u] hp).get? (hp.objs.size + 1) = some (PySem.HandSPX.excO C hp.objs.size) := by heap_get
      have I2 : Inv X pins σ (upd H1 (hp.objs.size + 1) (exo (hp.objs.size + 1) C none)) ⟨PySem.RLX.laid2 C [u] hp, gs, dr, tk, os⟩ :=
        I1.laid (t' := tk) (a := hp.objs.size + 1) (o := exo (hp.objs.size + 1) C none) (h' := PySem.RLX.laid2 C [u] hp) kk hsz (exo_ok hget)
      have hq : spI X.K f [.ref (hp.objs.size + 1), y] (upd H1 (hp.objs.size + 1) (exo (hp.objs.size + 1) C none)) (fun v H2 => v = .non ∧ ∃ d, H2 (hp.objs.size + 1) = some (exo (hp.objs.size + 1) C (some d)) ∧ H2 d = some (exd d [(f, y)]) ∧ H1 d = none ∧
          upd (del H2 (hp.objs.size + 1)) d (.xd [(f, y)]) = upd H1 d (.xd [(f, y)])) E0 := by
        refine ⟨_, C, y, rfl, T, hno, upd_same, fun dx nd ne => ⟨rfl, dx, upd_same, ?_, ?_, ?_⟩⟩
        · rw [upd_ne ne, upd_same]
        · rw [upd_ne ne] at nd
          exact nd
        · funext b
          by_cases hb : b = dx
          · rw [hb, upd_same, upd_same]
          · rw [upd_ne hb, upd_ne hb]
            by_cases hb2 : b = hp.objs.size + 1
            · rw [hb2, del_same, hn]
            · rw [del_ne hb2, upd_ne hb2, upd_ne hb, upd_ne hb2]
      have n1 : ([Value.ref (hp.objs.size + 1), u] ++ []).length = (["self", f] : List Str).length := rfl
      have hbb := hb ⟨PySem.RLX.laid2 C [u] hp, gs, dr, tk, os⟩ [Value.ref (hp.objs.size + 1), u] I2.kIn n1
      have rr2 : Vals [V.ref (hp.objs.size + 1), y] [Value.ref (hp.objs.size + 1), u] := .cons rfl (.cons ry .nil)
      refine wpAny_call (PySem.RLX.run_make FB hT hC li bf (by show 1 ≤ sizeLine; decide) (codeAny_mono (F.run _ X.stack _ _ ⟨[Value.ref (hp.objs.size + 1), u], []⟩ [Value.ref (hp.objs.size + 1), u] _ _ E0 (hr.make C [u] [])
        (I2.env0.make C [u] []) hbb rr2 hq) fun r s' z => ?_))
      cases r with
      | error e => exact z.elim
      | ok fl =>
        cases fl with
        | ret v =>
          obtain ⟨w', H2, os2, bare2, un2, hok2, rv, ev, d, ea, ed, hd1, eH⟩ := z
          subst ev
          obtain ⟨h2, g2, d2, t2, os'⟩ := s'
          obtain ⟨t0, G, J, kG, ge, hoe, na⟩ := mk_end0 (d2 := d2) (t2 := t2) I1 hsz kk un2 hok2 os2 bare2 ea ed hd1
          rw [eH] at J na
          refine ⟨rv, hp.objs.size + 1, _, _, ⟨G, g2, d2, t2, os'⟩, _, .ref C, some d, rfl, J, kG, ge, hoe, ⟨rfl, rfl, fun vs hv => ?_⟩, rfl, rfl, na, rfl, bare2, raises_own T.sub tyC, q1 d hd1⟩
          cases hv
          rfl
        | next => exact z.elim
        | brk => exact z.elim
        | cont => exact z.elim
/-- raise X(e) -/
theorem ps_raiseX {X : Cx} {k : Nat} {C : Addr} {f x : Str} {e : Expr} {te : TE} {p pos pos' : Pos} {W : WX} (M : XM X.prog X.w X.K X.mg X.base k C ["self", f] (spI X.K f)) (tyC : PySem.W.typeIn X.K (.ref C) = some (.type "type")) (hno : PySem.W.findIn X.K (.ref C) f = some none)
    (hr : Room (k + 1) X.A) (hg : Gl X x) (hm : X.mg x = some (.ref C)) (he : PE X e te) (hc : X.calm = true) (tk : L2N.Takes X W) (hdb : (x == ("__debug__" : Str)) = false := by decide) (hst : starEach [e] X.env = (false, eval e X.env) :: starEach [] X.env := by rfl) (hpl : (backTo pos (starEach [] X.env)).any (·.1) = false := by rfl) :
    PS X (.Raise (some (.Call (.Name x p) [e] [] pos)) none pos') (fun _ σ H => te σ H fun y H1 => ∀ d, H1 d = none → W (.ref C) (some d) σ (upd H1 d (.xd [(f, y)]))) :=
  L2N.ps_raise hc tk (pmk_x M tyC hno hr hg hm he hdb hst hpl)
/-! ### defs that raise -/
section
variable {P : Program} {w : World} {K : PySem.W.Frag} {mg : Str → Option Value} {base : Heap}
theorem okN {x qual : Str} {st : Stmt} {f : Addr} {fd : FuncData} {N ps : List Str} {k : Nat} {sp : Sp} (F : Fun K x qual st f fd) (S : FnScope N ps (defScope st)) (len : ∀ vs H Q E, sp vs H Q E → vs.length = ps.length)
    (bd : ∀ (cdv : Value) (A : Around) (outer : List Env) (s : Shared) (H : Hp) (vs : List V) (Q : VK) (E : XK), Room k (A.deeper (envOfC qual (defScope st) s.heap.objs.size f cdv)) → sp vs H Q E →
      ∃ t, PSs (cxOf (L2N.CX P w) P w K mg base N qual (defScope st) f cdv A outer s H E) (defBody st) t ∧ t { nx := fun _ H' => Q .non H', rt := Q } (L2.start N vs) H) : FnOk P w K mg base (L2N.CX P w) (k + 1) f fd ps sp := by
  obtain ⟨oc, od, kV, doc, pm, an, cdv, ct, osl, rfl, lk, hcd⟩ := F.ex
  exact fn_of lk hcd S len fun A outer s H vs Q E hr hsp => bd cdv A outer s H vs Q E hr hsp
end
/-- a def that may raise, as its callers see it -/
structure DfN (P : Program) (w : World) (K : PySem.W.Frag) (mg : Str → Option Value) (base : Heap) (k : Nat) (x : Str) (ps : List Str) (sp : Sp) : Prop where
  ex : ∃ (f : Addr) (fd : FuncData), FnOk P w K mg base (L2N.CX P w) k f fd ps sp ∧ mg x = some (.ref f) ∧ PySem.W.keepIn K (.ref f) = true ∧ Binds K fd ps []
/-- around a call what it lets out is taken -/
theorem passN {X : Cx} {W : WX} {E : XK} (tk : L2N.Takes X W) (hW : ∀ cls d σ H, E cls d H → W cls d σ H) : Passes (L2N.CX X.prog X.w) X E := L2N.passes_call tk hW
section
variable {X : Cx} {k : Nat} {ps : List Str} {sp : Sp} {x : Str} {p pos : Pos} {e : Expr} {es : List Expr} {t : TA} {E : XK}
theorem pe_dfN (D : DfN X.prog X.w X.K X.mg X.base k x ps sp) (hr : Room k X.A) (hg : Gl X x) (hx : Passes (L2N.CX X.prog X.w) X E)
    (ha : PA X (e :: es) t) (hdb : (x == ("__debug__" : Str)) = false := by decide) (he : starEach (e :: es) X.env = (false, eval e X.env) :: starEach es X.env := by rfl) (hpl : (backTo pos (starEach es X.env)).any (·.1) = false := by rfl) :
    PE X (.Call (.Name x p) (e :: es) [] pos) (tCall sp [] E t) := by
  obtain ⟨f, fd, G, hm, hk, hb⟩ := D.ex
  exact pe_call G hr hg hm hk hb .nil hx ha hdb he hpl
end
/-! ### the lambda -/
section
variable {X : Cx} {pins : List (Addr × Obj)} {σ : L2.St} {H HZ : Hp} {s s1 : Shared}
/-- what is wished of an exception that leaves the lambda's body -/
abbrev lamXe (X : Cx) (A : Around) (outer : List Env) (s : Shared) (H : Hp) (E : XK) (scope : Scope) (f c' : Addr) : Value → Shared → Prop := fun e s' =>
  wpAny (model X.prog X.w) (A.deeper (LamX.lamEnv X scope s.heap.objs.size f c')) (leaving (LamX.lamEnv X scope s.heap.objs.size f c') e) (fun _ s'' => L2N.CX X.prog X.w outer H s E e s'') (fun e' s'' => L2N.CX X.prog X.w outer H s E e' s'') s'
abbrev lamN (X : Cx) (A : Around) (outer : List Env) (s : Shared) (H : Hp) (E : XK) (scope : Scope) (f c' : Addr) : Cx := (LamX.lamCx X A outer s H E scope f c').tr [] (lamXe X A outer s H E scope f c')
theorem lamN_takes {A : Around} {outer : List Env} {E : XK} {scope : Scope} {f c' : Addr} : L2N.Takes (lamN X A outer s H E scope f c') (fun cls d _ H' => E cls d H') := L2N.takes_of rfl rfl rfl rfl
/-- a(), in the def that got the lambda -/
theorem pe_actN {CXg : CXT} {Eg : XK} {Ng : List Str} {qg : Str} {sg : Scope} {g f c' : Addr} {cdg pm ctv : Value} {params : Arguments} {body : Expr} {scope : Scope} {k i : Nat} {a : Str} {pn : List (Addr × Obj)} {xe : Value → Shared → Prop} {W : WX} {E : XK} {tb : TE} {p1 p2 : Pos}
    (I : Inv X pins σ H s) (L : LamX.LamS X.env.scope scope) (hf : s.heap.get? f = some (PySem.W.kla_obj "<lambda>" (X.env.qual ++ "<lambda>") params body scope (cloFrom X.env.cells scope.names []) pm c' ctv)) (hfn : H f = none) (hfr : f ∉ frs X.stack)
    (hbind : bindArgs (PySem.W.kla_fn "<lambda>" (X.env.qual ++ "<lambda>") params body scope (cloFrom X.env.cells scope.names []) pm (.ref c') ctv) ⟨[], []⟩ = pure [])
    (tk : L2N.Takes ((cxOf CXg X.prog X.w X.K X.mg X.base Ng qg sg g cdg X.A X.stack s H Eg).tr pn xe) W) (hr : Room (k + 1) (X.A.deeper (envOfC qg sg s.heap.objs.size g cdg)))
    (hbody : ∀ (A : Around) (outer : List Env) (s : Shared) (H : Hp), A.guards = X.A.guards → Room k (A.deeper (LamX.lamEnv X scope s.heap.objs.size f c')) → PE (lamN X A outer s H E scope f c') body tb)
    (hN : Ng[i]? = some a) (hv : Vis sg a) (hd : (a == ("__debug__" : Str)) = false := by decide) (hcd : (a == ("__classdict__" : Str)) = false := by decide) :
    PE ((cxOf CXg X.prog X.w X.K X.mg X.base Ng qg sg g cdg X.A X.stack s H Eg).tr pn xe) (.Call (.Name a p1) [] [] p2)
      (fun σZ HZ Q => σZ[i]? = some (some (.ref f)) ∧ HZ c' = some (LamX.CodeO c' (X.env.qual ++ "<lambda>")) ∧ (∀ cls d H', E cls d H' → W cls d σZ H') ∧ tb σ HZ Q) := by
  refine ⟨fun pinsZ sZ σZ HZ Q IZ ⟨hs, hc, hW, ht⟩ => ?_⟩
  refine wpAny_Call_Name_kw (thn ((pe_var (pos := p1) (i := i) hN hv hd hcd).run pinsZ sZ σZ HZ (fun v H1 => v = .ref f ∧ H1 = HZ) IZ ⟨.ref f, hs, rfl, rfl⟩) fun u s1 ⟨v, H1, I1, r1, ev, eH⟩ => ?_)
  subst ev
  rw [eH] at I1
  cases (show u = Value.ref f from r1)
  have of1 := I1.base.keep f _ hf hfn hfr (fun z => nomatch (show f ∈ ([] : List Addr) from z))
  refine PySem.W.callWith_F0 ⟨_, _, _, _, of1⟩ ?_
  obtain ⟨⟨oc, vs, t, hoc, hdc, hvc⟩, _, _⟩ := I1.hok c' _ hc
  have rc : codeAny (model X.prog X.w) (X.A.deeper (envOfC qg sg s.heap.objs.size g cdg)) (.call (.ref f) ⟨[], []⟩) (CR (L2N.CX X.prog X.w) (envOfC qg sg s.heap.objs.size g cdg :: X.stack) X.prog X.w HZ s1 Q E) s1 := by
    refine PySem.W.kla_callFunE hr.depth of1 rfl L.co L.gen rfl ⟨c', oc, vs, t, rfl, hoc, hdc, hvc⟩ ?_
    rw [hbind]
    refine wpAny_pure (wpAny_newFunctionEnv (fun y hy => (L.own y hy).2) (fun y hy => absurd hy (by simp)) (fun h₁ hns hsb => ⟨I1.nolimit.fresh _ hsb, ?_⟩) L.kind)
    show codeAny _ _ (.expr body (LamX.lamEnv X scope s1.heap.objs.size f c')) _ _
    have kp : ∀ b o, s1.heap.get? b = some o → h₁.get? b = some o := fun b o e => hsb.extBut b o (Nat.ne_of_lt (Heap.lt_size e)) (Heap.get?_push_of_some _ e)
    have J := LamX.lam_start2 (E := E) (tk := s1.toks + ([] : List (Str × Value)).length) (c' := c') (f := f) I L I1.env0 hr.hd I1.base hns kp
    refine PySem.W.kla_codeExpr (wpAny_mono ((hbody (X.A.deeper (envOfC qg sg s.heap.objs.size g cdg)) _ s1 HZ rfl (hr.deeper _)).run [] _ _ HZ Q (J.toTry _) ht) (fun v s' hq => ?_) fun e s' hq => hq)
    obtain ⟨w', H', J', rv, q⟩ := hq
    exact ⟨w', H', J'.os, J'.bare, J'.base, J'.hok, rv, q⟩
  refine wpAny_call (codeAny_mono rc fun r s' hq => ?_)
  cases r with
  | error e => exact tk e s' (L2N.XE.of_call I1 hW hq)
  | ok fl =>
    cases fl with
    | ret u => exact I1.after hq
    | next => exact False.elim hq
    | brk => exact False.elim hq
    | cont => exact False.elim hq
end
/-- the def that calls what it got -/
def GivesN (X : Cx) (k : Nat) (Ng : List Str) (x : Str) (sg : Scope) (g : Addr) (cdg : Value) (bg : List Stmt) (a : Str) (q : Str) (TT : (XK → Hp → VK → Prop) → Hp → VK → Prop) : Prop :=
  ∀ (f c' : Addr) (s : Shared) (H : Hp) (Q : VK) (tl : XK → Hp → VK → Prop), Room (k + 1) (X.A.deeper (envOfC x sg s.heap.objs.size g cdg)) →
    (∀ (W : WX) (pn : List (Addr × Obj)) (xe : Value → Shared → Prop) (E : XK) (p1 p2 : Pos), L2N.Takes ((cxOf CX0 X.prog X.w X.K X.mg X.base Ng x sg g cdg X.A X.stack s H E0).tr pn xe) W →
      PE ((cxOf CX0 X.prog X.w X.K X.mg X.base Ng x sg g cdg X.A X.stack s H E0).tr pn xe) (.Call (.Name a p1) [] [] p2) (fun σZ HZ Q => σZ[0]? = some (some (.ref f)) ∧ HZ c' = some (LamX.CodeO c' q) ∧ (∀ cls d H', E cls d H' → W cls d σZ H') ∧ tl E HZ Q)) →
    H c' = some (LamX.CodeO c' q) → TT tl H Q →
    ∃ t, PSs (cxOf CX0 X.prog X.w X.K X.mg X.base Ng x sg g cdg X.A X.stack s H E0).nox bg t ∧ t { nx := fun _ H' => Q .non H', rt := Q } (L2.start Ng [.ref f]) H
section
variable {X : Cx}
/-- x(lambda: body) -/
theorem pe_lamN {T : List (Addr × Str)} {TT : (XK → Hp → VK → Prop) → Hp → VK → Prop} {x a : Str} {g c P : Addr} {k : Nat} {pg : Arguments} {bg : List Stmt} {sg : Scope} {dV kV doc pm cdv ct oc : Value} {an od : Option Addr} {osl : Array (Option Value)} {Ng : List Str}
    {params : Arguments} {body : Expr} {scope : Scope} {t : XK → TE} {p lpos pos : Pos} (hg : Gl X x) (hm : X.mg x = some (.ref g)) (hk : PySem.W.keepIn X.K (.ref g) = true)
    (lk : X.K.lookup g = some ⟨oc, od, .func (PySem.W.fnOf x x pg bg sg dV kV doc pm an cdv ct), osl⟩) (hcg : PySem.W.codeIn X.K cdv x = true) (hb : L2.Binds X.K (PySem.W.fnOf x x pg bg sg dV kV doc pm an cdv ct) [a] []) (Sg : FnScope Ng [a] sg) (hNg : Ng[0]? = some a) (hva : Vis sg a)
    (hG : GivesN X k Ng x sg g cdv bg a (X.env.qual ++ "<lambda>") TT)
    (TB : LamX.TabB X.base X.mg c P) (hcode : X.env.code = .ref c) (hmT : (P, X.env.qual ++ "<lambda>") ∈ T) (hu : ∀ p ∈ T, p.1 = P → p.2 = X.env.qual ++ "<lambda>") (hr : Room (k + 2) X.A) (L : LamX.LamS X.env.scope scope) (hdef : defaultsOf params X.env = ([], []))
    (hbind : ∀ (q : Str) (cl : List (Str × Addr)) (pm cv ctv : Value), bindArgs (PySem.W.kla_fn "<lambda>" q params body scope cl pm cv ctv) ⟨[], []⟩ = pure [])
    (hbody : ∀ (A : Around) (outer : List Env) (s : Shared) (H : Hp) (E : XK) (f c' : Addr), A.guards = X.A.guards → Room k (A.deeper (LamX.lamEnv X scope s.heap.objs.size f c')) → PE (lamN X A outer s H E scope f c') body (t E))
    (hdb : (x == ("__debug__" : Str)) = false := by decide) (hd : (a == ("__debug__" : Str)) = false := by decide) (hcd : (a == ("__classdict__" : Str)) = false := by decide) :
    PE X (.Call (.Name x p) [.Lambda params body scope lpos] [] pos) (LamX.tLam T TT t) := by
  refine ⟨fun pins s σ H Q I ⟨hT, h⟩ => wpAny_Call_Name_kw (ld_glob I hg hm (PySem.W.callWith_K (h₀ := X.base) I.ok.mod.kin hk ?_ (by rfl) (by rfl)) hdb)⟩
  show wpAny _ _ (spliced ((false, eval (.Lambda params body scope lpos) X.env) :: backTo pos (starEach [] X.env))) _ _ s
  refine Calls.spliced_cons (LamX.lam_make2 I TB hcode hmT hu hT hdef (L.has I.ok) fun f c' pm' ctv H1 s' I1 eN T1 hf hfn hfr hco => Calls.spliced_nil ⟨I1.kIn, ?_⟩)
  have rc : codeAny (model X.prog X.w) X.A (.call (.ref g) ⟨[.ref f], []⟩) (CR CX0 X.stack X.prog X.w H1 s' Q E0) s' := by
    refine LamX.run_ofS (N := Ng) (ps := [a]) (us := [.ref f]) (vs := [.ref f]) lk hcg Sg hr I1.env0 (hb s' [.ref f] I1.kIn rfl) (.cons rfl .nil) rfl fun hr' => ?_
    obtain ⟨t', ht', hq'⟩ := hG f c' s' H1 Q (fun E H' Q' => t E σ H' Q') hr' (fun W pn xe E p1 p2 tk => pe_actN (i := 0) I1 L hf hfn hfr (hbind _ _ _ _ _) tk hr' (fun A outer s H hgd hr2 => hbody A outer s H E f c' hgd hr2) hNg hva hd hcd) hco (h H1 eN T1)
    exact ⟨t', ht'.nox, hq'⟩
  refine wpAny_call (codeAny_mono rc fun r s2 hq => ?_)
  cases r with
  | error e => exact (show False from hq).elim
  | ok fl =>
    cases fl with
    | ret u => exact I1.after hq
    | next => exact False.elim hq
    | brk => exact False.elim hq
    | cont => exact False.elim hq
end
end RL

set_option maxHeartbeats 2000000
/-! Values of many kinds: what isinstance says of them; what they show. -/
namespace RL
open PySem L2 PySem.Spec PyProof.Rows
def tyN : PyData → String
  | .none => "NoneType"
  | .bool _ => "bool"
  | .int _ => "int"
  | .str _ => "str"
  | .list _ => "list"
  | .tuple _ => "tuple"
  | .dict _ => "dict"
theorem ty_dp {K : PySem.W.Frag} {H : Hp} {v : V} {d : PyData} (h : Dp K H v d) : TyX K H v (.type (tyN d)) := by
  cases h with
  | non => exact .base .non
  | bl b => exact .base (.bl b)
  | int i => exact .base (.int i)
  | str x => exact .base (.str x)
  | lst a b =>
    rcases a with (a | ⟨o, a⟩) | ⟨o, its, n, e, c, r⟩
    · exact .base (.lst a)
    · exact .base (.frz a)
    · exact .kList e c
  | tup a b =>
    rcases a with (a | ⟨o, a⟩) | ⟨o, its, n, e, c, r⟩
    · exact .base (.tup a)
    · exact .fTuple a
    · exact .kTuple e c
theorem ty_dq {K : PySem.W.Frag} {H : Hp} {v : V} {d : PyData} (h : Dq K H v d) : TyX K H v (.type (tyN d)) := by
  cases h with
  | dp a b => exact ty_dp a
  | dk a => exact .base (.dK a)
def isIntD : PyData → Bool
  | .int _ => true
  | _ => false
def isTupD : PyData → Bool
  | .tuple _ => true
  | _ => false
def isStrD : PyData → Bool
  | .str _ => true
  | _ => false
def intOrBool : PyData → Bool
  | .int _ => true
  | .bool _ => true
  | _ => false
def isBoolD : PyData → Bool
  | .bool _ => true
  | _ => false
theorem kit_int {K : PySem.W.Frag} (d : PyData) : PySem.W.kitOne K (.type (tyN d)) (.type "int") = some (intOrBool d) := by
  cases d <;> (simp only [tyN, intOrBool]; exact kit_ty (by decide +kernel))
theorem kit_bool {K : PySem.W.Frag} (d : PyData) : PySem.W.kitOne K (.type (tyN d)) (.type "bool") = some (isBoolD d) := by
  cases d <;> (simp only [tyN, isBoolD]; exact kit_ty (by decide +kernel))
theorem kit_tup {K : PySem.W.Frag} (d : PyData) : PySem.W.kitOne K (.type (tyN d)) (.type "tuple") = some (isTupD d) := by
  cases d <;> (simp only [tyN, isTupD]; exact kit_ty (by decide +kernel))
theorem kit_str {K : PySem.W.Frag} (d : PyData) : PySem.W.kitOne K (.type (tyN d)) (.type "str") = some (isStrD d) := by
  cases d <;> (simp only [tyN, isStrD]; exact kit_ty (by decide +kernel))
def withinD (d : PyData) (lo hi : Int) : Bool := match d with
  | .int i => decide (lo ≤ i) && decide (i ≤ hi)
  | _ => false
def pairD : PyData → Bool
  | .tuple [a, b] => isIntD a && isIntD b
  | _ => false
/-- what is a resistance -/
def resD : PyData → Bool
  | .int i => decide (0 ≤ i) && decide (i ≤ 1000000000000)
  | .tuple [.int a, .int b] => decide (a = 1 ∧ b = 0) || (decide (0 ≤ a) && decide (a ≤ 1000000000000) && (decide (1 ≤ b) && decide (b ≤ 1000000000000)))
  | _ => false
/-- a promise that asks more of its callers -/
theorem FnOk.weak {P : Program} {w : World} {K : PySem.W.Frag} {mg : Str → Option Value} {base : Heap} {CX : CXT} {k : Nat} {f : Addr} {fd : FuncData} {ps : List Str} {sp sp' : Sp} (F : FnOk P w K mg base CX k f fd ps sp) (h : ∀ vs H Q E, sp' vs H Q E → sp vs H Q E) : FnOk P w K mg base CX k f fd ps sp' :=
  ⟨fun vs H Q E q => F.len vs H Q E (h _ _ _ _ q), fun A outer s H args us vs Q E hr e0 hb r q => F.run A outer s H args us vs Q E hr e0 hb r (h _ _ _ _ q)⟩
end RL

set_option maxHeartbeats 2000000
namespace RL
open PySem L2 PySem.Spec PyProof.Rows
/-- the names of the errors' classes -/
structure TxE (mg : Str → Option Value) (c : Nat → Addr) : Prop where
  m0 : mg "NotAPattern" = some (.ref (c 0))
  m1 : mg "NotARun" = some (.ref (c 1))
  m2 : mg "InvalidResistance" = some (.ref (c 2))
  m3 : mg "InvalidCount" = some (.ref (c 3))
  m4 : mg "InvalidNumber" = some (.ref (c 4))
  m5 : mg "InvalidText" = some (.ref (c 5))
  m6 : mg "InvalidName" = some (.ref (c 6))
  m7 : mg "InvalidClaim" = some (.ref (c 7))
  m8 : mg "InvalidIndex" = some (.ref (c 8))
  m9 : mg "InvalidPieces" = some (.ref (c 9))
  m10 : mg "InvalidKinds" = some (.ref (c 10))
  m11 : mg "InvalidStretches" = some (.ref (c 11))
  m12 : mg "InvalidDeeds" = some (.ref (c 12))
  m13 : mg "UnknownName" = some (.ref (c 13))
  m14 : mg "InUse" = some (.ref (c 14))
  m15 : mg "TooMany" = some (.ref (c 15))
  m16 : mg "Broken" = some (.ref (c 16))
  m17 : mg "NoLimit" = some (.ref (c 17))
  m18 : mg "NothingToUndo" = some (.ref (c 18))
  m19 : mg "WrongValue" = some (.ref (c 19))
  m20 : mg "WrongName" = some (.ref (c 20))
  m21 : mg "NoAnswer" = some (.ref (c 21))
  vV : mg "ValueError" = none
  vL : mg "LookupError" = none
  vA : mg "ArithmeticError" = none
/-- the classes that are asked, in the order of the asking -/
def tv (c : Nat → Addr) (j : Nat) : Value := if j < 22 then .ref (c j) else if j = 22 then .type "ValueError" else if j = 23 then .type "LookupError" else .type "ArithmeticError"
def IsRow (K : PySem.W.Frag) (c : Nat → Addr) (C : Addr) (b : Nat → Bool) : Prop := ∀ j, j < 25 → PySem.W.kitOne K (.ref C) (tv c j) = some (b j)
def fnd (b : Nat → Bool) (k n : Nat) : List V := (List.range n).map fun j => V.bl (b (k + j))
def ans (b : Nat → Bool) : List V := ((List.range 19).filter b).map (fun j => V.int (j : Nat)) ++ ((List.range 6).filter fun j => b (19 + j)).map (fun j => V.int (20 + (j : Nat)))
def spClsP (K : PySem.W.Frag) (c : Nat → Addr) : Addr × Obj → Sp := fun p vs H Q _ => ∃ (C : Addr) (b : Nat → Bool), vs = [.ref p.1] ∧ XC K C ∧ Px p C H ∧ IsRow K c C b ∧
  ∀ H' l, Same H H' → H l = none → H' l = some (.lst (ans b)) → Q (.ref l) H'
theorem fnd_at {b : Nat → Bool} {k n i : Nat} (h : i < n) : (fnd b k n)[i]? = some (.bl (b (k + i))) := by
  unfold fnd
  rw [List.getElem?_map, List.getElem?_range h]
  rfl
theorem rng_len {α : Type} {b : Nat → Bool} {f : Nat → α} {i : Nat} (h : i < 19) : (((List.range i).filter b).map f).length ≤ 1000 := by
  have h1 := List.length_filter_le b (List.range i)
  rw [List.length_range] at h1
  rw [List.length_map]
  omega
theorem rng_yes {α : Type} {b : Nat → Bool} {f : Nat → α} {i : Nat} (h : b i = true) : ((List.range (i + 1)).filter b).map f = ((List.range i).filter b).map f ++ [f i] := by
  rw [List.range_succ, List.filter_append, List.map_append]
  simp [h]
theorem rng_no {α : Type} {b : Nat → Bool} {f : Nat → α} {i : Nat} (h : ¬ b i = true) : ((List.range (i + 1)).filter b).map f = ((List.range i).filter b).map f := by
  rw [List.range_succ, List.filter_append, List.map_append]
  simp [h]
theorem pnH {CX : CXT} {P : Program} {w : World} {K : PySem.W.Frag} {mg : Str → Option Value} {base : Heap} {N : List Str} {qual : Str} {scope : Scope} {f : Addr} {cd : Value} {A : Around} {outer : List Env} {s : Shared} {H : Hp} {E : XK} {p : Addr × Obj} :
    p ∈ (L2H.cxH CX P w K mg base N qual scope f cd A outer s H E p).pn := List.mem_cons_self
/-! ### an error of the package -/
def fldOf (j : Nat) : Str := if j < 9 ∨ j = 13 then "given" else if j = 15 then "most" else "index"
/-- a class of errors: its number, what it answers -/
structure EC (K : PySem.W.Frag) (c : Nat → Addr) (C : Addr) (j : Nat) (as : List Int) : Prop where
  xc : XC K C
  row : ∃ b, IsRow K c C b ∧ ans b = as.map V.int
  any : PySem.W.exmAny K (.ref C) [.ref (c 19), .ref (c 20), .ref (c 21)] = some true
  hd : as.head? = some (j : Int)
  lt : j < 17
  no : PySem.W.findIn K (.ref C) (fldOf j) = some none
  tl : as.length ≤ 10
/-- what _law_caught makes of an exception -/
def cgtX (K : PySem.W.Frag) (c : Nat → Addr) (Q : VK) : XK := fun cls d H => ∃ (C : Addr) (j : Nat) (as : List Int) (dx : Addr) (v : V) (e : PyData), cls = .ref C ∧ EC K c C j as ∧ d = some dx ∧ H dx = some (.xd [(fldOf j, v)]) ∧
  Dq K H v e ∧ e.showable = true ∧ e.depth ≤ 40 ∧ e.shown.length ≤ sizeLine ∧ ∀ H' l, Same H H' → H' l = some (.lst (as.map V.int ++ [.str e.shown])) → Q (.ref l) H'
/-- _law_caught(lambda: ..): the reading, from that of the lambda's body -/
def TTc (K : PySem.W.Frag) (c : Nat → Addr) (rR : List V → Hp → VK → Prop) : (XK → Hp → VK → Prop) → Hp → VK → Prop := fun tl H Q =>
  tl (cgtX K c Q) H fun v H2 => rR [v] H2 fun r H3 => ∀ l, H3 l = none → Q (.ref l) (upd H3 l (.lst [.str (Str.ofString "given"), r]))
theorem pss_all {X : Cx} {b : List Stmt} {cls : Value} {d : Option Addr} {t : Obj → TS} (oe : Obj) (hz : L2N.Zn cls d oe) (hf : ∃ vs, oe.data = .fields vs) (h : PSs X b (t oe)) : PSs X b (fun D σ H => ∀ oe, L2N.Zn cls d oe → (∃ vs, oe.data = .fields vs) → t oe D σ H) :=
  ⟨fun pins s σ H D I q => h.run pins s σ H D I (q oe hz hf)⟩
section
variable {P : Program} {w : World} {K : PySem.W.Frag} {mg : Str → Option Value} {base : Heap} {c : Nat → Addr}
abbrev s_law_classes : Stmt := top 77
theorem sc_law_classes : FnScope ["_law_e", "_law_found", "_law_above", "_law_at"] ["_law_e"] (defScope s_law_classes) := ⟨rfl, rfl, rfl, by decide +kernel, rfl, by decide +kernel, by decide +kernel⟩

theorem ok_clsP {f : Addr} {fd : FuncData} (F : Fun K "_law_classes" "_law_classes" s_law_classes f fd) (T : Txt K mg) (TE : TxE mg c) (Z : XK0 K) : FnE P w K mg base 1 f fd ["_law_e"] (spClsP K c) := by
  refine okE F sc_law_classes (fun p vs H Q E h => ?_) (fun cdv A outer s H vs Q p hot hr h => ?_)
  · obtain ⟨C, b, rfl, _⟩ := h
    rfl
  · obtain ⟨C, b, rfl, xc, ex, row, k⟩ := h
    obtain ⟨a, ob⟩ := p
    generalize hp : ((a, ob) : Addr × Obj) = p at *
    have ea : p.1 = a := by rw [← hp]
    refine ⟨_, (C8.pss_cut (ps_set (i := 1) sc_law_classes.nd rfl (.inr rfl) (pe_lst (pa_cons (pe_callB (call_isP Z pnH) (by rfl) T.isinstance (by decide +kernel) (pa_cons (pv 0) (pa_cons (pe_glob (v := .ref (c 0)) rfl TE.m0 rfl) pa_nil))) (pa_cons (pe_callB (call_isP Z pnH) (by rfl) T.isinstance (by decide +kernel) (pa_cons (pv 0) (pa_cons (pe_glob (v := .ref (c 1)) rfl TE.m1 rfl) pa_nil))) pa_nil))))
      (C8.pss_cut (ps_set (i := 1) sc_law_classes.nd rfl (.inr rfl) (pe_op op_cat (pv 1) (pe_lst (pa_cons (pe_callB (call_isP Z pnH) (by rfl) T.isinstance (by decide +kernel) (pa_cons (pv 0) (pa_cons (pe_glob (v := .ref (c 2)) rfl TE.m2 rfl) pa_nil))) (pa_cons (pe_callB (call_isP Z pnH) (by rfl) T.isinstance (by decide +kernel) (pa_cons (pv 0) (pa_cons (pe_glob (v := .ref (c 3)) rfl TE.m3 rfl) pa_nil))) pa_nil)))))
      (C8.pss_cut (ps_set (i := 1) sc_law_classes.nd rfl (.inr rfl) (pe_op op_cat (pv 1) (pe_lst (pa_cons (pe_callB (call_isP Z pnH) (by rfl) T.isinstance (by decide +kernel) (pa_cons (pv 0) (pa_cons (pe_glob (v := .ref (c 4)) rfl TE.m4 rfl) pa_nil))) (pa_cons (pe_callB (call_isP Z pnH) (by rfl) T.isinstance (by decide +kernel) (pa_cons (pv 0) (pa_cons (pe_glob (v := .ref (c 5)) rfl TE.m5 rfl) pa_nil))) (pa_cons (pe_callB (call_isP Z pnH) (by rfl) T.isinstance (by decide +kernel) (pa_cons (pv 0) (pa_cons (pe_glob (v := .ref (c 6)) rfl TE.m6 rfl) pa_nil))) pa_nil))))))
      (C8.pss_cut (ps_set (i := 1) sc_law_classes.nd rfl (.inr rfl) (pe_op op_cat (pv 1) (pe_lst (pa_cons (pe_callB (call_isP Z pnH) (by rfl) T.isinstance (by decide +kernel) (pa_cons (pv 0) (pa_cons (pe_glob (v := .ref (c 7)) rfl TE.m7 rfl) pa_nil))) (pa_cons (pe_callB (call_isP Z pnH) (by rfl) T.isinstance (by decide +kernel) (pa_cons (pv 0) (pa_cons (pe_glob (v := .ref (c 8)) rfl TE.m8 rfl) pa_nil))) pa_nil)))))
      (C8.pss_cut (ps_set (i := 1) sc_law_classes.nd rfl (.inr rfl) (pe_op op_cat (pv 1) (pe_lst (pa_cons (pe_callB (call_isP Z pnH) (by rfl) T.isinstance (by decide +kernel) (pa_cons (pv 0) (pa_cons (pe_glob (v := .ref (c 9)) rfl TE.m9 rfl) pa_nil))) (pa_cons (pe_callB (call_isP Z pnH) (by rfl) T.isinstance (by decide +kernel) (pa_cons (pv 0) (pa_cons (pe_glob (v := .ref (c 10)) rfl TE.m10 rfl) pa_nil))) (pa_cons (pe_callB (call_isP Z pnH) (by rfl) T.isinstance (by decide +kernel) (pa_cons (pv 0) (pa_cons (pe_glob (v := .ref (c 11)) rfl TE.m11 rfl) pa_nil))) pa_nil))))))
      (C8.pss_cut (ps_set (i := 1) sc_law_classes.nd rfl (.inr rfl) (pe_op op_cat (pv 1) (pe_lst (pa_cons (pe_callB (call_isP Z pnH) (by rfl) T.isinstance (by decide +kernel) (pa_cons (pv 0) (pa_cons (pe_glob (v := .ref (c 12)) rfl TE.m12 rfl) pa_nil))) (pa_cons (pe_callB (call_isP Z pnH) (by rfl) T.isinstance (by decide +kernel) (pa_cons (pv 0) (pa_cons (pe_glob (v := .ref (c 13)) rfl TE.m13 rfl) pa_nil))) (pa_cons (pe_callB (call_isP Z pnH) (by rfl) T.isinstance (by decide +kernel) (pa_cons (pv 0) (pa_cons (pe_glob (v := .ref (c 14)) rfl TE.m14 rfl) pa_nil))) pa_nil))))))
      (C8.pss_cut (ps_set (i := 1) sc_law_classes.nd rfl (.inr rfl) (pe_op op_cat (pv 1) (pe_lst (pa_cons (pe_callB (call_isP Z pnH) (by rfl) T.isinstance (by decide +kernel) (pa_cons (pv 0) (pa_cons (pe_glob (v := .ref (c 15)) rfl TE.m15 rfl) pa_nil))) (pa_cons (pe_callB (call_isP Z pnH) (by rfl) T.isinstance (by decide +kernel) (pa_cons (pv 0) (pa_cons (pe_glob (v := .ref (c 16)) rfl TE.m16 rfl) pa_nil))) pa_nil)))))
      (C8.pss_cut (ps_set (i := 1) sc_law_classes.nd rfl (.inr rfl) (pe_op op_cat (pv 1) (pe_lst (pa_cons (pe_callB (call_isP Z pnH) (by rfl) T.isinstance (by decide +kernel) (pa_cons (pv 0) (pa_cons (pe_glob (v := .ref (c 17)) rfl TE.m17 rfl) pa_nil))) (pa_cons (pe_callB (call_isP Z pnH) (by rfl) T.isinstance (by decide +kernel) (pa_cons (pv 0) (pa_cons (pe_glob (v := .ref (c 18)) rfl TE.m18 rfl) pa_nil))) pa_nil)))))
      (C8.pss_cut (ps_set (i := 2) sc_law_classes.nd rfl (.inr rfl) (pe_lst (pa_cons (pe_callB (call_isP Z pnH) (by rfl) T.isinstance (by decide +kernel) (pa_cons (pv 0) (pa_cons (pe_glob (v := .ref (c 19)) rfl TE.m19 rfl) pa_nil))) (pa_cons (pe_callB (call_isP Z pnH) (by rfl) T.isinstance (by decide +kernel) (pa_cons (pv 0) (pa_cons (pe_glob (v := .ref (c 20)) rfl TE.m20 rfl) pa_nil))) (pa_cons (pe_callB (call_isP Z pnH) (by rfl) T.isinstance (by decide +kernel) (pa_cons (pv 0) (pa_cons (pe_glob (v := .ref (c 21)) rfl TE.m21 rfl) pa_nil))) pa_nil)))))
      (C8.pss_cut (ps_set (i := 2) sc_law_classes.nd rfl (.inr rfl) (pe_op op_cat (pv 2) (pe_lst (pa_cons (pe_callB (call_isP Z pnH) (by rfl) T.isinstance (by decide +kernel) (pa_cons (pv 0) (pa_cons (pe_bltn (v := .ty "ValueError") (by rfl) TE.vV (by decide +kernel) rfl) pa_nil))) (pa_cons (pe_callB (call_isP Z pnH) (by rfl) T.isinstance (by decide +kernel) (pa_cons (pv 0) (pa_cons (pe_bltn (v := .ty "LookupError") (by rfl) TE.vL (by decide +kernel) rfl) pa_nil))) (pa_cons (pe_callB (call_isP Z pnH) (by rfl) T.isinstance (by decide +kernel) (pa_cons (pv 0) (pa_cons (pe_bltn (v := .ty "ArithmeticError") (by rfl) TE.vA (by decide +kernel) rfl) pa_nil))) pa_nil))))))
      (pss_one (ps_ret (pe_op op_cat (pe_lcP (p := p) (own := [("_law_at", 3)]) (g := gName 3) hot pnH sc_law_classes.nd (L2H.pi_range1H rfl T.range (pa_cons pe_int pa_nil)) (blkOk_by (N := ["_law_e", "_law_found", "_law_above", "_law_at"]) (sc := defScope s_law_classes) (by decide +kernel)) (fun _ _ _ _ _ => pg_name (i := 3) sc_law_classes.nd rfl (Or.inl rfl)) (fun _ _ _ _ _ => (pts_one (pt_val (pe_ix (r := rIxL K) ix_list (pv 1) (pv 3) (fun _ _ => rfl))))) (fun _ _ _ _ _ => (pv 3))) (pe_lcP (p := p) (own := [("_law_at", 3)]) (g := gName 3) hot pnH sc_law_classes.nd (L2H.pi_range1H rfl T.range (pa_cons pe_int pa_nil)) (blkOk_by (N := ["_law_e", "_law_found", "_law_above", "_law_at"]) (sc := defScope s_law_classes) (by decide +kernel)) (fun _ _ _ _ _ => pg_name (i := 3) sc_law_classes.nd rfl (Or.inl rfl)) (fun _ _ _ _ _ => (pts_one (pt_val (pe_ix (r := rIxL K) ix_list (pv 2) (pv 3) (fun _ _ => rfl))))) (fun _ _ _ _ _ => (pe_op op_add pe_int (pv 3))))))))))))))))), ?_⟩
    have r := fun j (hj : j < 25) => row j hj
    refine ⟨fun σ' H' => ∃ q, σ' = [some (.ref p.1), some (.ref q), none, none] ∧ Same H H' ∧ H' q = some (.lst (fnd b 0 2)), ?_, ?_⟩
    · refine ⟨_, rfl, C, _, _, _, rfl, .own _, xc, ex, r 0 (by decide), _, rfl, C, _, _, _, rfl, .own _, xc, ex, r 1 (by decide), (by show 2 ≤ sizeLine; decide), fun q o => ?_⟩
      exact ⟨q, rfl, new_upd o, upd_same⟩
    rintro σ1 H1 ⟨q, rfl, s1, l1⟩
    have e1 := ex.same s1
    refine ⟨fun σ' H' => ∃ q, σ' = [some (.ref p.1), some (.ref q), none, none] ∧ Same H H' ∧ H' q = some (.lst (fnd b 0 4)), ?_, ?_⟩
    · refine ⟨_, rfl, _, rfl, C, _, _, _, rfl, .own _, xc, e1, r 2 (by decide), _, rfl, C, _, _, _, rfl, .own _, xc, e1, r 3 (by decide), (by show 2 ≤ sizeLine; decide), fun p np => ⟨q, p, _, _, rfl, rfl, new_upd np _ _ l1, upd_same, (by show 4 ≤ sizeLine; decide), fun z nz => ?_⟩⟩
      exact ⟨z, rfl, (s1.trans (new_upd np)).trans (new_upd nz), upd_same⟩
    clear s1 l1 e1
    rintro σ1 H1 ⟨q, rfl, s1, l1⟩
    have e1 := ex.same s1
    refine ⟨fun σ' H' => ∃ q, σ' = [some (.ref p.1), some (.ref q), none, none] ∧ Same H H' ∧ H' q = some (.lst (fnd b 0 7)), ?_, ?_⟩
    · refine ⟨_, rfl, _, rfl, C, _, _, _, rfl, .own _, xc, e1, r 4 (by decide), _, rfl, C, _, _, _, rfl, .own _, xc, e1, r 5 (by decide), _, rfl, C, _, _, _, rfl, .own _, xc, e1, r 6 (by decide), (by show 3 ≤ sizeLine; decide), fun p np => ⟨q, p, _, _, rfl, rfl, new_upd np _ _ l1, upd_same, (by show 7 ≤ sizeLine; decide), fun z nz => ?_⟩⟩
      exact ⟨z, rfl, (s1.trans (new_upd np)).trans (new_upd nz), upd_same⟩
    clear s1 l1 e1
    rintro σ1 H1 ⟨q, rfl, s1, l1⟩
    have e1 := ex.same s1
    refine ⟨fun σ' H' => ∃ q, σ' = [some (.ref p.1), some (.ref q), none, none] ∧ Same H H' ∧ H' q = some (.lst (fnd b 0 9)), ?_, ?_⟩
    · refine ⟨_, rfl, _, rfl, C, _, _, _, rfl, .own _, xc, e1, r 7 (by decide), _, rfl, C, _, _, _, rfl, .own _, xc, e1, r 8 (by decide), (by show 2 ≤ sizeLine; decide), fun p np => ⟨q, p, _, _, rfl, rfl, new_upd np _ _ l1, upd_same, (by show 9 ≤ sizeLine; decide), fun z nz => ?_⟩⟩
      exact ⟨z, rfl, (s1.trans (new_upd np)).trans (new_upd nz), upd_same⟩
    clear s1 l1 e1
    rintro σ1 H1 ⟨q, rfl, s1, l1⟩
    have e1 := ex.same s1
    refine ⟨fun σ' H' => ∃ q, σ' = [some (.ref p.1), some (.ref q), none, none] ∧ Same H H' ∧ H' q = some (.lst (fnd b 0 12)), ?_, ?_⟩
    · refine ⟨_, rfl, _, rfl, C, _, _, _, rfl, .own _, xc, e1, r 9 (by decide), _, rfl, C, _, _, _, rfl, .own _, xc, e1, r 10 (by decide), _, rfl, C, _, _, _, rfl, .own _, xc, e1, r 11 (by decide), (by show 3 ≤ sizeLine; decide), fun p np => ⟨q, p, _, _, rfl, rfl, new_upd np _ _ l1, upd_same, (by show 12 ≤ sizeLine; decide), fun z nz => ?_⟩⟩
      exact ⟨z, rfl, (s1.trans (new_upd np)).trans (new_upd nz), upd_same⟩
    clear s1 l1 e1
    rintro σ1 H1 ⟨q, rfl, s1, l1⟩
    have e1 := ex.same s1
    refine ⟨fun σ' H' => ∃ q, σ' = [some (.ref p.1), some (.ref q), none, none] ∧ Same H H' ∧ H' q = some (.lst (fnd b 0 15)), ?_, ?_⟩
    · refine ⟨_, rfl, _, rfl, C, _, _, _, rfl, .own _, xc, e1, r 12 (by decide), _, rfl, C, _, _, _, rfl, .own _, xc, e1, r 13 (by decide), _, rfl, C, _, _, _, rfl, .own _, xc, e1, r 14 (by decide), (by show 3 ≤ sizeLine; decide), fun p np => ⟨q, p, _, _, rfl, rfl, new_upd np _ _ l1, upd_same, (by show 15 ≤ sizeLine; decide), fun z nz => ?_⟩⟩
      exact ⟨z, rfl, (s1.trans (new_upd np)).trans (new_upd nz), upd_same⟩
    clear s1 l1 e1
    rintro σ1 H1 ⟨q, rfl, s1, l1⟩
    have e1 := ex.same s1
    refine ⟨fun σ' H' => ∃ q, σ' = [some (.ref p.1), some (.ref q), none, none] ∧ Same H H' ∧ H' q = some (.lst (fnd b 0 17)), ?_, ?_⟩
    · refine ⟨_, rfl, _, rfl, C, _, _, _, rfl, .own _, xc, e1, r 15 (by decide), _, rfl, C, _, _, _, rfl, .own _, xc, e1, r 16 (by decide), (by show 2 ≤ sizeLine; decide), fun p np => ⟨q, p, _, _, rfl, rfl, new_upd np _ _ l1, upd_same, (by show 17 ≤ sizeLine; decide), fun z nz => ?_⟩⟩
      exact ⟨z, rfl, (s1.trans (new_upd np)).trans (new_upd nz), upd_same⟩
    clear s1 l1 e1
    rintro σ1 H1 ⟨q, rfl, s1, l1⟩
    have e1 := ex.same s1
    refine ⟨fun σ' H' => ∃ q, σ' = [some (.ref p.1), some (.ref q), none, none] ∧ Same H H' ∧ H' q = some (.lst (fnd b 0 19)), ?_, ?_⟩
    · refine ⟨_, rfl, _, rfl, C, _, _, _, rfl, .own _, xc, e1, r 17 (by decide), _, rfl, C, _, _, _, rfl, .own _, xc, e1, r 18 (by decide), (by show 2 ≤ sizeLine; decide), fun p np => ⟨q, p, _, _, rfl, rfl, new_upd np _ _ l1, upd_same, (by show 19 ≤ sizeLine; decide), fun z nz => ?_⟩⟩
      exact ⟨z, rfl, (s1.trans (new_upd np)).trans (new_upd nz), upd_same⟩
    clear s1 l1 e1
    rintro σ1 H1 ⟨q, rfl, s1, l1⟩
    have e1 := ex.same s1
    refine ⟨fun σ' H' => ∃ q z, σ' = [some (.ref p.1), some (.ref q), some (.ref z), none] ∧ Same H H' ∧ H' q = some (.lst (fnd b 0 19)) ∧ H' z = some (.lst (fnd b 19 3)), ?_, ?_⟩
    · refine ⟨_, rfl, C, _, _, _, rfl, .own _, xc, e1, r 19 (by decide), _, rfl, C, _, _, _, rfl, .own _, xc, e1, r 20 (by decide), _, rfl, C, _, _, _, rfl, .own _, xc, e1, r 21 (by decide), (by show 3 ≤ sizeLine; decide), fun z nz => ?_⟩
      exact ⟨q, z, rfl, s1.trans (new_upd nz), new_upd nz _ _ l1, upd_same⟩
    clear s1 l1 e1
    rintro σ1 H1 ⟨q, z, rfl, s1, l1, l2⟩
    have e1 := ex.same s1
    refine ⟨fun σ' H' => ∃ q z, σ' = [some (.ref p.1), some (.ref q), some (.ref z), none] ∧ Same H H' ∧ H' q = some (.lst (fnd b 0 19)) ∧ H' z = some (.lst (fnd b 19 6)), ?_, ?_⟩
    · refine ⟨_, rfl, _, rfl, C, _, _, _, rfl, .ty _, xc, e1, r 22 (by decide), _, rfl, C, _, _, _, rfl, .ty _, xc, e1, r 23 (by decide), _, rfl, C, _, _, _, rfl, .ty _, xc, e1, r 24 (by decide), (by show 3 ≤ sizeLine; decide), fun p np => ⟨z, p, _, _, rfl, rfl, new_upd np _ _ l2, upd_same, (by show 6 ≤ sizeLine; decide), fun y ny => ?_⟩⟩
      exact ⟨q, y, rfl, (s1.trans (new_upd np)).trans (new_upd ny), new_upd ny _ _ (new_upd np _ _ l1), upd_same⟩
    clear s1 l1 l2 e1
    rintro σ1 H1 ⟨q, z, rfl, s1, l1, l2⟩
    refine ⟨19, rfl, by decide, by decide, fun D hD => ?_⟩
    have hSq := SqL.of (K := K) l1
    have hSz := SqL.of (K := K) l2
    refine lc_range (lo := 0) (fun i H' => But D H1 H' ∧ H' D = some (.lst (((List.range i).filter b).map fun j => V.int (j : Nat)))) ⟨But.upd, upd_same⟩ ?_ ?_
    · rintro i H2 hi ⟨bD, hDi⟩
      rw [Int.zero_add]
      refine ⟨rfl, ?_⟩
      refine ⟨_, rfl, _, rfl, q, _, _, _, rfl, rfl, SqL.of (bD _ _ (ne_of_none l1 hD) l1), atI_nat (j := i) (fnd_at (show i < 19 from hi)), ?_⟩
      rw [Nat.zero_add]
      refine ⟨_, rfl, ite2 (fun e => ?_) (fun e => ?_)⟩
      · refine ⟨_, rfl, _, hDi, small1000 (rng_len (show i < 19 from hi)), bD.trans But.upd, ?_⟩
        rw [upd_same, rng_yes e]
      · exact ⟨bD, by rw [rng_no e]; exact hDi⟩
    · rintro H2 ⟨bD, hD2⟩
      have nzD := ne_of_none l2 hD
      have s2 : Same H H2 := fun y o ey => bD _ _ (ne_of_none (s1 _ _ ey) hD) (s1 _ _ ey)
      have nD : H D = none := s1.free hD
      refine ⟨6, rfl, by decide, by decide, fun G hG => ?_⟩
      have hGD := new_upd (o := .lst []) hG
      refine lc_range (lo := 0) (fun i H' => But G H2 H' ∧ H' G = some (.lst (((List.range i).filter fun j => b (19 + j)).map fun j => V.int (20 + (j : Nat))))) ⟨But.upd, upd_same⟩ ?_ ?_
      · rintro i H3 hi ⟨bG, hGi⟩
        rw [Int.zero_add]
        refine ⟨rfl, ?_⟩
        have l3 := bG _ _ (ne_of_none (bD _ _ nzD l2) hG) (bD _ _ nzD l2)
        refine ⟨_, rfl, _, rfl, z, _, _, _, rfl, rfl, SqL.of l3, atI_nat (j := i) (fnd_at (show i < 6 from hi)), ?_⟩
        refine ⟨_, rfl, ite2 (fun e => ?_) (fun e => ?_)⟩
        · refine ⟨_, rfl, _, _, rfl, rfl, _, hGi, small1000 (rng_len (show i < 19 by have : i < 6 := hi; omega)), bG.trans But.upd, ?_⟩
          rw [upd_same, rng_yes (b := fun j => b (19 + j)) e]
        · exact ⟨bG, by rw [rng_no (b := fun j => b (19 + j)) e]; exact hGi⟩
      · rintro H3 ⟨bG, hG3⟩
        have hD3 := bG _ _ (ne_of_none hD2 hG) hD2
        have s3 : Same H H3 := fun y o ey => bG _ _ (ne_of_none (s2 _ _ ey) hG) (s2 _ _ ey)
        refine ⟨D, G, _, _, rfl, rfl, hD3, hG3, ?_, fun l nl => ?_⟩
        · have h1 := List.length_filter_le b (List.range 19)
          have h2 := List.length_filter_le (fun j => b (19 + j)) (List.range 6)
          rw [List.length_map, List.length_map]
          rw [List.length_range] at h1 h2
          exact Nat.le_trans (Nat.add_le_add h1 h2) (by decide)
        · exact k _ l (s3.trans (new_upd nl)) (s3.free nl) upd_same
end
end RL

set_option maxHeartbeats 2000000
namespace RL
open PySem L2 PySem.Spec PyProof.Rows
theorem lamS_dec {sc scope : Scope} (h : LamX.lamSB sc scope = true) : LamX.LamS sc scope := LamX.lamS_by h
def TTg (K : PySem.W.Frag) (c : Nat → Addr) (rR : List V → Hp → VK → Prop) : (XK → Hp → VK → Prop) → Hp → VK → Prop := fun tl H Q =>
  tl (cgtX K c Q) H fun v H2 => rR [v] H2 fun r H3 => [V.str (Str.ofString "given"), r].length ≤ sizeLine ∧ ∀ l, H3 l = none → Q (.ref l) (upd H3 l (.lst [V.str (Str.ofString "given"), r]))
abbrev s_law_caught : Stmt := top 78
theorem sc_law_caught : FnScope ["_law_act", "_law_e", "_law_found"] ["_law_act"] (defScope s_law_caught) := ⟨rfl, rfl, rfl, by decide +kernel, rfl, by decide +kernel, by decide +kernel⟩

/-- the def that catches, and what it leans on -/
structure CgtD (P : Program) (w : World) (K : PySem.W.Frag) (mg : Str → Option Value) (base : Heap) (c : Nat → Addr) (kr : Nat) (rR : List V → Hp → VK → Prop) : Prop where
  T : Txt K mg
  TE : TxE mg c
  ex : ∃ (g : Addr) (fd : FuncData), Fun K "_law_caught" "_law_caught" s_law_caught g fd ∧ mg "_law_caught" = some (.ref g)
  cls : DfE P w K mg base 1 "_law_classes" ["_law_e"] (spClsP K c)
  rp : ∀ X : Cx, X.prog = P → X.w = w → X.K = K → X.mg = mg → X.base = base → X.A.guards = some [] → Room kr X.A → CallR X (.builtin "repr") rR
theorem hot_of {A : Around} {a : Addr} {cls : Value} {d : Option Addr} {oe : Obj} (hz : L2N.Zn cls d oe) (hf : ∃ vs, oe.data = .fields vs) : L2H.Hot1 (A.mark (some (.ref a))) (a, oe) := by
  obtain ⟨vs, hv⟩ := hf
  exact ⟨rfl, vs, hv, hz.2.2 vs hv⟩
section
variable {X : Cx} {c : Nat → Addr} {kr : Nat} {rR : List V → Hp → VK → Prop}
theorem caught_gives {k : Nat} {q : Str} {g : Addr} {cdg : Value} (CG : CgtD X.prog X.w X.K X.mg X.base c kr rR) (hgd : X.A.guards = some []) (hk : kr ≤ k + 1) (hk1 : 1 ≤ k) :
    GivesN X k ["_law_act", "_law_e", "_law_found"] "_law_caught" (defScope s_law_caught) g cdg (defBody s_law_caught) "_law_act" q (TTg X.K c rR) := by
  intro f c' s H Q tl hr hact hc hT
  have T := CG.T
  have TE := CG.TE
  have D_law_classes := CG.cls
  have hgS : (X.A.deeper (envOfC "_law_caught" (defScope s_law_caught) s.heap.objs.size g cdg)).guards = some [] := hgd
  have huS := hr.units
  have hk2 : 1 ≤ k + 1 := by omega
  have sc := sc_law_caught
  refine ⟨_, pss_one (ps_try_as3 (X := (cxOf CX0 X.prog X.w X.K X.mg X.base ["_law_act", "_law_e", "_law_found"] "_law_caught" (defScope s_law_caught) g cdg X.A X.stack s H E0).nox) (i := 1) (c1 := .ref (c 19)) (c2 := .ref (c 20)) (c3 := .ref (c 21))
    (tb := fun W D σ H => ∃ Ech : XK, σ[0]? = some (some (.ref f)) ∧ H c' = some (LamX.CodeO c' q) ∧ (∀ cls d H', Ech cls d H' → W cls d σ H') ∧ tl Ech H fun v H2 => rR [v] H2 fun r H3 => [V.str (Str.ofString "given"), r].length ≤ sizeLine ∧ ∀ p, H3 p = none → D.rt (.ref p) (upd H3 p (.lst [V.str (Str.ofString "given"), r])))
    rfl rfl sc.nd rfl rfl ⟨rfl, by decide, .inl TE.m19⟩ ⟨rfl, by decide, .inl TE.m20⟩ ⟨rfl, by decide, .inl TE.m21⟩ (fun W pn xe tk _ => ⟨fun pins s' σ H' D I h => ?_⟩)
    (fun a oe cls d pn hz hf => pss_all (cls := cls) (d := d) oe hz hf (pss_cons (ps_set (i := 2) sc_law_caught.nd rfl (.inl rfl) (pe_dfE D_law_classes (L2H.roomH_mark (hr.mono hk2) (some (.ref a))) (hot_of hz hf) List.mem_cons_self (by rfl) (pa_cons (pv 1) pa_nil)))
      (pss_cons (ps_if (PW.pt (pw_or (pt_cmpR op_lt (pe_ix (r := rIxL X.K) ix_list (pv 2) pe_int (fun _ _ => rfl)) pe_int (nomark _)) (pw_or1 (pt_cmpR op_eq (pe_ix (r := rIxL X.K) ix_list (pv 2) pe_int (fun _ _ => rfl)) pe_int (nomark _))))) (pss_one (ps_ret (pe_op op_cat (pv 2) (pe_lst (pa_cons (pe_callB (cr_rpK (K := X.K) hgS huS) (by rfl) T.repr (by decide +kernel) (pa_cons (pe_pfdK (K := X.K) (p := (a, oe)) List.mem_cons_self (pv 1)) pa_nil)) pa_nil))))) pss_nil)
      (pss_cons (ps_if (pt_cmpR op_eq (pe_ix (r := rIxL X.K) ix_list (pv 2) pe_int (fun _ _ => rfl)) pe_int (nomark _)) (pss_one (ps_ret (pe_op op_cat (pv 2) (pe_lst (pa_cons (pe_callB (cr_rpK (K := X.K) hgS huS) (by rfl) T.repr (by decide +kernel) (pa_cons (pe_pfdK (K := X.K) (p := (a, oe)) List.mem_cons_self (pv 1)) pa_nil)) pa_nil))))) pss_nil)
      (pss_one (ps_ret (pe_ifExp (pt_cmpR op_lt (pe_ix (r := rIxL X.K) ix_list (pv 2) pe_int (fun _ _ => rfl)) pe_int (nomark _)) (pe_op op_cat (pv 2) (pe_lst (pa_cons (pe_callB (cr_rpK (K := X.K) hgS huS) (by rfl) T.repr (by decide +kernel) (pa_cons (pe_pfdK (K := X.K) (p := (a, oe)) List.mem_cons_self (pv 1)) pa_nil)) pa_nil))) (pv 2))))))))), ?_⟩
  · obtain ⟨Ech, h1, h2, h3, h4⟩ := h
    exact (pss_one (ps_ret (pe_lst (pa_cons pe_str (pa_cons (pe_callB (CG.rp ((cxOf CX0 X.prog X.w X.K X.mg X.base ["_law_act", "_law_e", "_law_found"] "_law_caught" (defScope s_law_caught) g cdg X.A X.stack s H E0).tr pn xe) rfl rfl rfl rfl rfl hgS (hr.mono hk)) (by rfl) T.repr (by decide +kernel) (pa_cons (hact W pn xe Ech _ _ tk) pa_nil)) pa_nil))))).run pins s' σ H' D I ⟨h1, h2, h3, h4⟩
  · refine ⟨cgtX X.K c Q, rfl, hc, fun cls d H1 hE => ?_, hT⟩
    obtain ⟨C, j, as, dx, v, e, rfl, ec, rfl, hd, hq, q1, q2, q3, kf⟩ := hE
    refine ⟨ec.any, fun a na oe hz hf => ?_⟩
    obtain ⟨b, row, eb⟩ := ec.row
    have px : Px (a, oe) C H1 := ⟨hz.1, hf, .inr ⟨dx, _, hz.2.1, hd⟩⟩
    obtain ⟨rest, rfl⟩ : ∃ rest, as = (j : Int) :: rest := by
      have h0 := ec.hd
      cases as with
      | nil => cases h0
      | cons x r =>
        cases h0
        exact ⟨r, rfl⟩
    have lr : rest.length + 1 ≤ 10 := ec.tl
    refine ⟨_, rfl, C, b, rfl, ec.xc, px, row, fun H2 l s2 nl hl => ?_⟩
    rw [eb, List.map_cons] at hl
    have hd2 := s2 _ _ hd
    have hq2 := hq.same s2
    have no := ec.no
    have fin : ∀ {H3 : Hp} {p : Addr} {R : Addr → Hp → Prop}, H3 p = none → Same H1 H3 → H3 l = some (.lst (V.int (j : Int) :: List.map V.int rest)) → (∀ H4 q, Same H3 H4 → H4 q = some (.lst ((V.int (j : Int) :: List.map V.int rest) ++ [V.str e.shown])) → R q H4) →
        ∃ (l1 l2 : Addr) (xs ys : List V), V.ref l = .ref l1 ∧ V.ref p = .ref l2 ∧ (upd H3 p (.lst [V.str e.shown])) l1 = some (.lst xs) ∧ (upd H3 p (.lst [V.str e.shown])) l2 = some (.lst ys) ∧ xs.length + ys.length ≤ sizeLine ∧ ∀ q, (upd H3 p (.lst [V.str e.shown])) q = none → R q (upd (upd H3 p (.lst [V.str e.shown])) q (.lst (xs ++ ys))) := fun {H3 p R} np s3 hl3 kk =>
      ⟨l, p, _, _, rfl, rfl, new_upd np _ _ hl3, upd_same, (by
        rw [List.length_cons, List.length_map, List.length_singleton]
        exact Nat.le_of_lt (small1000 (by omega))), fun q nq => kk _ q ((new_upd np).trans (new_upd nq)) upd_same⟩
    have at0 : ∀ {xs : List V}, atI (V.int (j : Int) :: xs) 0 = some (V.int (j : Int)) := fun {xs} => atI_nat (j := 0) rfl
    have given : (j < 9 ∨ j = 13) → fldOf j = Str.ofString "given" := fun z => if_pos z
    have doneG : (j < 9 ∨ j = 13) → ∀ {nx : L2.St → Hp → Prop}, True := fun _ _ => trivial
    refine ⟨_, rfl, l, _, _, _, rfl, rfl, SqL.of hl, at0, _, _, rfl, rfl, _, rfl, ite2 (fun z => ?_) (fun z => ⟨_, rfl, l, _, _, _, rfl, rfl, SqL.of hl, at0, rfl, _, rfl, ite2 (fun z2 => ?_) (fun z2 => ?_)⟩)⟩
    · have zj : (j : Int) < 9 := of_decide_eq_true z
      have ef := given (.inl (by omega))
      rw [ef] at hd2 no
      refine ⟨_, rfl, _, rfl, C, dx, _, v, rfl, ec.xc, no, hz.1, hf, hz.2.1, hd2, rfl, v, e, rfl, hq2, q1, q2, q3, (by show 1 ≤ sizeLine; decide), fun p np => ?_⟩
      exact fin np s2 hl fun H4 q s4 h4 => kf _ q (s2.trans s4) h4
    · have zj : (j : Int) = 13 := V.int.inj (of_decide_eq_true z2)
      have ef := given (.inr (by omega))
      rw [ef] at hd2 no
      refine ⟨_, rfl, _, rfl, C, dx, _, v, rfl, ec.xc, no, hz.1, hf, hz.2.1, hd2, rfl, v, e, rfl, hq2, q1, q2, q3, (by show 1 ≤ sizeLine; decide), fun p np => ?_⟩
      exact fin np s2 hl fun H4 q s4 h4 => kf _ q (s2.trans s4) h4
    · have y1 : ¬ (j : Int) < 9 := fun y => z (decide_eq_true y)
      have y2 : ¬ (j : Int) = 13 := fun y => z2 (decide_eq_true (congrArg V.int y))
      have nb : ¬ (j < 9 ∨ j = 13) := by omega
      refine ⟨_, rfl, l, _, _, _, rfl, rfl, SqL.of hl, at0, rfl, _, rfl, ite2 (fun z3 => ?_) (fun z3 => ?_)⟩
      · have zj : (j : Int) = 15 := V.int.inj (of_decide_eq_true z3)
        have ef : fldOf j = Str.ofString "most" := by
          unfold fldOf
          rw [if_neg nb, if_pos (by omega)]
        rw [ef] at hd2 no
        refine ⟨_, rfl, _, rfl, C, dx, _, v, rfl, ec.xc, no, hz.1, hf, hz.2.1, hd2, rfl, v, e, rfl, hq2, q1, q2, q3, (by show 1 ≤ sizeLine; decide), fun p np => ?_⟩
        exact fin np s2 hl fun H4 q s4 h4 => kf _ q (s2.trans s4) h4
      · have y3 : ¬ (j : Int) = 15 := fun y => z3 (decide_eq_true (congrArg V.int y))
        have lt := ec.lt
        refine ⟨_, rfl, l, _, _, _, rfl, rfl, SqL.of hl, at0, _, _, rfl, rfl, _, rfl, ite2 (fun z4 => ?_) (fun z4 => absurd (decide_eq_true (show (j : Int) < 17 by omega)) z4)⟩
        have ef : fldOf j = Str.ofString "index" := by
          unfold fldOf
          rw [if_neg nb, if_neg (by omega)]
        rw [ef] at hd2 no
        refine ⟨_, rfl, _, rfl, C, dx, _, v, rfl, ec.xc, no, hz.1, hf, hz.2.1, hd2, rfl, v, e, rfl, hq2, q1, q2, q3, (by show 1 ≤ sizeLine; decide), fun p np => ?_⟩
        exact fin np s2 hl fun H4 q s4 h4 => kf _ q (s2.trans s4) h4
/-- _law_caught(lambda: body) -/
theorem pe_cgt {k : Nat} {T : List (Addr × Str)} {cA PA : Addr} {params : Arguments} {body : Expr} {scope : Scope} {t : XK → TE} {p lpos pos : Pos} (CG : CgtD X.prog X.w X.K X.mg X.base c kr rR) (hgd : X.A.guards = some []) (hk : kr ≤ k + 1) (hk1 : 1 ≤ k)
    (TB : LamX.TabB X.base X.mg cA PA) (hcode : X.env.code = .ref cA) (hmT : (PA, X.env.qual ++ "<lambda>") ∈ T) (hu : ∀ p ∈ T, p.1 = PA → p.2 = X.env.qual ++ "<lambda>") (hr : Room (k + 2) X.A) (hL : LamX.lamSB X.env.scope scope = true)
    (hbody : ∀ (A : Around) (outer : List Env) (s : Shared) (H : Hp) (E : XK) (f c' : Addr), A.guards = some [] → Room k (A.deeper (LamX.lamEnv X scope s.heap.objs.size f c')) → PE (lamN X A outer s H E scope f c') body (t E))
    (hg : Gl X "_law_caught" := by rfl) (hdef : defaultsOf params X.env = ([], []) := by rfl) (hbind : ∀ (q : Str) (cl : List (Str × Addr)) (pm cv ctv : Value), bindArgs (PySem.W.kla_fn "<lambda>" q params body scope cl pm cv ctv) ⟨[], []⟩ = pure [] := by intros; rfl) :
    PE X (.Call (.Name "_law_caught" p) [.Lambda params body scope lpos] [] pos) (LamX.tLam T (TTg X.K c rR) t) := by
  obtain ⟨g, fd, F, hm⟩ := CG.ex
  obtain ⟨oc, od, kV, doc, pm, an, cdv, ct, osl, rfl, lk, hcd⟩ := F.ex
  have b := F.binds (ps := ["_law_act"]) fun _ _ _ _ _ _ us hl => match us, hl with | [_], _ => rfl
  exact pe_lamN hg hm F.kp lk hcd b sc_law_caught rfl (.inl rfl) (caught_gives CG hgd hk hk1) TB hcode hmT hu hr (LamX.lamS_by hL) hdef hbind (fun A outer s H E f c' hA hr2 => hbody A outer s H E f c' (hA.trans hgd) hr2)
end
end RL

set_option maxHeartbeats 2000000
/-! len of an own object; own operators, methods, makings that may raise. -/
namespace RL
open PySem L2 PySem.Spec PyProof.Rows
section
variable {X : Cx} {k : Nat} {ps : List Str} {sp : Sp} {C g : Addr} {fd : FuncData} {E : XK}
/-- a own + b that may raise -/
def rBinN (C : Addr) (sp : Sp) (E : XK) : R2 := fun x y H Q => ∃ a dx fs b dy gs, x = .ref a ∧ H a = some (.ins C dx fs) ∧ y = .ref b ∧ H b = some (.ins C dy gs) ∧ sp [x, y] H Q E
theorem op_binOwnN {op : Operator} (hc : PySem.W.selfFirst X.K C = true) (hs : PySem.W.findIn X.K (.ref C) (PySem.dunder op.info.2) = some (some (.ref g))) (hf : PySem.W.isFn X.K (.ref g) = true) (F : FnOk X.prog X.w X.K X.mg X.base (L2N.CX X.prog X.w) k g fd ps sp) (hb : Binds X.K fd ps []) (hr : Room k X.A)
    (hx : Passes (L2N.CX X.prog X.w) X E) : OpR X (binaryOp op) (rBinN C sp E) := by
  intro pins s σ H x y v u Q I rx ry h
  obtain ⟨a, dx, fs, b, dy, gs, rfl, ha, rfl, hy, q⟩ := h
  cases (show v = Value.ref a from rx)
  cases (show u = Value.ref b from ry)
  obtain ⟨mA, O, _⟩ := ins_get I.hok ha
  obtain ⟨od, J, _⟩ := O.look
  obtain ⟨mB, O2, _⟩ := ins_get I.hok hy
  obtain ⟨od2, J2, _⟩ := O2.look
  obtain ⟨m, hF⟩ := I.fr
  have q0 : sp ([.ref a, .ref b] ++ []) H Q E := q
  refine PySem.W.binop_K hF I.ok.mod.kin J J2.type hc hs hf (wpAny_mono (run_fn (us := [.ref a, .ref b]) (vs := [.ref a, .ref b]) F hr hb .nil hx I (.cons rfl (.cons rfl .nil)) q0) (fun w s' ⟨z', H', I', rz, qz⟩ => ?_) fun _ _ z => z)
  exact SlX.cmpback rz ⟨z', H', I', rz, qz⟩
/-- len(o), o's class has a __len__ -/
def rLenOwn (C : Addr) (sp : Sp) : List V → Hp → VK → Prop := fun vs H Q => ∃ a dx fs, vs = [.ref a] ∧ H a = some (.ins C dx fs) ∧ sp [.ref a] H (fun v H' => ∃ n : Nat, v = .int (n : Int) ∧ n ≤ 1000 ∧ Q (.int (n : Int)) H') E0
theorem call_lenOwn (hs : PySem.W.findIn X.K (.ref C) "__len__" = some (some (.ref g))) (hf : PySem.W.isFn X.K (.ref g) = true) (F : FnOk X.prog X.w X.K X.mg X.base CX0 k g fd ps sp) (hb : Binds X.K fd ps []) (hr : Room (k + 1) X.A) : CallR X (.builtin "len") (rLenOwn C sp) := by
  intro pins s σ H vs us Q I r h
  obtain ⟨a, dx, fs, rfl, ha, q⟩ := h
  rw [Vals.ref1 r]
  obtain ⟨mA, O, _⟩ := ins_get I.hok ha
  obtain ⟨od, J, _⟩ := O.look
  obtain ⟨m, hF⟩ := I.fr
  have hl : ([Value.ref a] ++ []).length = ps.length := F.len _ _ _ _ q
  refine PySem.W.len_K hF I.ok.mod.kin J hs hf (wpAny_call (codeAny_mono (F.run X.A.in1 X.stack s H ⟨[.ref a], []⟩ [.ref a] [.ref a] _ E0 hr.in1 I.env0.in1 (hb s [.ref a] I.kIn hl) (.cons rfl .nil) q) fun z s' hq => ?_))
  match z, hq with
  | .ok (.ret w'), hq =>
    obtain ⟨v', H', I', rv, n, e, hn, qz⟩ := I.after hq
    subst e
    obtain ⟨t, e2⟩ := (show ∃ t, w' = Value.int (n : Int) t from rv)
    subst e2
    exact ⟨⟨by omega, by omega⟩, .int (n : Int), H', I'.tok _, ⟨_, rfl⟩, qz⟩
end
end RL

namespace RL
open PySem L2
/-! ### data that repr shows, put together -/
structure Tame (w h : Nat) (d : PyData) : Prop where
  s : d.showable = true
  n : d.hasDict = false
  v : d.leavesShort 300 = true
  w_ : d.weight ≤ w
  d_ : d.depth ≤ h
theorem Tame.shows {w h : Nat} {d : PyData} (t : Tame w h d) (hw : w ≤ 10000 := by decide) (hh : h ≤ 40 := by decide) : Shows d := by
  refine ⟨t.s, t.n, Nat.le_trans t.d_ hh, ?_⟩
  have e := PyData.shown_le 300 (by decide) d t.v
  have := Nat.le_trans t.w_ hw
  rw [sizeLine_eq]
  omega
theorem Tame.mono {w h w' h' : Nat} {d : PyData} (t : Tame w h d) (hw : w ≤ w' := by decide) (hh : h ≤ h' := by decide) : Tame w' h' d := ⟨t.s, t.n, t.v, Nat.le_trans t.w_ hw, Nat.le_trans t.d_ hh⟩
theorem tame_int {i : Int} (h : Sm 200 i) : Tame 200 0 (.int i) := by
  obtain ⟨a, b, c⟩ := show_int h
  exact ⟨a, by simp only [PyData.hasDict], b, c, by simp only [PyData.depth]; exact Nat.le_refl _⟩
theorem tame_all {w h : Nat} : ∀ {xs : List PyData}, (∀ d ∈ xs, Tame w h d) → PyData.showableAll xs = true ∧ PyData.hasDictAll xs = false ∧ PyData.leavesShortAll 300 xs = true ∧ PyData.weightAll xs ≤ xs.length * (w + 1) ∧ PyData.depthAll xs ≤ h
  | [], _ => ⟨by simp only [PyData.showableAll], by simp only [PyData.hasDictAll], by simp only [PyData.leavesShortAll], by simp [PyData.weightAll], by simp [PyData.depthAll]⟩
  | x :: xs, H => by
    obtain ⟨a, b, c, d, e⟩ := H x List.mem_cons_self
    obtain ⟨a', b', c', d', e'⟩ := tame_all fun z hz => H z (List.mem_cons_of_mem _ hz)
    refine ⟨by simp only [PyData.showableAll, a, a', Bool.and_self], by simp only [PyData.hasDictAll, b, b', Bool.or_self], by simp only [PyData.leavesShortAll, c, c', Bool.and_self], ?_, ?_⟩
    · simp only [PyData.weightAll, List.length_cons]
      have : (xs.length + 1) * (w + 1) = xs.length * (w + 1) + (w + 1) := Nat.succ_mul _ _
      omega
    · simp only [PyData.depthAll]
      omega
theorem tame_tup {w h : Nat} {xs : List PyData} (H : ∀ d ∈ xs, Tame w h d) : Tame (xs.length * (w + 1)) (h + 1) (.tuple xs) := by
  obtain ⟨a, b, c, d, e⟩ := tame_all H
  exact ⟨by simp only [PyData.showable, a], by simp only [PyData.hasDict, b], by simp only [PyData.leavesShort, c], by simp only [PyData.weight]; exact d, by simp only [PyData.depth]; omega⟩
theorem tame_lst {w h : Nat} {xs : List PyData} (H : ∀ d ∈ xs, Tame w h d) : Tame (xs.length * (w + 1)) (h + 1) (.list xs) := by
  obtain ⟨a, b, c, d, e⟩ := tame_all H
  exact ⟨by simp only [PyData.showable, a], by simp only [PyData.hasDict, b], by simp only [PyData.leavesShort, c], by simp only [PyData.weight]; exact d, by simp only [PyData.depth]; omega⟩
theorem tame_2 {w h : Nat} {x y : PyData} (hx : Tame w h x) (hy : Tame w h y) : Tame (2 * (w + 1)) (h + 1) (.tuple [x, y]) := tame_tup (xs := [x, y]) fun d hd => by
  simp only [List.mem_cons, List.not_mem_nil, or_false] at hd
  rcases hd with rfl | rfl
  · exact hx
  · exact hy
theorem tame_l2 {w h : Nat} {x y : PyData} (hx : Tame w h x) (hy : Tame w h y) : Tame (2 * (w + 1)) (h + 1) (.list [x, y]) := tame_lst (xs := [x, y]) fun d hd => by
  simp only [List.mem_cons, List.not_mem_nil, or_false] at hd
  rcases hd with rfl | rfl
  · exact hx
  · exact hy
end RL

namespace RL
/-! ### joined patterns: products of their matrices -/
def Mx.mul (m n : Mx) : Mx := ⟨m.a * n.a + m.b * n.c, m.a * n.b + m.b * n.d, m.c * n.a + m.d * n.c, m.c * n.b + m.d * n.d⟩
theorem app_mul (m n : Mx) (e : Int × Int) : (m.mul n).app e = m.app (n.app e) := by
  unfold Mx.mul Mx.app
  ext <;> dsimp <;> grind
theorem mx_ext {m n : Mx} (h : ∀ e, m.app e = n.app e) : m = n := by
  have h1 := h (1, 0)
  have h2 := h (0, 1)
  unfold Mx.app at h1 h2
  simp at h1 h2
  obtain ⟨a, b, c, d⟩ := m
  obtain ⟨a', b', c', d'⟩ := n
  dsimp at h1 h2
  rw [h1.1, h1.2, h2.1, h2.2]
theorem mat_mul (r r' : List Pc) : matR (r ++ r') = (matR r).mul (matR r') := mx_ext fun e => by
  rw [app_mul, mat_app, mat_app, mat_app, act_app]
theorem mat_app2 (r r' : List Pc) (e : Int × Int) : (matR (r ++ r')).app e = (matR r).app ((matR r').app e) := by
  rw [mat_mul, app_mul]
theorem appN_succ (m : Mx) (n : Nat) (e : Int × Int) : appN m (n + 1) e = m.app (appN m n e) := rfl
theorem appN_add (m : Mx) (k : Nat) (e : Int × Int) : ∀ n, appN m (k + n) e = appN m n (appN m k e)
  | 0 => rfl
  | n + 1 => by
    show m.app (appN m (k + n) e) = _
    rw [appN_add m k e n]
    rfl
theorem appN_two (r : List Pc) (e : Int × Int) : ∀ n, appN (matR (r ++ r)) n e = appN (matR r) (2 * n) e
  | 0 => rfl
  | n + 1 => by
    have h : 2 * (n + 1) = 2 * n + 1 + 1 := by omega
    rw [h, appN_succ, appN_succ, appN_succ, appN_two r e n, mat_app2]
theorem appN_three (r : List Pc) (e : Int × Int) : ∀ n, appN (matR (r ++ r ++ r)) n e = appN (matR r) (3 * n) e
  | 0 => rfl
  | n + 1 => by
    have h : 3 * (n + 1) = 3 * n + 1 + 1 + 1 := by omega
    rw [h, appN_succ, appN_succ, appN_succ, appN_succ, appN_three r e n, mat_app2, mat_app2]
theorem app_sc' (m : Mx) (k : Int) (e : Int × Int) : m.app (sc k e) = sc k (m.app e) := by
  unfold sc Mx.app
  ext <;> dsimp <;> grind
theorem appN_sc (m : Mx) (k : Int) (e : Int × Int) : ∀ n, appN m n (sc k e) = sc k (appN m n e)
  | 0 => rfl
  | n + 1 => by
    rw [appN_succ, appN_succ, appN_sc m k e n, app_sc']
theorem low_appN {m : Mx} {e : Int × Int} (h : Pos2 e) (n : Nat) : low (appN m n (low e)) = low (appN m n e) := by
  have q : low (appN m n e) = low (appN m n (sc (gc e.1 e.2) (low e))) := by rw [← low_is h]
  rw [q, appN_sc, low_sc (gc_pos2 h)]
theorem low_app {m : Mx} {e : Int × Int} (h : Pos2 e) : low (m.app (low e)) = low (m.app e) := low_appN (m := m) h 1
theorem appN_conj (r r' : List Pc) (e : Int × Int) : ∀ n, appN (matR (r ++ r')) n ((matR r).app e) = (matR r).app (appN (matR (r' ++ r)) n e)
  | 0 => rfl
  | n + 1 => by
    rw [appN_succ, appN_succ, appN_conj r r' e n, mat_app2, mat_app2]
/-! ### which way a ladder goes -/
def goV (m : Mx) (e : Int × Int) : Int := (m.app e).1 * e.2 - e.1 * (m.app e).2
theorem sg_mul {k x : Int} (hk : 0 < k) : sg (k * x) = sg x := by
  unfold sg
  have h1 : 0 < k * x ↔ 0 < x := ⟨fun h => by
    rcases Int.lt_or_le 0 x with z | z
    · exact z
    · have := Int.mul_nonpos_of_nonneg_of_nonpos (Int.le_of_lt hk) z
      omega, fun h => Int.mul_pos hk h⟩
  have h2 : k * x < 0 ↔ x < 0 := ⟨fun h => by
    rcases Int.lt_or_le x 0 with z | z
    · exact z
    · have := Int.mul_nonneg (Int.le_of_lt hk) z
      omega, fun h => Int.mul_neg_of_pos_of_neg hk h⟩
  simp only [h1, h2]
theorem goV_sc (m : Mx) (k : Int) (e : Int × Int) : goV m (sc k e) = k * k * goV m e := by
  unfold goV sc Mx.app
  dsimp only
  grind
theorem goV_low {m : Mx} {e : Int × Int} (h : Pos2 e) : sg (goV m (low e)) = sg (goV m e) := by
  have q : goV m e = goV m (sc (gc e.1 e.2) (low e)) := by rw [← low_is h]
  rw [q, goV_sc, sg_mul (Int.mul_pos (gc_pos2 h) (gc_pos2 h))]
theorem goV_app (m : Mx) (e : Int × Int) : goV m (m.app e) = (m.a * m.d - m.b * m.c) * goV m e := by
  unfold goV Mx.app
  dsimp only
  grind
theorem goV_two (m : Mx) (e : Int × Int) : goV (m.mul m) e = (m.a + m.d) * goV m e := by
  unfold goV Mx.app Mx.mul
  dsimp only
  grind
theorem goV_appN {r : List Pc} (hr : RowOk r) (e : Int × Int) : ∀ n, sg (goV (matR r) (appN (matR r) n e)) = sg (goV (matR r) e)
  | 0 => rfl
  | n + 1 => by
    rw [appN_succ, goV_app, sg_mul (matR_ok hr).2.2.2.2, goV_appN hr e n]
theorem tr_pos {r : List Pc} (hr : RowOk r) : 0 < (matR r).a + (matR r).d ∧ 0 < (matR r).a ∧ 0 < (matR r).d := by
  obtain ⟨h1, h2, h3, h4, h5⟩ := matR_ok hr
  have h6 := Int.mul_nonneg h2 h3
  have h7 : 0 < (matR r).a * (matR r).d := by omega
  have ha : 0 < (matR r).a := by
    rcases Int.lt_or_le 0 (matR r).a with z | z
    · exact z
    · have : (matR r).a = 0 := by omega
      rw [this, Int.zero_mul] at h7
      omega
  have hd : 0 < (matR r).d := by
    rcases Int.lt_or_le 0 (matR r).d with z | z
    · exact z
    · have : (matR r).d = 0 := by omega
      rw [this, Int.mul_zero] at h7
      omega
  exact ⟨by omega, ha, hd⟩
theorem go_two {r : List Pc} (hr : RowOk r) (e : Int × Int) : sg (goV (matR (r ++ r)) e) = sg (goV (matR r) e) := by
  rw [mat_mul, goV_two, sg_mul (tr_pos hr).1]
/-! ### limits of joined ladders -/
theorem lim_scale {r R : List Pc} {k : Int} (hr : RowOk r) (hR : RowOk R) (hk : 0 < k) (hc : (matR R).c = k * (matR r).c) (hb : (matR R).b = k * (matR r).b) (hd : (matR R).d - (matR R).a = k * ((matR r).d - (matR r).a)) :
    ((matR R).c = 0 ↔ (matR r).c = 0) ∧ ((matR r).c ≠ 0 → eqL R = eqL r) := by
  obtain ⟨a1, b1, c1, d1, _⟩ := matR_ok hr
  obtain ⟨a2, b2, c2, d2, _⟩ := matR_ok hR
  have zc : ∀ x : Int, k * x = 0 ↔ x = 0 := fun x => ⟨fun h => by
    rcases Int.mul_eq_zero.mp h with z | z
    · omega
    · exact z, fun h => by rw [h, Int.mul_zero]⟩
  have ec : (matR R).c = 0 ↔ (matR r).c = 0 := by rw [hc]; exact zc _
  have eb : (matR R).b = 0 ↔ (matR r).b = 0 := by rw [hb]; exact zc _
  refine ⟨ec, fun cn => ?_⟩
  have cn' : (matR R).c ≠ 0 := fun z => cn (ec.mp z)
  unfold eqL
  by_cases bz : (matR r).b = 0
  · rw [if_pos bz, if_pos (eb.mpr bz)]
  · have bz' : (matR R).b ≠ 0 := fun z => bz (eb.mp z)
    rw [if_neg bz, if_neg bz']
    refine parts_prop (.inr ⟨by omega, by omega⟩) (.inr ⟨by omega, by omega⟩) ?_ ?_ ?_
    · rw [hc, hd]; grind
    · rw [hc, hb]; grind
    · rw [hd, hb]; grind
theorem lim_two {r : List Pc} (hr : RowOk r) : ((matR (r ++ r)).c = 0 ↔ (matR r).c = 0) ∧ ((matR r).c ≠ 0 → eqL (r ++ r) = eqL r) := by
  refine lim_scale (k := (matR r).a + (matR r).d) hr (hr.app hr) (tr_pos hr).1 ?_ ?_ ?_ <;> rw [mat_mul] <;> unfold Mx.mul <;> dsimp only <;> grind
theorem lim_three {r : List Pc} (hr : RowOk r) : ((matR (r ++ r ++ r)).c = 0 ↔ (matR r).c = 0) ∧ ((matR r).c ≠ 0 → eqL (r ++ r ++ r) = eqL r) := by
  obtain ⟨h1, h2, h3, h4, h5⟩ := matR_ok hr
  obtain ⟨_, ha, hd⟩ := tr_pos hr
  have hk : 0 < (matR r).a * (matR r).a + (matR r).a * (matR r).d + (matR r).d * (matR r).d + (matR r).b * (matR r).c := by
    have := Int.mul_pos ha ha
    have := Int.mul_pos ha hd
    have := Int.mul_pos hd hd
    have := Int.mul_nonneg h2 h3
    omega
  refine lim_scale hr ((hr.app hr).app hr) hk ?_ ?_ ?_ <;> rw [mat_mul, mat_mul] <;> unfold Mx.mul <;> dsimp only <;> grind
end RL

namespace RL
/-! ### patterns from behind -/
theorem RowOk.head1 {p : Pc} {r : List Pc} (h : RowOk (p :: r)) : RowOk [p] := fun q hq => h q (by rw [List.mem_singleton] at hq; rw [hq]; exact List.mem_cons_self)
def Mx.fl (m : Mx) : Mx := ⟨m.d, m.b, m.c, m.a⟩
theorem fl_mul (m n : Mx) : (m.mul n).fl = n.fl.mul m.fl := by
  unfold Mx.mul Mx.fl
  dsimp only
  congr 1 <;> grind
theorem fl_one (p : Pc) : (matR [p]).fl = matR [p] := by
  show (stepM m1 p).fl = stepM m1 p
  unfold stepM m1 Mx.fl
  split
  · dsimp only
    congr 1 <;> omega
  · dsimp only
    congr 1 <;> omega
theorem mat_rev (r : List Pc) : matR r.reverse = (matR r).fl := by
  induction r with
  | nil => rfl
  | cons p r ih =>
    rw [List.reverse_cons, mat_mul, ih, show p :: r = [p] ++ r from rfl, mat_mul, fl_mul, fl_one]
theorem scl_foldl (r : List Pc) : ∀ s : Int, r.foldl stepS s = s * r.foldl stepS 1 := by
  induction r with
  | nil => intro s; simp
  | cons p r ih =>
    intro s
    rw [List.foldl_cons, List.foldl_cons, ih, ih (stepS 1 p)]
    unfold stepS
    split
    · rw [Int.one_mul]
    · rw [Int.one_mul, Int.mul_assoc]
theorem scl_app (r r' : List Pc) : sclR (r ++ r') = sclR r * sclR r' := by
  unfold sclR
  rw [List.foldl_append, scl_foldl]
theorem scl_rev (r : List Pc) : sclR r.reverse = sclR r := by
  induction r with
  | nil => rfl
  | cons p r ih => rw [List.reverse_cons, scl_app, ih, show p :: r = [p] ++ r from rfl, scl_app, Int.mul_comm]
theorem four_rev (r : List Pc) : fourOf r.reverse = ((fourOf r).2.2.2, (fourOf r).2.1, (fourOf r).2.2.1, (fourOf r).1) := by
  unfold fourOf
  rw [mat_rev, scl_rev]
  rfl
/-! ### rows of both kinds -/
theorem c_pos {r : List Pc} (hr : RowOk r) (h : ∃ p ∈ r, p.1 = false) : 0 < (matR r).c := by
  induction r with
  | nil =>
    obtain ⟨p, hp, _⟩ := h
    cases hp
  | cons p r ih =>
    obtain ⟨_, a1, d1⟩ := tr_pos hr.tail
    obtain ⟨_, a2, d2⟩ := tr_pos (RowOk.head1 hr)
    obtain ⟨_, _, c1, _⟩ := matR_ok hr.tail
    obtain ⟨_, _, c2, _⟩ := matR_ok (RowOk.head1 hr)
    rw [show p :: r = [p] ++ r from rfl, mat_mul]
    show 0 < (matR [p]).c * (matR r).a + (matR [p]).d * (matR r).c
    have n1 := Int.mul_nonneg c2 (Int.le_of_lt a1)
    have n2 := Int.mul_nonneg (Int.le_of_lt d2) c1
    obtain ⟨q, hq, hf⟩ := h
    rcases List.mem_cons.mp hq with rfl | hq
    · have e : (matR [q]).c = 1 := by
        show (stepM m1 q).c = 1
        unfold stepM m1
        rw [if_neg (by rw [hf]; decide)]
        dsimp only
        omega
      rw [e, Int.one_mul]
      omega
    · have := Int.mul_pos d2 (ih hr.tail ⟨q, hq, hf⟩)
      omega
theorem b_pos {r : List Pc} (hr : RowOk r) (h : ∃ p ∈ r, p.1 = true) : 0 < (matR r).b := by
  induction r with
  | nil =>
    obtain ⟨p, hp, _⟩ := h
    cases hp
  | cons p r ih =>
    obtain ⟨_, a1, d1⟩ := tr_pos hr.tail
    obtain ⟨_, a2, d2⟩ := tr_pos (RowOk.head1 hr)
    obtain ⟨_, b1, _⟩ := matR_ok hr.tail
    obtain ⟨_, b2, _⟩ := matR_ok (RowOk.head1 hr)
    rw [show p :: r = [p] ++ r from rfl, mat_mul]
    show 0 < (matR [p]).a * (matR r).b + (matR [p]).b * (matR r).d
    have n1 := Int.mul_nonneg (Int.le_of_lt a2) b1
    have n2 := Int.mul_nonneg b2 (Int.le_of_lt d1)
    obtain ⟨q, hq, hf⟩ := h
    rcases List.mem_cons.mp hq with rfl | hq
    · have e : (matR [q]).b = q.2 := by
        show (stepM m1 q).b = q.2
        unfold stepM m1
        rw [if_pos hf]
        dsimp only
        omega
      have := hr.head.1
      have := Int.mul_pos (show 0 < (matR [q]).b by omega) d1
      omega
    · have := Int.mul_pos a2 (ih hr.tail ⟨q, hq, hf⟩)
      omega
/-! ### the two limits -/
theorem gc_neg2 (a b : Int) : gc a (-b) = gc a b := by
  unfold gc
  rw [Int.gcd_neg]
theorem rev_parts {c l b : Int} (hc : 1 ≤ c) (hb : 1 ≤ b) : ((parts c (-l) b).1 = 0 ↔ (parts c l b).1 = 0) ∧ ((parts c l b).1 = 0 → c * (parts c l b).2.2 * (parts c (-l) b).2.2 = b * (parts c l b).2.1 * (parts c (-l) b).2.1) ∧
    ((parts c l b).1 ≠ 0 → parts c (-l) b = ((parts c l b).1, -(parts c l b).2.1, (parts c l b).2.2)) := by
  have cz : ¬ c = 0 := by omega
  unfold parts
  rw [if_neg cz, if_neg cz, show -l * -l = l * l by grind]
  by_cases sq : rt (l * l + 4 * c * b) * rt (l * l + 4 * c * b) = l * l + 4 * c * b
  · rw [if_pos sq, if_pos sq]
    generalize rt (l * l + 4 * c * b) = ρ at *
    refine ⟨Iff.rfl, fun _ => ?_, fun z => absurd rfl z⟩
    have g1 : 0 < gc (ρ - l) (2 * c) := gc_pos (.inr (by omega))
    have g2 : 0 < gc (ρ - -l) (2 * c) := gc_pos (.inr (by omega))
    have t1 := ex_mul (gc_dvd1 (ρ - l) (2 * c)) g1
    have u1 := ex_mul (gc_dvd2 (ρ - l) (2 * c)) g1
    have t2 := ex_mul (gc_dvd1 (ρ - -l) (2 * c)) g2
    have u2 := ex_mul (gc_dvd2 (ρ - -l) (2 * c)) g2
    dsimp only
    generalize (ρ - l) / gc (ρ - l) (2 * c) = x1 at *
    generalize 2 * c / gc (ρ - l) (2 * c) = y1 at *
    generalize (ρ - -l) / gc (ρ - -l) (2 * c) = x2 at *
    generalize 2 * c / gc (ρ - -l) (2 * c) = y2 at *
    generalize gc (ρ - l) (2 * c) = k1 at *
    generalize gc (ρ - -l) (2 * c) = k2 at *
    have hk : k1 * k2 ≠ 0 := by
      have := Int.mul_pos g1 g2
      omega
    refine Int.eq_of_mul_eq_mul_left hk ?_
    have e1 : k1 * k2 * (c * x1 * x2) = c * ((k1 * x1) * (k2 * x2)) := by grind
    have e2 : k1 * k2 * (b * y1 * y2) = b * ((k1 * y1) * (k2 * y2)) := by grind
    rw [e1, e2]
    grind
  · rw [if_neg sq, if_neg sq, gc_neg2]
    have g1 : 0 < gc c l := gc_pos (.inl (by omega))
    have g0 : 0 < gc (gc c l) b := gc_pos (.inr (by omega))
    have dc : gc (gc c l) b ∣ c := Int.dvd_trans (gc_dvd1 _ _) (gc_dvd1 _ _)
    have dl : gc (gc c l) b ∣ l := Int.dvd_trans (gc_dvd1 _ _) (gc_dvd2 _ _)
    have cp : c / gc (gc c l) b ≠ 0 := fun z => by
      have := ex_mul dc g0
      rw [z, Int.mul_zero] at this
      omega
    dsimp only
    refine ⟨Iff.rfl, fun z => absurd z cp, fun _ => ?_⟩
    rw [Int.neg_ediv_of_dvd dl]
theorem pal_parts {c b : Int} (hc : 1 ≤ c) (h : (parts c 0 b).2.1 ≠ 0) : (parts c 0 b).1 = 0 := by
  have cz : ¬ c = 0 := by omega
  unfold parts at *
  rw [if_neg cz] at *
  split
  · rfl
  · rename_i sq
    rw [if_neg sq] at h
    exact absurd (Int.zero_ediv _) h
end RL

set_option maxHeartbeats 2000000
namespace RL
open PySem L2 PySem.Spec PyProof.Rows
/-! ### equal patterns -/
def D4 (r : List Pc) : PyData := .tuple [.tuple [.int (fourOf r).1.1, .int (fourOf r).1.2], .tuple [.int (fourOf r).2.1.1, .int (fourOf r).2.1.2], .tuple [.int (fourOf r).2.2.1.1, .int (fourOf r).2.2.1.2], .tuple [.int (fourOf r).2.2.2.1, .int (fourOf r).2.2.2.2]]
theorem eqv_D4 (r r' : List Pc) : PyData.eqv (D4 r) (D4 r') = decide (fourOf r = fourOf r') := by
  rw [Bool.eq_iff_iff]
  simp [D4, PyData.eqv, PyData.eqvAll, Prod.ext_iff, and_assoc]
theorem sh_D4 (r : List Pc) : SeqAt.shaped (D4 r) = true := by
  simp [D4, SeqAt.shaped, PyData.canLay0, PyData.canLayAll0, PyData.depth, PyData.depthAll]
theorem dp_D4 {K : PySem.W.Frag} {C : Addr} {H : Hp} {x : Addr} {r : List Pc} (h : PatAt C H x r) : ∃ dx q m f, H x = some (.ins C dx (PF q m f (sclR r))) ∧ Dp K H (.ref f) (D4 r) := by
  obtain ⟨dx, q, m, f, ws, f1, f2, f3, f4, h1, h2, h3, h4, h5, h6, h7, h8, h9⟩ := h
  have dp : ∀ {t : Addr} {z s : Int}, FrAt H t z s → Dp K H (.ref t) (.tuple [.int (low (z, s)).1, .int (low (z, s)).2]) := fun h => .tup (SqT.of h) (.cons (.int _) (.cons (.int _) .nil))
  exact ⟨dx, q, m, f, h1, .tup (SqT.of h5) (.cons (dp h6) (.cons (dp h7) (.cons (dp h8) (.cons (dp h9) .nil))))⟩
def spEqP (C : Addr) : Sp := fun vs H Q _ => ∃ (x y : Addr) (r r' : List Pc), vs = [.ref x, .ref y] ∧ PatAt C H x r ∧ PatAt C H y r' ∧ Q (.bl (decide (fourOf r = fourOf r'))) H
def spRowT : Sp := fun vs H Q _ => ∃ (q : Addr) (ws : List V) (r : List Pc), vs = [.ref q] ∧ H q = some (.tup ws) ∧ PiecesAt H ws r ∧ RowOk r ∧ r.length ≤ 8 ∧ ∀ H', Same H H' → Q (.str (rowTx r)) H'
def spPStr (C : Addr) : Sp := fun vs H Q _ => ∃ (x : Addr) (r : List Pc), vs = [.ref x] ∧ PatAt C H x r ∧ RowOk r ∧ r.length ≤ 8 ∧ ∀ H', Same H H' → Q (.str (rowTx r)) H'
structure OwT2 (P : Program) (w : World) (K : PySem.W.Frag) (mg : Str → Option Value) (base : Heap) (C g : Addr) (fd : FuncData) : Prop where
  at_ : PySem.W.findIn K (.ref C) "__str__" = some (some (.ref g))
  fn : PySem.W.isFn K (.ref g) = true
  ok : FnOk P w K mg base CX0 3 g fd ["self"] (spPStr C)
  b : Binds K fd ["self"] []
def CpsOk (x : Str) : Prop := ∀ c ∈ x.cps.toList, c < 16 ^ 8
theorem CpsOk.app {x y : Str} (h : CpsOk x) (k : CpsOk y) : CpsOk (x ++ y) := fun c hc => by
  have e : (x ++ y).cps.toList = x.cps.toList ++ y.cps.toList := by
    show (x.cps ++ y.cps).toList = _
    rw [Array.toList_append]
  rw [e] at hc
  exact (List.mem_append.mp hc).elim (h c) (k c)
theorem cps_join {y : Str} (hy : CpsOk y) : ∀ {l : List Str}, (∀ x ∈ l, CpsOk x) → CpsOk (Str.join y l)
  | [], _ => fun c hc => absurd (show c ∈ ([] : List Nat) from hc) (by simp)
  | [x], h => h x List.mem_cons_self
  | x :: z :: l, h => by
    show CpsOk (x ++ y ++ Str.join y (z :: l))
    exact ((h x List.mem_cons_self).app hy).app (cps_join hy fun a ha => h a (List.mem_cons_of_mem _ ha))
theorem cps_wd : ∀ r : Bool, CpsOk (wd r) := fun r => by
  cases r
  · exact (OkT.of "rung").cps
  · exact (OkT.of "rail").cps
theorem cps_ptx (p : Pc) : CpsOk (ptx p) := ((cps_wd p.1).app (OkT.of " ").cps).app (OkT.of (toString p.2)).cps
theorem rowTx_cps (r : List Pc) : CpsOk (rowTx r) := by
  unfold rowTx
  rw [TL.join_eq]
  exact cps_join (OkT.of ", ").cps fun x hx => by
    obtain ⟨p, _, rfl⟩ := List.mem_map.mp hx
    exact cps_ptx p
theorem rowTx_ok {r : List Pc} (hok : RowOk r) (l8 : r.length ≤ 8) : OkT 100 (rowTx r) := ⟨rowTx_len hok l8, rowTx_cps r⟩
def spPRep (C : Addr) : Sp := fun vs H Q _ => ∃ (x : Addr) (r : List Pc), vs = [.ref x] ∧ PatAt C H x r ∧ RowOk r ∧ r.length ≤ 8 ∧ ∀ H', Same H H' → Q (.str (Str.ofString "Pattern(" ++ rowTx r ++ Str.ofString ")")) H'
def spPcs (C : Addr) : Sp := fun vs H Q _ => ∃ (x : Addr) (r : List Pc), vs = [.ref x] ∧ PatAt C H x r ∧ ∀ q ws, H q = some (.tup ws) → PiecesAt H ws r → Q (.ref q) H
def spPLen (C : Addr) : Sp := fun vs H Q _ => ∃ (x : Addr) (r : List Pc), vs = [.ref x] ∧ PatAt C H x r ∧ Q (.int (r.length : Int)) H
def spAddN (C CT : Addr) : Sp := fun vs H Q E => ∃ (x y : Addr) (r r' : List Pc), vs = [.ref x, .ref y] ∧ PatAt C H x r ∧ PatAt C H y r' ∧ RowOk r ∧ RowOk r' ∧ 1 ≤ r.length ∧ 1 ≤ r'.length ∧ r.length ≤ 8 ∧ r'.length ≤ 8 ∧
  (r.length + r'.length ≤ 8 → ∀ H' z, Same H H' → H z = none → PatAt C H' z (r ++ r') → Q (.ref z) H') ∧ (8 < r.length + r'.length → ∀ H' d, Same H H' → H' d = some (.xd [(Str.ofString "most", .int 8)]) → E (.ref CT) (some d) H')
/-- an error's class as it is raised -/
structure Rz (P : Program) (w : World) (K : PySem.W.Frag) (mg : Str → Option Value) (base : Heap) (c : Nat → Addr) (j : Nat) (f : Str) : Prop where
  m : XM P w K mg base 2 (c j) ["self", f] (spI K f)
  ty : PySem.W.typeIn K (.ref (c j)) = some (.type "type")
  no : PySem.W.findIn K (.ref (c j)) f = some none
section
variable {P : Program} {w : World} {K : PySem.W.Frag} {mg : Str → Option Value} {base : Heap} {tG t1 t2 t3 : Tok} {aO aW J C fP fJ : Addr} {fdJ : FuncData}
abbrev s_row_text : Stmt := top 52
theorem sc_row_text : FnScope ["row", "word", "ohms"] ["row"] (defScope s_row_text) := ⟨rfl, rfl, rfl, by decide +kernel, rfl, by decide +kernel, by decide +kernel⟩

theorem ok_rowt {f : Addr} {fd : FuncData} (F : Fun K "row_text" "row_text" s_row_text f fd) (T : Txt K mg) (D_piece_text : Df P w K mg base 1 "piece_text" ["word", "ohms"] spPtx) : FnOk P w K mg base CX0 2 f fd ["row"] spRowT := by
  refine F.ok sc_row_text (fun vs H Q E h => ?_) (fun cdv A outer s H vs Q E hr h => ?_)
  · obtain ⟨q, ws, r, rfl, _⟩ := h
    rfl
  · obtain ⟨a, ws, r, rfl, ha, hw, hok, l8, k⟩ := h
    refine ⟨_, (pss_one (ps_ret (pe_join pe_str (pe_lc (own := [("word", 1), ("ohms", 2)]) (g := gTup K 2 (gCons (gName 1) (gCons (gName 2) gNil))) (tt := tYes) rfl sc_row_text.nd (pi_tup (pv 0)) (blkOk_by (N := ["row", "word", "ohms"]) (sc := defScope s_row_text) (by decide +kernel)) (fun _ _ _ _ _ => pg_tup rfl (pgs_cons (pg_name (i := 1) sc_row_text.nd rfl (Or.inl rfl)) (pgs_cons (pg_name (i := 2) sc_row_text.nd rfl (Or.inl rfl)) pgs_nil))) (fun _ _ _ _ _ => pts_nil) (fun _ _ _ _ _ => (pe_df D_piece_text (hr.mono (by decide)) (by rfl) (pa_cons (pv 1) (pa_cons (pv 2) pa_nil)))))))), ?_⟩
    refine ⟨⟨_, rfl⟩, _, rfl, a, rfl, ⟨_, SqT.of ha⟩, fun D hD => ?_⟩
    refine lc_tup (K := K) (a := a) (xs := ws) (fun i H' => But D H H' ∧ H' D = some (.lst (((r.take i).map ptx).map V.str))) ⟨But.upd, upd_same⟩ (fun i H' _ h => SqT.of (h.1 _ _ (ne_of_none ha hD) ha)) ?_ ?_
    · rintro i y H1 hi ⟨bD, hDi⟩
      obtain ⟨pc, hpc, t, rfl, ht⟩ := hw.at_ hi
      have ht1 := bD _ _ (ne_of_none ht hD) ht
      have ok := hok.at_ hpc
      refine ⟨t, _, rfl, SqT.of ht1, rfl, _, _, rfl, _, _, rfl, rfl, rfl, ?_⟩
      unfold tYes
      refine iteT ?_
      refine ⟨_, rfl, _, rfl, pc, rfl, ok, _, hDi, ?_, ?_, ?_⟩
      · rw [List.length_map, List.length_map, List.length_take]
        exact small1000 (by omega)
      · intro q o nq e
        rw [upd_ne nq]
        exact bD _ _ nq e
      · rw [upd_same, List.take_succ, hpc]
        simp only [Option.toList, List.map_append, List.map_cons, List.map_nil]
    · rintro H1 ⟨bD, hDn⟩
      rw [hw.1, List.take_length] at hDn
      refine ⟨_, D, r.map ptx, rfl, rfl, .inl (SqL.of hDn), ?_, ?_⟩
      · have h2 := sum_len hok
        have h3 : (Str.ofString ", ").length = 2 := by decide +kernel
        rw [List.length_map]
        show _ + r.length * (Str.ofString ", ").length ≤ 16777216
        rw [h3]
        omega
      · exact k _ fun q o e => bD _ _ (ne_of_none e hD) e
abbrev s_Pattern_str : Stmt := inClass (top 47) 8
theorem sc_Pattern_str : FnScope ["self"] ["self"] (defScope s_Pattern_str) := ⟨rfl, rfl, rfl, by decide +kernel, rfl, by decide +kernel, by decide +kernel⟩

theorem ok_pstr {f : Addr} {fd : FuncData} (F : Fun K "__str__" "Pattern.__str__" s_Pattern_str f fd) (T : Txt3 K mg tG t1 t2 t3 aO aW J C) (D_row_text : Df P w K mg base 2 "row_text" ["row"] spRowT) : FnOk P w K mg base CX0 3 f fd ["self"] (spPStr C) := by
  refine F.ok sc_Pattern_str (fun vs H Q E h => ?_) (fun cdv A outer s H vs Q E hr h => ?_)
  · obtain ⟨x, r, rfl, _⟩ := h
    rfl
  · obtain ⟨x, r, rfl, hP, hok, l8, k⟩ := h
    refine ⟨_, (pss_one (ps_ret (pe_callTy SkE.call_str_str (by rfl) T.str_ (by decide +kernel) (pa_cons (pe_df D_row_text (hr.mono (by decide)) (by rfl) (pa_cons (pe_fld (pv 0) rfl) pa_nil)) pa_nil)))), ?_⟩
    obtain ⟨dx, q, m, f', ws, f1, f2, f3, f4, hx, hq, hw, hm, _⟩ := hP
    exact ⟨_, rfl, x, C, dx, _, _, rfl, hx, T.cl, T.nRow, lkR _ _ _, q, ws, r, rfl, hq, hw, hok, l8, fun H' s' => ⟨_, rfl, k _ s'⟩⟩
abbrev s_Pattern_repr : Stmt := inClass (top 47) 9
theorem sc_Pattern_repr : FnScope ["self"] ["self"] (defScope s_Pattern_repr) := ⟨rfl, rfl, rfl, by decide +kernel, rfl, by decide +kernel, by decide +kernel⟩

theorem ok_prep {f : Addr} {fd : FuncData} (F : Fun K "__repr__" "Pattern.__repr__" s_Pattern_repr f fd) (T : Txt3 K mg tG t1 t2 t3 aO aW J C) (D_row_text : Df P w K mg base 2 "row_text" ["row"] spRowT) : FnOk P w K mg base CX0 3 f fd ["self"] (spPRep C) := by
  refine F.ok sc_Pattern_repr (fun vs H Q E h => ?_) (fun cdv A outer s H vs Q E hr h => ?_)
  · obtain ⟨x, r, rfl, _⟩ := h
    rfl
  · obtain ⟨x, r, rfl, hP, hok, l8, k⟩ := h
    refine ⟨_, (pss_one (ps_ret (pe_joined (PJ.cons pe_str (PJ.cons (pe_fmt (pe_df D_row_text (hr.mono (by decide)) (by rfl) (pa_cons (pe_fld (pv 0) rfl) pa_nil))) (PJ.cons pe_str PJ.nil)))))), ?_⟩
    obtain ⟨dx, q, m, f', ws, f1, f2, f3, f4, hx, hq, hw, hm, _⟩ := hP
    have o1 : OkT 8 (Str.empty ++ Str.ofString "Pattern(") := by
      rw [Str.empty_append]
      exact OkT.of "Pattern("
    have ot : OkT 100 (rowTx r) := rowTx_ok hok l8
    have o2 := o1.app ot
    have o3 := o2.app (OkT.of ")")
    refine ⟨_, rfl, o1.fits, _, rfl, x, C, dx, _, _, rfl, hx, T.cl, T.nRow, lkR _ _ _, q, ws, r, rfl, hq, hw, hok, l8, fun H' s' => .inl ⟨_, rfl, ot.fits, _, rfl, o2.fits, _, rfl, o3.fits, ?_⟩⟩
    show Q (.str (((Str.empty ++ Str.ofString "Pattern(") ++ rowTx r) ++ Str.ofString ")")) H'
    rw [Str.empty_append]
    exact k _ s'
abbrev s_Pattern_pieces : Stmt := inClass (top 47) 2
theorem sc_Pattern_pieces : FnScope ["self"] ["self"] (defScope s_Pattern_pieces) := ⟨rfl, rfl, rfl, by decide +kernel, rfl, by decide +kernel, by decide +kernel⟩

theorem ok_pcs {f : Addr} {fd : FuncData} (F : Fun K "pieces" "Pattern.pieces" s_Pattern_pieces f fd) (T : Txt3 K mg tG t1 t2 t3 aO aW J C) : FnOk P w K mg base CX0 1 f fd ["self"] (spPcs C) := by
  refine F.ok sc_Pattern_pieces (fun vs H Q E h => ?_) (fun cdv A outer s H vs Q E hr h => ?_)
  · obtain ⟨x, r, rfl, _⟩ := h
    rfl
  · obtain ⟨x, r, rfl, hP, k⟩ := h
    refine ⟨_, (pss_one (ps_ret (pe_fld (pv 0) rfl))), ?_⟩
    obtain ⟨dx, q, m, f', ws, f1, f2, f3, f4, hx, hq, hw, hm, _⟩ := hP
    exact ⟨_, rfl, x, C, dx, _, _, rfl, hx, T.cl, T.nRow, lkR _ _ _, k q ws hq hw⟩
abbrev s_Pattern_len : Stmt := inClass (top 47) 7
theorem sc_Pattern_len : FnScope ["self"] ["self"] (defScope s_Pattern_len) := ⟨rfl, rfl, rfl, by decide +kernel, rfl, by decide +kernel, by decide +kernel⟩

theorem ok_plen {f : Addr} {fd : FuncData} (F : Fun K "__len__" "Pattern.__len__" s_Pattern_len f fd) (T : Txt3 K mg tG t1 t2 t3 aO aW J C) : FnOk P w K mg base CX0 1 f fd ["self"] (spPLen C) := by
  refine F.ok sc_Pattern_len (fun vs H Q E h => ?_) (fun cdv A outer s H vs Q E hr h => ?_)
  · obtain ⟨x, r, rfl, _⟩ := h
    rfl
  · obtain ⟨x, r, rfl, hP, k⟩ := h
    refine ⟨_, (pss_one (ps_ret (pe_callB call_len_seq (by rfl) T.len (by decide +kernel) (pa_cons (pe_fld (pv 0) rfl) pa_nil)))), ?_⟩
    obtain ⟨dx, q, m, f', ws, f1, f2, f3, f4, hx, hq, hw, hm, _⟩ := hP
    rw [← hw.1] at k
    exact ⟨_, rfl, x, C, dx, _, _, rfl, hx, T.cl, T.nRow, lkR _ _ _, q, _, rfl, .inr (SqT.of hq), k⟩
/-- a + b, more than eight pieces: the error -/
theorem ok_addN {f : Addr} {fd : FuncData} {c : Nat → Addr} (F : Fun K "__add__" "Pattern.__add__" s_Pattern_add f fd) (T : Txt3 K mg tG t1 t2 t3 aO aW J C) (TE : TxE mg c) (RZ15 : Rz P w K mg base c 15 "most") (X_pat : PatD P w K mg base C J fP) (X_join : JoinD P w K mg base J fJ fdJ) : FnOk P w K mg base (L2N.CX P w) 7 f fd ["self", "other"] (spAddN C (c 15)) := by
  refine okN F sc_Pattern_add (fun vs H Q E h => ?_) (fun cdv A outer s H vs Q E hr h => ?_)
  · obtain ⟨x, y, r, r', rfl, _⟩ := h
    rfl
  · obtain ⟨x, y, r, r', rfl, hP, hP', hok, hok', l1, l1', l8, l8', k, k2⟩ := h
    refine ⟨_, (pss_cons (ps_set (i := 2) sc_Pattern_add.nd rfl (.inl rfl) (pe_op op_catA (pe_fld (pv 0) rfl) (pe_fld (pv 1) rfl)))
      (pss_cons (ps_if (pt_cmpR op_gt (pe_callB call_len_seq (by rfl) T.len (by decide +kernel) (pa_cons (pv 2) pa_nil)) (pe_glob (v := .int 8) rfl T.mgJo ⟨_, rfl⟩) (nomark _)) (pss_one (ps_raiseX RZ15.m RZ15.ty RZ15.no (hr.mono (by decide)) (by rfl) TE.m15 (pe_glob (v := .int 8) rfl T.mgJo ⟨_, rfl⟩) rfl (L2N.takes_of rfl rfl rfl rfl))) pss_nil)
      (pss_one (ps_ret (StX.pe_makeR X_pat.m X_pat.fn (hr.mono (by decide)) rfl T.mgC pass0 (pa_cons (pe_make X_join.m X_join.fn (hr.mono (by decide)) rfl T.mgJ X_join.bd .nil pass0 (pa_cons (pv 2) pa_nil)) pa_nil)))))), ?_⟩
    obtain ⟨dx, q, m, f', ws, f1, f2, f3, f4, hx, hq, hw, hm, _⟩ := hP
    obtain ⟨dy, q', m', g', ws', g1, g2, g3, g4, hy, hq', hw', hm', _⟩ := hP'
    have e1 := hw.1
    have e2 := hw'.1
    refine ⟨_, rfl, x, C, dx, _, _, rfl, hx, T.cl, T.nRow, lkR _ _ _, _, rfl, y, C, dy, _, _, rfl, hy, T.cl, T.nRow, lkR _ _ _, q, q', ws, ws', rfl, rfl, SqT.of hq, SqT.of hq', Nat.le_trans (by omega) (small1000 (show 16 ≤ 1000 by decide)), fun z => ?_, fun _ z => ?_, fun _ _ p np => ?_⟩
    · rw [z] at e1
      have : ([] : List V).length = 0 := rfl
      omega
    · rw [z] at e2
      have : ([] : List V).length = 0 := rfl
      omega
    have s1 := same_upd (o := .tup (ws ++ ws')) np
    have hp : (upd H p (.tup (ws ++ ws'))) p = some (.tup (ws ++ ws')) := upd_same
    have hpp := (hw.app hw').same s1
    refine ⟨_, rfl, p, _, rfl, .inr (SqT.of hp), _, _, rfl, rfl, _, rfl, ite2 (fun e => ?_) (fun e => ?_)⟩
    · have h1 := of_decide_eq_true e
      rw [List.length_append] at h1
      exact fun d nd => k2 (by omega) _ d (s1.trans (same_upd nd)) upd_same
    have h1 : ¬ (8 : Int) < ((ws ++ ws').length : Int) := fun z => e (decide_eq_true z)
    rw [List.length_append] at h1
    exact ⟨_, rfl, make_pat hp hpp (hok.app hok') (by rw [List.length_append]; omega) (by rw [List.length_append]; omega) fun H' z s2 nz hz => k (by omega) H' z (s1.trans s2) (s1.free nz) hz⟩
end
end RL

set_option maxHeartbeats 2000000
/-! The end of a law whose defs make lambdas: the tables of their code objects are tracked; no repr is under way. -/
namespace RL
open PySem L2 PySem.Spec PyProof.Rows
/-- the abstract heap of the start: the script (unless it is written), the tables -/
def startH (a : Addr) (sc : Option HO) (ts : List Addr) : Hp := fun b => if b = a then sc else if b ∈ ts then some (.tbl #[]) else none
theorem startH_a {a : Addr} {sc : Option HO} {ts : List Addr} : startH a sc ts a = sc := if_pos rfl
theorem startH_t {a b : Addr} {sc : Option HO} {ts : List Addr} (h : b ∈ ts) (n : b ≠ a) : startH a sc ts b = some (.tbl #[]) := (if_neg n).trans (if_pos h)
theorem startH_n {a b : Addr} {sc : Option HO} {ts : List Addr} (h : b ∉ ts) (n : b ≠ a) : startH a sc ts b = none := (if_neg n).trans (if_neg h)
theorem law_runT {P : Program} {w : World} {K : PySem.W.Frag} {mg mb : Str → Option Value} {k : Nat} {fa a : Addr} {cs : List (Addr × Addr)} {fd : FuncData} {x : Str} {sp : Sp} {s1 : Shared} {vs : List Value} {xs : List V} {sc : Option HO}
    (KX : K.In s1.heap) (hns : s1.heap.Ns mainGlobals mg) (hb : s1.heap.Ns builtinsNs mb) (hbb : ∀ x : Str, x ≠ "__name__" → mb x = bootBuiltins x) (hlim : s1.heap.NoLimit) (hgen : s1.gens = #[])
    (hT : ∀ p ∈ cs, s1.heap.get? p.2 = some { cls := .none, data := .fields #[] }) (nT : ∀ p ∈ cs, K.lookup p.2 = none) (hC : ∀ p ∈ cs, PySem.W.CodeHd s1.heap p.1 p.2)
    (hbm : ∃ (bm : Addr) (ob : Obj), mg "__builtins__" = some (.ref bm) ∧ bm ≠ builtinsNs ∧ s1.heap.get? bm = some ob ∧ ob.cls = .type "module" ∧ ob.dict = some builtinsNs ∧ ob.data = .plain)
    (ha : s1.heap.get? a = some { cls := .type "list", data := .seq vs.toArray }) (hr : Room k callerA)
    (F : ∀ base : Heap, K.In base → base.Ns mainGlobals mg → (∀ p ∈ cs, LamX.TabB base mg p.1 p.2) → FnG P w K mg base k fa fd [x] sp) (hbind : ∀ (s : Shared) (u : Value), BindsTo s fd ⟨[u], []⟩ [(x, u)])
    (hsc : sc = none ∨ (K.lookup a = none ∧ sc = some (.frz { cls := .type "list", data := .seq vs.toArray } (.lst xs)))) (hokA : ∀ u, sc = some u → ObjOk P w (startH a sc (cs.map (·.2))) s1.heap a u)
    (hsp : sp [.ref a] (startH a sc (cs.map (·.2))) (fun v _ => v = .bl true) fun _ _ _ => False) :
    codeAny (model P w) callerA (.call (.ref fa) ⟨[.ref a], []⟩) (fun r s' => r = .ok (.ret (.bool true)) ∧ OldK s1.heap s'.heap ∧ s'.os = s1.os ∧ AllBare s'.gens) s1 := by
  have isT : ∀ b : Addr, b ∈ cs.map (·.2) → s1.heap.get? b = some { cls := .none, data := .fields #[] } := fun b hb => by
    obtain ⟨p, hp, e⟩ := List.mem_map.mp hb
    rw [← e]
    exact hT p hp
  have memT : ∀ p ∈ cs, p.2 ∈ cs.map (·.2) := fun p hp => List.mem_map.mpr ⟨p, hp, rfl⟩
  have aT : ∀ b, b ∈ cs.map (·.2) → b ≠ a := fun b hb z => by
    have q := isT b hb
    rw [z, ha] at q
    have z' : Data.seq vs.toArray _ = Data.fields #[] := congrArg Obj.data (Option.some.inj q)
    cases z'
  generalize hH : startH a sc (cs.map (·.2)) = H at *
  have HT : ∀ b, b ∈ cs.map (·.2) → H b = some (.tbl #[]) := fun b hb => by rw [← hH]; exact startH_t hb (aT b hb)
  have HA : H a = sc := by rw [← hH]; exact startH_a
  have HN : ∀ b, b ∉ cs.map (·.2) → b ≠ a → H b = none := fun b hb n => by rw [← hH]; exact startH_n hb n
  -- what is neither the script nor a table is not tracked
  have free : ∀ {b : Addr} {o : Obj}, s1.heap.get? b = some o → (∀ ys n, o.data ≠ .seq ys n) → o.data ≠ .fields #[] → H b = none := fun {b o} e n1 n2 => by
    refine HN b (fun z => ?_) fun z => ?_
    · rw [isT b z] at e
      cases e
      exact n2 rfl
    · rw [z, ha] at e
      cases e
      exact n1 _ _ rfl
  have ns1 : ∀ {b : Addr} {m : Str → Option Value}, s1.heap.Ns b m → (hidT s1.heap H).Ns b m := fun {b m} ⟨o, es, ep, e, d, r⟩ => ⟨o, es, ep, hidT_get e (free e (fun _ _ z => by rw [d] at z; cases z) fun z => by rw [d] at z; cases z), d, r⟩
  have kin : K.In (hidT s1.heap H) := fun b o e => hidT_get (KX b o e) (by
    by_cases hb : b ∈ cs.map (·.2)
    · obtain ⟨p, hp, ep⟩ := List.mem_map.mp hb
      rw [← ep, nT p hp] at e
      cases e
    · by_cases hb2 : b = a
      · rw [hb2, HA]
        rcases hsc with z | ⟨z, _⟩
        · exact z
        · rw [hb2, z] at e
          cases e
      · exact HN b hb hb2)
  have hok : HOk P w H s1.heap := fun b u e => by
    by_cases hb : b ∈ cs.map (·.2)
    · rw [HT b hb] at e
      cases e
      exact isT b hb
    · by_cases hb2 : b = a
      · subst hb2
        rw [HA] at e
        exact hokA u e
      · rw [HN b hb hb2] at e
        cases e
  obtain ⟨mc, c1, c2⟩ := hlim
  have TB : ∀ p ∈ cs, LamX.TabB (hidT s1.heap H) mg p.1 p.2 := fun p hp => by
    have hTp := hT p hp
    refine ⟨?_, ?_, fun z => ?_⟩
    · obtain ⟨o, us, file, tf, flags, tg, inF, text, tt, e1, r1, r2, r3, r4, r5, r6, r7, r8, hne⟩ := hC p hp
      refine ⟨o, us, file, tf, flags, tg, inF, text, tt, hidT_get e1 (free e1 (fun _ _ z => by rw [r2] at z; cases z) fun z => ?_), r1, r2, r3, r4, r5, r6, r7, r8, hne⟩
      rw [r2] at z
      cases z
      simp at r3
    · obtain ⟨bm, ob, b1, b2, b3, b4, b5, b6⟩ := hbm
      have nG : bm ≠ mainGlobals := fun q => by
        obtain ⟨o, es, ep, e, hd, _⟩ := hns
        rw [q, e] at b3
        cases b3
        rw [hd] at b6
        cases b6
      have nP : bm ≠ p.2 := fun q => by
        rw [q, hTp] at b3
        cases b3
        cases b6
      exact ⟨bm, ob, b1, b2, nG, nP, hidT_get b3 (free b3 (fun _ _ z => by rw [b6] at z; cases z) fun z => by rw [b6] at z; cases z), b4, b5, b6⟩
    · obtain ⟨o, es, ep, e, hd, _⟩ := hns
      rw [z, hTp] at e
      cases e
      cases hd
  have e0 : Env0 P w K mg (hidT s1.heap H) callerA [] s1 H :=
    { frames := rfl, mod := ⟨kin, ns1 hns, ⟨mb, ns1 hb, hbb⟩, ⟨mc, ns1 c1, c2⟩⟩, bs := fun b o e => of_hidT e, bsz := Nat.le_of_eq (hidT_size _ _), funs := trivial, frf := fun b z => absurd (show b ∈ ([] : List Addr) from z) (by simp), hok := hok, bare := .of_eq hgen }
  refine codeAny_mono ((F _ kin (ns1 hns) TB).run callerA [] s1 H ⟨[.ref a], []⟩ [.ref a] [.ref a] _ _ rfl hr e0 (hbind s1 (.ref a)) (.cons rfl .nil) hsp) fun r s' h => ?_
  match r, h with
  | .ok (.ret u), ⟨v, H', os, bare, un, hok', r', q⟩ =>
    cases (show v = V.bl true from q)
    cases (show u = Value.bool true from r')
    have grown : ∀ p ∈ cs, ∃ more : Array Value, s'.heap.get? p.2 = some { cls := .none, data := .fields more } := fun p hp => by
      obtain ⟨more, z⟩ := un.tbls p.2 #[] (HT p.2 (memT p hp))
      exact ⟨_, hok' p.2 _ z⟩
    have key : ∀ b o, b ∉ cs.map (·.2) → s1.heap.get? b = some o → s'.heap.get? b = some o := fun b o nb e => by
      cases q2 : H b with
      | none => exact un.keep b o e q2 (fun z => absurd (show b ∈ ([] : List Addr) from z) (by simp)) (by simp)
      | some u =>
        have hba : b = a := Classical.byContradiction fun z => by
          rw [HN b nb z] at q2
          cases q2
        subst hba
        rw [HA] at q2
        rcases hsc with z | ⟨_, z⟩
        · rw [z] at q2
          cases q2
        · have q3 : H b = some (.frz { cls := .type "list", data := .seq vs.toArray } (.lst xs)) := by rw [HA, z]
          obtain ⟨e1, _⟩ := hok b _ q3
          obtain ⟨e2, _⟩ := hok' b _ (un.frzs b _ _ q3)
          rw [e] at e1
          cases e1
          exact e2
    refine ⟨rfl, ⟨fun b o e => ?_, fun b o e => ?_⟩, os, bare⟩
    · by_cases hb : b ∈ cs.map (·.2)
      · obtain ⟨p, hp, ep⟩ := List.mem_map.mp hb
        obtain ⟨more, hm⟩ := grown p hp
        rw [← ep] at e ⊢
        rw [hT p hp] at e
        cases e
        exact .inr (.inl ⟨((hC p hp).tab (hT p hp)).isCodeTable, rfl, #[], more, rfl, by rw [Array.empty_append]; exact hm⟩)
      · exact .inl (key b o hb e)
    · by_cases hb : b ∈ cs.map (·.2)
      · obtain ⟨p, hp, ep⟩ := List.mem_map.mp hb
        obtain ⟨more, hm⟩ := grown p hp
        rw [← ep]
        exact ⟨_, hm⟩
      · exact ⟨o, key b o hb e⟩
/-- what is known of the law's promise at the head's heap h -/
def LawT (l : PySem.W.OpenLaw) (w : World) (K : PySem.W.Frag) (k n : Nat) (x : Str) (mg : Str → Option Value) (fa : Addr) (h : Heap) : Prop :=
  ∃ (fd : FuncData) (cs : List (Addr × Addr)) (sp : Sp), (∀ p ∈ cs, h.get? p.2 = some { cls := .none, data := .fields #[] }) ∧ (∀ p ∈ cs, K.lookup p.2 = none) ∧ (∀ p ∈ cs, PySem.W.CodeHd h p.1 p.2) ∧ (∀ (s : Shared) (u : Value), BindsTo s fd ⟨[u], []⟩ [(x, u)]) ∧
    (∀ (H : Hp) (a : Addr) (ns : List Int), ns.length ≤ n → (∀ p ∈ cs, H p.2 = some (.tbl #[])) → SqL K H a (ns.map V.int) → sp [.ref a] H (fun v _ => v = .bl true) fun _ _ _ => False) ∧
    ∀ base : Heap, K.In base → base.Ns mainGlobals mg → (∀ p ∈ cs, LamX.TabB base mg p.1 p.2) → FnG l.prog w K mg base k fa fd [x] sp
theorem walk_ofT {l : PySem.W.OpenLaw} {n k : Nat} {q : Program} {loose : List Str} {XP : (Str → Option Value) → Heap → Prop} {YP : World → Heap → Prop} {d : DefRec} {K : Params → PySem.W.Frag} {x : Str}
    (hn : l.most = some n) (hn2 : n ≤ sizeLine) (hdf : d.params.defaults = []) (hr : Room k callerA) (hY : ∀ (w : World) (h : Heap), YP w h → (K w.params).In h)
    (F : ∀ (w : World) (mg : Str → Option Value) (fa : Addr) (h : Heap), YP w h → (K w.params).In h → h.Ns mainGlobals mg → mg d.name = some (.ref fa) → LawT l w (K w.params) k n x mg fa h) :
    PySem.W.WalkO q loose XP YP l.row.toRowW d [] (fun f vs => PySem.call f vs) := by
  refine Att.attach_call hn hdf fun w s0 s1 mg mb fa o pm cd doc a vs ns G Y ho hd hcd hmg hobj hints hlen hgen => ?_
  have KX := hY w _ Y
  obtain ⟨fd, cs, sp, hT, nT, hC, hb, hsp, hF⟩ := F w mg fa _ Y KX G.T.g hmg
  have rv := vals_ints hints
  have hl : ns.length ≤ sizeLine := Nat.le_trans hlen hn2
  have lenV := hints.length
  have nat : ∀ p ∈ cs, p.2 ≠ a := fun p hp z => by
    have q := hT p hp
    rw [z, hobj] at q
    have z' : Data.seq vs.toArray _ = Data.fields #[] := congrArg Obj.data (Option.some.inj q)
    cases z'
  cases hk : (K w.params).lookup a with
  | some ob =>
    have e := KX a ob hk
    rw [hobj] at e
    cases e
    exact law_runT (xs := []) (sc := none) KX G.T.g G.T.b G.T.builtins G.T.nolimit hgen hT nT hC G.T.bmain hobj hr hF hb (.inl rfl) (fun u z => by cases z)
      (hsp _ a ns hlen (fun p hp => startH_t (List.mem_map.mpr ⟨p, hp, rfl⟩) (nat p hp)) (.inr ⟨_, vs.toArray, _, hk, rfl, rfl, rfl, by rw [List.size_toArray, lenV]; exact hl, by simpa using rv⟩))
  | none =>
    exact law_runT (xs := ns.map V.int) (sc := some (.frz { cls := .type "list", data := .seq vs.toArray } (.lst (ns.map V.int)))) KX G.T.g G.T.b G.T.builtins G.T.nolimit hgen hT nT hC G.T.bmain hobj hr hF hb (.inr ⟨hk, rfl⟩)
      (fun u z => by cases z; exact ⟨hobj, by rw [List.length_map]; exact hl, vs, _, rv, hobj⟩) (hsp _ a ns hlen (fun p hp => startH_t (List.mem_map.mpr ⟨p, hp, rfl⟩) (nat p hp)) (.inl (.inr ⟨_, startH_a⟩)))
end RL

set_option maxHeartbeats 2000000
namespace RL
open PySem L2 PySem.Spec PyProof.Rows
/-! ### heaps in which tables grow -/
def ButT (c : Addr) (H H' : Hp) : Prop := ∀ b o, b ≠ c → (∀ ps, o ≠ .tbl ps) → H b = some o → H' b = some o
theorem ButT.refl (c : Addr) (H : Hp) : ButT c H H := fun _ _ _ _ h => h
theorem ButT.trans {c : Addr} {H H1 H2 : Hp} (a : ButT c H H1) (b : ButT c H1 H2) : ButT c H H2 := fun x o n t h => b x o n t (a x o n t h)
theorem ButT.of {c : Addr} {H H' : Hp} (h : Same H H') : ButT c H H' := fun x o _ _ e => h x o e
theorem ButT.but {c : Addr} {H H' : Hp} (h : But c H H') : ButT c H H' := fun x o n _ e => h x o n e
theorem ButT.ext {c : Addr} {H H' : Hp} (h : LamX.ExtN H H') : ButT c H H' := fun x o _ n e => h x o e n
theorem ButT.tup {c a : Addr} {H H' : Hp} {xs : List V} (b : ButT c H H') (hc : CupAt c H) (h : H a = some (.tup xs)) : H' a = some (.tup xs) := by
  obtain ⟨u, v, hc, _⟩ := hc
  exact b _ _ (ne_of h hc (by intro z; cases z)) (by intro ps z; cases z) h
theorem ButT.ins {c a C dx : Addr} {H H' : Hp} {fs : List (Str × V)} (b : ButT c H H') (hc : CupAt c H) (h : H a = some (.ins C dx fs)) : H' a = some (.ins C dx fs) := by
  obtain ⟨u, v, hc, _⟩ := hc
  exact b _ _ (ne_of h hc (by intro z; cases z)) (by intro ps z; cases z) h
theorem PieceAt.butT {c : Addr} {H H' : Hp} {v : V} {p : Pc} (h : PieceAt H v p) (hc : CupAt c H) (s : ButT c H H') : PieceAt H' v p := by
  obtain ⟨t, e, ht⟩ := h
  exact ⟨t, e, s.tup hc ht⟩
theorem PiecesAt.butT {c : Addr} {H H' : Hp} {vs : List V} {r : List Pc} (h : PiecesAt H vs r) (hc : CupAt c H) (s : ButT c H H') : PiecesAt H' vs r :=
  ⟨h.1, fun i p hp => let ⟨v, hv, q⟩ := h.2 i p hp; ⟨v, hv, q.butT hc s⟩⟩
theorem RowL.butT {c a : Addr} {H H' : Hp} {r : List Pc} (h : RowL H a r) (hc : CupAt c H) (na : a ≠ c) (s : ButT c H H') : RowL H' a r := by
  obtain ⟨ws, h1, h2⟩ := h
  exact ⟨ws, s _ _ na (by intro ps z; cases z) h1, h2.butT hc s⟩
theorem PatAt.butT {C x c : Addr} {H H' : Hp} {r : List Pc} (h : PatAt C H x r) (hc : CupAt c H) (s : ButT c H H') : PatAt C H' x r := by
  obtain ⟨dx, q, m, f, ws, f1, f2, f3, f4, h1, h2, h3, h4, h5, h6, h7, h8, h9⟩ := h
  exact ⟨dx, q, m, f, ws, f1, f2, f3, f4, s.ins hc h1, s.tup hc h2, h3.butT hc s, s.tup hc h4, s.tup hc h5, s.tup hc h6, s.tup hc h7, s.tup hc h8, s.tup hc h9⟩
theorem CupAt.ext {c : Addr} {H H' : Hp} (h : CupAt c H) (s : LamX.ExtN H H') : CupAt c H' := by
  obtain ⟨x, y, a, b⟩ := h
  exact ⟨x, y, s _ _ a (by intro ps z; cases z), b⟩
theorem tabs_but {T : List (Addr × Str)} {c : Addr} {H H' : Hp} (t : LamX.Tabs T H) (hc : CupAt c H) (s : But c H H') : LamX.Tabs T H' := fun p hp => by
  obtain ⟨ps, h1, h2, h3⟩ := t p hp
  obtain ⟨u, v, hc, _⟩ := hc
  refine ⟨ps, s _ _ (ne_of h1 hc (by intro z; cases z)) h1, h2, fun pos cv hcv => ?_⟩
  obtain ⟨c', e1, e2⟩ := h3 pos cv hcv
  exact ⟨c', e1, s _ _ (ne_of e2 hc (by intro z; unfold LamX.CodeO at z; cases z)) e2⟩
theorem tabs_same {T : List (Addr × Str)} {H H' : Hp} (t : LamX.Tabs T H) (s : Same H H') : LamX.Tabs T H' := t.ext s
theorem sql_ext {K : PySem.W.Frag} {H H' : Hp} {a : Addr} {xs : List V} (h : SqL K H a xs) (s : LamX.ExtN H H') : SqL K H' a xs := by
  rcases h with (h | ⟨o, h⟩) | h
  · exact .inl (.inl (s _ _ h (by intro ps z; cases z)))
  · exact .inl (.inr ⟨o, s _ _ h (by intro ps z; cases z)⟩)
  · exact .inr h
/-! ### a new pattern written in the text -/
theorem make_lit {C J : Addr} {H : Hp} {z dz : Addr} {ws : List V} {r : List Pc} {R : Hp → Prop} (nz : H z = none) (ndz : H dz = none) (hw : PiecesAt H ws r) (hok : RowOk r) (l1 : 1 ≤ r.length) (l4 : r.length ≤ 4) (k : ∀ H', Same H H' → PatAt C H' z r → R H') :
    star1 (spPI C J) (.ref z :: ws) (upd (upd H dz (.own z)) z (.ins C dz [])) (fun v H3 => v = .non ∧ R H3) E0 := by
  refine ⟨[.ref z], ws, rfl, rfl, Nat.le_trans (by rw [hw.1]; omega) (small1000 (show 4 ≤ 1000 by decide)), fun p np => ?_⟩
  have s2 : Same H (upd (upd H dz (.own z)) z (.ins C dz [])) := fun b o e => by
    rw [upd_ne (ne_of_none e nz), upd_ne (ne_of_none e ndz)]
    exact e
  have s3 := s2.trans (same_upd (o := .tup ws) np)
  have hz : (upd (upd (upd H dz (.own z)) z (.ins C dz [])) p (.tup ws)) z = some (.ins C dz []) := by
    rw [upd_ne (ne_of_none (upd_same (H := upd H dz (.own z)) (a := z) (o := .ins C dz [])) np), upd_same]
  refine ⟨z, dz, p, r, rfl, hz, hok, l1, by omega, .inr ⟨ws, upd_same, hw.same s3, l4⟩, fun H' b hP => ⟨rfl, k H' ?_ hP⟩⟩
  intro b' o e
  exact b _ _ (ne_of_none e nz) (s3 _ _ e)
/-! ### pieces as data -/
def pcD (p : Pc) : PyData := .tuple [.str (wd p.1), .int p.2]
theorem dp_pcs {K : PySem.W.Frag} {H : Hp} : ∀ {ws : List V} {r : List Pc}, PiecesAt H ws r → DpAll K H ws (r.map pcD)
  | [], [], _ => .nil
  | [], _ :: _, h => by have := h.1; simp at this
  | _ :: _, [], h => by have := h.1; simp at this
  | w :: ws, p :: r, h => by
    obtain ⟨v, hv, t, e, ht⟩ := h.2 0 p rfl
    have hv : v = w := by simpa using hv.symm
    subst hv e
    exact .cons (.tup (SqT.of ht) (.cons (.str _) (.cons (.int _) .nil))) (dp_pcs ⟨by have := h.1; simpa using this, fun i q hq => h.2 (i + 1) q hq⟩)
theorem tame_str {n w : Nat} {x : Str} (h : OkT n x) (hn : n ≤ w) : Tame w 0 (.str x) := by
  obtain ⟨a, b⟩ := show_str h
  exact ⟨by simp only [PyData.showable], by simp only [PyData.hasDict], a, Nat.le_trans b hn, by simp only [PyData.depth]; exact Nat.le_refl _⟩
theorem tame_pc {p : Pc} (h : PcOk p) : Tame 402 1 (pcD p) := by
  have h1 : Tame 200 0 (.str (wd p.1)) := tame_str (n := 4) (by
    cases p.1
    · exact OkT.of "rung"
    · exact OkT.of "rail") (by decide)
  exact tame_2 h1 (tame_int ((ohm_sm h).mono (by decide)))
theorem tame_row {r : List Pc} (hok : RowOk r) (l8 : r.length ≤ 8) : Tame 3224 2 (.tuple (r.map pcD)) := by
  have h := tame_tup (w := 402) (h := 1) (xs := r.map pcD) fun d hd => by
    obtain ⟨p, hp, rfl⟩ := List.mem_map.mp hd
    exact tame_pc (hok p hp)
  rw [List.length_map] at h
  exact ⟨h.s, h.n, h.v, Nat.le_trans h.w_ (by have := Nat.mul_le_mul_right 403 l8; omega), h.d_⟩
theorem neStr {a b : Str} (h : a = b) : ¬ (!decide (V.str a = V.str b)) = true := by
  rw [h, decide_eq_true rfl]
  decide
theorem pf_of {C : Addr} {H : Hp} {x : Addr} {r : List Pc} (h : PatAt C H x r) : ∃ dx q m f, H x = some (.ins C dx (PF q m f (sclR r))) := by
  obtain ⟨dx, q, m, f, ws, f1, f2, f3, f4, h1, _⟩ := h
  exact ⟨dx, q, m, f, h1⟩
end RL

set_option maxHeartbeats 2000000
namespace RL
open PySem L2 PySem.Spec PyProof.Rows
/-- the base's __init__ as its callers read it -/
structure Bi (P : Program) (w : World) (K : PySem.W.Frag) (mg : Str → Option Value) (base : Heap) (x : Str) : Prop where
  ex : ∃ (C g : Addr) (mc : Value) (fd : FuncData), mg x = some (.ref C) ∧ ClX.CRead K C mc ∧ PySem.W.findCls K (.ref C) mc "__init__" = some (.val (.ref g)) ∧ PySem.W.keepIn K (.ref g) = true ∧ FnOk P w K mg base CX0 1 g fd ["self"] spN ∧ Binds K fd ["self"] []
def cF (cs : List Addr) (i : Nat) : Addr := cs.getD i 0
def up (i : Nat) : Nat := if i < 13 then 0 else if i < 15 then 1 else if i < 19 then 2 else i - 19
/-- class i is, of the classes asked, the j-th one -/
def tb (i j : Nat) : Bool := (j == i) || (j == 19 + up i) || (j == 22 + up i)
def rowB (K : PySem.W.Frag) (cs : List Addr) (i : Nat) : Bool := (List.range 25).all fun j => decide (PySem.W.kitOne K (.ref (cF cs i)) (tv (cF cs) j) = some (tb i j))
theorem rowB_ok {K : PySem.W.Frag} {cs : List Addr} {i : Nat} (h : rowB K cs i = true) : IsRow K (cF cs) (cF cs i) (tb i) := fun j hj => of_decide_eq_true (List.all_eq_true.mp h j (List.mem_range.mpr hj))
theorem tabs2 {H : Hp} {cs : List (Addr × Addr)} {qs : List Str} (h : ∀ p ∈ cs, H p.2 = some (.tbl #[])) : LamX.Tabs ((cs.map (·.2)).zip qs) H := fun p hp => by
  obtain ⟨q, hq, e⟩ := List.mem_map.mp (List.of_mem_zip hp).1
  exact LamX.TabS.nil (by rw [← e]; exact h q hq)
section
variable {P : Program} {w : World} {K : PySem.W.Frag} {mg : Str → Option Value} {base : Heap}
abbrev s_WrongValue_init : Stmt := inClass (top 22) 0
theorem sc_WrongValue_init : FnScope ["self"] ["self"] (defScope s_WrongValue_init) := ⟨rfl, rfl, rfl, by decide +kernel, rfl, by decide +kernel, by decide +kernel⟩

theorem ok_WrongValue_init {f : Addr} {fd : FuncData} (F : Fun K "__init__" "WrongValue.__init__" s_WrongValue_init f fd) : FnOk P w K mg base CX0 1 f fd ["self"] spN := by
  refine F.ok sc_WrongValue_init (fun vs H Q E h => ?_) (fun cdv A outer s H vs Q E hr h => ?_)
  · obtain ⟨v, rfl, _⟩ := h
    rfl
  · obtain ⟨v, rfl, k⟩ := h
    exact ⟨_, (pss_one ps_pass), k⟩
abbrev s_NotAPattern_init : Stmt := inClass (top 23) 0
theorem sc_NotAPattern_init : FnScope ["self", "given"] ["self", "given"] (defScope s_NotAPattern_init) := ⟨rfl, rfl, rfl, by decide +kernel, rfl, by decide +kernel, by decide +kernel⟩

theorem ok_NotAPattern_init {f : Addr} {fd : FuncData} (F : Fun K "__init__" "NotAPattern.__init__" s_NotAPattern_init f fd) (B : Bi P w K mg base "WrongValue") : FnOk P w K mg base CX0 2 f fd ["self", "given"] (spI K "given") := by
  obtain ⟨Cb, gb, mc, fdb, gC, rd, hf, kp, Fb, hb⟩ := B.ex
  refine F.ok sc_NotAPattern_init (fun vs H Q E h => ?_) (fun cdv A outer s H vs Q E hr h => ?_)
  · obtain ⟨a, C, y, rfl, _⟩ := h
    rfl
  · obtain ⟨a, C, y, rfl, xc, hno, ha, k⟩ := h
    refine ⟨_, (pss_cons (ps_expr (pe_xbase gC (by rfl) rd hf kp Fb (hr.mono (by decide)) hb (pa_cons (pv 0) pa_nil)))
      (pss_one (ps_xst (pv 0) (pv 1)))), ?_⟩
    exact ⟨_, rfl, _, rfl, _, rfl, _, rfl, a, C, rfl, xc, hno, ha, fun dx nd ne => k dx nd ne⟩
theorem ec_0 {cs : List Addr} (x : XC K (cF cs 0)) (r : rowB K cs 0 = true) (any : PySem.W.exmAny K (.ref (cF cs 0)) [.ref (cF cs 19), .ref (cF cs 20), .ref (cF cs 21)] = some true) (no : PySem.W.findIn K (.ref (cF cs 0)) "given" = some none) : EC K (cF cs) (cF cs 0) 0 [0, 20, 23] :=
  ⟨x, ⟨tb 0, rowB_ok r, by decide +kernel⟩, any, rfl, by decide, (by rw [show fldOf 0 = ("given" : Str) from by decide +kernel]; exact no), by decide⟩
abbrev s_InvalidResistance_init : Stmt := inClass (top 25) 0
theorem sc_InvalidResistance_init : FnScope ["self", "given"] ["self", "given"] (defScope s_InvalidResistance_init) := ⟨rfl, rfl, rfl, by decide +kernel, rfl, by decide +kernel, by decide +kernel⟩

theorem ok_InvalidResistance_init {f : Addr} {fd : FuncData} (F : Fun K "__init__" "InvalidResistance.__init__" s_InvalidResistance_init f fd) (B : Bi P w K mg base "WrongValue") : FnOk P w K mg base CX0 2 f fd ["self", "given"] (spI K "given") := by
  obtain ⟨Cb, gb, mc, fdb, gC, rd, hf, kp, Fb, hb⟩ := B.ex
  refine F.ok sc_InvalidResistance_init (fun vs H Q E h => ?_) (fun cdv A outer s H vs Q E hr h => ?_)
  · obtain ⟨a, C, y, rfl, _⟩ := h
    rfl
  · obtain ⟨a, C, y, rfl, xc, hno, ha, k⟩ := h
    refine ⟨_, (pss_cons (ps_expr (pe_xbase gC (by rfl) rd hf kp Fb (hr.mono (by decide)) hb (pa_cons (pv 0) pa_nil)))
      (pss_one (ps_xst (pv 0) (pv 1)))), ?_⟩
    exact ⟨_, rfl, _, rfl, _, rfl, _, rfl, a, C, rfl, xc, hno, ha, fun dx nd ne => k dx nd ne⟩
theorem ec_2 {cs : List Addr} (x : XC K (cF cs 2)) (r : rowB K cs 2 = true) (any : PySem.W.exmAny K (.ref (cF cs 2)) [.ref (cF cs 19), .ref (cF cs 20), .ref (cF cs 21)] = some true) (no : PySem.W.findIn K (.ref (cF cs 2)) "given" = some none) : EC K (cF cs) (cF cs 2) 2 [2, 20, 23] :=
  ⟨x, ⟨tb 2, rowB_ok r, by decide +kernel⟩, any, rfl, by decide, (by rw [show fldOf 2 = ("given" : Str) from by decide +kernel]; exact no), by decide⟩
abbrev s_InvalidCount_init : Stmt := inClass (top 26) 0
theorem sc_InvalidCount_init : FnScope ["self", "given"] ["self", "given"] (defScope s_InvalidCount_init) := ⟨rfl, rfl, rfl, by decide +kernel, rfl, by decide +kernel, by decide +kernel⟩

theorem ok_InvalidCount_init {f : Addr} {fd : FuncData} (F : Fun K "__init__" "InvalidCount.__init__" s_InvalidCount_init f fd) (B : Bi P w K mg base "WrongValue") : FnOk P w K mg base CX0 2 f fd ["self", "given"] (spI K "given") := by
  obtain ⟨Cb, gb, mc, fdb, gC, rd, hf, kp, Fb, hb⟩ := B.ex
  refine F.ok sc_InvalidCount_init (fun vs H Q E h => ?_) (fun cdv A outer s H vs Q E hr h => ?_)
  · obtain ⟨a, C, y, rfl, _⟩ := h
    rfl
  · obtain ⟨a, C, y, rfl, xc, hno, ha, k⟩ := h
    refine ⟨_, (pss_cons (ps_expr (pe_xbase gC (by rfl) rd hf kp Fb (hr.mono (by decide)) hb (pa_cons (pv 0) pa_nil)))
      (pss_one (ps_xst (pv 0) (pv 1)))), ?_⟩
    exact ⟨_, rfl, _, rfl, _, rfl, _, rfl, a, C, rfl, xc, hno, ha, fun dx nd ne => k dx nd ne⟩
theorem ec_3 {cs : List Addr} (x : XC K (cF cs 3)) (r : rowB K cs 3 = true) (any : PySem.W.exmAny K (.ref (cF cs 3)) [.ref (cF cs 19), .ref (cF cs 20), .ref (cF cs 21)] = some true) (no : PySem.W.findIn K (.ref (cF cs 3)) "given" = some none) : EC K (cF cs) (cF cs 3) 3 [3, 20, 23] :=
  ⟨x, ⟨tb 3, rowB_ok r, by decide +kernel⟩, any, rfl, by decide, (by rw [show fldOf 3 = ("given" : Str) from by decide +kernel]; exact no), by decide⟩
end
end RL

set_option maxHeartbeats 1000000
/-! what repr shows of well-formed data is a well-formed text -/
namespace RL
open PySem L2 PySem.Spec PyProof.Rows PySem.Builtin.Str
def Uok (x : Str) : Prop := ∀ c ∈ x.cps.toList, c < 0x110000
theorem Uok.app {x y : Str} (h : Uok x) (k : Uok y) : Uok (x ++ y) := fun c hc => by
  have e : (x ++ y).cps.toList = x.cps.toList ++ y.cps.toList := by
    show (x.cps ++ y.cps).toList = _
    rw [Array.toList_append]
  rw [e] at hc
  exact (List.mem_append.mp hc).elim (h c) (k c)
theorem chr_lt (ch : Char) : ch.toNat < 0x110000 := by
  have h := ch.valid
  have e : ch.toNat = ch.val.toNat := rfl
  rcases h with h | h
  · have h2 : ch.val.toNat < 0xd800 := h
    omega
  · have h2 : ch.val.toNat < 0x110000 := h.2
    omega
theorem Uok.of (s : String) : Uok (Str.ofString s) := fun c hc => by
  rw [PyProof.Rows.signs_ofString] at hc
  obtain ⟨ch, _, rfl⟩ := List.mem_map.mp hc
  exact chr_lt ch
theorem Uok.join {y : Str} (hy : Uok y) : ∀ {l : List Str}, (∀ x ∈ l, Uok x) → Uok (Str.join y l)
  | [], _ => fun c hc => absurd (show c ∈ ([] : List Nat) from hc) (by simp)
  | [x], h => h x List.mem_cons_self
  | x :: z :: l, h => by
    show Uok (x ++ y ++ Str.join y (z :: l))
    exact ((h x List.mem_cons_self).app hy).app (Uok.join hy fun a ha => h a (List.mem_cons_of_mem _ ha))
theorem reprChar_lt {q c : Nat} (hc : c < 0x110000) : ∀ d ∈ reprChar q c, d < 0x110000 := by
  intro d hd
  have hx : ∀ (n : Nat), d ∈ List.replicate (n - ((Nat.toDigits 16 c).map Char.toNat).length) 48 ++ (Nat.toDigits 16 c).map Char.toNat → d < 0x110000 := fun n h => by
    rcases List.mem_append.mp h with h | h
    · rw [List.eq_of_mem_replicate h]
      omega
    · obtain ⟨ch, _, rfl⟩ := List.mem_map.mp h
      exact chr_lt ch
  unfold reprChar at hd
  split at hd
  · simp only [List.mem_cons, List.not_mem_nil, or_false] at hd
    rcases hd with rfl | rfl <;> omega
  split at hd
  · simp only [List.mem_cons, List.not_mem_nil, or_false] at hd
    rcases hd with rfl | rfl <;> omega
  split at hd
  · simp only [List.mem_cons, List.not_mem_nil, or_false] at hd
    rcases hd with rfl | rfl <;> omega
  split at hd
  · simp only [List.mem_cons, List.not_mem_nil, or_false] at hd
    rcases hd with rfl | rfl <;> omega
  split at hd
  · simp only [List.mem_cons, List.not_mem_nil, or_false] at hd
    omega
  have hp : ∀ (u n : Nat), u < 0x110000 → d ∈ [92, u] ++ (List.replicate (n - ((Nat.toDigits 16 c).map Char.toNat).length) 48 ++ (Nat.toDigits 16 c).map Char.toNat) → d < 0x110000 := fun u n hu h => by
    rcases List.mem_append.mp h with h | h
    · simp only [List.mem_cons, List.not_mem_nil, or_false] at h
      rcases h with rfl | rfl <;> omega
    · exact hx n h
  split at hd
  · exact hp _ _ (by omega) hd
  split at hd
  · exact hp _ _ (by omega) hd
  · exact hp _ _ (by omega) hd
theorem uok_repr {x : Str} (h : Uok x) : Uok (reprText x) := by
  have hq : reprQuote x < 0x110000 := by
    unfold reprQuote
    split <;> omega
  have go : ∀ (l : List Nat) (acc : Array Nat), (∀ c ∈ l, c < 0x110000) → (∀ c ∈ acc.toList, c < 0x110000) → ∀ c ∈ (l.foldl (fun out c => out ++ (reprChar (reprQuote x) c).toArray) acc).toList, c < 0x110000 := by
    intro l
    induction l with
    | nil => exact fun acc _ ha => ha
    | cons d r ih =>
      intro acc hl ha
      rw [List.foldl_cons]
      refine ih _ (fun c hc => hl c (List.mem_cons_of_mem _ hc)) fun c hc => ?_
      rw [Array.toList_append] at hc
      rcases List.mem_append.mp hc with hc | hc
      · exact ha c hc
      · exact reprChar_lt (hl d List.mem_cons_self) c (by simpa using hc)
  intro c hc
  unfold reprText at hc
  rw [Array.toList_push] at hc
  rcases List.mem_append.mp hc with hc | hc
  · rw [← Array.foldl_toList] at hc
    exact go _ _ h (fun c hc => by simp only [List.mem_cons, List.not_mem_nil, or_false] at hc; rw [hc]; exact hq) c hc
  · simp only [List.mem_cons, List.not_mem_nil, or_false] at hc
    rw [hc]
    exact hq
theorem uok_from : ∀ (ts : List Str) (k : Nat) (acc : Str), (∀ t ∈ ts, Uok t) → Uok acc → Uok (textFrom k acc ts)
  | [], _, acc, _, ha => ha
  | t :: ts, k, acc, h, ha => by
    show Uok (textFrom (k + 1) (acc ++ (if k > 0 then ", " else "" : String) ++ t) ts)
    exact uok_from ts _ _ (fun u hu => h u (List.mem_cons_of_mem _ hu)) ((ha.app (Uok.of _)).app (h t List.mem_cons_self))
mutual
theorem uok_shown : ∀ d : PyData, d.canLay0 = true → d.hasDict = false → Uok d.shown
  | .none, _, _ => by simp only [PyData.shown]; exact Uok.of _
  | .bool b, _, _ => by simp only [PyData.shown]; split <;> exact Uok.of _
  | .int i, _, _ => by simp only [PyData.shown]; exact Uok.of _
  | .str x, h, _ => by
    simp only [PyData.shown]
    refine uok_repr fun c hc => ?_
    simp only [PyData.canLay0, PyData.strOk, Array.all_eq_true', decide_eq_true_eq] at h
    exact h c (by simpa using hc)
  | .list ds, h, k => by
    simp only [PyData.shown]
    simp only [PyData.canLay0] at h
    simp only [PyData.hasDict] at k
    exact (uok_from _ 0 _ (uok_shownAll ds h k) (Uok.of _)).app (Uok.of _)
  | .tuple ds, h, k => by
    simp only [PyData.shown]
    simp only [PyData.canLay0] at h
    simp only [PyData.hasDict] at k
    exact ((Uok.of _).app (Uok.join (Uok.of _) (uok_shownAll ds h k))).app (Uok.of _)
  | .dict kvs, _, k => by simp [PyData.hasDict] at k
theorem uok_shownAll : ∀ ds : List PyData, PyData.canLayAll0 ds = true → PyData.hasDictAll ds = false → ∀ t ∈ PyData.shownAll ds, Uok t
  | [], _, _ => fun t ht => by simp [PyData.shownAll] at ht
  | d :: ds, h, k => fun t ht => by
    simp only [PyData.canLayAll0, Bool.and_eq_true] at h
    simp only [PyData.hasDictAll, Bool.or_eq_false_iff] at k
    simp only [PyData.shownAll, List.mem_cons] at ht
    rcases ht with rfl | ht
    · exact uok_shown d h.1 k.1
    · exact uok_shownAll ds h.2 k.2 t ht
end
theorem strOk_of {x : Str} (h : Uok x) : PyData.strOk x = true := by
  unfold PyData.strOk
  rw [Array.all_eq_true']
  exact fun c hc => decide_eq_true (h c (by simpa using hc))
theorem strOk_shown {d : PyData} (h : d.canLay0 = true) (k : d.hasDict = false) : PyData.strOk d.shown = true := strOk_of (uok_shown d h k)
/-- a list of data, by its parts -/
theorem sh_lst {ds : List PyData} (h : PyData.canLayAll0 ds = true) (k : (PyData.list ds).depth ≤ 64) : SeqAt.shaped (.list ds) = true := by
  unfold SeqAt.shaped
  simp only [PyData.canLay0]
  rw [h, decide_eq_true k]
  rfl
end RL

set_option maxHeartbeats 2000000
/-! star parameters of defs that may raise -/
namespace RL
open PySem L2 PySem.Spec PyProof.Rows
theorem cxUpN {P : Program} {w : World} : StX.CXUp (L2N.CX P w) := by
  intro outer s H s2 H2 E e s' un kp ho h
  obtain ⟨a, B, H', cls, d, ea, fl, hok, ub, na, os, ag, he⟩ := h
  have ub' : UB (frs outer) H H' s.heap B s'.heap := by
    constructor
    case keep => exact fun b o q n hb => ub.keep b o (kp b o q) (un.free b o q n (by simp)) hb
    case slot => exact fun b o q hb => ub.slot b o (kp b o q) hb
    case free => exact fun b o q n => ub.free b o (kp b o q) (un.free b o q n (by simp))
    case there => exact fun b o q hb => ub.there b o (kp b o q) hb
    case tups => exact fun b xs q => ub.tups b xs (un.tups b xs q)
    case frzs => exact fun b o xs q => ub.frzs b o xs (un.frzs b o xs q)
    case tbls =>
      intro b ps q
      obtain ⟨m1, e1⟩ := un.tbls b ps q
      obtain ⟨m2, e2⟩ := ub.tbls b _ e1
      exact ⟨m1 ++ m2, by rw [e2, Array.append_assoc]⟩
  exact ⟨a, B, H', cls, d, ea, fl, hok, ub', na, os.trans ho, ag, he⟩
end RL

set_option maxHeartbeats 2000000
namespace RL
open PySem L2 PySem.Spec PyProof.Rows
/-! the checks of values, of any data -/
theorem dpAll_len {K : PySem.W.Frag} {H : Hp} : ∀ {ys : List V} {ds : List PyData}, DpAll K H ys ds → ys.length = ds.length
  | [], _, h => by cases h; rfl
  | _ :: _, _, h => by
    cases h with
    | cons a b => rw [List.length_cons, List.length_cons, dpAll_len b]
/-- what is a resistance -/
def resOf : PyData → PyData → Bool
  | .int a, .int b => decide (a = 1 ∧ b = 0) || (decide (0 ≤ a) && decide (a ≤ 1000000000000) && (decide (1 ≤ b) && decide (b ≤ 1000000000000)))
  | _, _ => false
def resG : PyData → Bool
  | .int i => decide (0 ≤ i) && decide (i ≤ 1000000000000)
  | .tuple [a, b] => resOf a b
  | _ => false
theorem eqv_open (a b : Int) : PyData.eqv (.tuple [.int a, .int b]) (.tuple [.int 1, .int 0]) = decide (a = 1 ∧ b = 0) := by
  rw [Bool.eq_iff_iff]
  simp [PyData.eqv, PyData.eqvAll]
def spIntG (K : PySem.W.Frag) : Sp := fun vs H Q _ => ∃ (v : V) (d : PyData), vs = [v] ∧ Dq K H v d ∧ Q (.bl (isIntD d)) H
def spWithinG (K : PySem.W.Frag) : Sp := fun vs H Q _ => ∃ (v : V) (d : PyData) (lo hi : Int), vs = [v, .int lo, .int hi] ∧ Dq K H v d ∧ Q (.bl (withinD d lo hi)) H
def spPairG (K : PySem.W.Frag) : Sp := fun vs H Q _ => ∃ (v : V) (d : PyData), vs = [v] ∧ Dq K H v d ∧ Q (.bl (pairD d)) H
def spResG (K : PySem.W.Frag) : Sp := fun vs H Q _ => ∃ (v : V) (d : PyData), vs = [v] ∧ Dq K H v d ∧ Q (.bl (resG d)) H
section
variable {P : Program} {w : World} {K : PySem.W.Frag} {mg : Str → Option Value} {base : Heap} {tG : Tok} {aO : Addr}
theorem ok_isintG {f : Addr} {fd : FuncData} (F : Fun K "is_integer" "is_integer" s_is_integer f fd) (T : Txt K mg) : FnOk P w K mg base CX0 1 f fd ["value"] (spIntG K) := by
  refine F.ok sc_is_integer (fun vs H Q E h => ?_) (fun cdv A outer s H vs Q E hr h => ?_)
  · obtain ⟨v, d, rfl, _⟩ := h
    rfl
  · obtain ⟨v, d, rfl, hd, k⟩ := h
    refine ⟨_, (pss_one (ps_ret (pe_and (pe_callB call_isi (by rfl) T.isinstance (by decide +kernel) (pa_cons (pv 0) (pa_cons (pe_bltn (v := .ty "int") (by rfl) T.int_ (by decide +kernel) rfl) pa_nil))) (pe_one (pe_not (pe_callB call_isi (by rfl) T.isinstance (by decide +kernel) (pa_cons (pv 0) (pa_cons (pe_bltn (v := .ty "bool") (by rfl) T.bool_ (by decide +kernel) rfl) pa_nil)))))))), ?_⟩
    refine ⟨_, rfl, _, _, _, _, intOrBool d, rfl, .ty _, ty_dq hd, kit_int d, _, rfl, ?_⟩
    cases h1 : intOrBool d with
    | true =>
      refine iteT ⟨_, rfl, _, _, _, _, isBoolD d, rfl, .ty _, ty_dq hd, kit_bool d, _, rfl, ?_⟩
      have e : isIntD d = !isBoolD d := by cases d <;> first | rfl | exact absurd h1 (by simp [intOrBool])
      rw [← e]
      exact k
    | false =>
      have e : isIntD d = false := by cases d <;> first | rfl | exact absurd h1 (by simp [intOrBool])
      rw [e] at k
      exact iteF k
theorem ok_withinG {f : Addr} {fd : FuncData} (F : Fun K "is_integer_within" "is_integer_within" s_is_integer_within f fd) (D_is_integer : Df P w K mg base 1 "is_integer" ["value"] (spIntG K)) : FnOk P w K mg base CX0 2 f fd ["value", "least", "most"] (spWithinG K) := by
  refine F.ok sc_is_integer_within (fun vs H Q E h => ?_) (fun cdv A outer s H vs Q E hr h => ?_)
  · obtain ⟨v, d, lo, hi, rfl, _⟩ := h
    rfl
  · obtain ⟨v, d, lo, hi, rfl, hd, k⟩ := h
    refine ⟨_, (pss_one (ps_ret (pe_and (pe_df D_is_integer (hr.mono (by decide)) (by rfl) (pa_cons (pv 0) pa_nil)) (pe_one (pe_chain op_le op_le (pv 1) (pv 0) (pv 2)))))), ?_⟩
    refine ⟨_, rfl, v, d, rfl, hd, _, rfl, ?_⟩
    cases h1 : isIntD d with
    | false =>
      have e : withinD d lo hi = false := by cases d <;> first | rfl | exact absurd h1 (by simp [isIntD])
      rw [e] at k
      exact iteF k
    | true =>
      obtain ⟨i, rfl⟩ : ∃ i, d = .int i := by cases d <;> first | exact ⟨_, rfl⟩ | exact absurd h1 (by simp [isIntD])
      have ev : v = .int i := by
        cases hd with
        | dp a b => cases a with
          | int i => rfl
      subst ev
      refine iteT ⟨_, rfl, _, rfl, _, _, rfl, rfl, _, rfl, ite2 (fun e1 => ?_) (fun e1 => ?_)⟩
      · refine ⟨_, rfl, _, _, rfl, rfl, ?_⟩
        have e : withinD (.int i) lo hi = decide (i ≤ hi) := by
          simp only [withinD]
          rw [e1]
          rfl
        rw [e] at k
        exact k
      · have e : withinD (.int i) lo hi = false := by
          simp only [withinD]
          rw [show decide (lo ≤ i) = false from Bool.eq_false_iff.mpr e1]
          rfl
        rw [e] at k
        exact k
theorem ok_ispairG {f : Addr} {fd : FuncData} (F : Fun K "is_pair_of_integers" "is_pair_of_integers" s_is_pair_of_integers f fd) (T : Txt K mg) (D_is_integer : Df P w K mg base 1 "is_integer" ["value"] (spIntG K)) : FnOk P w K mg base CX0 2 f fd ["value"] (spPairG K) := by
  refine F.ok sc_is_pair_of_integers (fun vs H Q E h => ?_) (fun cdv A outer s H vs Q E hr h => ?_)
  · obtain ⟨v, d, rfl, _⟩ := h
    rfl
  · obtain ⟨v, d, rfl, hd, k⟩ := h
    refine ⟨_, (pss_one (ps_ret (pe_and (pe_callB call_isi (by rfl) T.isinstance (by decide +kernel) (pa_cons (pv 0) (pa_cons (pe_bltn (v := .ty "tuple") (by rfl) T.tuple_ (by decide +kernel) rfl) pa_nil))) (pe_and (pe_cmpR op_eq (pe_callB call_len_seq (by rfl) T.len (by decide +kernel) (pa_cons (pv 0) pa_nil)) pe_int (nomark _)) (pe_and (pe_df D_is_integer (hr.mono (by decide)) (by rfl) (pa_cons (pe_ix ix_tup (pv 0) pe_int (fun _ _ => rfl)) pa_nil)) (pe_one (pe_df D_is_integer (hr.mono (by decide)) (by rfl) (pa_cons (pe_ix ix_tup (pv 0) pe_int (fun _ _ => rfl)) pa_nil)))))))), ?_⟩
    refine ⟨_, rfl, _, _, _, _, isTupD d, rfl, .ty _, ty_dq hd, kit_tup d, _, rfl, ?_⟩
    cases h1 : isTupD d with
    | false =>
      have e : pairD d = false := by cases d <;> first | rfl | exact absurd h1 (by simp [isTupD])
      rw [e] at k
      exact iteF k
    | true =>
      obtain ⟨ds, rfl⟩ : ∃ ds, d = .tuple ds := by cases d <;> first | exact ⟨_, rfl⟩ | exact absurd h1 (by simp [isTupD])
      obtain ⟨t, ys, rfl, hs, hall, hnd⟩ : ∃ t ys, v = .ref t ∧ SqT K H t ys ∧ DpAll K H ys ds ∧ (PyData.tuple ds).hasDict = false := by
        cases hd with
        | dp a b => cases a with
          | tup h1 h2 => exact ⟨_, _, rfl, h1, h2, b⟩
      have el := dpAll_len hall
      refine iteT ⟨_, rfl, t, _, rfl, .inr hs, rfl, _, rfl, ?_⟩
      cases h2 : decide (V.int (ys.length : Int) = V.int 2) with
      | false =>
        have nl : ds.length ≠ 2 := fun z => by
          rw [el, z] at h2
          exact absurd h2 (by decide)
        have e : pairD (.tuple ds) = false := by
          match ds, nl with
          | [], _ => rfl
          | [_], _ => rfl
          | [_, _], n => exact absurd rfl n
          | _ :: _ :: _ :: _, _ => rfl
        rw [e] at k
        exact iteF k
      | true =>
        have l2 : ds.length = 2 := by
          have := V.int.inj (of_decide_eq_true h2)
          omega
        match ds, l2, hall, k, hnd with
        | [e, o], _, hall, k, hnd =>
        obtain ⟨y1, y2, rfl, d1, d2⟩ : ∃ y1 y2, ys = [y1, y2] ∧ Dp K H y1 e ∧ Dp K H y2 o := by
          cases hall with
          | cons a b => cases b with
            | cons b c => cases c with
              | nil => exact ⟨_, _, rfl, a, b⟩
        have nd : e.hasDict = false ∧ o.hasDict = false := by simpa [PyData.hasDict, PyData.hasDictAll] using hnd
        have q : pairD (.tuple [e, o]) = (isIntD e && isIntD o) := rfl
        rw [q] at k
        refine iteT ⟨_, rfl, t, _, _, _, rfl, rfl, hs, atI_nat (j := 0) rfl, y1, e, rfl, .dp d1 nd.1, _, rfl, ?_⟩
        cases h3 : isIntD e with
        | false =>
          rw [h3] at k
          exact iteF k
        | true =>
          rw [h3] at k
          exact iteT ⟨_, rfl, t, _, _, _, rfl, rfl, hs, atI_nat (j := 1) rfl, y2, o, rfl, .dp d2 nd.2, k⟩
theorem ok_isresG {f : Addr} {fd : FuncData} (F : Fun K "is_resistance" "is_resistance" s_is_resistance f fd) (T : Txt2 K mg tG aO) (D_is_integer : Df P w K mg base 1 "is_integer" ["value"] (spIntG K)) (D_is_pair_of_integers : Df P w K mg base 2 "is_pair_of_integers" ["value"] (spPairG K)) : FnOk P w K mg base CX0 3 f fd ["value"] (spResG K) := by
  refine F.ok sc_is_resistance (fun vs H Q E h => ?_) (fun cdv A outer s H vs Q E hr h => ?_)
  · obtain ⟨v, d, rfl, _⟩ := h
    rfl
  · obtain ⟨v, d, rfl, hd, k⟩ := h
    refine ⟨_, (pss_cons (ps_if (pt_val (pe_df D_is_integer (hr.mono (by decide)) (by rfl) (pa_cons (pv 0) pa_nil))) (pss_one (ps_ret (pe_chain op_le op_le pe_int (pv 0) (pe_glob (v := .int 1000000000000) rfl T.mgG ⟨_, rfl⟩)))) pss_nil)
      (pss_cons (ps_if (pt_not (pt_val (pe_df D_is_pair_of_integers (hr.mono (by decide)) (by rfl) (pa_cons (pv 0) pa_nil)))) (pss_one (ps_ret pe_bl)) pss_nil)
      (pss_cons (ps_asg (pv 0) (pg_tup rfl (pgs_cons (pg_name (i := 1) sc_is_resistance.nd rfl (.inl rfl)) (pgs_cons (pg_name (i := 2) sc_is_resistance.nd rfl (.inl rfl)) pgs_nil))))
      (pss_one (ps_ret (pe_or (pe_cmpR (op_eqD hr.units) (pv 0) (pe_glob (v := .ref aO) rfl T.mgO rfl) (nomark _)) (pe_one (pe_and (pe_chain op_le op_le pe_int (pv 1) (pe_glob (v := .int 1000000000000) rfl T.mgG ⟨_, rfl⟩)) (pe_one (pe_chain op_le op_le pe_int (pv 2) (pe_glob (v := .int 1000000000000) rfl T.mgG ⟨_, rfl⟩))))))))))), ?_⟩
    refine ⟨_, rfl, v, d, rfl, hd, _, rfl, ?_⟩
    cases h1 : isIntD d with
    | true =>
      obtain ⟨i, rfl⟩ : ∃ i, d = .int i := by cases d <;> first | exact ⟨_, rfl⟩ | exact absurd h1 (by simp [isIntD])
      have ev : v = .int i := by
        cases hd with
        | dp a b => cases a with
          | int i => rfl
      subst ev
      have q : resG (.int i) = (decide (0 ≤ i) && decide (i ≤ 1000000000000)) := rfl
      rw [q] at k
      refine iteT ⟨_, rfl, _, _, rfl, rfl, _, rfl, ite2 (fun e => ?_) (fun e => ?_)⟩
      · rw [show decide (0 ≤ i) = true from e] at k
        exact ⟨_, _, rfl, rfl, k⟩
      · rw [show decide (0 ≤ i) = false from Bool.eq_false_iff.mpr e] at k
        exact k
    | false =>
      refine iteF ⟨_, rfl, v, d, rfl, hd, _, rfl, ?_⟩
      cases h2 : pairD d with
      | false =>
        have q : resG d = false := by
          cases d with
          | tuple ds =>
            match ds, h2 with
            | [], _ => rfl
            | [_], _ => rfl
            | [a, b], h =>
              have h : (isIntD a && isIntD b) = false := h
              show resOf a b = false
              cases a <;> first | rfl | (cases b <;> first | rfl | exact absurd h (by simp [isIntD]))
            | _ :: _ :: _ :: _, _ => rfl
          | int i => exact absurd h1 (by simp [isIntD])
          | _ => rfl
        rw [q] at k
        exact iteT k
      | true =>
        obtain ⟨a, b, rfl⟩ : ∃ a b, d = .tuple [.int a, .int b] := by
          cases d with
          | tuple ds =>
            match ds, h2 with
            | [a, b], h =>
              have h : (isIntD a && isIntD b) = true := h
              obtain ⟨ha, hb⟩ := (Bool.and_eq_true _ _).mp h
              obtain ⟨a, rfl⟩ : ∃ i, a = .int i := by cases a <;> first | exact ⟨_, rfl⟩ | exact absurd ha (by simp [isIntD])
              obtain ⟨b, rfl⟩ : ∃ i, b = .int i := by cases b <;> first | exact ⟨_, rfl⟩ | exact absurd hb (by simp [isIntD])
              exact ⟨a, b, rfl⟩
          | _ => exact absurd h2 (by simp [pairD])
        obtain ⟨t, y1, y2, rfl, hs, d1, d2⟩ : ∃ t y1 y2, v = .ref t ∧ SqT K H t [y1, y2] ∧ Dp K H y1 (.int a) ∧ Dp K H y2 (.int b) := by
          cases hd with
          | dp a b => cases a with
            | tup h1 h2 => cases h2 with
              | cons a b => cases b with
                | cons b c => cases c with
                  | nil => exact ⟨_, _, _, rfl, h1, a, b⟩
        cases d1
        cases d2
        have q : resG (.tuple [.int a, .int b]) = (decide (a = 1 ∧ b = 0) || (decide (0 ≤ a) && decide (a ≤ 1000000000000) && (decide (1 ≤ b) && decide (b ≤ 1000000000000)))) := rfl
        rw [q, ← eqv_open] at k
        refine iteF ⟨_, rfl, t, _, rfl, hs, rfl, _, _, rfl, _, _, rfl, rfl, ?_⟩
        refine ⟨_, rfl, .tuple [.int a, .int b], .tuple [.int 1, .int 0], .tup hs (.cons (.int _) (.cons (.int _) .nil)), .tup (.inr T.opn) (.cons (.int _) (.cons (.int _) .nil)), rfl, rfl, _, rfl, ?_⟩
        cases he : PyData.eqv (.tuple [.int a, .int b]) (.tuple [.int 1, .int 0]) with
        | true =>
          rw [he] at k
          exact iteT k
        | false =>
          rw [he] at k
          refine iteF ?_
          refine ⟨_, rfl, _, _, rfl, rfl, _, rfl, ite2 (fun h0 => ⟨_, _, rfl, rfl, _, rfl, ite2 (fun h1 => ?_) (fun h1 => ?_)⟩) (fun h0 => ⟨false, rfl, iteF ?_⟩)⟩
          · rw [show decide (0 ≤ a) = true from h0, show decide (a ≤ 1000000000000) = true from h1] at k
            refine ⟨_, rfl, _, _, rfl, rfl, _, rfl, ite2 (fun h2 => ⟨_, _, rfl, rfl, ?_⟩) (fun h2 => ?_)⟩
            · rw [show decide (1 ≤ b) = true from h2] at k
              exact k
            · rw [show decide (1 ≤ b) = false from Bool.eq_false_iff.mpr h2] at k
              exact k
          · rw [show decide (0 ≤ a) = true from h0, show decide (a ≤ 1000000000000) = false from Bool.eq_false_iff.mpr h1] at k
            exact k
          · rw [show decide (0 ≤ a) = false from Bool.eq_false_iff.mpr h0] at k
            exact k
end
end RL

namespace RL
/-! ### rows of pieces with fractions as ohms; stars and rings -/
abbrev FPc := Bool × (Int × Int)
def FOk (p : FPc) : Prop := 1 ≤ p.2.1 ∧ 1 ≤ p.2.2 ∧ low p.2 = p.2
def fM (p : FPc) : Mx := if p.1 = true then ⟨p.2.2, p.2.1, 0, p.2.2⟩ else ⟨p.2.1, 0, p.2.2, p.2.1⟩
/-- one piece in front of a pair, ahead of lowest terms -/
def frU (p : FPc) (e : Int × Int) : Int × Int := if p.1 = true then (e.1 * p.2.2 + p.2.1 * e.2, e.2 * p.2.2) else if e.2 = 0 then (p.2.1, p.2.2) else (p.2.1 * e.1, p.2.1 * e.2 + p.2.2 * e.1)
def frF (p : FPc) (e : Int × Int) : Int × Int := low (frU p e)
def frFR (r : List FPc) (e : Int × Int) : Int × Int := r.foldr frF e
theorem mul_pos' {a b : Int} (h : 0 < a) (k : 0 < b) : 0 < a * b := Int.mul_pos h k
theorem frU_pos {p : FPc} {e : Int × Int} (h1 : 1 ≤ p.2.1) (h2 : 1 ≤ p.2.2) (h : Pos2 e) : Pos2 (frU p e) := by
  obtain ⟨x0, y0, xy⟩ := h
  have a1 := Int.mul_nonneg x0 (show 0 ≤ p.2.2 by omega)
  have a2 := Int.mul_nonneg (show 0 ≤ p.2.1 by omega) y0
  have a3 := Int.mul_nonneg y0 (show 0 ≤ p.2.2 by omega)
  have a4 := Int.mul_nonneg (show 0 ≤ p.2.1 by omega) x0
  have a5 := Int.mul_nonneg (show 0 ≤ p.2.2 by omega) x0
  unfold frU
  split
  · refine ⟨by show 0 ≤ e.1 * p.2.2 + p.2.1 * e.2; omega, a3, ?_⟩
    rcases xy with z | z
    · have := mul_pos' z (show 0 < p.2.2 by omega)
      exact .inl (by show 0 < e.1 * p.2.2 + p.2.1 * e.2; omega)
    · exact .inr (mul_pos' z (by omega))
  · split
    · exact ⟨by show 0 ≤ p.2.1; omega, by show 0 ≤ p.2.2; omega, .inl (by show 0 < p.2.1; omega)⟩
    · have yp : 0 < e.2 := by omega
      have := mul_pos' (show 0 < p.2.1 by omega) yp
      exact ⟨a4, by show 0 ≤ p.2.1 * e.2 + p.2.2 * e.1; omega, .inr (by show 0 < p.2.1 * e.2 + p.2.2 * e.1; omega)⟩
theorem frU_app {p : FPc} {e : Int × Int} (h : Pos2 e) : ∃ k, 0 < k ∧ (fM p).app e = sc k (frU p e) := by
  unfold fM frU Mx.app sc
  split
  · refine ⟨1, by decide, ?_⟩
    ext
    · dsimp
      grind
    · dsimp
      grind
  · split
    · next hz =>
      have : 0 < e.1 := by
        have := h.2.2
        omega
      refine ⟨e.1, this, ?_⟩
      rw [hz]
      ext
      · dsimp
        grind
      · dsimp
        grind
    · refine ⟨1, by decide, ?_⟩
      ext
      · dsimp
        grind
      · dsimp
        grind
theorem frF_app {p : FPc} {e : Int × Int} (h : Pos2 e) : frF p e = low ((fM p).app e) := by
  obtain ⟨k, hk, e1⟩ := frU_app (p := p) h
  rw [e1, low_sc hk]
  rfl
theorem frF_low {p : FPc} {e : Int × Int} (h : Pos2 e) : frF p (low e) = frF p e := by
  rw [frF_app (low_pos h), frF_app h, low_app h]
theorem frF_pos {p : FPc} {e : Int × Int} (h1 : 1 ≤ p.2.1) (h2 : 1 ≤ p.2.2) (h : Pos2 e) : Pos2 (frF p e) := low_pos (frU_pos h1 h2 h)
/-- a piece with a fraction that is not in lowest terms -/
def uM (w : Bool) (p q : Int) : Mx := if w = true then ⟨q, p, 0, q⟩ else ⟨p, 0, q, p⟩
theorem uM_low {w : Bool} {p q : Int} (hp : 0 < p) (hq : 0 < q) (e : Int × Int) : ∃ k, 0 < k ∧ (uM w p q).app e = sc k ((fM (w, low (p, q))).app e) := by
  have P : Pos2 (p, q) := ⟨Int.le_of_lt hp, Int.le_of_lt hq, .inl hp⟩
  have e0 := low_is P
  refine ⟨gc p q, gc_pos2 P, ?_⟩
  have e1 : p = gc p q * (low (p, q)).1 := congrArg Prod.fst e0
  have e2 : q = gc p q * (low (p, q)).2 := congrArg Prod.snd e0
  unfold uM fM Mx.app sc
  generalize gc p q = g at *
  generalize low (p, q) = l at *
  subst e1
  subst e2
  split <;> (ext <;> dsimp <;> grind)
theorem low_fr {p q : Int} (hp : 0 < p) (hq : 0 < q) : 1 ≤ (low (p, q)).1 ∧ 1 ≤ (low (p, q)).2 ∧ low (low (p, q)) = low (p, q) := by
  have P : Pos2 (p, q) := ⟨Int.le_of_lt hp, Int.le_of_lt hq, .inl hp⟩
  have e0 := low_is P
  have e1 : p = gc p q * (low (p, q)).1 := congrArg Prod.fst e0
  have e2 : q = gc p q * (low (p, q)).2 := congrArg Prod.snd e0
  obtain ⟨l1, l2, _⟩ := low_pos P
  have g0 : 0 < gc p q := gc_pos2 P
  refine ⟨?_, ?_, low_low P⟩
  · rcases Int.lt_or_le 0 (low (p, q)).1 with z | z
    · exact z
    · have : (low (p, q)).1 = 0 := by omega
      rw [this, Int.mul_zero] at e1
      omega
  · rcases Int.lt_or_le 0 (low (p, q)).2 with z | z
    · exact z
    · have : (low (p, q)).2 = 0 := by omega
      rw [this, Int.mul_zero] at e2
      omega
theorem frF_uM {w : Bool} {p q : Int} (hp : 0 < p) (hq : 0 < q) {e : Int × Int} (h : Pos2 e) : frF (w, low (p, q)) e = low ((uM w p q).app e) := by
  obtain ⟨k, hk, e1⟩ := uM_low (w := w) hp hq e
  rw [e1, low_sc hk, frF_app h]
/-- what is left out shows what lies behind it -/
def opt (w : Bool) (p q : Int) : List FPc := if (w = true ∧ p = 0) ∨ (w = false ∧ q = 0) then [] else [(w, low (p, q))]
theorem opt_low {w : Bool} {p q : Int} (hp : 0 ≤ p) (hq : 0 ≤ q) (hpq : 0 < p ∨ 0 < q) (hw : w = true → 0 < q) (hw' : w = false → 0 < p) {e : Int × Int} (h : Pos2 e) : frFR (opt w p q) (low e) = low ((uM w p q).app e) := by
  unfold opt
  split
  · next z =>
    show low e = _
    rcases z with ⟨z1, z2⟩ | ⟨z1, z2⟩
    · have := hw z1
      have e1 : (uM w p q).app e = sc q e := by
        unfold uM Mx.app sc
        rw [if_pos z1, z2]
        ext <;> dsimp <;> grind
      rw [e1, low_sc this]
    · have := hw' z1
      have e1 : (uM w p q).app e = sc p e := by
        unfold uM Mx.app sc
        rw [if_neg (by rw [z1]; decide), z2]
        ext <;> dsimp <;> grind
      rw [e1, low_sc this]
  · next z =>
    have hp' : 0 < p := by
      rcases Int.lt_or_le 0 p with y | y
      · exact y
      · exfalso
        have p0 : p = 0 := by omega
        cases w with
        | true => exact z (.inl ⟨rfl, p0⟩)
        | false =>
          have := hw' rfl
          omega
    have hq' : 0 < q := by
      rcases Int.lt_or_le 0 q with y | y
      · exact y
      · exfalso
        have q0 : q = 0 := by omega
        cases w with
        | true =>
          have := hw rfl
          omega
        | false => exact z (.inr ⟨rfl, q0⟩)
    show frF (w, low (p, q)) (low e) = _
    rw [frF_low h, frF_uM hp' hq' h]
theorem uM_pos {w : Bool} {p q : Int} (hp : 0 ≤ p) (hq : 0 ≤ q) (hw : w = true → 0 < q) (hw' : w = false → 0 < p) {e : Int × Int} (h : Pos2 e) : Pos2 ((uM w p q).app e) := by
  obtain ⟨x0, y0, xy⟩ := h
  have a1 := Int.mul_nonneg hq x0
  have a2 := Int.mul_nonneg hp y0
  have a3 := Int.mul_nonneg hq y0
  have a4 := Int.mul_nonneg hp x0
  unfold uM Mx.app
  cases w with
  | true =>
    have q0 := hw rfl
    simp only [if_true]
    refine ⟨by dsimp; omega, by dsimp; omega, ?_⟩
    rcases xy with z | z
    · have := mul_pos' q0 z
      exact .inl (by dsimp; omega)
    · have := mul_pos' q0 z
      exact .inr (by dsimp; omega)
  | false =>
    have p0 := hw' rfl
    rw [if_neg (by decide)]
    refine ⟨by dsimp; omega, by dsimp; omega, ?_⟩
    rcases xy with z | z
    · have := mul_pos' p0 z
      exact .inl (by dsimp; omega)
    · have := mul_pos' p0 z
      exact .inr (by dsimp; omega)
theorem frFR_app (r r' : List FPc) (e : Int × Int) : frFR (r ++ r') e = frFR r (frFR r' e) := List.foldr_append ..
/-- three pieces, of which some are left out -/
theorem three_low {w1 w2 w3 : Bool} {p1 q1 p2 q2 p3 q3 : Int} (a1 : 0 ≤ p1) (a2 : 0 ≤ q1) (a3 : w1 = true → 0 < q1) (a4 : w1 = false → 0 < p1) (b1 : 0 ≤ p2) (b2 : 0 ≤ q2) (b3 : w2 = true → 0 < q2) (b4 : w2 = false → 0 < p2) (c1 : 0 ≤ p3) (c2 : 0 ≤ q3) (c3 : w3 = true → 0 < q3) (c4 : w3 = false → 0 < p3) {e : Int × Int} (h : Pos2 e) :
    frFR (opt w1 p1 q1 ++ (opt w2 p2 q2 ++ opt w3 p3 q3)) (low e) = low ((uM w1 p1 q1).app ((uM w2 p2 q2).app ((uM w3 p3 q3).app e))) := by
  have or_ : ∀ {w : Bool} {p q : Int}, (w = true → 0 < q) → (w = false → 0 < p) → 0 < p ∨ 0 < q := fun {w p q} x y => by
    cases w with
    | true => exact .inr (x rfl)
    | false => exact .inl (y rfl)
  rw [frFR_app, frFR_app, opt_low c1 c2 (or_ c3 c4) c3 c4 h, opt_low b1 b2 (or_ b3 b4) b3 b4 (uM_pos c1 c2 c3 c4 h), opt_low a1 a2 (or_ a3 a4) a3 a4 (uM_pos b1 b2 b3 b4 (uM_pos c1 c2 c3 c4 h))]
/-! ### the scale beneath a and d -/
theorem fold_ge {r : List Pc} : ∀ {m : Mx} {s : Int}, RowOk r → 0 < s → 0 ≤ m.b → 0 ≤ m.c → s ≤ m.a → s ≤ m.d → r.foldl stepS s ≤ (r.foldl stepM m).a ∧ r.foldl stepS s ≤ (r.foldl stepM m).d := by
  induction r with
  | nil => exact fun _ _ _ _ h1 h2 => ⟨h1, h2⟩
  | cons p r ih =>
    intro m s hr s0 b0 c0 h1 h2
    obtain ⟨p1, p2⟩ := hr.head
    have m0 := Int.mul_nonneg c0 (show 0 ≤ p.2 by omega)
    have m1 := Int.mul_le_mul_of_nonneg_right h1 (show 0 ≤ p.2 by omega)
    have m2 := Int.mul_le_mul_of_nonneg_right h2 (show 0 ≤ p.2 by omega)
    have m3 := Int.mul_nonneg b0 (show 0 ≤ p.2 by omega)
    have m4 := mul_pos' s0 (show 0 < p.2 by omega)
    have m5 := Int.mul_nonneg (show 0 ≤ m.a by omega) (show 0 ≤ p.2 by omega)
    show (r.foldl stepS (stepS s p)) ≤ (r.foldl stepM (stepM m p)).a ∧ _
    refine ih hr.tail ?_ ?_ ?_ ?_ ?_ <;> (try unfold stepM) <;> (try unfold stepS) <;> split <;> (try dsimp) <;> omega
theorem scl_le {r : List Pc} (hr : RowOk r) : sclR r ≤ (matR r).a ∧ sclR r ≤ (matR r).d := fold_ge hr (by decide) (by decide) (by decide) (by decide) (by decide)
/-! ### stars and rings of rows -/
def starR (r : List Pc) : List FPc := if (matR r).c = 0 then [(true, low ((matR r).b, sclR r))] else opt true ((matR r).a - sclR r) (matR r).c ++ (opt false (sclR r) (matR r).c ++ opt true ((matR r).d - sclR r) (matR r).c)
def ringR (r : List Pc) : List FPc := if (matR r).b = 0 then [(false, low (sclR r, (matR r).c))] else opt false (matR r).b ((matR r).d - sclR r) ++ (opt true (matR r).b (sclR r) ++ opt false (matR r).b ((matR r).a - sclR r))
theorem both_zero {r : List Pc} (hr : RowOk r) (h1 : 1 ≤ r.length) : ¬ ((matR r).b = 0 ∧ (matR r).c = 0) := by
  rintro ⟨hb, hc⟩
  match r, h1 with
  | p :: r, _ =>
    cases q : p.1 with
    | true =>
      have := b_pos hr ⟨p, List.mem_cons_self, q⟩
      omega
    | false =>
      have := c_pos hr ⟨p, List.mem_cons_self, q⟩
      omega
theorem flat {a d s : Int} (s0 : 0 < s) (ha : s ≤ a) (hd : s ≤ d) (h : a * d = s * s) : a = s ∧ d = s := by
  have h1 := Int.mul_le_mul_of_nonneg_right ha (show 0 ≤ d by omega)
  have h2 := Int.mul_le_mul_of_nonneg_left hd (show 0 ≤ s by omega)
  have h3 : s * d = s * s := by omega
  have h4 : d = s := Int.eq_of_mul_eq_mul_left (by omega) h3
  subst h4
  exact ⟨Int.eq_of_mul_eq_mul_right (by omega) h, rfl⟩
theorem star_shows {r : List Pc} (hr : RowOk r) (h1 : 1 ≤ r.length) {e : Int × Int} (he : Pos2 e) (hl : low e = e) : frFR (starR r) e = low (frtR r e) := by
  rw [← shows_front hr he]
  have s0 := sclR_pos hr
  obtain ⟨ga, gd⟩ := scl_le hr
  have det := matR_det r
  obtain ⟨_, mb, mc, _, _⟩ := matR_ok hr
  have nz := both_zero hr h1
  unfold starR
  generalize matR r = m at *
  generalize sclR r = s at *
  obtain ⟨a, b, c, d⟩ := m
  dsimp at *
  split
  · next hc =>
    subst hc
    have hb : 0 < b := by omega
    obtain ⟨rfl, rfl⟩ := flat s0 ga gd (by grind)
    show frF (true, low (b, d)) e = _
    rw [frF_uM hb s0 he]
    rfl
  · next hc =>
    have hc' : 0 < c := by omega
    have t := three_low (w1 := true) (p1 := a - s) (q1 := c) (w2 := false) (p2 := s) (q2 := c) (w3 := true) (p3 := d - s) (q3 := c) (by omega) (by omega) (fun _ => hc') (fun z => by cases z) (by omega) (by omega) (fun z => by cases z) (fun _ => s0) (by omega) (by omega) (fun _ => hc') (fun z => by cases z) he
    rw [hl] at t
    rw [t]
    have e1 : (uM true (a - s) c).app ((uM false s c).app ((uM true (d - s) c).app e)) = sc (c * c) ((Mx.mk a b c d).app e) := by
      have dd : a * d - s * s = b * c := by omega
      unfold uM Mx.app sc
      rw [if_pos rfl, if_pos rfl, if_neg (by decide)]
      ext
      · dsimp
        have : c * c * (b * e.2) = c * (a * d - s * s) * e.2 := by rw [dd]; grind
        grind
      · dsimp
        grind
    rw [e1, low_sc (mul_pos' hc' hc')]
theorem ring_shows {r : List Pc} (hr : RowOk r) (h1 : 1 ≤ r.length) {e : Int × Int} (he : Pos2 e) (hl : low e = e) : frFR (ringR r) e = low (frtR r e) := by
  rw [← shows_front hr he]
  have s0 := sclR_pos hr
  obtain ⟨ga, gd⟩ := scl_le hr
  have det := matR_det r
  obtain ⟨_, mb, mc, _, _⟩ := matR_ok hr
  have nz := both_zero hr h1
  unfold ringR
  generalize matR r = m at *
  generalize sclR r = s at *
  obtain ⟨a, b, c, d⟩ := m
  dsimp at *
  split
  · next hb =>
    subst hb
    have hc : 0 < c := by omega
    obtain ⟨rfl, rfl⟩ := flat s0 ga gd (by grind)
    show frF (false, low (d, c)) e = _
    rw [frF_uM s0 hc he]
    rfl
  · next hb =>
    have hb' : 0 < b := by omega
    have t := three_low (w1 := false) (p1 := b) (q1 := d - s) (w2 := true) (p2 := b) (q2 := s) (w3 := false) (p3 := b) (q3 := a - s) (by omega) (by omega) (fun z => by cases z) (fun _ => hb') (by omega) (by omega) (fun _ => s0) (fun z => by cases z) (by omega) (by omega) (fun z => by cases z) (fun _ => hb') he
    rw [hl] at t
    rw [t]
    have e1 : (uM false b (d - s)).app ((uM true b s).app ((uM false b (a - s)).app e)) = sc (b * b) ((Mx.mk a b c d).app e) := by
      have dd : a * d - s * s = b * c := by omega
      unfold uM Mx.app sc
      rw [if_pos rfl, if_neg (by decide), if_neg (by decide)]
      ext
      · dsimp
        grind
      · dsimp
        have : b * b * (c * e.1) = b * (a * d - s * s) * e.1 := by rw [dd]; grind
        grind
    rw [e1, low_sc (mul_pos' hb' hb')]
end RL

/-! How fast ladders come near their limits. -/
namespace RL
theorem one_rail {q : Pc} (h : q.1 = true) : matR [q] = ⟨1, q.2, 0, 1⟩ ∧ sclR [q] = 1 := by
  refine ⟨?_, ?_⟩
  · show stepM m1 q = _
    unfold stepM m1
    rw [if_pos h]
    simp
  · show stepS 1 q = 1
    unfold stepS
    rw [if_pos h]
theorem one_rung {q : Pc} (h : q.1 = false) : matR [q] = ⟨q.2, 0, 1, q.2⟩ ∧ sclR [q] = q.2 := by
  refine ⟨?_, ?_⟩
  · show stepM m1 q = _
    unfold stepM m1
    rw [if_neg (by rw [h]; decide)]
    simp
  · show stepS 1 q = q.2
    unfold stepS
    rw [if_neg (by rw [h]; decide)]
    simp
theorem scl_pos' {r : List Pc} (hr : RowOk r) : 0 < sclR r := by
  induction r with
  | nil => decide
  | cons p r ih =>
    rw [show p :: r = [p] ++ r from rfl, scl_app]
    refine Int.mul_pos ?_ (ih hr.tail)
    cases hp : p.1
    · rw [(one_rung hp).2]
      have := hr.head.1
      omega
    · rw [(one_rail hp).2]
      decide
theorem b_ge {r : List Pc} (hr : RowOk r) (h : ∃ p ∈ r, p.1 = true) : sclR r ≤ (matR r).b := by
  induction r with
  | nil =>
    obtain ⟨p, hp, _⟩ := h
    cases hp
  | cons p r ih =>
    obtain ⟨_, b1, c1, _⟩ := matR_ok hr.tail
    obtain ⟨a2, d2⟩ := scl_le hr.tail
    have s2 := scl_pos' hr.tail
    have o1 := hr.head.1
    rw [show p :: r = [p] ++ r from rfl, scl_app, mat_mul]
    show sclR [p] * sclR r ≤ (matR [p]).a * (matR r).b + (matR [p]).b * (matR r).d
    cases hp : p.1
    · rw [(one_rung hp).1, (one_rung hp).2]
      obtain ⟨q, hq, hf⟩ := h
      rcases List.mem_cons.mp hq with rfl | hq
      · rw [hp] at hf
        cases hf
      · have := Int.mul_le_mul_of_nonneg_left (ih hr.tail ⟨q, hq, hf⟩) (show 0 ≤ p.2 by omega)
        dsimp only
        omega
    · rw [(one_rail hp).1, (one_rail hp).2]
      have := Int.mul_le_mul_of_nonneg_right o1 (show 0 ≤ (matR r).d by omega)
      dsimp only
      omega
theorem c_ge {r : List Pc} (hr : RowOk r) (h : ∃ p ∈ r, p.1 = false) : sclR r ≤ 12 * (matR r).c := by
  induction r with
  | nil =>
    obtain ⟨p, hp, _⟩ := h
    cases hp
  | cons p r ih =>
    obtain ⟨_, b1, c1, _⟩ := matR_ok hr.tail
    obtain ⟨a2, d2⟩ := scl_le hr.tail
    have s2 := scl_pos' hr.tail
    obtain ⟨o1, o2⟩ := hr.head
    rw [show p :: r = [p] ++ r from rfl, scl_app, mat_mul]
    show sclR [p] * sclR r ≤ 12 * ((matR [p]).c * (matR r).a + (matR [p]).d * (matR r).c)
    cases hp : p.1
    · rw [(one_rung hp).1, (one_rung hp).2]
      have h1 := Int.mul_le_mul_of_nonneg_right o2 (show 0 ≤ sclR r by omega)
      have h2 := Int.mul_nonneg (show 0 ≤ p.2 by omega) c1
      dsimp only
      omega
    · rw [(one_rail hp).1, (one_rail hp).2]
      obtain ⟨q, hq, hf⟩ := h
      rcases List.mem_cons.mp hq with rfl | hq
      · rw [hp] at hf
        cases hf
      · have := ih hr.tail ⟨q, hq, hf⟩
        dsimp only
        omega
/-- entries beside the scale -/
theorem ent_le {r : List Pc} (hr : RowOk r) : ∃ N : Int, N = 13 ^ r.length ∧ (matR r).a ≤ N * sclR r ∧ (matR r).b ≤ N * sclR r ∧ (matR r).c ≤ N * sclR r ∧ (matR r).d ≤ N * sclR r := by
  induction r with
  | nil => exact ⟨1, rfl, by decide, by decide, by decide, by decide⟩
  | cons p r ih =>
    obtain ⟨N, eN, h1, h2, h3, h4⟩ := ih hr.tail
    obtain ⟨a1, b1, c1, d1, _⟩ := matR_ok hr.tail
    obtain ⟨o1, o2⟩ := hr.head
    refine ⟨13 * N, by rw [eN, List.length_cons]; exact (Int.mul_comm _ _).trans (by rw [Int.pow_succ]), ?_⟩
    rw [show p :: r = [p] ++ r from rfl, scl_app, mat_mul]
    have key : ∀ x y M : Int, 0 ≤ x → 0 ≤ y → x ≤ M → y ≤ M → x + p.2 * y ≤ 13 * M := fun x y M x0 y0 hx hy => by
      have k1 := Int.mul_le_mul_of_nonneg_right o2 y0
      omega
    have key2 : ∀ x y M : Int, 0 ≤ x → 0 ≤ y → x ≤ M → y ≤ M → x + p.2 * y ≤ 13 * (p.2 * M) := fun x y M x0 y0 hx hy => by
      have k1 := Int.mul_le_mul_of_nonneg_left hy (show 0 ≤ p.2 by omega)
      have k2 := Int.mul_le_mul_of_nonneg_right o1 (show 0 ≤ M by omega)
      omega
    have key3 : ∀ x M : Int, 0 ≤ x → x ≤ M → p.2 * x ≤ 13 * (p.2 * M) := fun x M x0 hx => by
      have k1 := Int.mul_le_mul_of_nonneg_left hx (show 0 ≤ p.2 by omega)
      have k2 := Int.mul_nonneg (show 0 ≤ p.2 by omega) (show 0 ≤ M by omega)
      omega
    generalize eM : N * sclR r = M at h1 h2 h3 h4
    cases hp : p.1
    · rw [(one_rung hp).1, (one_rung hp).2]
      have e : 13 * N * (p.2 * sclR r) = 13 * (p.2 * M) := by rw [← eM]; grind
      rw [e]
      unfold Mx.mul
      dsimp only
      have q1 := key3 _ _ a1 h1
      have q2 := key3 _ _ b1 h2
      have q3 := key2 _ _ _ a1 c1 h1 h3
      have q4 := key2 _ _ _ b1 d1 h2 h4
      refine ⟨?_, ?_, ?_, ?_⟩ <;> omega
    · rw [(one_rail hp).1, (one_rail hp).2]
      have e : 13 * N * (1 * sclR r) = 13 * M := by rw [← eM]; grind
      rw [e]
      unfold Mx.mul
      dsimp only
      have q1 := key _ _ _ a1 c1 h1 h3
      have q2 := key _ _ _ b1 d1 h2 h4
      refine ⟨?_, ?_, ?_, ?_⟩ <;> omega
theorem ent4 {r : List Pc} (hr : RowOk r) (l4 : r.length ≤ 4) : (matR r).a ≤ 28561 * sclR r ∧ (matR r).b ≤ 28561 * sclR r ∧ (matR r).c ≤ 28561 * sclR r := by
  obtain ⟨N, eN, h1, h2, h3, _⟩ := ent_le hr
  have hN : N ≤ 28561 := by
    rw [eN]
    have : r.length = 0 ∨ r.length = 1 ∨ r.length = 2 ∨ r.length = 3 ∨ r.length = 4 := by omega
    rcases this with z | z | z | z | z <;> rw [z] <;> decide
  have := Int.mul_le_mul_of_nonneg_right hN (Int.le_of_lt (scl_pos' hr))
  omega
/-- one step of the denominators -/
theorem ratio {s p x y z N D : Int} (s0 : 0 ≤ s) (hp : 52 * s ≤ 25 * p) (y0 : 0 ≤ y) (N0 : 0 ≤ N) (e : z = p * y - s * s * x) (h : N * (s * x) ≤ D * y) : (52 * N - 25 * D) * (s * y) ≤ 25 * N * z := by
  have h1 := Int.mul_nonneg (Int.mul_nonneg N0 y0) (show 0 ≤ 25 * p - 52 * s by omega)
  have h2 := Int.mul_nonneg s0 (show 0 ≤ D * y - N * (s * x) by omega)
  have e2 : 25 * N * z - (52 * N - 25 * D) * (s * y) = N * y * (25 * p - 52 * s) + 25 * (s * (D * y - N * (s * x))) := by
    rw [e]
    grind
  omega
/-- the sum of a and d -/
theorem tr_ge {a b c d s : Int} (s0 : 0 < s) (ha : s ≤ a) (hd : s ≤ d) (hb : s ≤ b) (hc : s ≤ 12 * c) (det : a * d - b * c = s * s) : 52 * s ≤ 25 * (a + d) := by
  rcases Int.lt_or_le (25 * (a + d)) (52 * s) with z | z
  · have h1 := Int.mul_le_mul hb hc (Int.le_of_lt s0) (by omega)
    have h2 : (25 * (a + d)) * (25 * (a + d)) < (52 * s) * (52 * s) := by
      have := Int.mul_lt_mul z (Int.le_of_lt z) (by omega) (by omega)
      exact this
    have h3 : 0 ≤ (a - d) * (a - d) := by
      rcases Int.le_total 0 (a - d) with q | q
      · exact Int.mul_nonneg q q
      · exact Int.mul_nonneg_of_nonpos_of_nonpos q q
    have h4 := Int.mul_pos s0 s0
    have e1 : (25 * (a + d)) * (25 * (a + d)) = 625 * ((a - d) * (a - d)) + 2500 * (a * d) := by grind
    have e2 : (52 * s) * (52 * s) = 2704 * (s * s) := by grind
    have e3 : b * (12 * c) = 12 * (b * c) := by grind
    omega
  · exact z
end RL

namespace RL
/-- what of a row the bounds want -/
structure Quick (m : Mx) (s : Int) : Prop where
  s0 : 0 < s
  a1 : s ≤ m.a
  d1 : s ≤ m.d
  b1 : s ≤ m.b
  c1 : s ≤ 12 * m.c
  a2 : m.a ≤ 28561 * s
  b2 : m.b ≤ 28561 * s
  c2 : m.c ≤ 28561 * s
  det : m.a * m.d - m.b * m.c = s * s
  tr : 52 * s ≤ 25 * (m.a + m.d)
theorem quick {r : List Pc} (hr : RowOk r) (l4 : r.length ≤ 4) (h1 : ∃ p ∈ r, p.1 = true) (h2 : ∃ p ∈ r, p.1 = false) : Quick (matR r) (sclR r) := by
  have s0 := scl_pos' hr
  obtain ⟨a1, d1⟩ := scl_le hr
  have b1 := b_ge hr h1
  have c1 := c_ge hr h2
  obtain ⟨a2, b2, c2⟩ := ent4 hr l4
  exact ⟨s0, a1, d1, b1, c1, a2, b2, c2, matR_det r, tr_ge s0 a1 d1 b1 c1 (matR_det r)⟩
section
variable {m : Mx} {s : Int} {e : Int × Int}
theorem app_ge (q : Quick m s) (h : Pos2 e) : Pos2 (m.app e) ∧ s * e.2 ≤ (m.app e).2 ∧ 0 < (m.app e).2 := by
  obtain ⟨t0, u0, k⟩ := h
  have s0 := q.s0
  have a1 := q.a1; have b1 := q.b1; have c1 := q.c1; have d1 := q.d1
  have h1 := Int.mul_nonneg (show 0 ≤ m.a by omega) t0
  have h2 := Int.mul_nonneg (show 0 ≤ m.b by omega) u0
  have h3 := Int.mul_nonneg (show 0 ≤ m.c by omega) t0
  have h4 := Int.mul_le_mul_of_nonneg_right d1 u0
  have h5 := Int.mul_nonneg (show 0 ≤ s by omega) u0
  have p : 0 < m.c * e.1 + m.d * e.2 := by
    rcases k with k | k
    · have := Int.mul_pos (show 0 < m.c by omega) k
      omega
    · have := Int.mul_pos s0 k
      omega
  refine ⟨⟨?_, ?_, ?_⟩, ?_, ?_⟩ <;> unfold Mx.app <;> dsimp only <;> omega
theorem appN_ge (q : Quick m s) (h : Pos2 e) : ∀ n, Pos2 (appN m n e)
  | 0 => h
  | n + 1 => (app_ge q (appN_ge q h n)).1
theorem rec2 (q : Quick m s) (n : Nat) : (appN m (n + 2) e).2 = (m.a + m.d) * (appN m (n + 1) e).2 - s * s * (appN m n e).2 := by
  rw [appN_succ, appN_succ, ← q.det]
  unfold Mx.app
  dsimp only
  grind
theorem u5 (q : Quick m s) (h : Pos2 e) : 5 * (s * (appN m 4 e).2) ≤ 4 * (appN m 5 e).2 ∧ s * (appN m 1 e).2 ≤ (appN m 2 e).2 ∧ s * (appN m 2 e).2 ≤ (appN m 3 e).2 ∧ s * (appN m 3 e).2 ≤ (appN m 4 e).2 := by
  have s0 := Int.le_of_lt q.s0
  have y1 := (appN_ge q h 1).2.1
  have y2 := (appN_ge q h 2).2.1
  have y3 := (appN_ge q h 3).2.1
  have y4 := (appN_ge q h 4).2.1
  have r1 : 1 * (s * (appN m 0 e).2) ≤ 1 * (appN m 1 e).2 := by
    have := (app_ge q h).2.1
    rw [Int.one_mul, Int.one_mul]
    exact this
  have r2 := ratio s0 q.tr y1 (by decide) (show (appN m 2 e).2 = (m.a + m.d) * (appN m 1 e).2 - s * s * (appN m 0 e).2 from rec2 q 0) r1
  have r2' : 27 * (s * (appN m 1 e).2) ≤ 25 * (appN m 2 e).2 := by omega
  have r3 := ratio s0 q.tr y2 (by decide) (show (appN m 3 e).2 = (m.a + m.d) * (appN m 2 e).2 - s * s * (appN m 1 e).2 from rec2 q 1) r2'
  have r3' : 779 * (s * (appN m 2 e).2) ≤ 675 * (appN m 3 e).2 := by omega
  have r4 := ratio s0 q.tr y3 (by decide) (show (appN m 4 e).2 = (m.a + m.d) * (appN m 3 e).2 - s * s * (appN m 2 e).2 from rec2 q 2) r3'
  have r4' : 23633 * (s * (appN m 3 e).2) ≤ 19475 * (appN m 4 e).2 := by omega
  have r5 := ratio s0 q.tr y4 (by decide) (show (appN m 5 e).2 = (m.a + m.d) * (appN m 4 e).2 - s * s * (appN m 3 e).2 from rec2 q 3) r4'
  have z1 := Int.mul_nonneg s0 y1
  have z2 := Int.mul_nonneg s0 y2
  have z3 := Int.mul_nonneg s0 y3
  have z4 := Int.mul_nonneg s0 y4
  refine ⟨?_, ?_, ?_, ?_⟩ <;> omega
theorem u_step (q : Quick m s) (h : Pos2 e) : ∀ k : Nat, 5 * (s * (appN m (k + 4) e).2) ≤ 4 * (appN m (k + 5) e).2
  | 0 => (u5 q h).1
  | k + 1 => by
    have s0 := Int.le_of_lt q.s0
    have y := (appN_ge q h (k + 5)).2.1
    have r := ratio s0 q.tr y (by decide) (rec2 q (k + 4)) (u_step q h k)
    have z := Int.mul_nonneg s0 y
    show 5 * (s * (appN m (k + 5) e).2) ≤ 4 * (appN m (k + 6) e).2
    replace r : (52 * 5 - 25 * 4) * (s * (appN m (k + 5) e).2) ≤ 25 * 5 * (appN m (k + 6) e).2 := r
    omega
theorem u_far (q : Quick m s) (h : Pos2 e) : ∀ k : Nat, 5 ^ k * (s ^ (k + 3) * (appN m 1 e).2) ≤ 4 ^ k * (appN m (k + 4) e).2
  | 0 => by
    obtain ⟨_, h2, h3, h4⟩ := u5 q h
    have s0 := Int.le_of_lt q.s0
    have a := Int.mul_le_mul_of_nonneg_left h2 s0
    have a2 := Int.mul_le_mul_of_nonneg_left a s0
    have b := Int.mul_le_mul_of_nonneg_left h3 s0
    have e1 : s ^ (0 + 3) * (appN m 1 e).2 = s * (s * (s * (appN m 1 e).2)) := by
      rw [show s ^ (0 + 3) = s * s * s from by grind]
      grind
    rw [e1, Int.pow_zero, Int.pow_zero, Int.one_mul, Int.one_mul]
    show s * (s * (s * (appN m 1 e).2)) ≤ (appN m 4 e).2
    omega
  | k + 1 => by
    have s0 := Int.le_of_lt q.s0
    have i := u_far q h k
    have st := u_step q h k
    have i2 := Int.mul_le_mul_of_nonneg_left (Int.mul_le_mul_of_nonneg_left i s0) (show (0 : Int) ≤ 5 by decide)
    have p4 : (0 : Int) ≤ 4 ^ k := Int.le_of_lt (Int.pow_pos (by decide))
    have st2 := Int.mul_le_mul_of_nonneg_left st p4
    have e1 : (5 : Int) ^ (k + 1) * (s ^ (k + 1 + 3) * (appN m 1 e).2) = 5 * (s * (5 ^ k * (s ^ (k + 3) * (appN m 1 e).2))) := by
      rw [Int.pow_succ, show k + 1 + 3 = (k + 3) + 1 from by omega, Int.pow_succ s]
      grind
    have e2 : (4 : Int) ^ (k + 1) * (appN m (k + 1 + 4) e).2 = 4 ^ k * (4 * (appN m (k + 5) e).2) := by
      rw [Int.pow_succ, show k + 1 + 4 = k + 5 from by omega]
      grind
    have e3 : (4 : Int) ^ k * (5 * (s * (appN m (k + 4) e).2)) = 5 * (s * (4 ^ k * (appN m (k + 4) e).2)) := by grind
    rw [e1, e2]
    rw [e3] at st2
    exact Int.le_trans i2 st2
theorem go_far (q : Quick m s) : ∀ n : Nat, goV m (appN m n e) = s ^ n * s ^ n * goV m e
  | 0 => by rw [Int.pow_zero]; show goV m e = _; omega
  | n + 1 => by
    rw [appN_succ, goV_app, go_far q n, q.det, Int.pow_succ]
    grind
/-- how far the load lies from the limit, beside the first denominator -/
theorem go_first (q : Quick m s) (h : Pos2 e) : s * goV m e ≤ 342732 * ((m.app e).2 * (m.app e).2) ∧ -(s * goV m e) ≤ 12 * ((m.app e).2 * (m.app e).2) := by
  obtain ⟨t0, u0, _⟩ := h
  have s0 := Int.le_of_lt q.s0
  have a1 := q.a1; have b1 := q.b1; have c1 := q.c1; have d1 := q.d1; have a2 := q.a2; have b2 := q.b2
  have X0 := Int.mul_nonneg (show 0 ≤ m.c by omega) t0
  have Y0 := Int.mul_nonneg (show 0 ≤ m.d by omega) u0
  have st : s * e.1 ≤ 12 * (m.c * e.1) := by
    have := Int.mul_le_mul_of_nonneg_right c1 t0
    grind
  have su : s * e.2 ≤ m.d * e.2 := Int.mul_le_mul_of_nonneg_right d1 u0
  have st0 := Int.mul_nonneg s0 t0
  have su0 := Int.mul_nonneg s0 u0
  have p1 := Int.mul_le_mul st su su0 (by omega)
  have p2 := Int.mul_le_mul su su su0 (by omega)
  have p3 := Int.mul_le_mul_of_nonneg_right st X0
  have p4 := Int.mul_le_mul_of_nonneg_right st Y0
  -- a t u and b u u
  have tu0 := Int.mul_nonneg st0 u0
  have uu0 := Int.mul_nonneg su0 u0
  have p5 := Int.mul_le_mul_of_nonneg_right a2 tu0
  have p6 := Int.mul_le_mul_of_nonneg_right b2 uu0
  have n1 := Int.mul_nonneg (show 0 ≤ m.a by omega) tu0
  have n2 := Int.mul_nonneg (show 0 ≤ m.b by omega) uu0
  have XX := Int.mul_nonneg X0 X0
  have XY := Int.mul_nonneg X0 Y0
  have YY := Int.mul_nonneg Y0 Y0
  have n3 := Int.mul_nonneg st0 X0
  have n4 := Int.mul_nonneg st0 Y0
  have eg : s * goV m e = m.a * (s * e.1 * e.2) + m.b * (s * e.2 * e.2) - (s * e.1) * (m.c * e.1) - (s * e.1) * (m.d * e.2) := by
    unfold goV Mx.app
    dsimp only
    grind
  have eu : (m.app e).2 * (m.app e).2 = (m.c * e.1) * (m.c * e.1) + 2 * ((m.c * e.1) * (m.d * e.2)) + (m.d * e.2) * (m.d * e.2) := by
    unfold Mx.app
    dsimp only
    grind
  have e5 : 28561 * s * (s * e.1 * e.2) = 28561 * (s * e.1 * (s * e.2)) := by grind
  have e6 : 28561 * s * (s * e.2 * e.2) = 28561 * (s * e.2 * (s * e.2)) := by grind
  have e7 : 12 * (m.c * e.1) * (m.d * e.2) = 12 * ((m.c * e.1) * (m.d * e.2)) := by grind
  have e8 : 12 * (m.c * e.1) * (m.c * e.1) = 12 * ((m.c * e.1) * (m.c * e.1)) := by grind
  rw [eg, eu]
  rw [e5] at p5
  rw [e6] at p6
  rw [e7] at p1 p4
  rw [e8] at p3
  constructor <;> omega
/-- near the limit, behind seventy sections -/
theorem near70 (q : Quick m s) (h : Pos2 e) : 0 < (appN m 70 e).2 ∧ goV m (1000000 * (appN m 70 e).1 + (appN m 70 e).2, 1000000 * (appN m 70 e).2) ≤ 0 ∧ 0 ≤ goV m (1000000 * (appN m 70 e).1 - (appN m 70 e).2, 1000000 * (appN m 70 e).2) := by
  have s0 := Int.le_of_lt q.s0
  have far := u_far q h 66
  have g1 : goV m (appN m 70 e) = s ^ 70 * s ^ 70 * goV m e := go_far q 70
  have U0 := (appN_ge q h 70).2.1
  have k69 := u_step q h 65
  have k70 := u_step q h 66
  have rr : (appN m 71 e).2 = (m.a + m.d) * (appN m 70 e).2 - s * s * (appN m 69 e).2 := rec2 q 69
  have ee : (appN m 71 e).2 = m.c * (appN m 70 e).1 + m.d * (appN m 70 e).2 := rfl
  obtain ⟨f1, f2⟩ := go_first q h
  have u1 := (app_ge q h).2.2
  replace far : 5 ^ 66 * (s ^ 69 * (m.app e).2) ≤ 4 ^ 66 * (appN m 70 e).2 := far
  replace k69 : 5 * (s * (appN m 69 e).2) ≤ 4 * (appN m 70 e).2 := k69
  replace k70 : 5 * (s * (appN m 70 e).2) ≤ 4 * (appN m 71 e).2 := k70
  have W0 : 0 < s ^ 69 := Int.pow_pos q.s0
  have e70 : s ^ 70 = s ^ 69 * s := Int.pow_succ ..
  rw [e70] at g1
  have c2 := q.c2
  have c0 : 0 ≤ m.c := by have := q.c1; have := q.s0; omega
  generalize s ^ 69 = W at *
  generalize (m.app e).2 = u at *
  generalize goV m e = g at *
  have eG : goV m (appN m 70 e) = (m.a * (appN m 70 e).1 + m.b * (appN m 70 e).2) * (appN m 70 e).2 - (appN m 70 e).1 * (m.c * (appN m 70 e).1 + m.d * (appN m 70 e).2) := rfl
  generalize (appN m 71 e).2 = V at *
  generalize (appN m 69 e).2 = Y at *
  have eA : goV m (1000000 * (appN m 70 e).1 + (appN m 70 e).2, 1000000 * (appN m 70 e).2) = 1000000000000 * goV m (appN m 70 e) - 1000000 * ((appN m 70 e).2 * (2 * V - (m.a + m.d) * (appN m 70 e).2)) - m.c * ((appN m 70 e).2 * (appN m 70 e).2) := by
    rw [ee]
    unfold goV Mx.app
    dsimp only
    grind
  have eB : goV m (1000000 * (appN m 70 e).1 - (appN m 70 e).2, 1000000 * (appN m 70 e).2) = 1000000000000 * goV m (appN m 70 e) + 1000000 * ((appN m 70 e).2 * (2 * V - (m.a + m.d) * (appN m 70 e).2)) - m.c * ((appN m 70 e).2 * (appN m 70 e).2) := by
    rw [ee]
    unfold goV Mx.app
    dsimp only
    grind
  rw [eA, eB, g1]
  clear eA eB eG g1 ee
  generalize (appN m 70 e).2 = U at *
  have Wu := Int.mul_pos W0 u1
  -- the slope
  have Z : 9 * (s * U) ≤ 20 * (2 * V - (m.a + m.d) * U) := by
    have := Int.mul_le_mul_of_nonneg_left k69 s0
    have e1 : s * (5 * (s * Y)) = 5 * (s * s * Y) := by grind
    have e2 : s * (4 * U) = 4 * (s * U) := by grind
    omega
  have ZU := Int.mul_le_mul_of_nonneg_left Z U0
  have eZ : U * (20 * (2 * V - (m.a + m.d) * U)) = 20 * (U * (2 * V - (m.a + m.d) * U)) := by grind
  have eS : U * (9 * (s * U)) = 9 * (s * (U * U)) := by grind
  rw [eZ, eS] at ZU
  generalize U * (2 * V - (m.a + m.d) * U) = ZZ at *
  have UU := Int.mul_nonneg U0 U0
  have cU := Int.mul_le_mul_of_nonneg_right c2 UU
  have cU0 := Int.mul_nonneg c0 UU
  have eC : 28561 * s * (U * U) = 28561 * (s * (U * U)) := by grind
  rw [eC] at cU
  -- the square of the denominator
  have p5 : (0 : Int) ≤ 5 ^ 66 * (W * u) := Int.mul_nonneg (by decide) (Int.le_of_lt Wu)
  have sq := Int.mul_le_mul far far p5 (Int.le_trans p5 far)
  have eL : 5 ^ 66 * (W * u) * (5 ^ 66 * (W * u)) = 5 ^ 132 * (W * W * (u * u)) := by grind
  have eR : 4 ^ 66 * U * (4 ^ 66 * U) = 4 ^ 132 * (U * U) := by grind
  rw [eL, eR] at sq
  have ssq := Int.mul_le_mul_of_nonneg_left sq s0
  have WW := Int.mul_nonneg (Int.le_of_lt W0) (Int.le_of_lt W0)
  have sWW := Int.mul_nonneg s0 WW
  have m1 := Int.mul_le_mul_of_nonneg_left f1 sWW
  have m2 := Int.mul_le_mul_of_nonneg_left f2 sWW
  have e3 : s * (W * W) * (s * g) = W * s * (W * s) * g := by grind
  have e4 : s * (W * W) * -(s * g) = - (W * s * (W * s) * g) := by grind
  have e5 : s * (W * W) * (342732 * (u * u)) = 342732 * (s * (W * W * (u * u))) := by grind
  have e6 : s * (W * W) * (12 * (u * u)) = 12 * (s * (W * W * (u * u))) := by grind
  have e7 : s * (5 ^ 132 * (W * W * (u * u))) = 5 ^ 132 * (s * (W * W * (u * u))) := by grind
  have e8 : s * (4 ^ 132 * (U * U)) = 4 ^ 132 * (s * (U * U)) := by grind
  rw [e3, e5] at m1
  rw [e4, e6] at m2
  rw [e7, e8] at ssq
  have n1 := Int.mul_nonneg s0 UU
  have n2 := Int.mul_nonneg s0 (Int.mul_nonneg WW (Int.mul_nonneg (Int.le_of_lt u1) (Int.le_of_lt u1)))
  have Up : 0 < U := by
    rcases Int.lt_or_le 0 U with z | z
    · exact z
    · have : U = 0 := by omega
      rw [this] at far
      have : (0 : Int) < 5 ^ 66 * (W * u) := Int.mul_pos (by decide) Wu
      omega
  generalize W * s * (W * s) * g = G at *
  generalize s * (W * W * (u * u)) = A at *
  generalize s * (U * U) = B at *
  generalize m.c * (U * U) = Cc at *
  clear e3 e4 e5 e6 e7 e8 eL eR eZ eS eC sq far p5 f1 f2 k69 k70 rr
  refine ⟨Up, ?_, ?_⟩ <;> omega
end
end RL

namespace RL
theorem sg_eq {x y : Int} (h1 : 0 < x ↔ 0 < y) (h2 : x = 0 ↔ y = 0) : sg x = sg y := by
  unfold sg
  split
  · rw [if_pos (h1.mp (by assumption))]
  · rename_i n1
    rw [if_neg (fun z => n1 (h1.mpr z))]
    split
    · rw [if_pos (by have := mt h2.mpr (by omega); have := mt h1.mpr n1; omega)]
    · rw [if_neg (by have := h2.mp (by omega); omega)]
theorem side_go {r : List Pc} {s : Int} (q : Quick (matR r) s) {e : Int × Int} (h : Pos2 e) : side (eqL r).1 (eqL r).2.1 (eqL r).2.2 e.1 e.2 = sg (goV (matR r) e) := by
  have s0 := q.s0
  have b1 := q.b1
  have c1 := q.c1
  obtain ⟨t0, u0, k⟩ := h
  have N := parts_nrm (a := (matR r).c) (b := (matR r).d - (matR r).a) (c := (matR r).b) (.inr ⟨by omega, by omega⟩)
  unfold eqL
  rw [if_neg (by omega)]
  unfold side
  split
  · rename_i z
    have t1 : 0 < e.1 := by omega
    have e1 : goV (matR r) e = -(e.1 * ((matR r).c * e.1)) := by
      unfold goV Mx.app
      dsimp only
      rw [z]
      grind
    have := Int.mul_pos t1 (Int.mul_pos (show 0 < (matR r).c by omega) t1)
    rw [e1]
    unfold sg
    rw [if_neg (by omega), if_pos (by omega)]
  · obtain ⟨n1, n2⟩ := N.sgn e.1 e.2 t0 (by omega)
    have e1 : goV (matR r) e = -((matR r).c * e.1 * e.1 + ((matR r).d - (matR r).a) * e.1 * e.2 - (matR r).b * e.2 * e.2) := by
      unfold goV Mx.app
      dsimp only
      grind
    rw [e1]
    refine sg_eq ?_ ?_ <;> omega
theorem near_low {r : List Pc} {s : Int} (q : Quick (matR r) s) {e f : Int × Int} (h : Pos2 e) (ef : f = low (appN (matR r) 70 e)) :
    0 < f.2 ∧ ¬ 0 < side (eqL r).1 (eqL r).2.1 (eqL r).2.2 (1000000 * f.1 + f.2) (1000000 * f.2) ∧ (0 ≤ 1000000 * f.1 - f.2 → 0 ≤ side (eqL r).1 (eqL r).2.1 (eqL r).2.2 (1000000 * f.1 - f.2) (1000000 * f.2)) := by
  obtain ⟨u0, h1, h2⟩ := near70 q h
  have p := appN_ge q h 70
  have pl := low_pos p
  have e1 := low_is p
  rw [← ef] at e1 pl
  have k0 := gc_pos2 p
  generalize gc (appN (matR r) 70 e).1 (appN (matR r) 70 e).2 = k at *
  rw [e1] at u0 h1 h2
  obtain ⟨f0, g0, _⟩ := pl
  replace u0 : 0 < k * f.2 := u0
  have fp : 0 < f.2 := by
    rcases Int.lt_or_le 0 f.2 with z | z
    · exact z
    · have := Int.mul_nonpos_of_nonneg_of_nonpos (Int.le_of_lt k0) z
      omega
  have a1 : (1000000 * (sc k f).1 + (sc k f).2, 1000000 * (sc k f).2) = sc k (1000000 * f.1 + f.2, 1000000 * f.2) := by
    unfold sc
    ext <;> dsimp only <;> grind
  have a2 : (1000000 * (sc k f).1 - (sc k f).2, 1000000 * (sc k f).2) = sc k (1000000 * f.1 - f.2, 1000000 * f.2) := by
    unfold sc
    ext <;> dsimp only <;> grind
  rw [a1, goV_sc] at h1
  rw [a2, goV_sc] at h2
  have kk := Int.mul_pos k0 k0
  refine ⟨fp, ?_, fun z => ?_⟩
  · rw [side_go q (e := (1000000 * f.1 + f.2, 1000000 * f.2)) ⟨by show 0 ≤ 1000000 * f.1 + f.2; omega, by show 0 ≤ 1000000 * f.2; omega, .inr (by show 0 < 1000000 * f.2; omega)⟩]
    unfold sg
    split
    · rename_i z
      have := Int.mul_pos kk z
      omega
    · split <;> omega
  · rw [side_go q (e := (1000000 * f.1 - f.2, 1000000 * f.2)) ⟨z, by show 0 ≤ 1000000 * f.2; omega, .inr (by show 0 < 1000000 * f.2; omega)⟩]
    unfold sg
    split
    · decide
    · split
      · rename_i _ z2
        have := Int.mul_neg_of_pos_of_neg kk z2
        omega
      · decide
theorem low_frt {r : List Pc} {e : Int × Int} (hr : RowOk r) (h : Pos2 e) : low (frtR r e) = low ((matR r).app e) := by
  obtain ⟨k, hk, ek⟩ := frtR_act hr h
  rw [mat_app, ek, low_sc hk]
theorem walk_go {r : List Pc} {e : Int × Int} (hr : RowOk r) (h : Pos2 e) : sg (goV (matR r) (low (frtR r e))) = sg (goV (matR r) e) ∧ Pos2 (low (frtR r e)) := by
  have p := app_pos hr h
  rw [low_frt hr h]
  exact ⟨by rw [goV_low p]; exact goV_appN hr e 1, low_pos p⟩
theorem walk_sm {r : List Pc} {e : Int × Int} {k : Nat} (hr : RowOk r) (l8 : r.length ≤ 8) (h : Pos2 e) (h1 : Sm k e.1) (h2 : Sm k e.2) : Sm (k + 31) (low (frtR r e)).1 ∧ Sm (k + 31) (low (frtR r e)).2 := by
  rw [low_frt hr h]
  obtain ⟨a, b⟩ := appN_sm hr l8 h1 h2 1
  exact low_sm (app_pos hr h) a b
theorem beside1 {l w : Int} (h : 1 ≤ l) (hw : 0 ≤ w) : side 0 l w (3 * w + 1) (3 * l) = -1 ∧ side 0 l w (3 * w) (3 * l) = 0 := by
  have := Int.mul_pos (show 0 < l by omega) (show 0 < l by omega)
  have e1 : -(0 * (3 * w + 1) * (3 * w + 1) + l * (3 * w + 1) * (3 * l) - w * (3 * l) * (3 * l)) = -(3 * (l * l)) := by grind
  have e2 : -(0 * (3 * w) * (3 * w) + l * (3 * w) * (3 * l) - w * (3 * l) * (3 * l)) = 0 := by grind
  unfold side
  rw [if_neg (by omega), if_neg (by omega), e1, e2]
  unfold sg
  rw [if_neg (by omega), if_pos (by omega)]
  exact ⟨rfl, rfl⟩
end RL

/-! How large the numbers of a ladder are, section by section. -/
namespace RL
theorem matR_sm15 {r : List Pc} (hr : RowOk r) (l4 : r.length ≤ 4) : MxSm 15 (matR r) := by
  have h := fold_le (N := 1) hr (m := m1) ⟨by decide, by decide, by decide, by decide, by decide, by decide, by decide, by decide⟩
  have b : (13 : Int) ^ r.length * 1 ≤ 28561 := by
    have : ∀ n : Nat, n ≤ 4 → (13 : Int) ^ n * 1 ≤ 28561 := fun n hn => by
      match n, hn with
      | 0, _ => decide
      | 1, _ => decide
      | 2, _ => decide
      | 3, _ => decide
      | 4, _ => decide
    exact this _ l4
  obtain ⟨a0, a1, b0, b1, c0, c1, d0, d1⟩ := h
  have k : ∀ {x : Int}, 0 ≤ x → x ≤ (13 : Int) ^ r.length * 1 → Sm 15 x := fun {x} h0 h1 => by
    unfold Sm
    have : (2 : Nat) ^ 15 = 32768 := by decide
    omega
  exact ⟨k a0 a1, k b0 b1, k c0 c1, k d0 d1⟩
theorem app_smk {m : Mx} {n k : Nat} {e : Int × Int} (hm : MxSm n m) (h1 : Sm k e.1) (h2 : Sm k e.2) : Sm (k + (n + 1)) (m.app e).1 ∧ Sm (k + (n + 1)) (m.app e).2 := by
  obtain ⟨a, b, c, d⟩ := hm
  unfold Mx.app
  dsimp
  exact ⟨(Sm.add (n := n + k) (a.mul h1) (b.mul h2)).mono (by omega), (Sm.add (n := n + k) (c.mul h1) (d.mul h2)).mono (by omega)⟩
theorem appN_sm15 {r : List Pc} {e : Int × Int} {k : Nat} (hr : RowOk r) (l4 : r.length ≤ 4) (h1 : Sm k e.1) (h2 : Sm k e.2) : ∀ n, Sm (k + 16 * n) (appN (matR r) n e).1 ∧ Sm (k + 16 * n) (appN (matR r) n e).2
  | 0 => ⟨h1, h2⟩
  | n + 1 => by
    obtain ⟨i1, i2⟩ := appN_sm15 hr l4 h1 h2 n
    obtain ⟨j1, j2⟩ := app_smk (matR_sm15 hr l4) i1 i2
    exact ⟨j1.mono (by omega), j2.mono (by omega)⟩
/-- so far the numbers stay short -/
def Short (r : List Pc) (n : Nat) : Prop := (r.length ≤ 4 ∧ n ≤ 101) ∨ (r.length ≤ 8 ∧ n ≤ 26)
theorem Short.le {r : List Pc} {n k : Nat} (h : Short r n) (hk : k ≤ n) : Short r k := by
  unfold Short at *
  omega
theorem Short.l8 {r : List Pc} {n : Nat} (h : Short r n) : r.length ≤ 8 := by
  unfold Short at h
  omega
/-- what a ladder shows after n sections -/
def shN (r : List Pc) (e : Int × Int) (n : Nat) : Int × Int := low (appN (matR r) n e)
theorem shN_sm {r : List Pc} {e : Int × Int} {n : Nat} (hr : RowOk r) (he : Pos2 e) (h1 : Sm 41 e.1) (h2 : Sm 41 e.2) (h : Short r n) : Sm 1700 (shN r e n).1 ∧ Sm 1700 (shN r e n).2 := by
  have P := appN_pos hr he n
  rcases h with ⟨l4, hn⟩ | ⟨l8, hn⟩
  · obtain ⟨i1, i2⟩ := appN_sm15 hr l4 h1 h2 n
    exact low_sm P (i1.mono (by omega)) (i2.mono (by omega))
  · obtain ⟨i1, i2⟩ := appN_sm hr l8 h1 h2 n
    exact low_sm P (i1.mono (by omega)) (i2.mono (by omega))
theorem shN_pos {r : List Pc} {e : Int × Int} (hr : RowOk r) (he : Pos2 e) (n : Nat) : Pos2 (shN r e n) := low_pos (appN_pos hr he n)
theorem shN_low {r : List Pc} {e : Int × Int} (hr : RowOk r) (he : Pos2 e) (n : Nat) : low (shN r e n) = shN r e n := low_low (appN_pos hr he n)
theorem shN_succ {r : List Pc} {e : Int × Int} (hr : RowOk r) (he : Pos2 e) (n : Nat) : low ((matR r).app (shN r e n)) = shN r e (n + 1) := low_app (appN_pos hr he n)
theorem shN_front {r : List Pc} {e : Int × Int} (hr : RowOk r) (he : Pos2 e) (n : Nat) : low (frtR r (shN r e n)) = shN r e (n + 1) := by
  rw [low_frt hr (shN_pos hr he n)]
  exact shN_succ hr he n
theorem shN_zero {r : List Pc} {e : Int × Int} (hl : low e = e) : shN r e 0 = e := hl
/-- the way a ladder goes, by two that follow one another -/
def goB (e f : Int × Int) : Int := if below e f = true then 1 else if below f e = true then -1 else 0
theorem goB_sg (e f : Int × Int) : goB e f = sg (f.1 * e.2 - e.1 * f.2) := by
  unfold goB below sg
  by_cases h : e.1 * f.2 < f.1 * e.2
  · rw [decide_eq_true h, if_pos rfl, if_pos (by omega)]
  · rw [decide_eq_false h, if_neg (by decide)]
    by_cases h' : f.1 * e.2 < e.1 * f.2
    · rw [decide_eq_true h', if_pos rfl, if_neg (show ¬ 0 < f.1 * e.2 - e.1 * f.2 by omega), if_pos (by omega)]
    · rw [decide_eq_false h', if_neg (by decide), if_neg (show ¬ 0 < f.1 * e.2 - e.1 * f.2 by omega), if_neg (by omega)]
theorem sg_sc {j k : Int} (hj : 0 < j) (hk : 0 < k) (e f : Int × Int) : sg ((sc k f).1 * (sc j e).2 - (sc j e).1 * (sc k f).2) = sg (f.1 * e.2 - e.1 * f.2) := by
  have : (sc k f).1 * (sc j e).2 - (sc j e).1 * (sc k f).2 = (j * k) * (f.1 * e.2 - e.1 * f.2) := by
    unfold sc
    dsimp
    grind
  rw [this, sg_scale (Int.mul_pos hj hk)]
theorem goB_shN {r : List Pc} {e : Int × Int} (hr : RowOk r) (he : Pos2 e) (n : Nat) : goB (shN r e n) (shN r e (n + 1)) = sg (((matR r).app e).1 * e.2 - e.1 * ((matR r).app e).2) := by
  rw [goB_sg]
  have P := appN_pos hr he n
  have P' := appN_pos hr he (n + 1)
  have e1 := low_is P
  have e2 := low_is P'
  have h := sg_sc (gc_pos2 P) (gc_pos2 P') (shN r e n) (shN r e (n + 1))
  unfold shN at *
  rw [← e1, ← e2] at h
  rw [← h]
  have g := goV_appN hr e n
  unfold goV at g
  exact g
end RL

set_option maxHeartbeats 2000000
/-! for in the body of a generator. -/
namespace PySem
section
variable {M : Model} {A : Around} {R : GenEnd} {Y : Protocol} {n : Nat} {s₀ : Shared} {c : Code} {fs : List Frame} {s : Shared} {env : Env}
  {K : Flow → Sem Fin} {J : Value → Sem Fin} {gd : Bool → Bool} {lv : List Value → List Value}
theorem segw_bindR {α β : Type} {m : Sem α} {f : α → Sem β} {K : β → Sem Fin}
    (h : wpAny M (A.over c fs) m (fun a s' => Seg M A R Y n s₀ c ((f a).wrap K J gd lv) fs s') (fun x s' => Seg M A R Y n s₀ c (J x) fs s') s) :
    Seg M A R Y n s₀ c ((m >>= f).wrap K J gd lv) fs s := by
  rw [Sem.bind_eq_wrap', Sem.wrap_wrap]
  exact seg_wrap h
theorem segR_For {target iter : Expr} {body : List Stmt} {pos : Pos}
    (h : wpAny M (A.over c fs) (eval iter env) (fun x s₁ => wpAny M (A.over c fs) (pyIter x) (fun it s₂ =>
      ∀ p, Seg M A R Y n s₀ (.forLoop target it body [] env) (M.den (.forLoop target it body [] env))
        (.ret (fun r => ((match r with | .ok f => (.pure f : Sem Flow) | .error e => .raise e).onRaise fun (x : Value) => do
          if (← field x 1) == Value.none then unsupported "frame.own-activation:exception-without-traceback"
          setFlight x env.frame).wrap K J gd lv) none (gd false) (lv []) c p [] :: fs) s₂)
      (fun x s' => Seg M A R Y n s₀ c (J x) fs s') s₁) (fun x s' => Seg M A R Y n s₀ c (J x) fs s') s)
    (hs : ∀ x, foldedSetIterable iter env x = pure x := by intro _; rfl) :
    Seg M A R Y n s₀ c ((exec (.For target iter body [] pos) env).wrap K J gd lv) fs s := by
  rw [exec_For]
  refine segw_bindR (wpAny_standAt ?_)
  refine segw_bindR (wpAny_mono h (fun x s₁ h₁ => ?_) fun _ _ z => z)
  refine segw_bindR (wpAny_of_eq (hs x) ?_)
  refine segw_bindR (wpAny_standAt ?_)
  refine segw_bindR (wpAny_holding (wpAny_mono h₁ (fun it s₂ h₂ => ?_) fun _ _ z => z))
  exact seg_call h₂
end
section
variable {prog : Program} {w : World} {A : Around} {R : GenEnd} {Y : Protocol} {n : Nat} {s₀ : Shared} {fs : List Frame} {s : Shared} {env : Env}
def notedR (env : Env) (e : Value) : Sem Fin := (do noteFrame e env; theTreesLotGoes e : Sem Unit).wrap (fun _ => .raise e) .raise id id
theorem noted_bind (env : Env) (e : Value) : ((do noteFrame e env; theTreesLotGoes e : Sem Unit).bind fun _ => (.raise e : Sem Fin)) = notedR env e := Sem.bind_eq_wrap _ _
theorem segR_forLoop {target : Expr} {it : Value} {body : List Stmt}
    (h : wpAny (model prog w) (A.over (.forLoop target it body [] env) fs) (pyNext it) (fun r s₁ => match r with
      | none => Seg (model prog w) A R Y n s₀ (.block [] env) (leafOf (.ok .next)) fs s₁
      | some v => wpAny (model prog w) (A.over (.forLoop target it body [] env) fs) (letOwnedTupleGo target it v) (fun _ s₁' =>
          wpAny (model prog w) (A.over (.forLoop target it body [] env) fs) (assign target env v) (fun _ s₂ =>
            Seg (model prog w) A R Y n s₀ (.forLoop target it body [] env) ((execs body env).wrap (fun f => match f with
              | .next | .cont => .pure (.again (.forLoop target it body [] env))
              | .brk => .pure (.done .next)
              | .ret v => .pure (.done (.ret v))) (notedR env) id id) fs s₂)
            (fun x s' => Seg (model prog w) A R Y n s₀ (.forLoop target it body [] env) (notedR env x) fs s') s₁')
          (fun x s' => Seg (model prog w) A R Y n s₀ (.forLoop target it body [] env) (notedR env x) fs s') s₁)
      (fun x s' => Seg (model prog w) A R Y n s₀ (.forLoop target it body [] env) (notedR env x) fs s') s) :
    Seg (model prog w) A R Y n s₀ (.forLoop target it body [] env) ((model prog w).den (.forLoop target it body [] env)) fs s := by
  show Seg _ A R Y n s₀ _ ((forTurn target it body [] env).onRaise (fun x => do noteFrame x env; theTreesLotGoes x)) fs s
  rw [Sem.onRaise_eq_wrap]
  unfold forTurn
  refine segw_bindR (wpAny_standAt ?_)
  refine segw_bindR (wpAny_onRaise (wpAny_mono h (fun r s₁ h₁ => ?_) fun x s' hx => wpAny_standAt ?_))
  · cases r with
    | none => exact seg_again rfl h₁
    | some v =>
      refine segw_bindR (wpAny_mono h₁ (fun _ s₁' h₁' => ?_) fun x s' hx => ?_)
      · refine segw_bindR (wpAny_mono h₁' (fun _ s₂ h₂ => ?_) fun x s' hx => ?_)
        · rw [Sem.bind_eq_wrap', Sem.wrap_wrap]
          rw [Sem.wrap_congr (execs body env) _ _ (K' := fun f => match f with
              | .next | .cont => .pure (.again (.forLoop target it body [] env))
              | .brk => .pure (.done .next)
              | .ret v => .pure (.done (.ret v))) (H' := notedR env) (fun f => by cases f <;> rfl) (fun e => by rw [← noted_bind]; rfl)]
          exact h₂
        · rw [noted_bind]
          exact hx
      · rw [noted_bind]
        exact hx
  · rw [noted_bind]
    exact hx
end
end PySem
namespace L2
open PySem PySem.Spec PyProof.Rows GenW
section
variable {X : Cx} {tg : Expr}
def tGFor (wi : TI) (g : TG) (tb : TGn) : TGn := fun D ys σ H => wi σ H fun J H1 => ∃ W : Nat → Nat → List V → St → Hp → Prop, (∃ m, W 0 m ys σ H1) ∧ ∀ i m ys σ H, W i m ys σ H →
  (J.stop i H ∧ D.nx ys σ H) ∨ (J.go i H ∧ ∃ N : List V → St → Hp → Prop, (∀ ys' σ' H', N ys' σ' H' → ∃ m', m' < m ∧ W (i + 1) m' ys' σ' H') ∧ ∀ x H', J.yld i H x H' → g x σ H' fun σ2 H2 => tb { D with nx := N, ct := N, bk := D.nx } ys σ2 H2)
theorem gs_for {iter : Expr} {body : List Stmt} {wi : TI} {g : TG} {tb : TGn} {pos : Pos} (hp : PassesOwn (model X.prog X.w) X.A X.env X.xe) (hc : X.calm = true) (hi : PI X tg iter wi) (hg : PG X tg g) (hb : GSs X body tb)
    (hs : ∀ x, foldedSetIterable iter X.env x = pure x := by intro _; rfl) : GS X (.For tg iter body [] pos) (tGFor wi g tb) := by
  refine ⟨fun A S ip R n ys s₀ c fs K J gd lv s σ H D gc hn k hI ht => ?_⟩
  obtain ⟨acc0, cc0, r0, I0⟩ := hI
  refine segR_For ?_ hs
  rw [gc.over]
  refine wpAny_mono (hi.run _ s σ H _ I0 ht) (fun v s1 h1 => wpAny_mono h1 (fun itv s2 h2 => ?_) fun x s' hx => k.exc n s₀ x s' hx) fun x s' hx => k.exc n s₀ x s' hx
  obtain ⟨it, fp, tn, Jt, H2, rfl, I2, T, st2, f2, W, ⟨m0, w0⟩, turn⟩ := h2
  intro p
  have gl := fun (kk : Result → Sem PySem.Fin) => gc_loop (k := kk) (c' := .forLoop tg (.ref it) body [] X.env) (l := lv []) (kp := []) (p := p) gc rfl rfl
  -- what stays true of the iterator's objects, whatever is out
  have fS : ∀ b ∈ fp, S ≠ b := fun b hb => (f2 b hb).2.2.2.2.2 (S, lstObj acc0 cc0) (List.mem_append_right _ List.mem_cons_self)
  have stat : ∀ {acc : Array Value} {cc : Nat} {H' : Hp}, (∀ b ∈ fp, H' b = none) → ∀ b ∈ fp, FpOk X ((S, lstObj acc cc) :: ip) H' b := fun {acc cc H'} hn b hb => by
    obtain ⟨_, q1, q2, q3, q4, q5⟩ := f2 b hb
    refine ⟨hn b hb, q1, q2, q3, q4, fun z hz => ?_⟩
    rcases List.mem_append.mp hz with hz | hz
    · exact q5 z (List.mem_append_left _ hz)
    · rcases List.mem_cons.mp hz with rfl | hz
      · exact fS b hb
      · exact q5 z (List.mem_append_right _ (List.mem_cons_of_mem _ hz))
  have loop : ∀ (m i n : Nat) (ys : List V) (s₀ s : Shared) (σ : St) (H : Hp), n + ys.length = sizeLine → W i m ys σ H → GI X S ip ys σ H s → tn i s.heap → (∀ b ∈ fp, H b = none) →
      Seg (model X.prog X.w) A R (GY X S) n s₀ (.forLoop tg (.ref it) body [] X.env) ((model X.prog X.w).den (.forLoop tg (.ref it) body [] X.env))
        (.ret (fun r => ((match r with | .ok f => (.pure f : Sem Flow) | .error e => .raise e).onRaise (cameBack X.env)).wrap K J gd lv) none (gd false) (lv []) c p [] :: fs) s := by
    intro m
    induction m using Nat.strongRecOn with
    | ind m ih =>
      intro i n ys s₀ s σ H hn w hI st fr
      have ee : ∀ (n : Nat) (s₀ : Shared) (x : Value) (s' : Shared), X.xe x s' → Seg (model X.prog X.w) A R (GY X S) n s₀ (.forLoop tg (.ref it) body [] X.env) (notedR X.env x)
          (.ret (fun r => ((match r with | .ok f => (.pure f : Sem Flow) | .error e => .raise e).onRaise (cameBack X.env)).wrap K J gd lv) none (gd false) (lv []) c p [] :: fs) s' := fun n s₀ x s' hx => by
        refine seg_wrap ?_
        rw [(gl _).over]
        refine wpAny_bind (wpAny_mono (hp x s' hx) (fun _ s'' hcb => wpAny_theTreesLotGoes ?_) fun y s'' hcb => ?_)
        · exact seg_leaf (.error x) (seg_cameBack gc k hcb)
        · exact seg_leaf (.error y) (seg_cameBack gc k hcb)
      refine segR_forLoop ?_
      rw [(gl _).over]
      obtain ⟨acc, cc, r, I⟩ := hI
      rcases turn i m ys σ H w with ⟨stop, qn⟩ | ⟨go, N, hN, step⟩
      · refine wpAny_mono (T.done X rfl rfl rfl hc i _ s σ H X.xe I (stat fr) st stop) (fun z s4 hz => ?_) fun x s' hx => ee n s₀ x s' hx
        obtain ⟨rfl, I4⟩ := hz
        exact seg_leaf (.ok .next) (k.ok n ys s₀ s4 .next hn ⟨σ, H, ⟨acc, cc, r, I4⟩, qn⟩)
      · refine wpAny_mono (T.item X rfl rfl rfl hc i _ s σ H X.xe I (stat fr) st go) (fun z s4 hz => ?_) fun x s' hx => ee n s₀ x s' hx
        obtain ⟨u, rfl, h4⟩ := hz
        refine wpAny_mono h4 (fun _ s5 h5 => ?_) fun x s' hx => ee n s₀ x s' hx
        obtain ⟨x, H5, I5, r5, y5, st5, fr5⟩ := h5
        have I5' := I5.pinned (stat fr5) (T.obj _ _ st5)
        refine wpAny_mono (hg.run _ s5 σ H5 x u _ I5' r5 (step x H5 y5)) (fun _ s6 h6 => ?_) fun x s' hx => ee n s₀ x s' hx
        obtain ⟨σ6, H6, I6, q6⟩ := h6
        have ipS : ∀ q ∈ ip ++ pinsAt fp s5.heap, q.1 ≠ S := fun q hq => (List.mem_append.mp hq).elim (fun z => gc.ip q z) fun z => (fS q.1 (of_pinsAt z).1).symm
        have gb := gl (fun r => ((match r with | .ok f => (.pure f : Sem Flow) | .error e => .raise e).onRaise (cameBack X.env)).wrap K J gd lv)
        have out : ∀ {ys' : List V} {σ7 : St} {H7 : Hp} {s7 : Shared}, GI X S (ip ++ pinsAt fp s5.heap) ys' σ7 H7 s7 → GI X S ip ys' σ7 H7 s7 ∧ tn (i + 1) s7.heap ∧ ∀ b ∈ fp, H7 b = none := fun {ys' σ7 H7 s7} hG => by
          obtain ⟨acc7, cc7, r7, I7⟩ := hG
          have I7' : Inv X (((S, lstObj acc7 cc7) :: ip) ++ pinsAt fp s5.heap) σ7 H7 s7 := I7
          refine ⟨⟨acc7, cc7, r7, I7'.unpinned⟩, T.keep _ _ _ st5 fun b hb o e => (I7'.pin (b, o) (List.mem_append_right _ (List.mem_append_right _ (mem_pinsAt hb e)))).1, fun b hb => ?_⟩
          obtain ⟨o, e, d⟩ := T.obj _ _ st5 b hb
          exact (I7'.pin (b, o) (List.mem_append_right _ (List.mem_append_right _ (mem_pinsAt hb e)))).2.1
        refine hb.run A S (ip ++ pinsAt fp s5.heap) R n ys s₀ _ _ _ _ id id s6 σ6 H6 { D with nx := N, ct := N, bk := D.nx } ⟨gb.pn, ipS, gb.apart, gb.over, gb.split, gb.guard, gb.gd⟩ hn ⟨fun n' ys' s₀' s7 f hn' hs7 => ?_, fun n' s₀' x s7 hx => ee n' s₀' x s7 hx⟩ ⟨acc, cc, r, I6⟩ q6
        cases f with
        | next =>
          obtain ⟨σ7, H7, I7, n7⟩ := hs7
          obtain ⟨g7, t7, f7⟩ := out I7
          obtain ⟨m', hm, w7⟩ := hN ys' σ7 H7 n7
          exact seg_again rfl (ih m' hm (i + 1) n' ys' s₀' s7 σ7 H7 hn' w7 g7 t7 f7)
        | cont =>
          obtain ⟨σ7, H7, I7, n7⟩ := hs7
          obtain ⟨g7, t7, f7⟩ := out I7
          obtain ⟨m', hm, w7⟩ := hN ys' σ7 H7 n7
          exact seg_again rfl (ih m' hm (i + 1) n' ys' s₀' s7 σ7 H7 hn' w7 g7 t7 f7)
        | brk =>
          obtain ⟨σ7, H7, I7, n7⟩ := hs7
          exact seg_leaf (.ok .next) (k.ok n' ys' s₀' s7 .next hn' ⟨σ7, H7, (out I7).1, n7⟩)
        | ret v =>
          obtain ⟨x7, σ7, H7, I7, r7, q7⟩ := hs7
          exact seg_leaf (.ok (.ret v)) (k.ok n' ys' s₀' s7 (.ret v) hn' ⟨x7, σ7, H7, (out I7).1, r7, q7⟩)
  exact loop m0 0 n ys s₀ s2 σ H2 hn w0 ⟨acc0, cc0, r0, I2⟩ st2 fun b hb => (f2 b hb).1
end
/-- over a range, in a generator -/
theorem gfor_range {lo : Int} {n : Nat} {g : TG} {tb : TGn} {D : GEnds} {ys : List V} {σ : St} {H : Hp} (Pv : Nat → List V → St → Hp → Prop) (h0 : Pv 0 ys σ H)
    (hs : ∀ i ys σ H, i < n → Pv i ys σ H → g (.int (lo + i)) σ H fun σ2 H2 => tb { D with nx := Pv (i + 1), ct := Pv (i + 1), bk := D.nx } ys σ2 H2) (hd : ∀ ys σ H, Pv n ys σ H → D.nx ys σ H) :
    ∃ W : Nat → Nat → List V → St → Hp → Prop, (∃ m, W 0 m ys σ H) ∧ ∀ i m ys σ H, W i m ys σ H →
      ((Itr lo n).stop i H ∧ D.nx ys σ H) ∨ ((Itr lo n).go i H ∧ ∃ N : List V → St → Hp → Prop, (∀ ys' σ' H', N ys' σ' H' → ∃ m', m' < m ∧ W (i + 1) m' ys' σ' H') ∧ ∀ x H', (Itr lo n).yld i H x H' → g x σ H' fun σ2 H2 => tb { D with nx := N, ct := N, bk := D.nx } ys σ2 H2) := by
  refine ⟨fun i m ys σ H => m = n - i ∧ i ≤ n ∧ Pv i ys σ H, ⟨n, by simp, Nat.zero_le _, h0⟩, ?_⟩
  rintro i m ys σ H ⟨rfl, hi, p⟩
  by_cases hlt : i < n
  · refine .inr ⟨hlt, Pv (i + 1), fun ys' σ' H' p' => ⟨n - (i + 1), by omega, rfl, hlt, p'⟩, fun x H' y => ?_⟩
    obtain ⟨e, y⟩ := y
    subst e y
    exact hs i ys σ _ hlt p
  · have e : i = n := by omega
    subst e
    exact .inl ⟨Nat.le_refl _, hd ys σ H p⟩
end L2

set_option maxHeartbeats 2000000
/-! Generator methods: by keyword; no exception leaves them. -/
namespace RL
open PySem L2 PySem.Spec PyProof.Rows GenW
theorem noStop0 {K : PySem.W.Frag} : NoStop K E0 := fun _ _ _ h => False.elim h
theorem passC {X : Cx} : Passes (L2.CX X.prog X.w) X E0 := fun _ _ _ _ _ _ _ h => by
  obtain ⟨a, B, H', cls, d, h1, h2, h3, h4, h5, h6, h7, h8⟩ := h
  exact False.elim h8
section
variable {X : Cx} {k : Nat} {f C : Addr} {fd : FuncData} {sp : SpG} {m p1 kw : Str} {pos' apos kpos : Pos} {o e : Expr} {ta : TE} {tk : TA}
/-- a generator method of two parameters -/
structure MtG (P : Program) (w : World) (K : PySem.W.Frag) (mg : Str → Option Value) (base : Heap) (C : Addr) (k : Nat) (m p1 kw : Str) (sp : SpG) : Prop where
  ex : ∃ (f : Addr) (fd : FuncData), GFn P w K mg base k f fd [p1, kw] sp ∧ Meth K C m f ∧ Binds K fd [p1, kw] [] ∧ (∀ (s : Shared) (u v : Value), K.In s.heap → BindsTo s fd ⟨[u], [(kw, v)]⟩ [(p1, u), (kw, v)])
theorem run_gfnK {pins : List (Addr × Obj)} {σ : L2.St} {H : Hp} {s : Shared} {u v : Value} {x y : V} {cont : List V → Hp → Prop} {E : XK} {E1 : Value → Shared → Prop} (F : GFn X.prog X.w X.K X.mg X.base k f fd [p1, kw] sp) (hr : Room k X.A)
    (hb : ∀ (s : Shared) (u v : Value), X.K.In s.heap → BindsTo s fd ⟨[u], [(kw, v)]⟩ [(p1, u), (kw, v)]) (I : Inv X pins σ H s) (rx : RelV x u) (ry : RelV y v) (h : sp [x, y] H cont E) :
    wpAny (model X.prog X.w) X.A (call (.ref f) [u] [(kw, v)]) (fun z s' => ∃ H1 sc ex, Inv X pins σ H1 sc ∧ ExOk X pins ex ∧ GMade X.prog X.w k X.stack H1 sc ex cont E z s') E1 s := by
  refine wpAny_call (codeAny_mono (F.run X.A X.stack s H ⟨[u], [(kw, v)]⟩ [u, v] [x, y] cont E hr I.env0 (hb s u v I.kIn) (.cons rx (.cons ry .nil)) h) fun r s' hq => ?_)
  cases r with
  | error e => exact False.elim hq
  | ok fl =>
    cases fl with
    | ret z => exact ⟨H, s, [], I, .nil, hq⟩
    | next => exact False.elim hq
    | brk => exact False.elim hq
    | cont => exact False.elim hq
def tMethGK (C : Addr) (m : Str) (sp : SpG) (E : XK) (ta : TE) (t : TA) : TGen := fun σ H cont => ta σ H fun x H1 => ∃ a dx fs, x = .ref a ∧ H1 a = some (.ins C dx fs) ∧ fs.lookup m = none ∧ t σ H1 fun zs H2 => ∃ y, zs = [y] ∧ sp [x, y] H2 cont E
theorem pgen_dm {E : XK} {pl : Sem Bool} {e : Expr} {es : List Expr} {t : TA} (he : PE X o ta) (c : Cls X.K C) (D : MtG X.prog X.w X.K X.mg X.base C k m p1 kw sp) (hr : Room k X.A) (ha : PA X (e :: es) t)
    (hst : starEach (e :: es) X.env = (false, eval e X.env) :: starEach es X.env := by rfl) (hpl : (backTo pos' (starEach es X.env)).any (·.1) = false := by rfl)
    (ht : eval (.Call (.Attribute o m apos) (e :: es) [] pos') X.env = (do
      let ov ← eval o X.env
      standAt apos.atName
      let (f, first) ← holding [ov] (getMethod ov m pl)
      callWith pos' f first (backTo pos' (starEach (e :: es) X.env)) (backToKw pos' (keywordEach [] X.env))) := by rfl) :
    PGen X k (.Call (.Attribute o m apos) (e :: es) [] pos') (tMethG C m sp [] E ta t) E := by
  obtain ⟨f, fd, F, hm, hb, _⟩ := D.ex
  exact pgen_meth (pl := pl) he c hm F hr hb .nil ha hst hpl ht
theorem pgen_dmK {E : XK} {pl : Sem Bool} (he : PE X o ta) (c : Cls X.K C) (D : MtG X.prog X.w X.K X.mg X.base C k m p1 kw sp) (hr : Room k X.A) (hkw : PK X [⟨some kw, e, kpos⟩] tk)
    (hall : (backToKw pos' (keywordEach [⟨some kw, e, kpos⟩] X.env)).all (·.1.isSome) = true := by rfl) (hks : (backToKw pos' (keywordEach [⟨some kw, e, kpos⟩] X.env)).filterMap (·.1) = [kw] := by rfl)
    (hpl : ((backTo pos' (starEach [] X.env)).any (·.1) || (backToKw pos' (keywordEach [⟨some kw, e, kpos⟩] X.env)).any (·.1.isNone)) = false := by rfl)
    (ht : eval (.Call (.Attribute o m apos) [] [⟨some kw, e, kpos⟩] pos') X.env = (do
      let ov ← eval o X.env
      standAt apos.atName
      let (f, first) ← holding [ov] (getMethod ov m pl)
      callWith pos' f first (backTo pos' (starEach [] X.env)) (backToKw pos' (keywordEach [⟨some kw, e, kpos⟩] X.env))) := by rfl) :
    PGen X k (.Call (.Attribute o m apos) [] [⟨some kw, e, kpos⟩] pos') (tMethGK C m sp E ta tk) E := by
  obtain ⟨f, fd, F, hm, _, hb⟩ := D.ex
  refine ⟨fun pins s σ H cont I h => ?_⟩
  refine PySem.W.methodCall_KW (pl := pl) (thn (he.run pins s σ H _ I h) fun u s1 ⟨x, H1, I1, rx, a, dx, fs, ex, ea, l, q⟩ => ?_) ht
  subst ex
  obtain rfl : u = Value.ref a := rx
  refine getmeth_ok I1 ea c hm l ?_
  refine PySem.W.callWith_KW0 (first := [.ref a]) (h₀ := X.base) I.ok.mod.kin hm.kp hall ?_ hpl
  refine thn (hkw.run pos' pins s1 σ H1 _ I1 q) fun ws s2 ⟨zs, H2, I2, rz, y, ey, q2⟩ => ⟨I2.kIn, ?_⟩
  subst ey
  rw [hks]
  cases rz with
  | cons ry rr =>
    cases rr
    exact run_gfnK (x := .ref a) F hr hb I2 rfl ry q2
end
end RL

set_option maxHeartbeats 2000000
/-! methods that may raise: o.m(e), o.m(k = e) -/
namespace RL
open PySem L2 PySem.Spec PyProof.Rows
structure MtN (P : Program) (w : World) (K : PySem.W.Frag) (mg : Str → Option Value) (base : Heap) (C : Addr) (k : Nat) (m p1 kw : Str) (sp : Sp) : Prop where
  ex : ∃ (f : Addr) (fd : FuncData), FnOk P w K mg base (L2N.CX P w) k f fd [p1, kw] sp ∧ Meth K C m f ∧ Binds K fd [p1, kw] [] ∧ (∀ (s : Shared) (u v : Value), K.In s.heap → BindsTo s fd ⟨[u], [(kw, v)]⟩ [(p1, u), (kw, v)])
def tMethKN (C : Addr) (m : Str) (sp : Sp) (E : XK) (ta : TE) (tk : TA) : TE := fun σ H Q => ta σ H fun x H1 => ∃ a dx fs, x = .ref a ∧ H1 a = some (.ins C dx fs) ∧ fs.lookup m = none ∧ tk σ H1 fun zs H2 => sp (.ref a :: zs) H2 Q E
section
variable {X : Cx} {k : Nat} {C : Addr} {sp : Sp} {E : XK} {m p1 kw : Str} {p pos apos kpos : Pos} {e o : Expr} {es : List Expr} {t : TA} {ta te : TE} {tk : TA}
theorem pe_dmN {pl : Sem Bool} (he : PE X o ta) (c : Cls X.K C) (D : MtN X.prog X.w X.K X.mg X.base C k m p1 kw sp) (hr : Room k X.A) (hx : Passes (L2N.CX X.prog X.w) X E) (ha : PA X (e :: es) t)
    (hst : starEach (e :: es) X.env = (false, eval e X.env) :: starEach es X.env := by rfl) (hpl : (backTo pos (starEach es X.env)).any (·.1) = false := by rfl)
    (ht : eval (.Call (.Attribute o m apos) (e :: es) [] pos) X.env = (do
      let ov ← eval o X.env
      standAt apos.atName
      let (f, first) ← holding [ov] (getMethod ov m pl)
      callWith pos f first (backTo pos (starEach (e :: es) X.env)) (backToKw pos (keywordEach [] X.env))) := by rfl) :
    PE X (.Call (.Attribute o m apos) (e :: es) [] pos) (tMeth C m sp [] E ta t) := by
  obtain ⟨f, fd, F, hm, hb, _⟩ := D.ex
  exact pe_meth (pl := pl) he c hm F hr hb .nil hx ha hst hpl ht
theorem pe_mkN {pl : Sem Bool} (he : PE X o ta) (c : Cls X.K C) (D : MtN X.prog X.w X.K X.mg X.base C k m p1 kw sp) (hr : Room k X.A) (hx : Passes (L2N.CX X.prog X.w) X E) (hkw : PK X [⟨some kw, e, kpos⟩] tk)
    (hall : (backToKw pos (keywordEach [⟨some kw, e, kpos⟩] X.env)).all (·.1.isSome) = true := by rfl) (hks : (backToKw pos (keywordEach [⟨some kw, e, kpos⟩] X.env)).filterMap (·.1) = [kw] := by rfl)
    (hpl : ((backTo pos (starEach [] X.env)).any (·.1) || (backToKw pos (keywordEach [⟨some kw, e, kpos⟩] X.env)).any (·.1.isNone)) = false := by rfl)
    (ht : eval (.Call (.Attribute o m apos) [] [⟨some kw, e, kpos⟩] pos) X.env = (do
      let ov ← eval o X.env
      standAt apos.atName
      let (f, first) ← holding [ov] (getMethod ov m pl)
      callWith pos f first (backTo pos (starEach [] X.env)) (backToKw pos (keywordEach [⟨some kw, e, kpos⟩] X.env))) := by rfl) :
    PE X (.Call (.Attribute o m apos) [] [⟨some kw, e, kpos⟩] pos) (tMethKN C m sp E ta tk) := by
  obtain ⟨f, fd, F, hm, _, hb⟩ := D.ex
  refine ⟨fun pins s σ H Q I h => ?_⟩
  refine PySem.W.methodCall_KW (pl := pl) (thn (he.run pins s σ H _ I h) fun u s1 ⟨x, H1, I1, rx, a, dx, fs, ex, ea, l, q⟩ => ?_) ht
  subst ex
  obtain rfl : u = Value.ref a := rx
  refine getmeth_ok I1 ea c hm l ?_
  refine PySem.W.callWith_KW0 (first := [.ref a]) (h₀ := X.base) I.ok.mod.kin hm.kp hall ?_ hpl
  refine thn (hkw.run pos pins s1 σ H1 _ I1 q) fun ws s2 ⟨zs, H2, I2, rz, q2⟩ => ⟨I2.kIn, ?_⟩
  rw [hks]
  have hl := F.len _ _ _ _ q2
  cases rz with
  | nil => cases hl
  | @cons v u vs us rv rr =>
    cases rr with
    | cons _ _ => cases hl
    | nil =>
      refine wpAny_call (codeAny_mono (F.run X.A X.stack s2 H2 ⟨[.ref a], [(kw, u)]⟩ [.ref a, u] [.ref a, v] Q E hr I2.env0 (hb s2 _ _ I2.kIn) (.cons rfl (.cons rv .nil)) q2) fun r s' hq => ?_)
      cases r with
      | error e => exact hx _ _ _ _ _ _ I2 hq
      | ok fl =>
        cases fl with
        | ret u => exact I2.after hq
        | next => exact False.elim hq
        | brk => exact False.elim hq
        | cont => exact False.elim hq
end
end RL

set_option maxHeartbeats 2000000
/-! A generator whose first statement raises: made by a call, then taken by list(..). -/
namespace RL
open PySem L2 PySem.Spec PyProof.Rows GenW
/-- an exception leaves a frame; what is pinned beside it stands -/
theorem air_leaves {X : Cx} {W : WX} {E : XK} {p : Addr × Obj} {u : Value} {s' : Shared} {E1 : Value → Shared → Prop} (hs : X.stack = X.env :: X.outer) (hf : X.env.frame = some X.env.locals) (hex : X.ex = []) (hp : p ∈ X.pn)
    (hW : ∀ c d σ H, W c d σ H → E c d H) (x : L2N.XE X W u s') :
    wpAny (model X.prog X.w) X.A (leaving X.env u) (fun _ t => L2N.CX X.prog X.w X.outer X.H_0 X.s_0 E u t ∧ t.heap.get? p.1 = some p.2) E1 s' := by
  obtain ⟨a, B, sI, pins, σ, H, cls, d, rfl, I, nb, up, sky, na, os, ag, w⟩ := x
  have hA : X.A.frames = some (X.env :: X.outer) := I.ok.frames.trans (congrArg some hs)
  have old : ∀ {b o}, X.s_0.heap.get? b = some o → b ∉ X.fs → b ∉ frs X.stack := fun {b o} e nf hm =>
    (List.mem_cons.mp (I.stkSub b hm)).elim (fun z => by
      rw [z] at e
      exact Nat.lt_irrefl _ (Nat.lt_of_lt_of_le (Heap.lt_size e) I.ok.above)) nf
  have noex : ∀ b, b ∉ X.ex := fun b => by
    rw [hex]
    exact List.not_mem_nil
  have pB : B.get? p.1 = some p.2 := by
    obtain ⟨h1, _, h3, h4, _⟩ := I.pin p (List.mem_append_left _ hp)
    exact nb _ _ h1 fun hm => (List.mem_cons.mp (I.stkSub _ hm)).elim h3 h4
  have out : ∀ g, HandSPX.FlyingZ B X.outer a (L2N.Zn cls d) g → s'.heap.UpToSlots g →
      (L2N.CX X.prog X.w X.outer X.H_0 X.s_0 E (.ref a) { s' with heap := g } ∧ g.get? p.1 = some p.2) := fun g fl up2 => by
    have ub : UB (frs X.outer) X.H_0 H X.s_0.heap B g := {
      keep := fun b o e n nf => nb b o (I.base.keep b o e n nf (noex b)) (old e nf)
      slot := fun b o e hb => by
        obtain ⟨_, o0, e0, hn⟩ := I.ok.funs.mem hb
        cases e.symm.trans e0
        obtain ⟨_, q1⟩ := I.base.slot b o e (I.ok.frf b hb) hb (noex b)
        obtain ⟨_, q2⟩ := up b _ q1 hn
        obtain ⟨z, q3⟩ := up2 b _ q2 hn
        exact ⟨z, q3⟩
      free := fun b o e n => I.base.free b o e n (noex b)
      there := fun b o e nf => (I.base.there b o e (noex b)).imp fun o' e1 => nb b o' e1 (old e nf)
      tups := I.base.tups
      frzs := I.base.frzs
      tbls := I.base.tbls }
    exact ⟨⟨a, B, H, cls, d, rfl, fl, I.inGround nb, ub, na, os.trans I.os, ag, hW _ _ _ _ w⟩, fl.1 _ _ pB⟩
  rw [hs] at sky
  rcases sky with ⟨hB, hn, hl, oe, vs, he, hz, hd, h1⟩ | z
  · exact PXN.leaving_firstZ L2N.Zn.steady hA hl hf he hB hn hd h1 hz out
  · exact z.elim (fun fl => PXN.leaves_onZ L2N.Zn.steady hA hf fl out) fun q => HandSPX.leaves_heldZ hf q out
section
variable {P : Program} {w : World} {K : PySem.W.Frag} {mg : Str → Option Value} {base : Heap}
/-- the context of a generator's body that raises: p the generator's own object -/
def gcxN (P : Program) (w : World) (K : PySem.W.Frag) (mg : Str → Option Value) (base : Heap) (N : List Str) (qual : Str) (scope : Scope) (f : Addr) (cd : Value) (A : Around) (outer : List Env) (s : Shared) (H : Hp) (E : XK) (p : Addr × Obj) : Cx :=
  (gcxOf P w K mg base N qual scope f cd A outer s H E [p]).tr [p] fun e s' => wpAny (model P w) (A.deeper (envOfC qual scope s.heap.objs.size f cd)) (leaving (envOfC qual scope s.heap.objs.size f cd) e)
    (fun _ t => L2N.CX P w outer H s E e t ∧ t.heap.get? p.1 = some p.2) (fun _ _ => False) s'
theorem takes_gN {N : List Str} {qual : Str} {scope : Scope} {f : Addr} {cd : Value} {A : Around} {outer : List Env} {s : Shared} {H : Hp} {E : XK} {p : Addr × Obj} :
    L2N.Takes (gcxN P w K mg base N qual scope f cd A outer s H E p) (fun c d _ H' => E c d H') := fun u s' x =>
  air_leaves (W := fun c d _ H' => E c d H') (E := E) rfl rfl rfl List.mem_cons_self (fun _ _ _ _ h => h) x
/-- a generator that raises when it is first asked -/
def GBad (P : Program) (w : World) (k : Nat) (outer : List Env) (H : Hp) (s : Shared) (E : XK) (u : Value) (s' : Shared) : Prop :=
  ∃ (a : Addr) (g : Nat) (c : Code), u = .ref a ∧ s.heap.objs.size ≤ a ∧ a < s'.heap.objs.size ∧ s'.heap.IsGen a g ∧ s'.gens[g]? = some (.fresh c) ∧ s'.os = s.os ∧ AllBare s'.gens ∧ s'.heap.NoLimit ∧ (∀ b o, s.heap.get? b = some o → s'.heap.get? b = some o) ∧
    ∀ (A : Around) (t : Shared) (n : Nat), Room k A → A.frames = some outer → (∀ b o, s'.heap.get? b = some o → t.heap.get? b = some o) → t.os = s.os → AllBare t.gens →
      Seg (model P w) A (fun _ _ r t' => ∃ e, r = .error e ∧ L2N.CX P w outer H s E e t' ∧ t'.heap.IsGen a g) (fun _ _ _ _ _ => False) n t c ((model P w).den c) [] t
structure GBn (P : Program) (w : World) (K : PySem.W.Frag) (mg : Str → Option Value) (base : Heap) (k : Nat) (f : Addr) (fd : FuncData) (ps : List Str) (sp : Sp) : Prop where
  len : ∀ vs H Q E, sp vs H Q E → vs.length = ps.length
  run : ∀ (A : Around) (outer : List Env) (s : Shared) (H : Hp) (args : Args) (us : List Value) (vs : List V) (E : XK), Room k A → Env0 P w K mg base A outer s H → BindsTo s fd args (ps.zip us) → Vals vs us → sp vs H (fun _ _ => False) E →
    codeAny (model P w) A (.call (.ref f) args) (fun r s' => match r with | .ok (.ret u) => GBad P w k outer H s E u s' | _ => False) s
theorem gbn_of {k : Nat} {f : Addr} {name qual : Str} {params : Arguments} {body : List Stmt} {scope : Scope} {dV kV doc pm cdv ct oc : Value} {an od : Option Addr} {osl : Array (Option Value)} {N ps : List Str} {sp : Sp}
    (lk : K.lookup f = some ⟨oc, od, .func (PySem.W.fnOf name qual params body scope dV kV doc pm an cdv ct), osl⟩) (hcd : PySem.W.codeIn K cdv qual = true) (S : GScope N ps scope) (len : ∀ vs H Q E, sp vs H Q E → vs.length = ps.length)
    (hbody : ∀ (A : Around) (outer : List Env) (s : Shared) (H : Hp) (vs : List V) (E : XK) (p : Addr × Obj), Room k (A.deeper (envOfC qual scope s.heap.objs.size f cdv)) → sp vs H (fun _ _ => False) E →
      ∃ t, PSs (gcxN P w K mg base N qual scope f cdv A outer s H E p) body t ∧ t { nx := fun _ _ => False, rt := fun _ _ => False } (start N vs) H) :
    GBn P w K mg base (k + 1) f (PySem.W.fnOf name qual params body scope dV kV doc pm an cdv ct) ps sp := by
  refine ⟨len, fun A outer s H args us vs E hr e0 hb r hsp => ?_⟩
  have keeps0 : ∀ b o, base.get? b = some o → s.heap.get? b = some o := fun b o e => (e0.bs b o e).1
  have KX : K.In s.heap := e0.mod.kin.keeps keeps0
  have kd : ∀ y ∈ ps.zip us, scope.names.lookup y.1 = some .local ∨ (scope.names.lookup y.1 = some .cell ∧ ((cellsFrom (s.heap.objs.size + 1) scope.names []).lookup y.1).isSome = true) := fun y hy =>
    (S.par y.1 (List.of_mem_zip (show (y.1, y.2) ∈ _ from hy)).1).imp id fun q => ⟨q, PySem.W.cellsFrom_some _ _ _ (.inl q)⟩
  refine codeAny_call_generator hr.depth (KX _ _ lk) rfl S.co S.gen rfl (PySem.W.codeRec_of KX hcd) (hb _ _ _ _ (wpAny_newFunctionEnv_cells S.kind kd fun env he s1 x => ?_))
  subst he
  obtain ⟨h1, tk, es, _⟩ := x.done
  have kp : ∀ b o, s.heap.get? b = some o → s1.heap.get? b = some o := x.toInCall.keep
  have lim : s1.heap.NoLimit := (e0.mod.nolimit.keeps keeps0).keeps kp
  have lt1 : s.heap.objs.size < s1.heap.objs.size := x.toInCall.ns.lt
  have os1 : s1.os = s.os := by rw [es]
  have gen1 : s1.gens = s.gens := by rw [es]
  refine ⟨lim, ?_⟩
  have made : ∀ (o : Obj) (nm qn : Value) (tk2 : Nat), o.cls = .type "generator" → o.data = .fields #[.int s1.gens.size 0, nm, qn] → o.slots = #[] → (∀ h : Heap, (h.push o).get? h.objs.size = some o) →
      GBad P w (k + 1) outer H s E (.ref s1.heap.objs.size) { s1 with gens := s1.gens.push (.fresh (.func body (envOfC qual scope s.heap.objs.size f cdv))), toks := tk2, heap := s1.heap.push o } := fun o nm qn tk2 oc od osl hp => by
    have gen : ∀ h : Heap, h.get? s1.heap.objs.size = some o → h.IsGen s1.heap.objs.size s1.gens.size := fun h e => ⟨o, nm, qn, e, oc, od, osl⟩
    refine ⟨_, s1.gens.size, _, rfl, Nat.le_of_lt lt1, ?_, gen _ (hp _), Array.getElem?_push_size .., os1, AllBare.push (by rw [gen1]; exact e0.bare) rfl, lim.keeps fun _ _ e => Heap.get?_push_of_some _ e, fun _ _ e => Heap.get?_push_of_some _ (kp _ _ e), fun Aw t n hrw hfr hk hos hba => ?_⟩
    · show _ < (s1.heap.push o).objs.size
      rw [Heap.size_push]
      exact Nat.lt_succ_self _
    obtain ⟨tt, ht, hq⟩ := hbody Aw outer s H vs E (s1.heap.objs.size, o) (hrw.deeper _) hsp
    have I1 := inv_startG (E := E) S hrw.hd (⟨hfr, e0.mod, e0.bs, e0.bsz, e0.funs, e0.frf, e0.hok, e0.bare⟩ : Env0 P w K mg base Aw outer s H) (len _ _ _ _ hsp) r x
    have kt : ∀ b o, s1.heap.get? b = some o → t.heap.get? b = some o := fun b o e => hk b o (Heap.get?_push_of_some _ e)
    have I2 := I1.call' (ch := []) (hos.trans os1.symm) (Un.kept kt) (I1.hok.kept kt) hba fun _ z => nomatch z
    have I3 := Inv.pinnedG (pn := [(s1.heap.objs.size, o)]) (pins := []) I2 fun q hq => by
      have e : q = (s1.heap.objs.size, o) := by simpa using hq
      rw [e]
      exact ⟨hk _ _ (hp _), I1.hok.fresh (Nat.le_refl _), Nat.ne_of_gt lt1, I1.nofs (Nat.le_refl _), fun v z => by
        rw [show (s1.heap.objs.size, o).2 = o from rfl, od] at z
        cases z⟩
    have I4 : Inv (gcxN P w K mg base N qual scope f cdv Aw outer s H E (s1.heap.objs.size, o)) [] (start N vs) H t := I3.toTry _
    refine seg_func (seg_wrap ?_)
    rw [over_func]
    refine wpAny_mono (ht.run [] t (start N vs) H _ I4 hq) (fun fl t' z => ?_) fun e t' hx => ?_
    · exfalso
      cases fl with
      | next => exact z.elim fun _ z => z.elim fun _ z => z.2
      | brk => exact z.elim fun _ z => z.elim fun _ z => z.2
      | cont => exact z.elim fun _ z => z.elim fun _ z => z.2
      | ret u => exact z.elim fun _ z => z.elim fun _ z => z.elim fun _ z => z.2.2
    · refine seg_wrap ?_
      rw [over_func]
      exact wpAny_mono hx (fun _ t2 q => seg_end (.error e) ⟨e, rfl, q.1, gen _ q.2⟩) fun _ _ z => z.elim
  exact made _ _ _ _ rfl rfl rfl fun h => Heap.get?_push_size _ rfl
/-- list(g): what g raises comes out -/
theorem list_bad {outer : List Env} {H : Hp} {sc s : Shared} {E : XK} {A : Around} {k : Nat} {u : Value} {R : Value → Shared → Prop} {Er : Value → Shared → Prop} (hr : Room (k + 3) A) (hfr : A.frames = some outer) (h : GBad P w k outer H sc E u s)
    (hx : ∀ e t g, L2N.CX P w outer H sc E e t → NotStop (model P w) e t.heap ∧ Er e (t.setGen g .finished)) : wpAny (model P w) A (call (.type "list") [u]) R Er s := by
  obtain ⟨a, g, c, rfl, _, ha, hg, hgs, hos, hb, hl, _, wake⟩ := h
  let L : Addr := s.heap.objs.size
  have nLa : s.heap.objs.size ≠ a := fun z => Nat.lt_irrefl _ (z ▸ ha)
  have old : ∀ {o : Obj}, ∀ b x, s.heap.get? b = some x → (s.heap.push o).get? b = some x := fun b x e => Heap.get?_push_of_some _ e
  have upd1 : ∀ (hp : Heap) (f : Obj → Obj), (∀ b x, s.heap.get? b = some x → hp.get? b = some x) → ∀ b x, s.heap.get? b = some x → (hp.update s.heap.objs.size f).get? b = some x := fun hp f q b x e => by
    rw [Heap.get?_update_other _ _ (fun z => Nat.lt_irrefl _ (z ▸ Heap.lt_size e))]
    exact q b x e
  refine callType_codes (Q₁ := fun v t => v = .ref s.heap.objs.size ∧ t = { s with heap := s.heap.push { cls := .type "list", data := .seq #[] } })
    F.called_list (F.typeCall_list_1 _) F.entry_list_init (code_list_new _ ⟨rfl, rfl⟩) ?_
  rintro _ _ ⟨rfl, rfl⟩
  have e0 : (s.heap.push { cls := .type "list", data := .seq #[] }).get? s.heap.objs.size = some { cls := .type "list", data := .seq #[] } := Heap.get?_push_size _ rfl
  have e1 := Heap.get?_update_self (Obj.mapSeq fun _ => (#[] : Array Value)) e0 rfl
  have e2 := Heap.get?_update_self (Obj.mapSeq fun z => z.push Value.none) e1 rfl
  have e3 := Heap.get?_update_self (Obj.mapSeq fun z => z.pop) e2 rfl
  have q1 := upd1 _ (Obj.mapSeq fun _ => (#[] : Array Value)) (old (o := { cls := .type "list", data := .seq #[] }))
  have q3 := upd1 _ (Obj.mapSeq fun z => z.pop) (upd1 _ (Obj.mapSeq fun z => z.push Value.none) q1)
  refine ⟨⟨_, e0, rfl⟩, F.args_list_init_2 _ _, ?_⟩
  show wpAny _ A.in1.in1 (do
    let had ← Builtin.List.listItems (.ref s.heap.objs.size)
    Builtin.List.listUpdate (.ref s.heap.objs.size) fun _ => #[]
    letGo had.toList.reverse
    Builtin.List.listExtendWith (.ref s.heap.objs.size) (.ref a) .none) _ _ _
  refine wpAny_bind ?_
  delta Builtin.List.listItems
  refine wpAny_bind (wpAny_seqItems e0 rfl (wpAny_pure ?_))
  show wpAny _ A.in1.in1 (updateSeq s.heap.objs.size (fun _ => #[]) >>= fun _ =>
    letGo (#[] : Array Value).toList.reverse >>= fun _ => Builtin.List.listExtendWith (.ref s.heap.objs.size) (.ref a) .none) _ _ _
  refine wpAny_bind (wpAny_updateSeq e0 rfl (wpAny_bind (wpAny_letGo ?_)))
  delta Builtin.List.listExtendWith
  have isg : ∀ {hp : Heap}, (∀ b x, s.heap.get? b = some x → hp.get? b = some x) → hp.IsGen a g := fun q => hg.keeps q
  refine wpAny_bind (wpAny_typeOf (Heap.IsGen.typeIs (s := { s with heap := _ }) (isg q1)) ?_)
  have c1 : Builtin.List.listSameRef (.ref s.heap.objs.size) (.ref a) = false := by simp [Builtin.List.listSameRef, nLa]
  have c2 : (Value.type "generator" == Value.type "list") = false ∧ (Value.type "generator" == Value.type "tuple") = false := by decide
  simp only [c1, c2.1, c2.2, Bool.or_false, Bool.false_eq_true, if_false]
  refine wpAny_bind (wpAny_pyIter_gen (s := { s with heap := _ }) (isg q1) (wpAny_bind (wpAny_holding ?_)))
  delta Builtin.List.listLengthHint
  refine wpAny_bind (wpAny_specialOf (Heap.IsGen.typeIs (s := { s with heap := _ }) (isg q1)) F.gen_no_len
    (wpAny_bind (wpAny_specialOf (name := Str.ofString "__length_hint__") (Heap.IsGen.typeIs (s := { s with heap := _ }) (isg q1)) F.gen_no_hint (wpAny_pure ?_))))
  refine wpAny_bind (wpAny_rule (wpAny_bind ?_))
  show wpAny _ A.in1.in1 (updateSeq s.heap.objs.size (fun z => z.push .none) >>= fun _ => updateSeq s.heap.objs.size fun z => z.pop) _ _ _
  refine wpAny_bind (wpAny_updateSeq e1 rfl (wpAny_updateSeq (hz := by seq_fits) e2 rfl (wpAny_pure ⟨plainId_quiet F.plain_extend_loop _, codeAny_builtin F.entry_extend_loop ?_⟩)))
  rw [Around.under_plainId F.plain_extend_loop]
  show wpAny _ A.in1.in1 (pyNext (.ref a) >>= _) _ _ _
  refine wpAny_bind (next_genG (A := A.in1.in1) (n := 0) (F := fun _ _ _ => False) (Er := fun e t => L2N.CX P w outer H sc E e t ∧ t.heap.IsGen a g) (Y := fun _ _ _ _ _ => False) hr.hd (hl.keeps q3)
    (by have := hr.dp; show A.depth < _; omega) (isg q3) hgs ⟨rfl, ?_⟩ (fun _ _ _ _ z => z.elim) (fun _ z => z.elim) fun e t he => ⟨he.2, hx e t g he.1⟩)
  refine seg_imp (fun _ _ _ _ z => .inr z) (fun _ _ _ _ _ _ _ z => z) 0 (wake _ _ _ ⟨hr.hd, ?_, ?_⟩ hfr q3 hos (allBare_setGen (s := { s with heap := _ }) hb rfl))
  · have := hr.dp
    show A.depth + 3 * k + 5 < _
    omega
  · have := hr.un
    show A.units + 1 + 1 + 1 + 16 * k + 200 < _
    omega
end
end RL

set_option maxHeartbeats 2000000
/-! list(o.m(e)), list(o.m(k = e)) where the generator raises at once -/
namespace RL
open PySem L2 PySem.Spec PyProof.Rows GenW
structure MtB (P : Program) (w : World) (K : PySem.W.Frag) (mg : Str → Option Value) (base : Heap) (C : Addr) (k : Nat) (m p1 kw : Str) (sp : Sp) : Prop where
  ex : ∃ (f : Addr) (fd : FuncData), GBn P w K mg base k f fd [p1, kw] sp ∧ Meth K C m f ∧ Binds K fd [p1, kw] [] ∧ (∀ (s : Shared) (u v : Value), K.In s.heap → BindsTo s fd ⟨[u], [(kw, v)]⟩ [(p1, u), (kw, v)])
abbrev TBad := L2.St → Hp → Prop
structure PBad (X : Cx) (k : Nat) (e : Expr) (tg : TBad) (E : XK) : Prop where
  run : ∀ (pins : List (Addr × Obj)) (s : Shared) (σ : L2.St) (H : Hp), Inv X pins σ H s → tg σ H →
    wpAny (model X.prog X.w) X.A (eval e X.env) (fun u t => ∃ H1 sc, Inv X pins σ H1 sc ∧ GBad X.prog X.w k X.stack H1 sc E u t) X.xe s
def tBadM (C : Addr) (m : Str) (sp : Sp) (E : XK) (ta : TE) (t : TA) : TBad := fun σ H => ta σ H fun x H1 => ∃ a dx fs, x = .ref a ∧ H1 a = some (.ins C dx fs) ∧ fs.lookup m = none ∧ t σ H1 fun zs H2 => ∃ y, zs = [y] ∧ sp [x, y] H2 (fun _ _ => False) E
section
variable {X : Cx} {k : Nat} {C : Addr} {sp : Sp} {m p1 kw : Str} {p pos apos kpos : Pos} {o e : Expr} {es : List Expr} {ta : TE} {t tk : TA} {E : XK}
theorem run_bad {f : Addr} {fd : FuncData} {pins : List (Addr × Obj)} {σ : L2.St} {H : Hp} {s : Shared} {us zs : List Value} {kws : List (Str × Value)} {vs : List V} {ps : List Str} {E1 : Value → Shared → Prop} (F : GBn X.prog X.w X.K X.mg X.base k f fd ps sp) (hr : Room k X.A)
    (I : Inv X pins σ H s) (hb : BindsTo s fd ⟨zs, kws⟩ (ps.zip us)) (r : Vals vs us) (h : sp vs H (fun _ _ => False) E) :
    wpAny (model X.prog X.w) X.A (call (.ref f) zs kws) (fun u s' => ∃ H1 sc, Inv X pins σ H1 sc ∧ GBad X.prog X.w k X.stack H1 sc E u s') E1 s := by
  refine wpAny_call (codeAny_mono (F.run X.A X.stack s H ⟨zs, kws⟩ us vs E hr I.env0 hb r h) fun r s' q => ?_)
  cases r with
  | error e => exact False.elim q
  | ok fl =>
    cases fl with
    | ret z => exact ⟨H, s, I, q⟩
    | next => exact False.elim q
    | brk => exact False.elim q
    | cont => exact False.elim q
theorem pbad_m {pl : Sem Bool} (he : PE X o ta) (c : Cls X.K C) (D : MtB X.prog X.w X.K X.mg X.base C k m p1 kw sp) (hr : Room k X.A) (ha : PA X (e :: es) t)
    (hst : starEach (e :: es) X.env = (false, eval e X.env) :: starEach es X.env := by rfl) (hpl : (backTo pos (starEach es X.env)).any (·.1) = false := by rfl)
    (ht : eval (.Call (.Attribute o m apos) (e :: es) [] pos) X.env = (do
      let ov ← eval o X.env
      standAt apos.atName
      let (f, first) ← holding [ov] (getMethod ov m pl)
      callWith pos f first (backTo pos (starEach (e :: es) X.env)) (backToKw pos (keywordEach [] X.env))) := by rfl) :
    PBad X k (.Call (.Attribute o m apos) (e :: es) [] pos) (tBadM C m sp E ta t) E := by
  obtain ⟨f, fd, F, hm, hb, _⟩ := D.ex
  refine ⟨fun pins s σ H I h => ?_⟩
  refine PySem.W.methodCall_KW (pl := pl) (thn (he.run pins s σ H _ I h) fun u s1 ⟨x, H1, I1, rx, a, dx, fs, ex, ea, l, q⟩ => ?_) ht
  subst ex
  obtain rfl : u = Value.ref a := rx
  refine getmeth_ok I1 ea c hm l ?_
  refine PySem.W.callWith_K (first := [.ref a]) (h₀ := X.base) I.ok.mod.kin hm.kp (thn (ha.run pos pins s1 σ H1 _ I1 q) fun us s2 ⟨vs, H2, I2, r, y, ey, q2⟩ => ⟨I2.kIn, ?_⟩) hst hpl
  subst ey
  cases r with
  | @cons _ v _ _ rv rr =>
    cases rr
    have q0 := hb s2 [.ref a, v] I2.kIn rfl
    exact run_bad (vs := [.ref a, y]) F hr I2 q0 (.cons rfl (.cons rv .nil)) q2
theorem pbad_mk {pl : Sem Bool} (he : PE X o ta) (c : Cls X.K C) (D : MtB X.prog X.w X.K X.mg X.base C k m p1 kw sp) (hr : Room k X.A) (hkw : PK X [⟨some kw, e, kpos⟩] tk)
    (hall : (backToKw pos (keywordEach [⟨some kw, e, kpos⟩] X.env)).all (·.1.isSome) = true := by rfl) (hks : (backToKw pos (keywordEach [⟨some kw, e, kpos⟩] X.env)).filterMap (·.1) = [kw] := by rfl)
    (hpl : ((backTo pos (starEach [] X.env)).any (·.1) || (backToKw pos (keywordEach [⟨some kw, e, kpos⟩] X.env)).any (·.1.isNone)) = false := by rfl)
    (ht : eval (.Call (.Attribute o m apos) [] [⟨some kw, e, kpos⟩] pos) X.env = (do
      let ov ← eval o X.env
      standAt apos.atName
      let (f, first) ← holding [ov] (getMethod ov m pl)
      callWith pos f first (backTo pos (starEach [] X.env)) (backToKw pos (keywordEach [⟨some kw, e, kpos⟩] X.env))) := by rfl) :
    PBad X k (.Call (.Attribute o m apos) [] [⟨some kw, e, kpos⟩] pos) (tBadM C m sp E ta tk) E := by
  obtain ⟨f, fd, F, hm, _, hb⟩ := D.ex
  refine ⟨fun pins s σ H I h => ?_⟩
  refine PySem.W.methodCall_KW (pl := pl) (thn (he.run pins s σ H _ I h) fun u s1 ⟨x, H1, I1, rx, a, dx, fs, ex, ea, l, q⟩ => ?_) ht
  subst ex
  obtain rfl : u = Value.ref a := rx
  refine getmeth_ok I1 ea c hm l ?_
  refine PySem.W.callWith_KW0 (first := [.ref a]) (h₀ := X.base) I.ok.mod.kin hm.kp hall ?_ hpl
  refine thn (hkw.run pos pins s1 σ H1 _ I1 q) fun us s2 ⟨vs, H2, I2, r, y, ey, q2⟩ => ⟨I2.kIn, ?_⟩
  subst ey
  rw [hks]
  cases r with
  | @cons _ v _ _ rv rr =>
    cases rr
    exact run_bad (us := [.ref a, v]) (vs := [.ref a, y]) F hr I2 (hb s2 _ _ I2.kIn) (.cons rfl (.cons rv .nil)) q2
theorem notStopN {P : Program} {w : World} {K : PySem.W.Frag} {outer : List Env} {H : Hp} {s t : Shared} {e : Value} (hE : NoStop K E) (kin : K.In t.heap) (c : L2N.CX P w outer H s E e t) : NotStop (model P w) e t.heap := by
  obtain ⟨a, B, H', cls, d, rfl, fl, _, _, _, _, _, hW⟩ := c
  obtain ⟨oe, vs, he, hz, _⟩ := fl.there
  have lk := PySem.W.looks_subIn (M := model P w) kin (hE cls d H' hW)
  refine fun A Q E2 s2 hs hq => ?_
  simp only [isInstance]
  refine wpAny_bind (wpAny_typeOf_ref (o := oe) (hs ▸ he) ?_)
  rw [hz.1]
  exact lk A Q E2 s2 (fun _ _ z => hs ▸ z) hq
def tListB (tg : TBad) : TE := fun σ H _ => tg σ H
theorem pe_listB {tg : TBad} {nm : Str} (h : PBad X k e tg E) (hx : Passes (L2N.CX X.prog X.w) X E) (hns : NoStop X.K E) (hr : Room (k + 3) X.A) (hg : Gl X nm) (hmg : X.mg nm = none) (hv : bootBuiltins nm = some (.type "list")) (hnm : nm ≠ "__name__" := by decide) (hdb : (nm == ("__debug__" : Str)) = false := by decide)
    (he : starEach [e] X.env = (false, eval e X.env) :: starEach [] X.env := by rfl) : PE X (.Call (.Name nm p) [e] [] pos) (tListB tg) := by
  refine ⟨fun pins s σ H Q I hq => wpAny_Call_Name_kw (ld_blt I hg hmg hv (PyProof.Rows.callWith_type1 ?_ he rfl) hnm hdb)⟩
  rw [he]
  show wpAny _ _ (spliced ((false, eval e X.env) :: backTo pos (starEach [] X.env))) _ _ s
  refine Calls.spliced_cons (thn (h.run pins s σ H I hq) fun u s1 ⟨H1, sc, I1, hG⟩ => Calls.spliced_nil (list_bad hr I1.ok.frames hG fun e t g hc => ?_))
  have kin : X.K.In t.heap := by
    obtain ⟨_, B, _, _, _, _, fl, _, ub, _⟩ := id hc
    refine I1.ok.mod.kin.keeps fun b o eb => fl.1 b o (ub.keep b o (I1.bs b o eb).1 (I1.bs b o eb).2 fun hm => ?_)
    refine (List.mem_cons.mp (I1.stkSub b hm)).elim (fun z => ?_) (I1.ok.nofr eb)
    rw [z] at eb
    exact Nat.lt_irrefl _ (Nat.lt_of_lt_of_le (Heap.lt_size eb) (Nat.le_trans I1.ok.bsz I1.ok.above))
  obtain ⟨a, B, H', cls, d, z1, fl, z2, ub, z3, z4, z5, z6⟩ := id hc
  exact ⟨notStopN hns kin hc, hx pins σ H1 sc e _ I1 ⟨a, B, H', cls, d, z1, fl, z2, ub, z3, z4, allBare_setGen z5 rfl, z6⟩⟩
end
end RL

set_option maxHeartbeats 2000000
/-! instances called that may raise, by position and by keyword; a class of two fields made, by position and the other way round by keywords -/
namespace RL
open PySem L2 PySem.Spec PyProof.Rows
section
variable {X : Cx} {k : Nat} {C g : Addr} {sp : Sp} {fd : FuncData} {fe e : Expr} {es : List Expr} {pos kpos : Pos} {p1 kw : Str} {tf : TE} {tk : TA} {t : TA} {E : XK}
/-- an instance of C that is called and may raise -/
structure CoN (P : Program) (w : World) (K : PySem.W.Frag) (mg : Str → Option Value) (base : Heap) (C : Addr) (k : Nat) (p1 kw : Str) (sp : Sp) : Prop where
  ex : ∃ (g : Addr) (fd : FuncData), StX.CallO K C g ∧ FnOk P w K mg base (L2N.CX P w) k g fd [p1, kw] sp ∧ Binds K fd [p1, kw] [] ∧ (∀ (s : Shared) (u v : Value), K.In s.heap → BindsTo s fd ⟨[u], [(kw, v)]⟩ [(p1, u), (kw, v)])
theorem fnR_any {CX : CXT} {ps : List Str} (F : FnOk X.prog X.w X.K X.mg X.base CX k g fd ps sp) (hb : Binds X.K fd ps []) : FnR X.prog X.w X.K X.mg X.base CX k g sp := fun A outer s H us vs Q E hr e0 r h => by
  have hl : (us ++ []).length = ps.length := by
    rw [List.append_nil, ← r.length]
    exact F.len _ _ _ _ h
  have q := hb s us (e0.mod.kin.keeps fun b o e => (e0.bs b o e).1) hl
  rw [List.append_nil] at q
  exact F.run A outer s H ⟨us, []⟩ us vs Q E hr e0 q r h
def tCoKN (C : Addr) (sp : Sp) (E : XK) (tf : TE) (tk : TA) : TE := fun σ H Q => tf σ H fun y H1 => ∃ a, y = V.ref a ∧ tk σ H1 fun vs H2 => (∃ dx fs, H2 a = some (.ins C dx fs)) ∧ sp (V.ref a :: vs) H2 Q E
theorem pe_coN (hf : PE X fe tf) (D : CoN X.prog X.w X.K X.mg X.base C k p1 kw sp) (hr : Room k X.A) (hx : Passes (L2N.CX X.prog X.w) X E) (ha : PA X (e :: es) t)
    (ht : eval (.Call fe (e :: es) [] pos) X.env = (do callWith pos (← eval fe X.env) [] (backTo pos (starEach (e :: es) X.env)) (backToKw pos (keywordEach [] X.env))) := by rfl)
    (he : starEach (e :: es) X.env = (false, eval e X.env) :: starEach es X.env := by rfl) (hpl : (backTo pos (starEach es X.env)).any (·.1) = false := by rfl) : PE X (.Call fe (e :: es) [] pos) (tCoKN C sp E tf t) := by
  obtain ⟨g, fd, c, F, hb, _⟩ := D.ex
  have R := fnR_any F hb
  refine ⟨fun pins s σ H Q I h => Call_ (thn (hf.run pins s σ H _ I h) fun u s1 ⟨y, H1, I1, ry, a, ey, q⟩ => ?_) ht⟩
  subst ey
  cases (show u = Value.ref a from ry)
  refine StX.callO_with (thn (ha.run pos pins s1 σ H1 _ I1 q) fun us s2 ⟨vs, H2, I2, r, hi, q2⟩ => ?_) he hpl
  obtain ⟨ox, od, J, hd⟩ := StX.insC_at I2 (.inr hi)
  exact ⟨⟨C, ox, od, J, hd⟩, StX.run_callO c R hr hx I2 (.inr hi) r q2⟩
theorem pe_coKN (hf : PE X fe tf) (D : CoN X.prog X.w X.K X.mg X.base C k p1 kw sp) (hr : Room k X.A) (hx : Passes (L2N.CX X.prog X.w) X E) (hkw : PK X [⟨some kw, e, kpos⟩] tk)
    (hall : (backToKw pos (keywordEach [⟨some kw, e, kpos⟩] X.env)).all (·.1.isSome) = true := by rfl) (hks : (backToKw pos (keywordEach [⟨some kw, e, kpos⟩] X.env)).filterMap (·.1) = [kw] := by rfl)
    (hpl : ((backTo pos (starEach [] X.env)).any (·.1) || (backToKw pos (keywordEach [⟨some kw, e, kpos⟩] X.env)).any (·.1.isNone)) = false := by rfl)
    (ht : eval (.Call fe [] [⟨some kw, e, kpos⟩] pos) X.env = (do callWith pos (← eval fe X.env) [] (backTo pos (starEach [] X.env)) (backToKw pos (keywordEach [⟨some kw, e, kpos⟩] X.env))) := by rfl) :
    PE X (.Call fe [] [⟨some kw, e, kpos⟩] pos) (tCoKN C sp E tf tk) := by
  obtain ⟨g, fd, c, F, _, hb⟩ := D.ex
  refine ⟨fun pins s σ H Q I h => ?_⟩
  rw [ht]
  refine wpAny_bind (thn (hf.run pins s σ H _ I h) fun u s1 ⟨y, H1, I1, ry, a, ey, q⟩ => ?_)
  subst ey
  obtain rfl : u = Value.ref a := ry
  refine callOK_of hpl (PyProof.Rows.evalArgs_kw2_nil hall (thn (hkw.run pos pins s1 σ H1 _ I1 q) fun ws s2 ⟨zs, H2, I2, rz, ⟨dx, fs, hi⟩, q2⟩ => ?_))
  obtain ⟨ox, od, J, hd⟩ := StX.insC_at I2 (C := C) (.inr ⟨dx, fs, hi⟩)
  refine ⟨⟨C, ox, od, J, hd⟩, ?_⟩
  rw [hks]
  have hl := F.len _ _ _ _ q2
  cases rz with
  | nil => cases hl
  | @cons v u vs us rv rr =>
    cases rr with
    | cons _ _ => cases hl
    | nil =>
      refine wpAny_call (PySem.W.kco_code I2.kIn J hd c.at_ c.fn c.fi (codeAny_mono (F.run X.A X.stack s2 H2 ⟨[.ref a], [(kw, u)]⟩ [.ref a, u] [.ref a, v] Q E hr I2.env0 (hb s2 _ _ I2.kIn) (.cons rfl (.cons rv .nil)) q2) fun r s' hq => ?_))
      cases r with
      | error e => exact hx _ _ _ _ _ _ I2 hq
      | ok fl =>
        cases fl with
        | ret u => exact I2.after hq
        | next => exact False.elim hq
        | brk => exact False.elim hq
        | cont => exact False.elim hq
end
/-! ### a class of two fields -/
def ordS {α : Type} : List α → List α → List α := fun us ws => match ws with
  | [a, b] => us ++ [b, a]
  | _ => us
theorem ordS_rel {vs : List V} {us : List Value} {zs : List V} {ws : List Value} (r1 : Vals vs us) (r2 : Vals zs ws) : Vals (ordS vs zs) (ordS us ws) := by
  have app : ∀ {xs : List V} {ys : List Value}, Vals xs ys → Vals (vs ++ xs) (us ++ ys) := fun r => r1.append r
  cases r2 with
  | nil => exact r1
  | cons a r2 => cases r2 with
    | nil => exact r1
    | cons b r2 => cases r2 with
      | nil => exact app (.cons b (.cons a .nil))
      | cons _ _ => exact r1
structure MkN (P : Program) (w : World) (K : PySem.W.Frag) (mg : Str → Option Value) (base : Heap) (C : Addr) (k : Nat) (p1 k1 k2 : Str) (sp : Sp) : Prop where
  ex : ∃ (fI : Addr) (fdI : FuncData), Mk K C fI ∧ FnOk P w K mg base (L2N.CX P w) k fI fdI [p1, k1, k2] sp ∧ Binds K fdI [p1, k1, k2] [] ∧ KBn K fdI [p1, k1, k2] 1 ([k2, k1] : List Str) ordS ordS
section
variable {X : Cx} {k : Nat} {C : Addr} {sp : Sp} {x p1 k1 k2 : Str} {p pos : Pos} {e : Expr} {es : List Expr} {kws : List Keyword} {t tk : TA} {E : XK}
theorem pe_mk2 (D : MkN X.prog X.w X.K X.mg X.base C k p1 k1 k2 sp) (hr : Room (k + 1) X.A) (hg : Gl X x) (hm : X.mg x = some (.ref C)) (hx : Passes (L2N.CX X.prog X.w) X E) (ha : PA X (e :: es) t)
    (hdb : (x == ("__debug__" : Str)) = false := by decide) (he : starEach (e :: es) X.env = (false, eval e X.env) :: starEach es X.env := by rfl) (hpl : (backTo pos (starEach es X.env)).any (·.1) = false := by rfl) :
    PE X (.Call (.Name x p) (e :: es) [] pos) (tMake C sp [] E t) := by
  obtain ⟨fI, fdI, M, G, hb, _⟩ := D.ex
  exact pe_make M G hr hg hm hb .nil hx ha hdb he hpl
theorem pe_mk2K (D : MkN X.prog X.w X.K X.mg X.base C k p1 k1 k2 sp) (hr : Room (k + 1) X.A) (hg : Gl X x) (hm : X.mg x = some (.ref C)) (hx : Passes (L2N.CX X.prog X.w) X E) (hkw : PK X kws tk)
    (hall : (backToKw pos (keywordEach kws X.env)).all (·.1.isSome) = true := by rfl) (hks : (backToKw pos (keywordEach kws X.env)).filterMap (·.1) = ([k2, k1] : List Str) := by rfl)
    (hpl : ((backTo pos (starEach [] X.env)).any (·.1) || (backToKw pos (keywordEach kws X.env)).any (·.1.isNone)) = false := by rfl) (hdb : (x == ("__debug__" : Str)) = false := by decide) :
    PE X (.Call (.Name x p) [] kws pos) (tMakeK C 0 2 sp ordS E tNil tk) := by
  obtain ⟨fI, fdI, M, G, _, kb⟩ := D.ex
  exact pe_makeK0 M G hr hg hm kb hx hkw hall hks hdb hpl
end
end RL

set_option maxHeartbeats 2000000
namespace RL
open PySem L2 PySem.Spec PyProof.Rows GenW
def PairsAt (H : Hp) (vs : List V) (es : List (Int × Int)) : Prop := vs.length = es.length ∧ ∀ (i : Nat) (e : Int × Int), es[i]? = some e → ∃ t, vs[i]? = some (.ref t) ∧ PairAt H t e
theorem PairsAt.same {H H' : Hp} {vs : List V} {es : List (Int × Int)} (h : PairsAt H vs es) (s : Same H H') : PairsAt H' vs es := ⟨h.1, fun i e he => let ⟨t, ht, q⟩ := h.2 i e he; ⟨t, ht, s _ _ q⟩⟩
theorem PairsAt.but {H H' : Hp} {x : Addr} {vs : List V} {es : List (Int × Int)} (h : PairsAt H vs es) (s : But x H H') (hx : ∀ xs, H x ≠ some (.tup xs)) : PairsAt H' vs es :=
  ⟨h.1, fun i e he => let ⟨t, ht, q⟩ := h.2 i e he; ⟨t, ht, s _ _ (fun z => hx _ (z ▸ q)) q⟩⟩
theorem PairsAt.snoc {H : Hp} {vs : List V} {es : List (Int × Int)} {t : Addr} {e : Int × Int} (h : PairsAt H vs es) (ht : PairAt H t e) : PairsAt H (vs ++ [.ref t]) (es ++ [e]) := by
  refine ⟨by rw [List.length_append, List.length_append, h.1]; rfl, fun i f hf => ?_⟩
  by_cases hi : i < es.length
  · rw [List.getElem?_append_left hi] at hf
    obtain ⟨u, hu, q⟩ := h.2 i f hf
    exact ⟨u, by rw [List.getElem?_append_left (by rw [h.1]; exact hi)]; exact hu, q⟩
  · rw [List.getElem?_append_right (by omega)] at hf
    have h0 : i - es.length = 0 := by
      have := (List.getElem?_eq_some_iff.mp hf).1
      simp at this
      omega
    rw [h0] at hf
    cases hf
    exact ⟨t, by rw [List.getElem?_append_right (by rw [h.1]; omega), h.1, h0]; rfl, ht⟩
def shL (r : List Pc) (e : Int × Int) (n : Nat) : List (Int × Int) := (List.range n).map (shN r e)
theorem shL_succ (r : List Pc) (e : Int × Int) (n : Nat) : shL r e (n + 1) = shL r e n ++ [shN r e n] := by
  unfold shL
  rw [List.range_succ, List.map_append]
  rfl
theorem shL_len (r : List Pc) (e : Int × Int) (n : Nat) : (shL r e n).length = n := by
  unfold shL
  rw [List.length_map, List.length_range]
theorem shL_at {r : List Pc} {e : Int × Int} {n i : Nat} (h : i < n) : (shL r e n)[i]? = some (shN r e i) := by
  unfold shL
  rw [List.getElem?_map, List.getElem?_range h]
  rfl
theorem shL_take {r : List Pc} {e : Int × Int} {n k : Nat} (h : k ≤ n) : (shL r e n).take k = shL r e k := by
  unfold shL
  rw [← List.map_take, List.take_range, Nat.min_eq_left h]
def spOpen (C aO Ce Cl : Addr) : SpG := fun vs H Q _ => ∃ (x : Addr) (n : Nat) (r : List Pc) (e : Int × Int), vs = [.ref x, .int (n : Int)] ∧ LadAt C aO Ce Cl H x r e ∧ RowOk r ∧ Short r n ∧ Pos2 e ∧ low e = e ∧ Sm 41 e.1 ∧ Sm 41 e.2 ∧ n ≤ 100 ∧
  ∀ H' ys, Same H H' → PairsAt H' ys (shL r e n) → Q ys H'
def spLo (C aO Ce Cl : Addr) : Sp := fun vs H Q _ => ∃ (x : Addr) (r : List Pc) (e : Int × Int), vs = [.ref x] ∧ LadAt C aO Ce Cl H x r e ∧ ∀ p, PairAt H p e → Q (.ref p) H
structure OwLo (P : Program) (w : World) (K : PySem.W.Frag) (mg : Str → Option Value) (base : Heap) (C aO Ce Cl p g : Addr) (fd : FuncData) : Prop where
  pr : PropOf K Cl "load" p g
  ok : FnOk P w K mg base CX0 1 g fd ["self"] (spLo C aO Ce Cl)
  b : Binds K fd ["self"] []
/-! ### promises of what raises -/
/-- an exception of one class alone -/
def EJ (a : Addr) (E : XK) : XK := fun cls d H => cls = .ref a ∧ E cls d H
theorem noStopJ {K : PySem.W.Frag} {a : Addr} {E : XK} (h : PySem.W.subIn K (.ref a) (.type "StopIteration") = some false) : NoStop K (EJ a E) := fun cls d H z => by
  rw [z.1]
  exact h
def giv (a : Addr) (v : V) (H : Hp) (E : XK) : Prop := ∀ H' dx, Same H H' → H' dx = some (.xd [(Str.ofString "given", v)]) → E (.ref a) (some dx) H'
theorem giv.same {a : Addr} {v : V} {H H' : Hp} {E : XK} (h : giv a v H E) (s : Same H H') : giv a v H' E := fun H2 dx s2 hd => h H2 dx (s.trans s2) hd
def spCntG (K : PySem.W.Frag) : Sp := fun vs H Q _ => ∃ (v : V) (d : PyData), vs = [v] ∧ Dq K H v d ∧ Q (.bl (withinD d 0 100)) H
def spChkPN (K : PySem.W.Frag) (C C0 : Addr) : Sp := fun vs H Q E => ∃ v : V, vs = [v] ∧ ((∃ d, Dq K H v d ∧ giv C0 v H E) ∨ (∃ x dx fs, v = .ref x ∧ H x = some (.ins C dx fs) ∧ Q .non H))
def spChkRN (K : PySem.W.Frag) (C2 : Addr) : Sp := fun vs H _ E => ∃ (v : V) (d : PyData), vs = [v] ∧ Dq K H v d ∧ resG d = false ∧ giv C2 v H E
def spChkCN (K : PySem.W.Frag) (C3 : Addr) : Sp := fun vs H _ E => ∃ (v : V) (d : PyData), vs = [v] ∧ Dq K H v d ∧ withinD d 0 100 = false ∧ giv C3 v H E
def spLadN (K : PySem.W.Frag) (C C0 C2 : Addr) : Sp := fun vs H _ E => ∃ (y : Addr) (v u : V), vs = [.ref y, v, u] ∧ ((∃ d, Dq K H v d ∧ giv C0 v H E) ∨ (∃ x dx fs d, v = .ref x ∧ H x = some (.ins C dx fs) ∧ Dq K H u d ∧ resG d = false ∧ giv C2 u H E))
def spCallN (K : PySem.W.Frag) (C2 : Addr) : Sp := fun vs H _ E => ∃ (y v : V) (d : PyData), vs = [y, v] ∧ Dq K H v d ∧ resG d = false ∧ giv C2 v H E
def spCntN (K : PySem.W.Frag) (C3 : Addr) : Sp := fun vs H _ E => ∃ (y v : V) (d : PyData), vs = [y, v] ∧ Dq K H v d ∧ withinD d 0 100 = false ∧ giv C3 v H E
def tyPat (K : PySem.W.Frag) (C : Addr) : Prop := ∀ d : PyData, PySem.W.kitOne K (.type (tyN d)) (.ref C) = some false
structure OwPi (P : Program) (w : World) (K : PySem.W.Frag) (mg : Str → Option Value) (base : Heap) (C p g : Addr) (fd : FuncData) : Prop where
  pr : PropOf K C "pieces" p g
  ok : FnOk P w K mg base CX0 1 g fd ["self"] (spPcs C)
  b : Binds K fd ["self"] []
section
variable {P : Program} {w : World} {K : PySem.W.Frag} {mg : Str → Option Value} {base : Heap} {tG t1 t2 t3 tP tC : Tok} {aO aW J C Ce Cl fP fJ : Addr} {fdJ : FuncData} {c : Nat → Addr}
abbrev s_Ladder_load : Stmt := inClass (top 67) 7
theorem sc_Ladder_load : FnScope ["self"] ["self"] (defScope s_Ladder_load) := ⟨rfl, rfl, rfl, by decide +kernel, rfl, by decide +kernel, by decide +kernel⟩

theorem ok_load {f : Addr} {fd : FuncData} (F : Fun K "load" "Ladder.load" s_Ladder_load f fd) (T : Txt4 K mg tG t1 t2 t3 tP tC aO aW J C Ce Cl) : FnOk P w K mg base CX0 1 f fd ["self"] (spLo C aO Ce Cl) := by
  refine F.ok sc_Ladder_load (fun vs H Q E h => ?_) (fun cdv A outer s H vs Q E hr h => ?_)
  · obtain ⟨x, r, e, rfl, _⟩ := h
    rfl
  · obtain ⟨x, r, e, rfl, ⟨dx, p, q, v, hx, hP, hq, hv⟩, k⟩ := h
    refine ⟨_, (pss_one (ps_ret (pe_fld (pv 0) rfl))), ?_⟩
    exact ⟨_, rfl, x, Cl, dx, _, _, rfl, hx, T.clL, T.nBeh, lkB _ _ _, k _ hq⟩
abbrev s_Ladder_opening : Stmt := inClass (top 67) 2
theorem sc_Ladder_opening : GScope ["self", "count", "pair", "number"] ["self", "count"] (defScope s_Ladder_opening) := ⟨rfl, rfl, rfl, by decide +kernel, rfl, by decide +kernel, by decide +kernel⟩
theorem ok_open {f : Addr} {oc kV doc pm cdv ct : Value} {an od : Option Addr} {osl : Array (Option Value)} (lk : K.lookup f = some ⟨oc, od, .func (PySem.W.fnOf "opening" "Ladder.opening" (defArgs s_Ladder_opening) (defBody s_Ladder_opening) (defScope s_Ladder_opening) .none kV doc pm an cdv ct), osl⟩) (hcd : PySem.W.codeIn K cdv "Ladder.opening" = true)
    (T : Txt4 K mg tG t1 t2 t3 tP tC aO aW J C Ce Cl) (D_check_count : Df P w K mg base 4 "check_count" ["value"] spChkC) (M_after : Mt P w K mg base Cl 2 "after" "self" "pair" (spAfter C aO Ce Cl)) (D_lowest_pair : Df P w K mg base 3 "lowest_pair" ["fraction_or_open"] spLowP) :
    GFn P w K mg base 5 f (PySem.W.fnOf "opening" "Ladder.opening" (defArgs s_Ladder_opening) (defBody s_Ladder_opening) (defScope s_Ladder_opening) .none kV doc pm an cdv ct) ["self", "count"] (spOpen C aO Ce Cl) := by
  refine gfn_of lk hcd sc_Ladder_opening (fun vs H Q E h => ?_) fun A outer s H vs Q E pn hr h => ?_
  · obtain ⟨x, n, r, e, rfl, _⟩ := h
    rfl
  · obtain ⟨x, n, r, e, rfl, hLd, hok, hSh, ep, el, e1, e2, n100, k⟩ := h
    refine ⟨_, gss_cons (gs_ps (ps_expr (pe_df D_check_count (hr.mono (by decide)) (by rfl) (pa_cons (pv 1) pa_nil)))) (gss_cons (gs_ps (ps_set (i := 2) sc_Ladder_opening.nd rfl (.inl rfl) (pe_fld (pv 0) rfl))) (gss_cons (gs_for owns_gcx rfl (pi_range1 rfl T.range (pa_cons (pv 1) pa_nil)) (pg_name (i := 3) sc_Ladder_opening.nd rfl (.inl rfl)) (gss_cons (gs_yield (pv 2)) (gss_cons (gs_ps (ps_set (i := 2) sc_Ladder_opening.nd rfl (.inl rfl) (pe_df D_lowest_pair (hr.mono (by decide)) (by rfl) (pa_cons (pe_dm (pv 0) T.clL M_after (hr.mono (by decide)) (pa_cons (pv 2) pa_nil)) pa_nil)))) gss_nil))) gss_nil)), ?_⟩
    obtain ⟨dx, p, q, v, hx, hP, hq, hv⟩ := id hLd
    have l8 := hSh.l8
    refine ⟨_, rfl, (n : Int), rfl, by omega, by omega, ?_⟩
    refine ⟨_, rfl, x, Cl, dx, _, _, rfl, hx, T.clL, T.nBeh, lkB _ _ _, ?_⟩
    refine ⟨_, rfl, (n : Int), rfl, by omega, by omega, ?_⟩
    refine gfor_range (lo := 0) (n := Int.toNat (n : Int)) (fun i ys σ H' => Same H H' ∧ (∃ (t : Addr) (v1 : Option V), σ = [some (.ref x), some (.int (n : Int)), some (.ref t), v1] ∧ PairAt H' t (shN r e i)) ∧ PairsAt H' ys (shL r e i)) ⟨Same.refl _, ⟨q, none, rfl, by rw [shN_zero el]; exact hq⟩, rfl, fun i e z => by simp [shL] at z⟩ ?_ ?_
    · rintro i ys σ H' hi ⟨s1, ⟨t, v1, rfl, ht⟩, hys⟩
      have hi : i < n := by omega
      have ly : ys.length = i := by rw [hys.1, shL_len]
      refine ⟨by rw [ly]; exact small1000 (by omega), _, rfl, ?_⟩
      obtain ⟨a1, a2⟩ := shN_sm hok ep e1 e2 (hSh.le (show i ≤ n by omega))
      obtain ⟨c1, c2⟩ := app_sm (matR_sm30 hok l8) a1 a2
      refine ⟨_, rfl, x, dx, _, rfl, s1 _ _ hx, lkAf _ _ _, _, rfl, x, t, r, e, _, rfl, hLd.same s1, ht, hok, l8, a1.mono (by decide), a2.mono (by decide), fun H2 p2 s2 np2 hp2 => ?_⟩
      refine ⟨_, _, rfl, .inr ⟨p2, rfl, hp2⟩, app_pos hok (shN_pos hok ep i), c1.mono (by decide), c2.mono (by decide), fun H3 p3 s3 np3 hp3 => ?_⟩
      replace hp3 : PairAt H3 p3 (low ((matR r).app (shN r e i))) := hp3
      rw [shN_succ hok ep i] at hp3
      have s13 := s2.trans s3
      refine ⟨s1.trans s13, ⟨p3, _, rfl, hp3⟩, ?_⟩
      rw [shL_succ]
      exact (hys.same s13).snoc (s13 _ _ ht)
    · rintro ys σ H' ⟨s1, _, hys⟩
      rw [show Int.toNat (n : Int) = n by omega] at hys
      exact k _ ys s1 hys
theorem ok_countG {f : Addr} {fd : FuncData} (F : Fun K "is_count" "is_count" s_is_count f fd) (T : Txt4 K mg tG t1 t2 t3 tP tC aO aW J C Ce Cl) (D_is_integer_within : Df P w K mg base 2 "is_integer_within" ["value", "least", "most"] (spWithinG K)) : FnOk P w K mg base CX0 3 f fd ["value"] (spCntG K) := by
  refine F.ok sc_is_count (fun vs H Q E h => ?_) (fun cdv A outer s H vs Q E hr h => ?_)
  · obtain ⟨v, d, rfl, _⟩ := h
    rfl
  · obtain ⟨v, d, rfl, hd, k⟩ := h
    refine ⟨_, (pss_one (ps_ret (pe_df D_is_integer_within (hr.mono (by decide)) (by rfl) (pa_cons (pv 0) (pa_cons pe_int (pa_cons (pe_glob (v := .int 100) rfl T.mgCo ⟨_, rfl⟩) pa_nil)))))), ?_⟩
    exact ⟨_, rfl, v, d, 0, 100, rfl, hd, k⟩
theorem ok_chkpN {f : Addr} {fd : FuncData} (F : Fun K "check_pattern" "check_pattern" s_check_pattern f fd) (T : Txt4 K mg tG t1 t2 t3 tP tC aO aW J C Ce Cl) (TE : TxE mg c) (RZ0 : Rz P w K mg base c 0 "given") (I : IsC K C) (kC : tyPat K C) : FnOk P w K mg base (L2N.CX P w) 4 f fd ["value"] (spChkPN K C (c 0)) := by
  refine okN F sc_check_pattern (fun vs H Q E h => ?_) (fun cdv A outer s H vs Q E hr h => ?_)
  · obtain ⟨v, rfl, _⟩ := h
    rfl
  · obtain ⟨v, rfl, h⟩ := h
    refine ⟨_, (pss_one (ps_if (pt_not (pt_val (pe_callB call_isi (by rfl) T.isinstance (by decide +kernel) (pa_cons (pv 0) (pa_cons (pe_glob (v := .ref C) rfl T.mgC rfl) pa_nil))))) (pss_one (ps_raiseX RZ0.m RZ0.ty RZ0.no (hr.mono (by decide)) (by rfl) TE.m0 (pv 0) rfl (L2N.takes_of rfl rfl rfl rfl))) pss_nil)), ?_⟩
    rcases h with ⟨d, hd, k⟩ | ⟨x, dx, fs, rfl, hx, k⟩
    · exact ⟨_, rfl, _, _, _, _, false, rfl, .own C, ty_dq hd, kC d, _, rfl, iteT ⟨_, rfl, fun dd nd => k _ dd (same_upd nd) upd_same⟩⟩
    · exact ⟨_, rfl, _, _, _, _, true, rfl, .own C, .base (.ins hx T.cl I.ca I.cn I.ct I.cm), I.is_, _, rfl, iteF k⟩
theorem ok_chkrN {f : Addr} {fd : FuncData} (F : Fun K "check_resistance" "check_resistance" s_check_resistance f fd) (TE : TxE mg c) (RZ2 : Rz P w K mg base c 2 "given") (D_is_resistance : Df P w K mg base 3 "is_resistance" ["value"] (spResG K)) : FnOk P w K mg base (L2N.CX P w) 5 f fd ["value"] (spChkRN K (c 2)) := by
  refine okN F sc_check_resistance (fun vs H Q E h => ?_) (fun cdv A outer s H vs Q E hr h => ?_)
  · obtain ⟨v, d, rfl, _⟩ := h
    rfl
  · obtain ⟨v, d, rfl, hd, hn, k⟩ := h
    refine ⟨_, (pss_one (ps_if (pt_not (pt_val (pe_df D_is_resistance (hr.mono (by decide)) (by rfl) (pa_cons (pv 0) pa_nil)))) (pss_one (ps_raiseX RZ2.m RZ2.ty RZ2.no (hr.mono (by decide)) (by rfl) TE.m2 (pv 0) rfl (L2N.takes_of rfl rfl rfl rfl))) pss_nil)), ?_⟩
    refine ⟨_, rfl, v, d, rfl, hd, _, rfl, ?_⟩
    rw [hn]
    exact iteT ⟨_, rfl, fun dd nd => k _ dd (same_upd nd) upd_same⟩
theorem ok_chkcN {f : Addr} {fd : FuncData} (F : Fun K "check_count" "check_count" s_check_count f fd) (TE : TxE mg c) (RZ3 : Rz P w K mg base c 3 "given") (D_is_count : Df P w K mg base 3 "is_count" ["value"] (spCntG K)) : FnOk P w K mg base (L2N.CX P w) 5 f fd ["value"] (spChkCN K (c 3)) := by
  refine okN F sc_check_count (fun vs H Q E h => ?_) (fun cdv A outer s H vs Q E hr h => ?_)
  · obtain ⟨v, d, rfl, _⟩ := h
    rfl
  · obtain ⟨v, d, rfl, hd, hn, k⟩ := h
    refine ⟨_, (pss_one (ps_if (pt_not (pt_val (pe_df D_is_count (hr.mono (by decide)) (by rfl) (pa_cons (pv 0) pa_nil)))) (pss_one (ps_raiseX RZ3.m RZ3.ty RZ3.no (hr.mono (by decide)) (by rfl) TE.m3 (pv 0) rfl (L2N.takes_of rfl rfl rfl rfl))) pss_nil)), ?_⟩
    refine ⟨_, rfl, v, d, rfl, hd, _, rfl, ?_⟩
    rw [hn]
    exact iteT ⟨_, rfl, fun dd nd => k _ dd (same_upd nd) upd_same⟩
theorem ok_ladN {f : Addr} {fd : FuncData} (F : Fun K "__init__" "Ladder.__init__" s_Ladder_init f fd) (D_check_patternN : DfN P w K mg base 4 "check_pattern" ["value"] (spChkPN K C (c 0))) (D_check_resistanceN : DfN P w K mg base 5 "check_resistance" ["value"] (spChkRN K (c 2))) : FnOk P w K mg base (L2N.CX P w) 6 f fd ["self", "pattern", "load"] (spLadN K C (c 0) (c 2)) := by
  refine okN F sc_Ladder_init (fun vs H Q E h => ?_) (fun cdv A outer s H vs Q E hr h => ?_)
  · obtain ⟨y, v, u, rfl, _⟩ := h
    rfl
  · obtain ⟨y, v, u, rfl, h⟩ := h
    refine ⟨_, (pss_cons (ps_expr (pe_dfN D_check_patternN (hr.mono (by decide)) (by rfl) (passN (L2N.takes_of rfl rfl rfl rfl) fun _ _ _ _ h => h) (pa_cons (pv 1) pa_nil)))
      (pss_cons (ps_expr (pe_dfN D_check_resistanceN (hr.mono (by decide)) (by rfl) (passN (L2N.takes_of rfl rfl rfl rfl) fun _ _ _ _ h => h) (pa_cons (pv 2) pa_nil)))
      pss_never)), ?_⟩
    rcases h with h | ⟨x, dx, fs, d, rfl, hx, hd, hn, k⟩
    · exact ⟨_, rfl, v, rfl, .inl h⟩
    · exact ⟨_, rfl, _, rfl, .inr ⟨x, dx, fs, rfl, hx, _, rfl, u, d, rfl, hd, hn, k⟩⟩
theorem ok_callN {f : Addr} {fd : FuncData} (F : Fun K "__call__" "Pattern.__call__" s_Pattern_call f fd) (TE : TxE mg c) (RZ2 : Rz P w K mg base c 2 "given") (D_is_resistance : Df P w K mg base 3 "is_resistance" ["value"] (spResG K)) : FnOk P w K mg base (L2N.CX P w) 5 f fd ["self", "load"] (spCallN K (c 2)) := by
  refine okN F sc_Pattern_call (fun vs H Q E h => ?_) (fun cdv A outer s H vs Q E hr h => ?_)
  · obtain ⟨y, v, d, rfl, _⟩ := h
    rfl
  · obtain ⟨y, v, d, rfl, hd, hn, k⟩ := h
    refine ⟨_, (pss_cons (ps_if (pt_not (pt_val (pe_df D_is_resistance (hr.mono (by decide)) (by rfl) (pa_cons (pv 1) pa_nil)))) (pss_one (ps_raiseX RZ2.m RZ2.ty RZ2.no (hr.mono (by decide)) (by rfl) TE.m2 (pv 1) rfl (L2N.takes_of rfl rfl rfl rfl))) pss_nil)
      pss_never), ?_⟩
    refine ⟨_, rfl, v, d, rfl, hd, _, rfl, ?_⟩
    rw [hn]
    exact iteT ⟨_, rfl, fun dd nd => k _ dd (same_upd nd) upd_same⟩
theorem ok_lcallN {f : Addr} {fd : FuncData} (F : Fun K "__call__" "Ladder.__call__" s_Ladder_call f fd) (D_check_countN : DfN P w K mg base 5 "check_count" ["value"] (spChkCN K (c 3))) : FnOk P w K mg base (L2N.CX P w) 6 f fd ["self", "count"] (spCntN K (c 3)) := by
  refine okN F sc_Ladder_call (fun vs H Q E h => ?_) (fun cdv A outer s H vs Q E hr h => ?_)
  · obtain ⟨y, v, d, rfl, _⟩ := h
    rfl
  · obtain ⟨y, v, d, rfl, hd, hn, k⟩ := h
    refine ⟨_, (pss_cons (ps_expr (pe_dfN D_check_countN (hr.mono (by decide)) (by rfl) (passN (L2N.takes_of rfl rfl rfl rfl) fun _ _ _ _ h => h) (pa_cons (pv 1) pa_nil)))
      pss_never), ?_⟩
    exact ⟨_, rfl, v, d, rfl, hd, hn, k⟩
theorem ok_openN {f : Addr} {oc kV doc pm cdv ct : Value} {an od : Option Addr} {osl : Array (Option Value)} (lk : K.lookup f = some ⟨oc, od, .func (PySem.W.fnOf "opening" "Ladder.opening" (defArgs s_Ladder_opening) (defBody s_Ladder_opening) (defScope s_Ladder_opening) .none kV doc pm an cdv ct), osl⟩) (hcd : PySem.W.codeIn K cdv "Ladder.opening" = true)
    (D_check_countN : DfN P w K mg base 5 "check_count" ["value"] (spChkCN K (c 3))) :
    GBn P w K mg base 6 f (PySem.W.fnOf "opening" "Ladder.opening" (defArgs s_Ladder_opening) (defBody s_Ladder_opening) (defScope s_Ladder_opening) .none kV doc pm an cdv ct) ["self", "count"] (spCntN K (c 3)) := by
  refine gbn_of lk hcd sc_Ladder_opening (fun vs H Q E h => ?_) fun A outer s H vs E p hr h => ?_
  · obtain ⟨y, v, d, rfl, _⟩ := h
    rfl
  · obtain ⟨y, v, d, rfl, hd, hn, k⟩ := h
    exact ⟨_, pss_cons (ps_expr (pe_dfN D_check_countN (hr.mono (by decide)) (by rfl) (passN takes_gN fun _ _ _ _ h => h) (pa_cons (pv 1) pa_nil))) pss_never, ⟨_, rfl, v, d, rfl, hd, hn, k⟩⟩
end
end RL

/-! a def whose code object is known (it makes lambdas) -/
namespace RL
open PySem L2 PySem.Spec PyProof.Rows
structure FunC (K : PySem.W.Frag) (x qual : Str) (st : Stmt) (f : Addr) (fd : FuncData) (cA : Addr) : Prop where
  ex : ∃ (oc : Value) (od : Option Addr) (kV doc pm : Value) (an : Option Addr) (ct : Value) (osl : Array (Option Value)),
    fd = PySem.W.fnOf x qual (defArgs st) (defBody st) (defScope st) .none kV doc pm an (.ref cA) ct ∧ K.lookup f = some ⟨oc, od, .func fd, osl⟩ ∧ PySem.W.codeIn K (.ref cA) qual = true
section
variable {P : Program} {w : World} {K : PySem.W.Frag} {mg : Str → Option Value} {base : Heap}
theorem okGC {x qual : Str} {st : Stmt} {f cA : Addr} {fd : FuncData} {N ps : List Str} {k : Nat} {sp : Sp} (F : FunC K x qual st f fd cA) (S : FnScope N ps (defScope st)) (len : ∀ vs H Q E, sp vs H Q E → vs.length = ps.length)
    (bd : ∀ (A : Around) (outer : List Env) (s : Shared) (H : Hp) (vs : List V) (Q : VK) (E : XK), A.guards = some [] → Room k (A.deeper (envOfC qual (defScope st) s.heap.objs.size f (.ref cA))) → sp vs H Q E →
      ∃ t, PSs (cxOf CX0 P w K mg base N qual (defScope st) f (.ref cA) A outer s H E).nox (defBody st) t ∧ t { nx := fun _ H' => Q .non H', rt := Q } (start N vs) H) : FnG P w K mg base (k + 1) f fd ps sp := by
  obtain ⟨oc, od, kV, doc, pm, an, ct, osl, rfl, lk, hcd⟩ := F.ex
  refine ⟨len, fun A outer s H args us vs Q E hg hr e0 hb r hsp => ?_⟩
  have KX : K.In s.heap := e0.mod.kin.keeps fun b o e => (e0.bs b o e).1
  have lim := e0.mod.nolimit.keeps fun b o e => (e0.bs b o e).1
  refine codeAny_call_function hr.depth (KX _ _ lk) rfl S.co S.gen rfl (PySem.W.codeRec_of KX hcd) (hb _ _ _ _ (wpAny_newFunctionEnv_cells S.kind (fun ⟨n, v⟩ hy => ?_) fun env he s1 x => ?_))
  · exact (S.par n (List.of_mem_zip hy).1).imp id fun q => ⟨q, PySem.W.cellsFrom_some _ _ _ (.inl q)⟩
  · subst he
    obtain ⟨t, ht, hq⟩ := bd A outer s H vs Q E hg (hr.deeper _) hsp
    have I : Inv (cxOf CX0 P w K mg base N qual (defScope st) f (.ref cA) A outer s H E) [] (start N vs) H s1 := inv_start S hr.hd e0 (len _ _ _ _ hsp) r x
    refine ⟨lim.keeps x.toInCall.keep, codeAny_func (wpAny_mono (ht.nox.run [] s1 _ H _ I hq) (fun fl s' hs => ?_) fun _ _ z => z)⟩
    cases fl with
    | ret u =>
      obtain ⟨v, σ', H', J, rv, q⟩ := hs
      exact ⟨v, H', J.os, J.bare, J.base, J.hok, rv, q⟩
    | next =>
      obtain ⟨σ', H', J, q⟩ := hs
      exact ⟨V.non, H', J.os, J.bare, J.base, J.hok, rfl, q⟩
    | brk => exact hs.elim fun _ z => z.elim fun _ y => False.elim y.2
    | cont => exact hs.elim fun _ z => z.elim fun _ y => False.elim y.2
end
end RL

set_option maxHeartbeats 4000000
namespace RL
open PySem L2 PySem.Spec PyProof.Rows
/-! ### data that lean on no cup -/
def hidS (c l : Addr) (H : Hp) : Hp := fun b => if b = c ∨ b = l then none else match H b with
  | some (.tbl _) => none
  | x => x
theorem hs_of {c l : Addr} {H : Hp} {b : Addr} {o : HO} (h : H b = some o) (n : b ≠ c) (m : b ≠ l) (t : ∀ ps, o ≠ .tbl ps) : hidS c l H b = some o := by
  unfold hidS
  rw [if_neg (fun z => z.elim n m), h]
  cases o <;> first | rfl | exact absurd rfl (t _)
theorem hs_get {c l : Addr} {H : Hp} {b : Addr} {o : HO} (h : hidS c l H b = some o) : b ≠ c ∧ b ≠ l ∧ H b = some o ∧ ∀ ps, o ≠ .tbl ps := by
  unfold hidS at h
  by_cases n : b = c ∨ b = l
  · rw [if_pos n] at h
    cases h
  · rw [if_neg n] at h
    refine ⟨fun z => n (.inl z), fun z => n (.inr z), ?_⟩
    cases hb : H b with
    | none =>
      rw [hb] at h
      cases h
    | some u =>
      rw [hb] at h
      cases u <;> first | (cases h; done) | (cases h; exact ⟨rfl, by intro ps z; cases z⟩)
theorem hs_but {c l : Addr} {H H' : Hp} (s : ∀ b o, b ≠ c → b ≠ l → (∀ ps, o ≠ .tbl ps) → H b = some o → H' b = some o) : Same (hidS c l H) (hidS c l H') := fun b o e => by
  obtain ⟨n, m, h, t⟩ := hs_get e
  exact hs_of (s b o n m t h) n m t
theorem upd_at {H : Hp} {p : Addr} {o : HO} (h : H p = none) : (upd H p o) p = some o := upd_same
theorem tabs_upd {TT : List (Addr × Str)} {H : Hp} {D : Addr} {xs : List V} {o : HO} (t : LamX.Tabs TT H) (h : H D = some (.lst xs)) : LamX.Tabs TT (upd H D o) := fun p hp => by
  obtain ⟨ps, h1, h2, h3⟩ := t p hp
  refine ⟨ps, (upd_ne (ne_of h1 h (by intro z; cases z))).trans h1, h2, fun pos cv hcv => ?_⟩
  obtain ⟨c', e1, e2⟩ := h3 pos cv hcv
  exact ⟨c', e1, (upd_ne (ne_of e2 h (by intro z; unfold LamX.CodeO at z; cases z))).trans e2⟩
structure Gd (d : PyData) : Prop where
  s : d.showable = true
  p : d.depth ≤ 40
  l : d.shown.length ≤ sizeLine
  u : PyData.strOk d.shown = true
def gdB (d : PyData) : Bool := d.showable && decide (d.depth ≤ 40) && decide (d.shown.length ≤ 1000) && PyData.strOk d.shown
theorem gd_of {d : PyData} (h : gdB d = true) : Gd d := by
  unfold gdB at h
  simp only [Bool.and_eq_true, decide_eq_true_eq] at h
  exact ⟨h.1.1.1, h.1.1.2, Nat.le_trans h.1.2 (by decide), h.2⟩
def pAny (_ : PyData) : Bool := false
/-- v is data of which p says no, may be shown, and leans not on c -/
def OddQ (p : PyData → Bool) (K : PySem.W.Frag) (c : Addr) (H : Hp) (v : V) : Prop := ∃ d, Dq K (hidS c c H) v d ∧ Gd d ∧ p d = false
theorem OddQ.butT {p : PyData → Bool} {K : PySem.W.Frag} {c : Addr} {H H' : Hp} {v : V} (h : OddQ p K c H v) (s : ButT c H H') : OddQ p K c H' v := by
  obtain ⟨d, h1, h2⟩ := h
  exact ⟨d, h1.same (hs_but fun b o n _ t e => s b o n t e), h2⟩
theorem OddQ.same {p : PyData → Bool} {K : PySem.W.Frag} {c : Addr} {H H' : Hp} {v : V} (h : OddQ p K c H v) (s : Same H H') : OddQ p K c H' v := h.butT (.of s)
theorem OddQ.dq {p : PyData → Bool} {K : PySem.W.Frag} {c : Addr} {H : Hp} {v : V} (h : OddQ p K c H v) : ∃ d, Dq K H v d ∧ Gd d ∧ p d = false := by
  obtain ⟨d, h1, h2⟩ := h
  exact ⟨d, h1.same (fun b o e => (hs_get e).2.2.1), h2⟩
def spNothing (K : PySem.W.Frag) : Sp := fun vs H Q _ => ∃ cu : Addr, vs = [.ref cu] ∧ CupAt cu H ∧ ∀ H' v, But cu H H' → CupAt cu H' → OddQ resG K cu H' v → Q v H'
/-! ### lists of what is told -/
def errL (j : Int) (x : Str) : List V := [.int j, .int 20, .int 23, .str x]
def errD (j : Int) (x : Str) : PyData := .list [.int j, .int 20, .int 23, .str x]
theorem dp_err {K : PySem.W.Frag} {H : Hp} {a : Addr} {j : Int} {x : Str} (h : H a = some (.lst (errL j x))) : Dp K H (.ref a) (errD j x) := .lst (SqL.of h) (.cons (.int _) (.cons (.int _) (.cons (.int _) (.cons (.str _) .nil))))
theorem cl_err {j : Int} {x : Str} (h : PyData.strOk x = true) : (errD j x).canLay0 = true := by
  simp only [errD, PyData.canLay0, PyData.canLayAll0, h, Bool.and_true]
theorem de_err {j : Int} {x : Str} : (errD j x).depth ≤ 1 := by
  simp only [errD, PyData.depth, PyData.depthAll]
  omega
theorem sh_err {j : Int} {x : Str} (h : PyData.strOk x = true) : SeqAt.shaped (errD j x) = true := by
  unfold SeqAt.shaped
  rw [cl_err h, decide_eq_true (Nat.le_trans de_err (by decide))]
  rfl
theorem sh_many {j : Int} {x : Str} (h : PyData.strOk x = true) (n : Nat) : SeqAt.shaped (.list (List.replicate n (errD j x))) = true := by
  have ca : ∀ n, PyData.canLayAll0 (List.replicate n (errD j x)) = true ∧ PyData.depthAll (List.replicate n (errD j x)) ≤ 1 := fun n => by
    induction n with
    | zero => exact ⟨rfl, by simp [PyData.depthAll]⟩
    | succ n ih =>
      have d1 := de_err (j := j) (x := x)
      rw [List.replicate_succ]
      simp only [PyData.canLayAll0, PyData.depthAll, cl_err h, ih.1, Bool.and_true]
      exact ⟨trivial, by omega⟩
  refine sh_lst (ca n).1 ?_
  simp only [PyData.depth]
  have := (ca n).2
  omega
theorem eqv_err (j : Int) (x : Str) : PyData.eqv (errD j x) (errD j x) = true := by simp [errD, PyData.eqv, PyData.eqvAll]
theorem ne_many (j : Int) (x : Str) (n : Nat) : ¬ (!PyData.eqv (.list (List.replicate n (errD j x))) (.list (List.replicate n (errD j x)))) = true := by
  have e : ∀ n, PyData.eqvAll (List.replicate n (errD j x)) (List.replicate n (errD j x)) = true := fun n => by
    induction n with
    | zero => simp [PyData.eqvAll]
    | succ n ih =>
      rw [List.replicate_succ]
      simp only [PyData.eqvAll, eqv_err, ih, Bool.and_true]
  have : PyData.eqv (.list (List.replicate n (errD j x))) (.list (List.replicate n (errD j x))) = true := by
    simp only [PyData.eqv]
    exact e n
  rw [this]
  decide
theorem dp_many {K : PySem.W.Frag} {H : Hp} {D : PyData} : ∀ {as : List Addr}, (∀ a ∈ as, Dp K H (.ref a) D) → DpAll K H (as.map V.ref) (List.replicate as.length D)
  | [], _ => .nil
  | a :: as, h => .cons (h a List.mem_cons_self) (dp_many fun b hb => h b (List.mem_cons_of_mem _ hb))
/-- the list l of what was told since H5 -/
structure Told (cu l : Addr) (TT : List (Addr × Str)) (H5 : Hp) (as : List Addr) (j : Int) (x : Str) (H' : Hp) : Prop where
  but : ButT cu H5 H'
  cup : CupAt cu H'
  tabs : LamX.Tabs TT H'
  nl : l ≠ cu
  fr : ∀ b o, (∀ ps, o ≠ .tbl ps) → H5 b = some o → b ≠ l
  hl : H' l = some (.lst (as.map V.ref))
  ha : ∀ a ∈ as, H' a = some (.lst (errL j x))
theorem Told.one {cu l a : Addr} {TT : List (Addr × Str)} {H5 H6 H7 : Hp} {j : Int} {x : Str} (hc : CupAt cu H5) (e : LamX.ExtN H5 H6) (t : LamX.Tabs TT H6) (s : Same H6 H7) (ha : H7 a = some (.lst (errL j x))) (nl : H7 l = none) : Told cu l TT H5 [a] j x (upd H7 l (.lst [.ref a])) := by
  have sl := same_upd (o := .lst [.ref a]) nl
  have hc7 := (hc.ext e).same s
  refine ⟨(ButT.ext e).trans (.of (s.trans sl)), hc7.same sl, tabs_same t (s.trans sl), (CupAt.ne hc7 nl).symm, fun b o nt q => ne_of_none (s _ _ (e _ _ q nt)) nl, upd_same, fun b hb => ?_⟩
  rw [List.mem_singleton] at hb
  rw [hb]
  exact sl _ _ ha
theorem Told.more {cu l a : Addr} {TT : List (Addr × Str)} {H5 H6 H7 H8 : Hp} {as : List Addr} {j : Int} {x : Str} (h : Told cu l TT H5 as j x H6) (e : LamX.ExtN H6 H7) (t : LamX.Tabs TT H7) (s : Same H7 H8) (ha : H8 a = some (.lst (errL j x))) :
    H8 l = some (.lst (as.map V.ref)) ∧ Told cu l TT H5 (as ++ [a]) j x (upd H8 l (.lst (as.map V.ref ++ [.ref a]))) := by
  have k : ∀ {b o}, H6 b = some o → (∀ ps, o ≠ .tbl ps) → H8 b = some o := fun h n => s _ _ (e _ _ h n)
  have hl8 := k h.hl (by intro ps z; cases z)
  have ne : ∀ b, H8 b = some (.lst (errL j x)) → b ≠ l := fun b hb => ne_of hb hl8 fun z => by
    have z := HO.lst.inj z
    cases as with
    | nil => cases z
    | cons a as => cases z
  refine ⟨hl8, fun b o nb nt eb => ?_, ?_, tabs_upd (tabs_same t s) hl8, h.nl, h.fr, by rw [upd_same, List.map_append]; rfl, fun b hb => ?_⟩
  · exact (upd_ne (h.fr b o nt eb)).trans (k (h.but b o nb nt eb) nt)
  · obtain ⟨u, v, hcu, z⟩ := (h.cup.ext e).same s
    exact ⟨u, v, (upd_ne h.nl.symm).trans hcu, z⟩
  · rcases List.mem_append.mp hb with hb | hb
    · have q := k (h.ha b hb) (by intro ps z; cases z)
      exact (upd_ne (ne b q)).trans q
    · rw [List.mem_singleton] at hb
      rw [hb]
      exact (upd_ne (ne a ha)).trans ha
section
variable {P : Program} {w : World} {K : PySem.W.Frag} {mg : Str → Option Value} {base : Heap}
abbrev s_law_nothing : Stmt := top 76
theorem sc_law_nothing : FnScope ["_law_cup_here", "_law_some"] ["_law_cup_here"] (defScope s_law_nothing) := ⟨rfl, rfl, rfl, by decide +kernel, rfl, by decide +kernel, by decide +kernel⟩

theorem ok_nothing {f : Addr} {fd : FuncData} (F : Fun K "_law_nothing" "_law_nothing" s_law_nothing f fd) (T : Txt K mg) (D_law_pick : Df P w K mg base 2 "_law_pick" ["_law_cup_here", "_law_things"] spPick) : FnOk P w K mg base CX0 3 f fd ["_law_cup_here"] (spNothing K) := by
  refine F.ok sc_law_nothing (fun vs H Q E h => ?_) (fun cdv A outer s H vs Q E hr h => ?_)
  · obtain ⟨cu, rfl, _⟩ := h
    rfl
  · obtain ⟨cu, rfl, hc, k⟩ := h
    refine ⟨_, (C8.pss_cut (ps_set (i := 1) sc_law_nothing.nd rfl (.inl rfl) (pe_lst (pa_cons pe_non (pa_cons pe_bl (pa_cons pe_bl (pa_cons pe_str (pa_cons pe_str (pa_cons (pe_un un_neg pe_int) (pa_cons (pe_op op_add (pe_op op_pow pe_int pe_int) pe_int) (pa_cons (pe_tup (pa_cons pe_int pa_nil)) (pa_cons (pe_tup (pa_cons pe_int (pa_cons pe_int (pa_cons pe_int pa_nil)))) (pa_cons (pe_lst (pa_cons pe_int (pa_cons pe_int pa_nil))) (pa_cons (pe_tup (pa_cons pe_int (pa_cons pe_int pa_nil))) (pa_cons (pe_tup (pa_cons pe_int (pa_cons pe_int pa_nil))) (pa_cons (pe_tup (pa_cons pe_int (pa_cons (pe_un un_neg pe_int) pa_nil))) (pa_cons (pe_tup (pa_cons (pe_un un_neg pe_int) (pa_cons pe_int pa_nil))) pa_nil))))))))))))))))
      (C8.pss_cut (ps_set (i := 1) sc_law_nothing.nd rfl (.inl rfl) (pe_op op_cat (pv 1) (pe_lst (pa_cons (pe_tup (pa_cons (pe_op op_add (pe_op op_pow pe_int pe_int) pe_int) (pa_cons pe_int pa_nil))) (pa_cons (pe_tup (pa_cons pe_int (pa_cons (pe_op op_add (pe_op op_pow pe_int pe_int) pe_int) pa_nil))) (pa_cons (pe_tup (pa_cons pe_bl (pa_cons pe_int pa_nil))) (pa_cons (pe_tup (pa_cons pe_int (pa_cons pe_bl pa_nil))) (pa_cons (pe_tup (pa_cons pe_non (pa_cons pe_int pa_nil))) (pa_cons (pe_tup (pa_cons (pe_tup (pa_cons pe_int (pa_cons pe_int pa_nil))) (pa_cons pe_int pa_nil))) (pa_cons pe_dnewK (pa_cons (pe_tup pa_nil) (pa_cons (pe_tup (pa_cons pe_int (pa_cons pe_str pa_nil))) pa_nil))))))))))))
      (pss_one (ps_ret (pe_df D_law_pick (hr.mono (by decide)) (by rfl) (pa_cons (pv 0) (pa_cons (pv 1) pa_nil))))))), ?_⟩
    refine ⟨fun σ' H' => ∃ l xs, σ' = [some (.ref cu), some (.ref l)] ∧ Same H H' ∧ H' l = some (.lst xs) ∧ (∀ v ∈ xs, OddQ resG K cu H' v) ∧ 0 < xs.length ∧ xs.length ≤ 40, ?_, ?_⟩
    · skip
      refine ⟨_, rfl, _, _, rfl, rfl, ⟨by decide, by decide, by decide⟩, _, _, rfl, rfl, (by show 1 ≤ sizeLine; decide), fun ap1 an1 => ?_⟩
      have as1 := same_upd (o := .tup [.int 1]) an1
      have ae1 : ap1 ≠ cu := (CupAt.ne hc an1).symm
      have ac1 := CupAt.same hc as1
      refine ⟨(by show 3 ≤ sizeLine; decide), fun ap2 an2 => ?_⟩
      have as2 := same_upd (o := .tup [.int 1, .int 2, .int 3]) an2
      have ae2 : ap2 ≠ cu := (CupAt.ne ac1 an2).symm
      have ac2 := CupAt.same ac1 as2
      refine ⟨(by show 2 ≤ sizeLine; decide), fun ap3 an3 => ?_⟩
      have as3 := same_upd (o := .lst [.int 1, .int 2]) an3
      have ae3 : ap3 ≠ cu := (CupAt.ne ac2 an3).symm
      have ac3 := CupAt.same ac2 as3
      refine ⟨(by show 2 ≤ sizeLine; decide), fun ap4 an4 => ?_⟩
      have as4 := same_upd (o := .tup [.int 0, .int 0]) an4
      have ae4 : ap4 ≠ cu := (CupAt.ne ac3 an4).symm
      have ac4 := CupAt.same ac3 as4
      refine ⟨(by show 2 ≤ sizeLine; decide), fun ap5 an5 => ?_⟩
      have as5 := same_upd (o := .tup [.int 2, .int 0]) an5
      have ae5 : ap5 ≠ cu := (CupAt.ne ac4 an5).symm
      have ac5 := CupAt.same ac4 as5
      refine ⟨_, rfl, (by show 2 ≤ sizeLine; decide), fun ap6 an6 => ?_⟩
      have as6 := same_upd (o := .tup [.int 1, .int (-1)]) an6
      have ae6 : ap6 ≠ cu := (CupAt.ne ac5 an6).symm
      have ac6 := CupAt.same ac5 as6
      refine ⟨_, rfl, (by show 2 ≤ sizeLine; decide), fun ap7 an7 => ?_⟩
      have as7 := same_upd (o := .tup [.int (-1), .int 2]) an7
      have ae7 : ap7 ≠ cu := (CupAt.ne ac6 an7).symm
      have ac7 := CupAt.same ac6 as7
      have at6 := as7
      have at5 := as6.trans at6
      have at4 := as5.trans at5
      have at3 := as4.trans at4
      have at2 := as3.trans at3
      have at1 := as2.trans at2
      have aall := as1.trans at1
      have ag1 : hidS cu cu _ ap1 = some (.tup [.int 1]) := hs_of (at1 _ _ (upd_at (o := .tup [.int 1]) an1)) ae1 ae1 (by intro ps z; cases z)
      have ag2 : hidS cu cu _ ap2 = some (.tup [.int 1, .int 2, .int 3]) := hs_of (at2 _ _ (upd_at (o := .tup [.int 1, .int 2, .int 3]) an2)) ae2 ae2 (by intro ps z; cases z)
      have ag3 : hidS cu cu _ ap3 = some (.lst [.int 1, .int 2]) := hs_of (at3 _ _ (upd_at (o := .lst [.int 1, .int 2]) an3)) ae3 ae3 (by intro ps z; cases z)
      have ag4 : hidS cu cu _ ap4 = some (.tup [.int 0, .int 0]) := hs_of (at4 _ _ (upd_at (o := .tup [.int 0, .int 0]) an4)) ae4 ae4 (by intro ps z; cases z)
      have ag5 : hidS cu cu _ ap5 = some (.tup [.int 2, .int 0]) := hs_of (at5 _ _ (upd_at (o := .tup [.int 2, .int 0]) an5)) ae5 ae5 (by intro ps z; cases z)
      have ag6 : hidS cu cu _ ap6 = some (.tup [.int 1, .int (-1)]) := hs_of (at6 _ _ (upd_at (o := .tup [.int 1, .int (-1)]) an6)) ae6 ae6 (by intro ps z; cases z)
      have ag7 : hidS cu cu _ ap7 = some (.tup [.int (-1), .int 2]) := hs_of (upd_at (o := .tup [.int (-1), .int 2]) an7) ae7 ae7 (by intro ps z; cases z)
      have aodd : ∀ v ∈ ([.non, .bl true, .bl false, .str (Str.ofString "1"), .str (Str.ofString "open"), .int (-1), .int ((10 ^ Int.toNat 12) + 1), .ref ap1, .ref ap2, .ref ap3, .ref ap4, .ref ap5, .ref ap6, .ref ap7] : List V), OddQ resG K cu (upd (upd (upd (upd (upd (upd (upd H ap1 (.tup [.int 1])) ap2 (.tup [.int 1, .int 2, .int 3])) ap3 (.lst [.int 1, .int 2])) ap4 (.tup [.int 0, .int 0])) ap5 (.tup [.int 2, .int 0])) ap6 (.tup [.int 1, .int (-1)])) ap7 (.tup [.int (-1), .int 2])) v := by
        intro v hv
        simp only [List.mem_cons, List.not_mem_nil, or_false] at hv
        rcases hv with rfl | rfl | rfl | rfl | rfl | rfl | rfl | rfl | rfl | rfl | rfl | rfl | rfl | rfl
        · exact ⟨.none, .dp .non (by decide +kernel), gd_of (by decide +kernel), by decide +kernel⟩
        · exact ⟨.bool true, .dp (.bl _) (by decide +kernel), gd_of (by decide +kernel), by decide +kernel⟩
        · exact ⟨.bool false, .dp (.bl _) (by decide +kernel), gd_of (by decide +kernel), by decide +kernel⟩
        · exact ⟨.str (Str.ofString "1"), .dp (.str _) (by decide +kernel), gd_of (by decide +kernel), by decide +kernel⟩
        · exact ⟨.str (Str.ofString "open"), .dp (.str _) (by decide +kernel), gd_of (by decide +kernel), by decide +kernel⟩
        · exact ⟨.int (-1), .dp (.int _) (by decide +kernel), gd_of (by decide +kernel), by decide +kernel⟩
        · exact ⟨.int ((10 ^ Int.toNat 12) + 1), .dp (.int _) (by decide +kernel), gd_of (by decide +kernel), by decide +kernel⟩
        · exact ⟨.tuple [.int 1], .dp (.tup (SqT.of ag1) (.cons (.int _) .nil)) (by decide +kernel), gd_of (by decide +kernel), by decide +kernel⟩
        · exact ⟨.tuple [.int 1, .int 2, .int 3], .dp (.tup (SqT.of ag2) (.cons (.int _) (.cons (.int _) (.cons (.int _) .nil)))) (by decide +kernel), gd_of (by decide +kernel), by decide +kernel⟩
        · exact ⟨.list [.int 1, .int 2], .dp (.lst (SqL.of ag3) (.cons (.int _) (.cons (.int _) .nil))) (by decide +kernel), gd_of (by decide +kernel), by decide +kernel⟩
        · exact ⟨.tuple [.int 0, .int 0], .dp (.tup (SqT.of ag4) (.cons (.int _) (.cons (.int _) .nil))) (by decide +kernel), gd_of (by decide +kernel), by decide +kernel⟩
        · exact ⟨.tuple [.int 2, .int 0], .dp (.tup (SqT.of ag5) (.cons (.int _) (.cons (.int _) .nil))) (by decide +kernel), gd_of (by decide +kernel), by decide +kernel⟩
        · exact ⟨.tuple [.int 1, .int (-1)], .dp (.tup (SqT.of ag6) (.cons (.int _) (.cons (.int _) .nil))) (by decide +kernel), gd_of (by decide +kernel), by decide +kernel⟩
        · exact ⟨.tuple [.int (-1), .int 2], .dp (.tup (SqT.of ag7) (.cons (.int _) (.cons (.int _) .nil))) (by decide +kernel), gd_of (by decide +kernel), by decide +kernel⟩
      refine ⟨(by show 14 ≤ sizeLine; decide), fun l nl => ?_⟩
      have sl := same_upd (o := .lst [.non, .bl true, .bl false, .str (Str.ofString "1"), .str (Str.ofString "open"), .int (-1), .int ((10 ^ Int.toNat 12) + 1), .ref ap1, .ref ap2, .ref ap3, .ref ap4, .ref ap5, .ref ap6, .ref ap7]) nl
      exact ⟨l, _, rfl, aall.trans sl, upd_same, fun v hv => (aodd v hv).same sl, (by show 0 < 14; decide), (by show 14 ≤ 40; decide)⟩
    rintro σ1 H1 ⟨l, xs, rfl, s1, hl, hx, x0, x1⟩
    have hc1 := hc.same s1
    refine ⟨fun σ' H' => ∃ l xs, σ' = [some (.ref cu), some (.ref l)] ∧ Same H H' ∧ H' l = some (.lst xs) ∧ (∀ v ∈ xs, OddQ resG K cu H' v) ∧ 0 < xs.length ∧ xs.length ≤ 60 ∧ l ≠ cu, ?_, ?_⟩
    · skip
      refine ⟨_, rfl, ?_⟩
      refine ⟨_, _, rfl, rfl, ⟨by decide, by decide, by decide⟩, _, _, rfl, rfl, (by show 2 ≤ sizeLine; decide), fun bp1 bn1 => ?_⟩
      have bs1 := same_upd (o := .tup [.int ((10 ^ Int.toNat 12) + 1), .int 1]) bn1
      have be1 : bp1 ≠ cu := (CupAt.ne hc1 bn1).symm
      have bc1 := CupAt.same hc1 bs1
      refine ⟨_, _, rfl, rfl, ⟨by decide, by decide, by decide⟩, _, _, rfl, rfl, (by show 2 ≤ sizeLine; decide), fun bp2 bn2 => ?_⟩
      have bs2 := same_upd (o := .tup [.int 1, .int ((10 ^ Int.toNat 12) + 1)]) bn2
      have be2 : bp2 ≠ cu := (CupAt.ne bc1 bn2).symm
      have bc2 := CupAt.same bc1 bs2
      refine ⟨(by show 2 ≤ sizeLine; decide), fun bp3 bn3 => ?_⟩
      have bs3 := same_upd (o := .tup [.bl true, .int 1]) bn3
      have be3 : bp3 ≠ cu := (CupAt.ne bc2 bn3).symm
      have bc3 := CupAt.same bc2 bs3
      refine ⟨(by show 2 ≤ sizeLine; decide), fun bp4 bn4 => ?_⟩
      have bs4 := same_upd (o := .tup [.int 1, .bl true]) bn4
      have be4 : bp4 ≠ cu := (CupAt.ne bc3 bn4).symm
      have bc4 := CupAt.same bc3 bs4
      refine ⟨(by show 2 ≤ sizeLine; decide), fun bp5 bn5 => ?_⟩
      have bs5 := same_upd (o := .tup [.non, .int 1]) bn5
      have be5 : bp5 ≠ cu := (CupAt.ne bc4 bn5).symm
      have bc5 := CupAt.same bc4 bs5
      refine ⟨(by show 2 ≤ sizeLine; decide), fun bp6 bn6 => ?_⟩
      have bs6 := same_upd (o := .tup [.int 1, .int 1]) bn6
      have be6 : bp6 ≠ cu := (CupAt.ne bc5 bn6).symm
      have bc6 := CupAt.same bc5 bs6
      refine ⟨(by show 2 ≤ sizeLine; decide), fun bp7 bn7 => ?_⟩
      have bs7 := same_upd (o := .tup [.ref bp6, .int 1]) bn7
      have be7 : bp7 ≠ cu := (CupAt.ne bc6 bn7).symm
      have bc7 := CupAt.same bc6 bs7
      refine (fun bp8 bn8 => ?_)
      have bs8 := same_upd (o := .dK []) bn8
      have be8 : bp8 ≠ cu := (CupAt.ne bc7 bn8).symm
      have bc8 := CupAt.same bc7 bs8
      refine ⟨(by show 0 ≤ sizeLine; decide), fun bp9 bn9 => ?_⟩
      have bs9 := same_upd (o := .tup []) bn9
      have be9 : bp9 ≠ cu := (CupAt.ne bc8 bn9).symm
      have bc9 := CupAt.same bc8 bs9
      refine ⟨(by show 2 ≤ sizeLine; decide), fun bp10 bn10 => ?_⟩
      have bs10 := same_upd (o := .tup [.int 1, .str (Str.ofString "2")]) bn10
      have be10 : bp10 ≠ cu := (CupAt.ne bc9 bn10).symm
      have bc10 := CupAt.same bc9 bs10
      have bt9 := bs10
      have bt8 := bs9.trans bt9
      have bt7 := bs8.trans bt8
      have bt6 := bs7.trans bt7
      have bt5 := bs6.trans bt6
      have bt4 := bs5.trans bt5
      have bt3 := bs4.trans bt4
      have bt2 := bs3.trans bt3
      have bt1 := bs2.trans bt2
      have ball := bs1.trans bt1
      have bg1 : hidS cu cu _ bp1 = some (.tup [.int ((10 ^ Int.toNat 12) + 1), .int 1]) := hs_of (bt1 _ _ (upd_at (o := .tup [.int ((10 ^ Int.toNat 12) + 1), .int 1]) bn1)) be1 be1 (by intro ps z; cases z)
      have bg2 : hidS cu cu _ bp2 = some (.tup [.int 1, .int ((10 ^ Int.toNat 12) + 1)]) := hs_of (bt2 _ _ (upd_at (o := .tup [.int 1, .int ((10 ^ Int.toNat 12) + 1)]) bn2)) be2 be2 (by intro ps z; cases z)
      have bg3 : hidS cu cu _ bp3 = some (.tup [.bl true, .int 1]) := hs_of (bt3 _ _ (upd_at (o := .tup [.bl true, .int 1]) bn3)) be3 be3 (by intro ps z; cases z)
      have bg4 : hidS cu cu _ bp4 = some (.tup [.int 1, .bl true]) := hs_of (bt4 _ _ (upd_at (o := .tup [.int 1, .bl true]) bn4)) be4 be4 (by intro ps z; cases z)
      have bg5 : hidS cu cu _ bp5 = some (.tup [.non, .int 1]) := hs_of (bt5 _ _ (upd_at (o := .tup [.non, .int 1]) bn5)) be5 be5 (by intro ps z; cases z)
      have bg6 : hidS cu cu _ bp6 = some (.tup [.int 1, .int 1]) := hs_of (bt6 _ _ (upd_at (o := .tup [.int 1, .int 1]) bn6)) be6 be6 (by intro ps z; cases z)
      have bg7 : hidS cu cu _ bp7 = some (.tup [.ref bp6, .int 1]) := hs_of (bt7 _ _ (upd_at (o := .tup [.ref bp6, .int 1]) bn7)) be7 be7 (by intro ps z; cases z)
      have bg8 : hidS cu cu _ bp8 = some (.dK []) := hs_of (bt8 _ _ (upd_at (o := .dK []) bn8)) be8 be8 (by intro ps z; cases z)
      have bg9 : hidS cu cu _ bp9 = some (.tup []) := hs_of (bt9 _ _ (upd_at (o := .tup []) bn9)) be9 be9 (by intro ps z; cases z)
      have bg10 : hidS cu cu _ bp10 = some (.tup [.int 1, .str (Str.ofString "2")]) := hs_of (upd_at (o := .tup [.int 1, .str (Str.ofString "2")]) bn10) be10 be10 (by intro ps z; cases z)
      have bodd : ∀ v ∈ ([.ref bp1, .ref bp2, .ref bp3, .ref bp4, .ref bp5, .ref bp7, .ref bp8, .ref bp9, .ref bp10] : List V), OddQ resG K cu (upd (upd (upd (upd (upd (upd (upd (upd (upd (upd H1 bp1 (.tup [.int ((10 ^ Int.toNat 12) + 1), .int 1])) bp2 (.tup [.int 1, .int ((10 ^ Int.toNat 12) + 1)])) bp3 (.tup [.bl true, .int 1])) bp4 (.tup [.int 1, .bl true])) bp5 (.tup [.non, .int 1])) bp6 (.tup [.int 1, .int 1])) bp7 (.tup [.ref bp6, .int 1])) bp8 (.dK [])) bp9 (.tup [])) bp10 (.tup [.int 1, .str (Str.ofString "2")])) v := by
        intro v hv
        simp only [List.mem_cons, List.not_mem_nil, or_false] at hv
        rcases hv with rfl | rfl | rfl | rfl | rfl | rfl | rfl | rfl | rfl
        · exact ⟨.tuple [.int ((10 ^ Int.toNat 12) + 1), .int 1], .dp (.tup (SqT.of bg1) (.cons (.int _) (.cons (.int _) .nil))) (by decide +kernel), gd_of (by decide +kernel), by decide +kernel⟩
        · exact ⟨.tuple [.int 1, .int ((10 ^ Int.toNat 12) + 1)], .dp (.tup (SqT.of bg2) (.cons (.int _) (.cons (.int _) .nil))) (by decide +kernel), gd_of (by decide +kernel), by decide +kernel⟩
        · exact ⟨.tuple [.bool true, .int 1], .dp (.tup (SqT.of bg3) (.cons (.bl _) (.cons (.int _) .nil))) (by decide +kernel), gd_of (by decide +kernel), by decide +kernel⟩
        · exact ⟨.tuple [.int 1, .bool true], .dp (.tup (SqT.of bg4) (.cons (.int _) (.cons (.bl _) .nil))) (by decide +kernel), gd_of (by decide +kernel), by decide +kernel⟩
        · exact ⟨.tuple [.none, .int 1], .dp (.tup (SqT.of bg5) (.cons .non (.cons (.int _) .nil))) (by decide +kernel), gd_of (by decide +kernel), by decide +kernel⟩
        · exact ⟨.tuple [.tuple [.int 1, .int 1], .int 1], .dp (.tup (SqT.of bg7) (.cons (.tup (SqT.of bg6) (.cons (.int _) (.cons (.int _) .nil))) (.cons (.int _) .nil))) (by decide +kernel), gd_of (by decide +kernel), by decide +kernel⟩
        · exact ⟨.dict [], .dk (kvs := []) bg8, gd_of (by decide +kernel), by decide +kernel⟩
        · exact ⟨.tuple [], .dp (.tup (SqT.of bg9) .nil) (by decide +kernel), gd_of (by decide +kernel), by decide +kernel⟩
        · exact ⟨.tuple [.int 1, .str (Str.ofString "2")], .dp (.tup (SqT.of bg10) (.cons (.int _) (.cons (.str _) .nil))) (by decide +kernel), gd_of (by decide +kernel), by decide +kernel⟩
      refine ⟨(by show 9 ≤ sizeLine; decide), fun l2 nl2 => ?_⟩
      have sl2 := same_upd (o := .lst [.ref bp1, .ref bp2, .ref bp3, .ref bp4, .ref bp5, .ref bp7, .ref bp8, .ref bp9, .ref bp10]) nl2
      refine ⟨l, l2, _, _, rfl, rfl, sl2 _ _ (ball _ _ hl), upd_same, (by show xs.length + 9 ≤ sizeLine; exact small1000 (by omega)), fun q nq => ?_⟩
      have sq := same_upd (o := .lst (xs ++ [.ref bp1, .ref bp2, .ref bp3, .ref bp4, .ref bp5, .ref bp7, .ref bp8, .ref bp9, .ref bp10])) nq
      refine ⟨q, _, rfl, ((s1.trans ball).trans sl2).trans sq, upd_same, fun v hv => ?_, by rw [List.length_append]; show 0 < xs.length + 9; omega, by rw [List.length_append]; show xs.length + 9 ≤ 60; omega, (CupAt.ne (hc1.same (ball.trans sl2)) nq).symm⟩
      rcases List.mem_append.mp hv with hv | hv
      · exact (hx v hv).same ((ball.trans sl2).trans sq)
      · exact (bodd v hv).same (sl2.trans sq)
    rintro σ2 H2 ⟨l, xs, rfl, s2, hl, hx, x0, x1, nlc⟩
    refine ⟨_, rfl, _, rfl, cu, l, _, rfl, hc.same s2, nlc.symm, hl, x0, by omega, fun H3 v b3 hc3 hv => ?_⟩
    exact k H3 v ((But.of s2).trans b3) hc3 ((hx v hv).butT (.but b3))
end
end RL

set_option maxHeartbeats 1000000
/-! An own unary operator; `x in o` by an own __contains__; C(*y). -/
namespace RL
open PySem L2 PySem.Spec PyProof.Rows PySem.W
section
variable {X : Cx} {k : Nat} {ps : List Str} {sp : Sp} {C g : Addr} {fd : FuncData}
def rUnOwn (C : Addr) (sp : Sp) : V → Hp → VK → Prop := fun x H Q => ∃ a dx fs, x = .ref a ∧ H a = some (.ins C dx fs) ∧ sp [x] H Q E0
theorem un_invOwn (hs : PySem.W.findIn X.K (.ref C) "__invert__" = some (some (.ref g))) (hf : PySem.W.isFn X.K (.ref g) = true) (F : FnOk X.prog X.w X.K X.mg X.base CX0 k g fd ps sp) (hb : Binds X.K fd ps []) (hr : Room k X.A) :
    UnR X (unaryOp .Invert) (rUnOwn C sp) := by
  intro pins s σ H x v Q I rx h
  obtain ⟨a, dx, fs, rfl, ha, q⟩ := h
  cases (show v = Value.ref a from rx)
  obtain ⟨mA, O, _⟩ := ins_get I.hok ha
  obtain ⟨od, J, _⟩ := O.look
  obtain ⟨m, hF⟩ := I.fr
  refine PySem.W.ksp_inv hF I.ok.mod.kin J hs hf ?_
  have q0 : sp ([.ref a] ++ []) H Q E0 := q
  exact run_fn (us := [.ref a]) (vs := [.ref a]) F hr hb .nil pass0 I (.cons rfl .nil) q0
def rInOwn (C : Addr) (sp : Sp) : R2 := fun x y H Q => ∃ a dx fs, y = .ref a ∧ H a = some (.ins C dx fs) ∧ sp [y, x] H (fun z H' => ∃ b : Bool, z = .bl b ∧ Q (.bl b) H') E0
theorem op_inOwn (hs : PySem.W.findIn X.K (.ref C) "__contains__" = some (some (.ref g))) (hf : PySem.W.isFn X.K (.ref g) = true) (F : FnOk X.prog X.w X.K X.mg X.base CX0 k g fd ps sp) (hb : Binds X.K fd ps []) (hr : Room k X.A) :
    OpR X (compareOp .In) (rInOwn C sp) := by
  intro pins s σ H x y v u Q I rx ry h
  obtain ⟨a, dx, fs, rfl, ha, q⟩ := h
  cases (show u = Value.ref a from ry)
  obtain ⟨mA, O, _⟩ := ins_get I.hok ha
  obtain ⟨od, J, _⟩ := O.look
  obtain ⟨m, hF⟩ := I.fr
  refine PySem.W.in_K hF I.ok.mod.kin J hs hf ?_
  have q0 : sp ([.ref a, x] ++ []) H _ E0 := q
  refine wpAny_mono (run_fn (us := [.ref a, v]) (vs := [.ref a, x]) F hr hb .nil pass0 I (.cons rfl (.cons rx .nil)) q0) (fun w s' z => ?_) fun _ _ z => z
  obtain ⟨z', H', I', rz, b, rfl, qz⟩ := z
  cases (show w = Value.bool b from rz)
  exact wpAny_truthy_bool ⟨.bl b, H', I', rfl, qz⟩
end
section
variable {X : Cx} {CX : CXT} {k : Nat} {f C : Addr} {sp : Sp} {E : XK} {x : Str} {e : Expr} {te : TE} {p pos sp_ : Pos}
theorem pe_makeS1 (M : Mk X.K C f) (F : FnR X.prog X.w X.K X.mg X.base CX k f sp) (hr : Room (k + 1) X.A) (hg : Gl X x) (hm : X.mg x = some (.ref C)) (hx : Passes CX X E) (he : PE X e te) (hd : (x == ("__debug__" : Str)) = false := by decide)
    (hst : starEach [.Starred e sp_] X.env = [(true, eval e X.env)] := by rfl) :
    PE X (.Call (.Name x p) [.Starred e sp_] [] pos) (fun σ H Q => te σ H fun y H1 => ∃ a xs, y = V.ref a ∧ (SqT X.K H1 a xs ∨ SqL X.K H1 a xs) ∧ ∀ z dz, H1 z = Option.none → H1 dz = Option.none → dz ≠ z → sp (V.ref z :: xs) (upd (upd H1 dz (.own z)) z (.ins C dz [])) (fun v H2 => v = .non ∧ Q (.ref z) H2) E) := by
  refine ⟨fun pins s σ H Q I h => ?_⟩
  refine wpAny_Call_Name_kw (ld_glob I hg hm ?_ hd)
  refine PySem.W.callWith_S (h₀ := X.base) I.ok.mod.kin M.kp (thn (he.run pins s σ H _ I h) fun v s1 ⟨y, H1, I1, ry, a, xs, ey, hxs, q⟩ => ?_) hst
  subst ey
  obtain rfl : v = Value.ref a := ry
  exact StX.star_any I1 hxs fun us s2 I2 rv => ⟨I2.kIn, StX.run_makeR M F hr hx I2 rv q⟩
theorem pe_makeR0 (M : Mk X.K C f) (F : FnR X.prog X.w X.K X.mg X.base CX k f sp) (hr : Room (k + 1) X.A) (hg : Gl X x) (hm : X.mg x = some (.ref C)) (hx : Passes CX X E)
    (hdb : (x == ("__debug__" : Str)) = false := by decide) : PE X (.Call (.Name x p) [] [] pos) (StX.tMakeR C sp E tNil) := by
  refine ⟨fun pins s σ H Q I h => ?_⟩
  refine wpAny_Call_Name_kw (ld_glob I hg hm ?_ hdb)
  exact PySem.W.callWith_K0 I.kIn M.kp (StX.run_makeR M F hr hx I .nil h)
end
end RL

set_option maxHeartbeats 4000000
namespace RL
open PySem L2 PySem.Spec PyProof.Rows GenW
def spRight (T : List (Addr × Str)) : Sp := fun vs H Q _ => ∃ c : Addr, vs = [.ref c] ∧ CupAt c H ∧ LamX.Tabs T H ∧ ∀ H', ButT c H H' → LamX.Tabs T H' → Q (.bl true) H'
def prD (e : Int × Int) : PyData := .tuple [.int e.1, .int e.2]
theorem dp_pair {K : PySem.W.Frag} {H : Hp} {t : Addr} {e : Int × Int} (h : PairAt H t e) : Dp K H (.ref t) (prD e) := .tup (SqT.of h) (.cons (.int _) (.cons (.int _) .nil))
theorem ne_prD (e : Int × Int) : ¬ (!PyData.eqv (prD e) (prD e)) = true := by
  have : PyData.eqv (prD e) (prD e) = true := by simp [prD, PyData.eqv, PyData.eqvAll]
  rw [this]
  decide
theorem ne_prs (e f : Int × Int) : ¬ (!PyData.eqv (.list [prD e, prD f]) (.list [prD e, prD f])) = true := by
  have : PyData.eqv (.list [prD e, prD f]) (.list [prD e, prD f]) = true := by simp [prD, PyData.eqv, PyData.eqvAll]
  rw [this]
  decide
theorem pairs2 {H : Hp} {zs : List V} {r : List Pc} {e : Int × Int} (h : PairsAt H zs (shL r e 2)) : ∃ u1 u2, zs = [.ref u1, .ref u2] ∧ PairAt H u1 (shN r e 0) ∧ PairAt H u2 (shN r e 1) := by
  have hl : zs.length = 2 := by rw [h.1, shL_len]
  obtain ⟨t0, h0, q0⟩ := h.2 0 _ (shL_at (show 0 < 2 by decide))
  obtain ⟨t1, h1, q1⟩ := h.2 1 _ (shL_at (show 1 < 2 by decide))
  match zs, hl with
  | [a, b], _ =>
    cases h0
    cases h1
    exact ⟨t0, t1, rfl, q0, q1⟩
theorem ins_of {C : Addr} {H : Hp} {x : Addr} {r : List Pc} (h : PatAt C H x r) : ∃ dx fs, H x = some (.ins C dx fs) := by
  obtain ⟨dx, q, m, f, ws, f1, f2, f3, f4, h1, _⟩ := h
  exact ⟨dx, _, h1⟩
theorem LadAt.ins {C aO Ce Cl : Addr} {H : Hp} {x : Addr} {r : List Pc} {e : Int × Int} (h : LadAt C aO Ce Cl H x r e) : ∃ dx fs, H x = some (.ins Cl dx fs) := by
  obtain ⟨dx, p, q, v, h1, _⟩ := h
  exact ⟨dx, _, h1⟩
theorem insLad {X : Cx} {C aO Ce Cl : Addr} {H : Hp} {x : Addr} {r : List Pc} {e : Int × Int} (h : LadAt C aO Ce Cl H x r e) : StX.InsC X H x Cl := by
  obtain ⟨dx, fs, h1⟩ := h.ins
  exact .inr ⟨dx, _, h1⟩
theorem lkOp (p q : Addr) (v : V) : (LF p q v).lookup ("opening" : Str) = none := by
  have h1 : (("opening" : Str) == ("section" : Str)) = false := by decide +kernel
  have h2 : (("opening" : Str) == ("behind" : Str)) = false := by decide +kernel
  have h3 : (("opening" : Str) == ("far" : Str)) = false := by decide +kernel
  simp [LF, List.lookup, h1, h2, h3]
theorem same_mk {H : Hp} {x dx C : Addr} {fs : List (Str × V)} (nx : H x = none) (ndx : H dx = none) : Same H (upd (upd H dx (.own x)) x (.ins C dx fs)) := fun b o e => by
  rw [upd_ne (ne_of_none e nx), upd_ne (ne_of_none e ndx)]
  exact e
theorem make_lad {C aO Ce Cl : Addr} {H : Hp} {x z dz : Addr} {v : V} {r : List Pc} {e : Int × Int} {Q : Hp → Prop} (nz : H z = none) (ndz : H dz = none) (hx : PatAt C H x r) (hok : RowOk r) (l8 : r.length ≤ 8) (hL : LoadAt H v e) (k : ∀ H', Same H H' → LadAt C aO Ce Cl H' z r (low e) → Q H') :
    spLad C aO Ce Cl [.ref z, .ref x, v] (upd (upd H dz (.own z)) z (.ins Cl dz [])) (fun v H3 => v = .non ∧ Q H3) E0 := by
  have s0 : Same H (upd (upd H dz (.own z)) z (.ins Cl dz [])) := same_mk nz ndz
  refine ⟨z, dz, x, v, r, e, rfl, upd_same, hx.same s0, hok, l8, ?_, fun H' bz hE => ⟨rfl, k H' (fun b' o e => bz _ _ (ne_of_none e nz) (s0 _ _ e)) hE⟩⟩
  rcases hL with ⟨i, e1, h1, h2, h3⟩ | ⟨p, e1, hp, hR⟩
  · exact .inl ⟨i, e1, h1, h2, h3⟩
  · exact .inr ⟨p, e1, s0 _ _ hp, hR⟩
theorem ExAt.butT {C : Addr} {H H' : Hp} {c x : Addr} {s l w : Int} (h : ExAt C H x s l w) (hc : CupAt c H) (b : ButT c H H') : ExAt C H' x s l w := by
  obtain ⟨dx, p, h1, h2⟩ := h
  exact ⟨dx, p, b.ins hc h1, b.tup hc h2⟩
theorem LadAt.butT {C aO Ce Cl : Addr} {H H' : Hp} {c x : Addr} {r : List Pc} {e : Int × Int} (h : LadAt C aO Ce Cl H x r e) (hc : CupAt c H) (b : ButT c H H') : LadAt C aO Ce Cl H' x r e := by
  obtain ⟨dx, p, q, v, h1, h2, h3, h4⟩ := h
  refine ⟨dx, p, q, v, b.ins hc h1, h2.butT hc b, b.tup hc h3, ?_⟩
  rcases h4 with h4 | ⟨h4, y, e1, hy⟩
  · exact .inl h4
  · exact .inr ⟨h4, y, e1, hy.butT hc b⟩
theorem LoadAt.butT {H H' : Hp} {c : Addr} {v : V} {e : Int × Int} (h : LoadAt H v e) (hc : CupAt c H) (b : ButT c H H') : LoadAt H' v e := by
  rcases h with h | ⟨p, e1, hp, hR⟩
  · exact .inl h
  · exact .inr ⟨p, e1, b.tup hc hp, hR⟩
theorem oddRow {K : PySem.W.Frag} {H : Hp} {c q : Addr} {ws : List V} {r : List Pc} (ok : RowOk r) (l8 : r.length ≤ 8) (hq : H q = some (.tup ws)) (hw : PiecesAt H ws r) (hc : CupAt c H) : OddQ pAny K c H (.ref q) := by
  have nc : ∀ {t : Addr} {xs : List V}, H t = some (.tup xs) → hidS c c H t = some (.tup xs) := fun {t xs} h => by
    obtain ⟨u, v, hcu, _⟩ := hc
    have n := ne_of h hcu (by intro z; cases z)
    exact hs_of h n n (by intro ps z; cases z)
  have hw2 : PiecesAt (hidS c c H) ws r := ⟨hw.1, fun i p hp => let ⟨v, hv, t, e, ht⟩ := hw.2 i p hp; ⟨v, hv, t, e, nc ht⟩⟩
  have Sh := (tame_row ok l8).shows (by decide) (by decide)
  have cl : ∀ r : List Pc, PyData.canLayAll0 (r.map pcD) = true := fun r => by
    induction r with
    | nil => rfl
    | cons p r ih =>
      have g : PyData.strOk (wd p.1) = true := by cases p.1 <;> exact strOk_of (Uok.of _)
      simp [PyData.canLayAll0, PyData.canLay0, pcD, g, ih]
  exact ⟨.tuple (r.map pcD), .dp (.tup (SqT.of (nc hq)) (dp_pcs hw2)) Sh.n, ⟨Sh.s, Sh.p, Sh.l, strOk_shown (by simp only [PyData.canLay0]; exact cl r) Sh.n⟩, rfl⟩
/-- what stands all the while -/
structure St (C : Addr) (TT : List (Addr × Str)) (H : Hp) (cu z : Addr) (odd ev : V) (r : List Pc) (e : Int × Int) (K : PySem.W.Frag) (H' : Hp) : Prop where
  all : ButT cu H H'
  cup : CupAt cu H'
  tabs : LamX.Tabs TT H'
  pat : PatAt C H' z r
  odd : OddQ resG K cu H' odd
  load : LoadAt H' ev e
theorem St.step {C : Addr} {TT : List (Addr × Str)} {H : Hp} {cu z : Addr} {odd ev : V} {r : List Pc} {e : Int × Int} {K : PySem.W.Frag} {H' H2 : Hp} (h : St C TT H cu z odd ev r e K H') (b : ButT cu H' H2) (hc : CupAt cu H2) (t : LamX.Tabs TT H2) : St C TT H cu z odd ev r e K H2 :=
  ⟨h.all.trans b, hc, t, h.pat.butT h.cup b, h.odd.butT b, h.load.butT h.cup b⟩
theorem St.same {C : Addr} {TT : List (Addr × Str)} {H : Hp} {cu z : Addr} {odd ev : V} {r : List Pc} {e : Int × Int} {K : PySem.W.Frag} {H' H2 : Hp} (h : St C TT H cu z odd ev r e K H') (s : Same H' H2) : St C TT H cu z odd ev r e K H2 :=
  h.step (.of s) (h.cup.same s) (tabs_same h.tabs s)
theorem St.but {C : Addr} {TT : List (Addr × Str)} {H : Hp} {cu z : Addr} {odd ev : V} {r : List Pc} {e : Int × Int} {K : PySem.W.Frag} {H' H2 : Hp} (h : St C TT H cu z odd ev r e K H') (b : But cu H' H2) (hc : CupAt cu H2) : St C TT H cu z odd ev r e K H2 :=
  h.step (.but b) hc (tabs_but h.tabs h.cup b)
section
variable {P : Program} {w : World} {K : PySem.W.Frag} {mg : Str → Option Value} {base : Heap} {tG t1 t2 t3 tP tC : Tok} {aO aW J C Ce Cl fP fJ fL : Addr} {fdJ fdL : FuncData} {pP gp pL gL gc gl : Addr} {fdP fdLo fdc fl : FuncData} {c : Nat → Addr}
abbrev s_law_right : Stmt := top 79
theorem sc_law_right : FnScope ["_law_cup_here", "_law_turn", "_law_mine", "_law_odd", "_law_end", "_law_bad", "_law_told", "_law_way", "_law_many"] ["_law_cup_here"] (defScope s_law_right) := ⟨rfl, rfl, rfl, by decide +kernel, rfl, by decide +kernel, by decide +kernel⟩

theorem ok_right {f cA PA : Addr} {fd : FuncData} {TT : List (Addr × Str)} (F : FunC K "_law_right" "_law_right" s_law_right f fd cA) (T : Txt4 K mg tG t1 t2 t3 tP tC aO aW J C Ce Cl) (TL : mg "list" = none) (OC : OwC P w K mg base C gc fdc) (OL : OwL P w K mg base C aO Ce Cl gl fl) (OPi : OwPi P w K mg base C pP gp fdP) (OLo : OwLo P w K mg base C aO Ce Cl pL gL fdLo) (MO : MtG P w K mg base Cl 5 "opening" "self" "count" (spOpen C aO Ce Cl)) (X_lad : LadD P w K mg base C aO Ce Cl fL fdL)
    (XLN : MkN P w K mg base Cl 6 "self" "pattern" "load" (spLadN K C (c 0) (c 2))) (OCN : CoN P w K mg base C 5 "self" "load" (spCallN K (c 2))) (OLN : CoN P w K mg base Cl 6 "self" "count" (spCntN K (c 3))) (OON : MtB P w K mg base Cl 6 "opening" "self" "count" (spCntN K (c 3))) (NS3 : PySem.W.subIn K (.ref (c 3)) (.type "StopIteration") = some false)
    (CG : CgtD P w K mg base c 1 (rRp K)) (EC0 : EC K c (c 0) 0 [0, 20, 23]) (EC2 : EC K c (c 2) 2 [2, 20, 23]) (EC3 : EC K c (c 3) 3 [3, 20, 23]) (TBR : LamX.TabB base mg cA PA) (TMR : (PA, ("_law_right" : Str) ++ ".<locals>.<lambda>") ∈ TT) (TUR : ∀ p ∈ TT, p.1 = PA → p.2 = ("_law_right" : Str) ++ ".<locals>.<lambda>")
    (D_law_row : Df P w K mg base 3 "_law_row" ["_law_cup_here", "_law_most"] spRow) (D_law_read : Df P w K mg base 8 "_law_read" ["_law_row_here"] (spReadL C)) (D_law_nothing : Df P w K mg base 3 "_law_nothing" ["_law_cup_here"] (spNothing K)) (D_law_pick : Df P w K mg base 2 "_law_pick" ["_law_cup_here", "_law_things"] spPick) : FnG P w K mg base 13 f fd ["_law_cup_here"] (spRight TT) := by
  refine okGC F sc_law_right (fun vs H Q E h => ?_) (fun A outer s H vs Q E hg hr h => ?_)
  · obtain ⟨c, rfl, _⟩ := h
    rfl
  · obtain ⟨cu, rfl, hc, ht, k⟩ := h
    refine ⟨_, (pss_cons (ps_for PassesOwn.never rfl (pi_range1 rfl T.range (pa_cons pe_int pa_nil)) (pg_name (i := 1) sc_law_right.nd rfl (.inl rfl)) (C8.pss_cut (ps_asg (pe_tup (pa_cons (pe_df D_law_read (hr.mono (by decide)) (by rfl) (pa_cons (pe_df D_law_row (hr.mono (by decide)) (by rfl) (pa_cons (pv 0) (pa_cons pe_int pa_nil))) pa_nil)) (pa_cons (pe_df D_law_nothing (hr.mono (by decide)) (by rfl) (pa_cons (pv 0) pa_nil)) (pa_cons (pe_df D_law_pick (hr.mono (by decide)) (by rfl) (pa_cons (pv 0) (pa_cons (pe_lst (pa_cons pe_int (pa_cons (pe_tup (pa_cons pe_int (pa_cons pe_int pa_nil))) (pa_cons (pe_tup (pa_cons pe_int (pa_cons pe_int pa_nil))) (pa_cons (pe_op op_pow pe_int pe_int) pa_nil))))) pa_nil))) pa_nil)))) (pg_tup rfl (pgs_cons (pg_name (i := 2) sc_law_right.nd rfl (.inr rfl)) (pgs_cons (pg_name (i := 3) sc_law_right.nd rfl (.inr rfl)) (pgs_cons (pg_name (i := 4) sc_law_right.nd rfl (.inl rfl)) pgs_nil)))))
      (C8.pss_cut (ps_set (i := 5) sc_law_right.nd rfl (.inr rfl) (pe_df D_law_pick (hr.mono (by decide)) (by rfl) (pa_cons (pv 0) (pa_cons (pe_lst (pa_cons pe_non (pa_cons pe_int (pa_cons pe_str (pa_cons (pe_tup (pa_cons pe_str (pa_cons pe_int pa_nil))) (pa_cons (pe_tup (pa_cons (pe_tup (pa_cons pe_str (pa_cons pe_int pa_nil))) pa_nil)) (pa_cons (pe_lst pa_nil) (pa_cons pe_dnewK (pa_cons pe_bl (pa_cons (pe_prop (pv 2) T.cl OPi.pr OPi.ok (hr.mono (by decide)) OPi.b .nil pass0 rfl) pa_nil)))))))))) pa_nil))))
      (C8.pss_cut (ps_set (i := 6) sc_law_right.nd rfl (.inl rfl) (pe_lst (pa_cons (pe_cgt (k := 10) CG hg (by decide) (by decide) TBR rfl TMR TUR (hr.mono (by decide)) rfl (fun A2 outer2 s2 H2 E2 f2 c2 hg2 hr2 => (pe_mk2 XLN (hr2.mono (by decide)) (by rfl) T.mgL (passN lamN_takes fun _ _ _ _ h => h) (pa_cons (pv 5) (pa_cons (pv 3) pa_nil))))) pa_nil)))
      (C8.pss_cut (ps_expr (pe_bm PySem.F.plainAttrs_list PySem.F.slot_list_append PySem.F.type_list_append mt_append (pv 6) (pa_cons (pe_cgt (k := 10) CG hg (by decide) (by decide) TBR rfl TMR TUR (hr.mono (by decide)) rfl (fun A2 outer2 s2 H2 E2 f2 c2 hg2 hr2 => (pe_mk2K (kws := [⟨some "load", _, _⟩, ⟨some "pattern", _, _⟩]) XLN (hr2.mono (by decide)) (by rfl) T.mgL (passN lamN_takes fun _ _ _ _ h => h) (pk_cons (pv 3) (pk_cons (pv 5) pk_nil))))) pa_nil)))
      (C8.pss_cut (ps_if (pt_cmpR (op_neD hr.units) (pv 6) (pe_op op_rep (pe_lst (pa_cons (pe_lst (pa_cons pe_int (pa_cons pe_int (pa_cons pe_int (pa_cons (pe_callB (cr_rpK (K := K) hg hr.units) (by rfl) T.repr (by decide +kernel) (pa_cons (pv 5) pa_nil)) pa_nil))))) pa_nil)) pe_int) (nomark _)) (pss_one (ps_ret pe_bl)) pss_nil)
      (C8.pss_cut (ps_if (PW.pt (pw_or (pt_cmpR (op_neD hr.units) (StX.pe_callO (pv 2) OC.co OC.fr (hr.mono (by decide)) pass0 (pa_cons pe_int pa_nil)) (StX.pe_callO (pv 2) OC.co OC.fr (hr.mono (by decide)) pass0 (pa_cons (pe_tup (pa_cons pe_int (pa_cons pe_int pa_nil))) pa_nil)) (nomark _)) (pw_or1 (pt_cmpR (op_neD hr.units) (pe_prop (pe_make X_lad.m X_lad.fn (hr.mono (by decide)) rfl T.mgL X_lad.bd .nil pass0 (pa_cons (pv 2) (pa_cons pe_int pa_nil))) T.clL OLo.pr OLo.ok (hr.mono (by decide)) OLo.b .nil pass0 rfl) (pe_tup (pa_cons pe_int (pa_cons pe_int pa_nil))) (nomark _))))) (pss_one (ps_ret pe_bl)) pss_nil)
      (C8.pss_cut (ps_set (i := 6) sc_law_right.nd rfl (.inl rfl) (pe_lst (pa_cons (pe_cgt (k := 10) CG hg (by decide) (by decide) TBR rfl TMR TUR (hr.mono (by decide)) rfl (fun A2 outer2 s2 H2 E2 f2 c2 hg2 hr2 => (pe_mk2 XLN (hr2.mono (by decide)) (by rfl) T.mgL (passN lamN_takes fun _ _ _ _ h => h) (pa_cons (pv 2) (pa_cons (pv 3) pa_nil))))) pa_nil)))
      (C8.pss_cut (ps_expr (pe_bm PySem.F.plainAttrs_list PySem.F.slot_list_append PySem.F.type_list_append mt_append (pv 6) (pa_cons (pe_cgt (k := 10) CG hg (by decide) (by decide) TBR rfl TMR TUR (hr.mono (by decide)) rfl (fun A2 outer2 s2 H2 E2 f2 c2 hg2 hr2 => (pe_mk2K (kws := [⟨some "load", _, _⟩, ⟨some "pattern", _, _⟩]) XLN (hr2.mono (by decide)) (by rfl) T.mgL (passN lamN_takes fun _ _ _ _ h => h) (pk_cons (pv 3) (pk_cons (pv 2) pk_nil))))) pa_nil)))
      (C8.pss_cut (ps_expr (pe_bm PySem.F.plainAttrs_list PySem.F.slot_list_append PySem.F.type_list_append mt_append (pv 6) (pa_cons (pe_cgt (k := 10) CG hg (by decide) (by decide) TBR rfl TMR TUR (hr.mono (by decide)) rfl (fun A2 outer2 s2 H2 E2 f2 c2 hg2 hr2 => (pe_coN (pv 2) OCN (hr2.mono (by decide)) (passN lamN_takes fun _ _ _ _ h => h) (pa_cons (pv 3) pa_nil)))) pa_nil)))
      (C8.pss_cut (ps_expr (pe_bm PySem.F.plainAttrs_list PySem.F.slot_list_append PySem.F.type_list_append mt_append (pv 6) (pa_cons (pe_cgt (k := 10) CG hg (by decide) (by decide) TBR rfl TMR TUR (hr.mono (by decide)) rfl (fun A2 outer2 s2 H2 E2 f2 c2 hg2 hr2 => (pe_coKN (pv 2) OCN (hr2.mono (by decide)) (passN lamN_takes fun _ _ _ _ h => h) (pk_cons (pv 3) pk_nil)))) pa_nil)))
      (C8.pss_cut (ps_if (pt_cmpR (op_neD hr.units) (pv 6) (pe_op op_rep (pe_lst (pa_cons (pe_lst (pa_cons pe_int (pa_cons pe_int (pa_cons pe_int (pa_cons (pe_callB (cr_rpK (K := K) hg hr.units) (by rfl) T.repr (by decide +kernel) (pa_cons (pv 3) pa_nil)) pa_nil))))) pa_nil)) pe_int) (nomark _)) (pss_one (ps_ret pe_bl)) pss_nil)
      (C8.pss_cut (ps_set (i := 7) sc_law_right.nd rfl (.inr rfl) (pe_make X_lad.m X_lad.fn (hr.mono (by decide)) rfl T.mgL X_lad.bd .nil pass0 (pa_cons (pv 2) (pa_cons (pv 4) pa_nil))))
      (C8.pss_cut (ps_if (PW.pt (pw_or (pt_cmpR (op_neD hr.units) (StX.pe_callO (pv 2) OC.co OC.fr (hr.mono (by decide)) pass0 (pa_cons pe_int pa_nil)) (StX.pe_callO (pv 2) OC.co OC.fr (hr.mono (by decide)) pass0 (pa_cons (pe_tup (pa_cons pe_int (pa_cons pe_int pa_nil))) pa_nil)) (nomark _)) (pw_or (pt_cmpR (op_neD hr.units) (StX.pe_callO (pv 2) OC.co OC.fr (hr.mono (by decide)) pass0 (pa_cons pe_int pa_nil)) (StX.pe_callO (pv 2) OC.co OC.fr (hr.mono (by decide)) pass0 (pa_cons (pe_tup (pa_cons pe_int (pa_cons pe_int pa_nil))) pa_nil)) (nomark _)) (pw_or1 (pt_cmpR (op_neD hr.units) (pe_lst (pa_cons (StX.pe_callO (pv 7) OL.co OL.fr (hr.mono (by decide)) pass0 (pa_cons pe_int pa_nil)) (pa_cons (StX.pe_callO (pv 7) OL.co OL.fr (hr.mono (by decide)) pass0 (pa_cons pe_int pa_nil)) pa_nil))) (pe_listG (pgen_dm (pv 7) T.clL MO (hr.mono (by decide)) (pa_cons pe_int pa_nil)) passC noStop0 (hr.mono (by decide)) (by rfl) TL (by decide +kernel)) (nomark _)))))) (pss_one (ps_ret pe_bl)) pss_nil)
      (C8.pss_cut (ps_set (i := 8) sc_law_right.nd rfl (.inr rfl) (pe_df D_law_pick (hr.mono (by decide)) (by rfl) (pa_cons (pv 0) (pa_cons (pe_lst (pa_cons (pe_un un_neg pe_int) (pa_cons pe_int (pa_cons pe_non (pa_cons pe_bl (pa_cons pe_bl (pa_cons pe_str (pa_cons (pe_tup (pa_cons pe_int pa_nil)) (pa_cons (pe_lst pa_nil) (pa_cons pe_dnewK (pa_cons (pe_op op_pow pe_int pe_int) (pa_cons (pe_un un_neg (pe_op op_pow pe_int pe_int)) (pa_cons (pe_tup (pa_cons pe_int (pa_cons pe_int pa_nil))) pa_nil))))))))))))) pa_nil))))
      (C8.pss_cut (ps_set (i := 6) sc_law_right.nd rfl (.inl rfl) (pe_lst (pa_cons (pe_cgt (k := 10) CG hg (by decide) (by decide) TBR rfl TMR TUR (hr.mono (by decide)) rfl (fun A2 outer2 s2 H2 E2 f2 c2 hg2 hr2 => (pe_coN (pv 7) OLN (hr2.mono (by decide)) (passN lamN_takes fun _ _ _ _ h => h) (pa_cons (pv 8) pa_nil)))) pa_nil)))
      (C8.pss_cut (ps_expr (pe_bm PySem.F.plainAttrs_list PySem.F.slot_list_append PySem.F.type_list_append mt_append (pv 6) (pa_cons (pe_cgt (k := 10) CG hg (by decide) (by decide) TBR rfl TMR TUR (hr.mono (by decide)) rfl (fun A2 outer2 s2 H2 E2 f2 c2 hg2 hr2 => (pe_coKN (pv 7) OLN (hr2.mono (by decide)) (passN lamN_takes fun _ _ _ _ h => h) (pk_cons (pv 8) pk_nil)))) pa_nil)))
      (C8.pss_cut (ps_expr (pe_bm PySem.F.plainAttrs_list PySem.F.slot_list_append PySem.F.type_list_append mt_append (pv 6) (pa_cons (pe_cgt (k := 10) CG hg (by decide) (by decide) TBR rfl TMR TUR (hr.mono (by decide)) rfl (fun A2 outer2 s2 H2 E2 f2 c2 hg2 hr2 => (pe_listB (E := EJ (c 3) E2) (pbad_m (pv 7) T.clL OON (hr2.mono (by decide)) (pa_cons (pv 8) pa_nil)) (passN lamN_takes fun _ _ _ _ h => h.2) (noStopJ NS3) (hr2.mono (by decide)) (by rfl) TL (by decide +kernel)))) pa_nil)))
      (C8.pss_cut (ps_expr (pe_bm PySem.F.plainAttrs_list PySem.F.slot_list_append PySem.F.type_list_append mt_append (pv 6) (pa_cons (pe_cgt (k := 10) CG hg (by decide) (by decide) TBR rfl TMR TUR (hr.mono (by decide)) rfl (fun A2 outer2 s2 H2 E2 f2 c2 hg2 hr2 => (pe_listB (E := EJ (c 3) E2) (pbad_mk (pv 7) T.clL OON (hr2.mono (by decide)) (pk_cons (pv 8) pk_nil)) (passN lamN_takes fun _ _ _ _ h => h.2) (noStopJ NS3) (hr2.mono (by decide)) (by rfl) TL (by decide +kernel)))) pa_nil)))
      (pss_one (ps_if (pt_cmpR (op_neD hr.units) (pv 6) (pe_op op_rep (pe_lst (pa_cons (pe_lst (pa_cons pe_int (pa_cons pe_int (pa_cons pe_int (pa_cons (pe_callB (cr_rpK (K := K) hg hr.units) (by rfl) T.repr (by decide +kernel) (pa_cons (pv 8) pa_nil)) pa_nil))))) pa_nil)) pe_int) (nomark _)) (pss_one (ps_ret pe_bl)) pss_nil)))))))))))))))))))))
      (pss_one (ps_ret pe_bl))), ?_⟩
    have dqv : ∀ {HX : Hp} {v : V} {d : PyData}, Dq K (hidS cu cu HX) v d → Dq K HX v d := fun h => h.same (fun b o e => (hs_get e).2.2.1)
    have dqs : ∀ {HX HY : Hp} {v : V} {d : PyData}, Dq K (hidS cu cu HX) v d → ButT cu HX HY → Dq K (hidS cu cu HY) v d := fun h s => h.same (hs_but fun b o n _ t e => s b o n t e)
    refine ⟨6, rfl, by decide, by decide, ?_⟩
    refine for_range (lo := 0) (n := Int.toNat 6) (fun i σ H' => (∃ v1 v2 v3 v4 v5 v6 v7 v8, σ = [some (.ref cu), v1, v2, v3, v4, v5, v6, v7, v8]) ∧ ButT cu H H' ∧ CupAt cu H' ∧ LamX.Tabs TT H') ⟨⟨none, none, none, none, none, none, none, none, rfl⟩, ButT.refl _ _, hc, ht⟩ ?_ ?_
    · rintro i σ H1 hi ⟨⟨v1, v2, v3, v4, v5, v6, v7, v8, rfl⟩, b1, hc1, t1⟩
      -- the pattern, the odd thing, the end
      refine ⟨fun σ' H' => ∃ z odd ev r e, σ' = [some (.ref cu), some (.int (0 + i)), some (.ref z), some odd, some ev, v5, v6, v7, v8] ∧ St C TT H cu z odd ev r e K H' ∧ RowOk r ∧ 1 ≤ r.length ∧ r.length ≤ 8, ?_, ?_⟩
      · refine ⟨_, rfl, cu, 8, rfl, hc1, by decide, by decide, fun H2 a r b2 hc2 _ na hA ok l1 l8 => ?_⟩
        have l8' : r.length ≤ 8 := by omega
        refine ⟨a, r, rfl, hA, ok, l1, l8', fun H3 z s3 nz hz => ⟨_, rfl, cu, rfl, hc2.same s3, fun H4 odd b4 hc4 ho4 => ?_⟩⟩
        have hz4 := hz.but (hc2.same s3) b4
        refine ⟨_, rfl, (by show 2 ≤ sizeLine; decide), fun p1 n1 => ⟨(by show 2 ≤ sizeLine; decide), fun p2 n2 => ⟨_, _, rfl, rfl, ⟨by decide, by decide, by decide⟩, (by show 4 ≤ sizeLine; decide), fun l nl => ?_⟩⟩⟩
        have s5 := same_upd (o := .tup [.int 1, .int 0]) n1
        have s6 := same_upd (o := .tup [.int 3, .int 6]) n2
        have s7 := same_upd (o := .lst [.int 0, .ref p1, .ref p2, .int (10 ^ Int.toNat 12)]) nl
        have sx := (s5.trans s6).trans s7
        have h1 := (s6.trans s7) _ _ (upd_at (o := .tup [.int 1, .int 0]) n1)
        have h2 := s7 _ _ (upd_at (o := .tup [.int 3, .int 6]) n2)
        refine ⟨cu, l, _, rfl, hc4.same sx, CupAt.ne (hc4.same (s5.trans s6)) nl, upd_same, (by show 0 < 4; decide), (by show 4 ≤ 100; decide), fun H5 ev b5 hc5 hev => ?_⟩
        refine ⟨(by show 3 ≤ sizeLine; decide), fun t nt => ?_⟩
        have st := same_upd (o := .tup [.ref z, odd, ev]) nt
        have hE : ∃ e, LoadAt H5 ev e := by
          simp only [List.mem_cons, List.not_mem_nil, or_false] at hev
          have up : ∀ {q : Addr} {xs : List V}, _ → H5 q = some (.tup xs) := fun {q xs} h => b5.tup (hc4.same sx) h
          rcases hev with rfl | rfl | rfl | rfl
          · exact ⟨_, .inl ⟨0, rfl, by decide, by decide, rfl⟩⟩
          · exact ⟨(1, 0), .inr ⟨p1, rfl, up h1, .inr ⟨rfl, rfl⟩⟩⟩
          · exact ⟨(3, 6), .inr ⟨p2, rfl, up h2, .inl ⟨by decide, by decide, by decide, by decide⟩⟩⟩
          · exact ⟨_, .inl ⟨10 ^ Int.toNat 12, rfl, by decide, by decide, rfl⟩⟩
        obtain ⟨e, hE⟩ := hE
        have bA : ButT cu H4 H5 := (ButT.of sx).trans (.but b5)
        have b14 : ButT cu H H4 := b1.trans (.but ((b2.trans (.of s3)).trans b4))
        have t5 : LamX.Tabs TT H5 := tabs_but (tabs_same (tabs_but (tabs_same (tabs_but t1 hc1 b2) s3) (hc2.same s3) b4) sx) (hc4.same sx) b5
        have S5 : St C TT H cu z odd ev r e K H5 := ⟨b14.trans bA, hc5, t5, hz4.butT hc4 bA, ho4.butT bA, hE⟩
        exact ⟨t, _, rfl, SqT.of upd_same, rfl, _, _, rfl, _, _, rfl, _, _, rfl, rfl, z, odd, ev, r, e, rfl, S5.same st, ok, l1, l8'⟩
      rintro σ1 H2 ⟨z, odd, ev, r, e, rfl, S1, ok, l1, l8⟩
      clear b1 hc1 t1
      -- something that is no pattern
      refine ⟨fun σ' H' => ∃ bad, σ' = [some (.ref cu), some (.int (0 + i)), some (.ref z), some odd, some ev, some bad, v6, v7, v8] ∧ St C TT H cu z odd ev r e K H' ∧ OddQ pAny K cu H' bad, ?_, ?_⟩
      · refine ⟨_, rfl, ?_⟩
        refine ⟨(by show 2 ≤ sizeLine; decide), fun ap1 an1 => ?_⟩
        have as1 := same_upd (o := .tup [.str (Str.ofString "rail"), .int 1]) an1
        have ae1 : ap1 ≠ cu := (CupAt.ne S1.cup an1).symm
        have ac1 := CupAt.same S1.cup as1
        refine ⟨(by show 2 ≤ sizeLine; decide), fun ap2 an2 => ?_⟩
        have as2 := same_upd (o := .tup [.str (Str.ofString "rail"), .int 1]) an2
        have ae2 : ap2 ≠ cu := (CupAt.ne ac1 an2).symm
        have ac2 := CupAt.same ac1 as2
        refine ⟨(by show 1 ≤ sizeLine; decide), fun ap3 an3 => ?_⟩
        have as3 := same_upd (o := .tup [.ref ap2]) an3
        have ae3 : ap3 ≠ cu := (CupAt.ne ac2 an3).symm
        have ac3 := CupAt.same ac2 as3
        refine ⟨(by show 0 ≤ sizeLine; decide), fun ap4 an4 => ?_⟩
        have as4 := same_upd (o := .lst []) an4
        have ae4 : ap4 ≠ cu := (CupAt.ne ac3 an4).symm
        have ac4 := CupAt.same ac3 as4
        refine (fun ap5 an5 => ?_)
        have as5 := same_upd (o := .dK []) an5
        have ae5 : ap5 ≠ cu := (CupAt.ne ac4 an5).symm
        have ac5 := CupAt.same ac4 as5
        have at4 := as5
        have at3 := as4.trans at4
        have at2 := as3.trans at3
        have at1 := as2.trans at2
        have aall := as1.trans at1
        have ag1 : hidS cu cu _ ap1 = some (.tup [.str (Str.ofString "rail"), .int 1]) := hs_of (at1 _ _ (upd_at (o := .tup [.str (Str.ofString "rail"), .int 1]) an1)) ae1 ae1 (by intro ps z; cases z)
        have ag2 : hidS cu cu _ ap2 = some (.tup [.str (Str.ofString "rail"), .int 1]) := hs_of (at2 _ _ (upd_at (o := .tup [.str (Str.ofString "rail"), .int 1]) an2)) ae2 ae2 (by intro ps z; cases z)
        have ag3 : hidS cu cu _ ap3 = some (.tup [.ref ap2]) := hs_of (at3 _ _ (upd_at (o := .tup [.ref ap2]) an3)) ae3 ae3 (by intro ps z; cases z)
        have ag4 : hidS cu cu _ ap4 = some (.lst []) := hs_of (at4 _ _ (upd_at (o := .lst []) an4)) ae4 ae4 (by intro ps z; cases z)
        have ag5 : hidS cu cu _ ap5 = some (.dK []) := hs_of (upd_at (o := .dK []) an5) ae5 ae5 (by intro ps z; cases z)
        have aodd : ∀ v ∈ ([.non, .int 3, .str (Str.ofString "rail 1"), .ref ap1, .ref ap3, .ref ap4, .ref ap5, .bl true] : List V), OddQ pAny K cu (upd (upd (upd (upd (upd H2 ap1 (.tup [.str (Str.ofString "rail"), .int 1])) ap2 (.tup [.str (Str.ofString "rail"), .int 1])) ap3 (.tup [.ref ap2])) ap4 (.lst [])) ap5 (.dK [])) v := by
          intro v hv
          simp only [List.mem_cons, List.not_mem_nil, or_false] at hv
          rcases hv with rfl | rfl | rfl | rfl | rfl | rfl | rfl | rfl
          · exact ⟨.none, .dp .non (by decide +kernel), gd_of (by decide +kernel), by decide +kernel⟩
          · exact ⟨.int 3, .dp (.int _) (by decide +kernel), gd_of (by decide +kernel), by decide +kernel⟩
          · exact ⟨.str (Str.ofString "rail 1"), .dp (.str _) (by decide +kernel), gd_of (by decide +kernel), by decide +kernel⟩
          · exact ⟨.tuple [.str (Str.ofString "rail"), .int 1], .dp (.tup (SqT.of ag1) (.cons (.str _) (.cons (.int _) .nil))) (by decide +kernel), gd_of (by decide +kernel), by decide +kernel⟩
          · exact ⟨.tuple [.tuple [.str (Str.ofString "rail"), .int 1]], .dp (.tup (SqT.of ag3) (.cons (.tup (SqT.of ag2) (.cons (.str _) (.cons (.int _) .nil))) .nil)) (by decide +kernel), gd_of (by decide +kernel), by decide +kernel⟩
          · exact ⟨.list [], .dp (.lst (SqL.of ag4) .nil) (by decide +kernel), gd_of (by decide +kernel), by decide +kernel⟩
          · exact ⟨.dict [], .dk (kvs := []) ag5, gd_of (by decide +kernel), by decide +kernel⟩
          · exact ⟨.bool true, .dp (.bl _) (by decide +kernel), gd_of (by decide +kernel), by decide +kernel⟩
        have S3 := S1.same aall
        obtain ⟨dz, fz, hiz⟩ := ins_of S3.pat
        refine ⟨_, rfl, z, dz, _, rfl, hiz, z, r, rfl, S3.pat, fun q ws hq hw => ⟨(by show 9 ≤ sizeLine; decide), fun l nl => ?_⟩⟩
        have sl := same_upd (o := .lst [.non, .int 3, .str (Str.ofString "rail 1"), .ref ap1, .ref ap3, .ref ap4, .ref ap5, .bl true, .ref q]) nl
        refine ⟨cu, l, _, rfl, S3.cup.same sl, (CupAt.ne S3.cup nl), upd_same, (by show 0 < 9; decide), (by show 9 ≤ 100; decide), fun H4 v b4 hc4 hv => ?_⟩
        refine ⟨v, rfl, (S3.same sl).but b4 hc4, ?_⟩
        have nq : q ≠ cu := by
          obtain ⟨u, v, hcu, _⟩ := S3.cup
          exact ne_of hq hcu (by intro z; cases z)
        have both : OddQ pAny K cu (upd (upd (upd (upd (upd H2 ap1 (.tup [.str (Str.ofString "rail"), .int 1])) ap2 (.tup [.str (Str.ofString "rail"), .int 1])) ap3 (.tup [.ref ap2])) ap4 (.lst [])) ap5 (.dK [])) v := by
          simp only [List.mem_cons, List.not_mem_nil, or_false] at hv
          rcases hv with rfl | rfl | rfl | rfl | rfl | rfl | rfl | rfl | rfl
          · exact aodd _ (by simp)
          · exact aodd _ (by simp)
          · exact aodd _ (by simp)
          · exact aodd _ (by simp)
          · exact aodd _ (by simp)
          · exact aodd _ (by simp)
          · exact aodd _ (by simp)
          · exact aodd _ (by simp)
          · exact oddRow ok l8 hq hw S3.cup
        exact (both.same sl).butT (.but b4)
      rintro σ2 H3 ⟨bad, rfl, S3, ⟨db, hb3, gb, _⟩⟩
      clear S1
      -- told
      refine ⟨fun σ' H' => ∃ l a1, σ' = [some (.ref cu), some (.int (0 + i)), some (.ref z), some odd, some ev, some bad, some (.ref l), v7, v8] ∧ Told cu l TT H3 [a1] 0 (PyData.shown db) H', ?_, ?_⟩
      · refine ⟨S3.tabs, fun H6 x6 t6 => ?_⟩
        have be : ButT cu H3 H6 := .ext x6
        have hd6 := dqv (dqs hb3 be)
        skip
        exact ⟨_, rfl, _, rfl, fun x dx nx ndx nex => ⟨x, bad, odd, rfl, .inl ⟨db, hd6.same (same_mk nx ndx), fun H8 dd s7 hdd => ⟨c 0, 0, [0, 20, 23], dd, bad, db, rfl, EC0, rfl, hdd, (hd6.same (same_mk nx ndx)).same s7, gb.s, gb.p, gb.l, fun H9 a s8 ha => ⟨(by show 1 ≤ sizeLine; decide), fun l nl => ⟨l, a, rfl, Told.one S3.cup x6 t6 (((same_mk nx ndx).trans s7).trans s8) ha nl⟩⟩⟩⟩⟩⟩
      rintro σ3 H6 ⟨l, a1, rfl, W1⟩
      refine ⟨fun σ' H' => ∃ a2, σ' = [some (.ref cu), some (.int (0 + i)), some (.ref z), some odd, some ev, some bad, some (.ref l), v7, v8] ∧ Told cu l TT H3 [a1, a2] 0 (PyData.shown db) H', ?_, ?_⟩
      · refine ⟨_, rfl, .inl ⟨rfl, _, SqL.of W1.hl⟩, W1.tabs, fun H7 x7 t7 => ?_⟩
        have be : ButT cu H3 H7 := W1.but.trans (.ext x7)
        have hd6 := dqv (dqs hb3 be)
        skip
        exact ⟨_, rfl, _, rfl, rfl, rfl, fun x dx nx ndx nex => ⟨x, bad, odd, rfl, .inl ⟨db, hd6.same (same_mk nx ndx), fun H8 dd s7 hdd => ⟨c 0, 0, [0, 20, 23], dd, bad, db, rfl, EC0, rfl, hdd, (hd6.same (same_mk nx ndx)).same s7, gb.s, gb.p, gb.l, fun H9 a s8 ha => (by
          obtain ⟨hl8, W⟩ := W1.more x7 t7 (((same_mk nx ndx).trans s7).trans s8) ha
          exact ⟨l, _, .ref a, rfl, rfl, hl8, by show 1 < sizeLine; decide, a, rfl, W⟩)⟩⟩⟩⟩
      rintro σ3 H6 ⟨a2, rfl, W2⟩
      clear W1
      refine ⟨fun σ' H' => σ' = [some (.ref cu), some (.int (0 + i)), some (.ref z), some odd, some ev, some bad, some (.ref l), v7, v8] ∧ ButT cu H3 H' ∧ CupAt cu H' ∧ LamX.Tabs TT H', ?_, ?_⟩
      · have hdN := dqv (dqs hb3 W2.but)
        refine ⟨_, rfl, _, rfl, _, db, rfl, hdN, gb.s, gb.p, gb.l, (by show 4 ≤ sizeLine; decide), fun p np => ⟨(by show 1 ≤ sizeLine; decide), fun p' np' => ?_⟩⟩
        have s1 := same_upd (o := .lst (errL 0 (PyData.shown db))) np
        have s2 := same_upd (o := .lst [.ref p]) np'
        refine ⟨p', 2, _, rfl, rfl, upd_same, by decide, by decide, (by show 2 ≤ sizeLine; decide), fun y ny => ?_⟩
        have s3 := same_upd (o := .lst (List.replicate (Int.toNat 2) [V.ref p]).flatten) ny
        have sx := (s1.trans s2).trans s3
        have dpz := (s2.trans s3) _ _ (upd_at (o := .lst (errL 0 (PyData.shown db))) np)
        refine ⟨.list (List.replicate 2 (errD 0 (PyData.shown db))), .list (List.replicate 2 (errD 0 (PyData.shown db))), .lst (SqL.of (sx _ _ W2.hl)) (dp_many fun a ha => dp_err (sx _ _ (W2.ha a ha))), .lst (SqL.of upd_same) (.cons (dp_err dpz) (.cons (dp_err dpz) .nil)), sh_many gb.u 2, sh_many gb.u 2, _, rfl, ite2 (fun q => absurd q (ne_many _ _ _)) (fun _ => ⟨rfl, W2.but.trans (.of sx), W2.cup.same sx, tabs_same W2.tabs sx⟩)⟩
      rintro σ4 H4 ⟨rfl, b34, hc4, t4⟩
      have S4 := S3.step b34 hc4 t4
      clear S3 hb3 b34 hc4 t4 W2
      -- what it shows
      refine ⟨fun σ' H' => σ' = [some (.ref cu), some (.int (0 + i)), some (.ref z), some odd, some ev, some bad, some (.ref l), v7, v8] ∧ St C TT H cu z odd ev r e K H', ?_, ?_⟩
      · obtain ⟨dz, fz, hiz⟩ := ins_of S4.pat
        refine ⟨_, rfl, z, rfl, .inr ⟨dz, fz, hiz⟩, z, .int 1, r, (1, 1), rfl, S4.pat, ok, l8, .inl ⟨1, rfl, by decide, by decide, rfl⟩, fun H5 p1 s5 n1 h1 => ?_⟩
        refine ⟨_, rfl, z, rfl, (by show 2 ≤ sizeLine; decide), fun t2 nt2 => ?_⟩
        have st2 := same_upd (o := .tup [.int 2, .int 2]) nt2
        refine ⟨.inr ⟨dz, fz, (s5.trans st2) _ _ hiz⟩, z, .ref t2, r, (2, 2), rfl, S4.pat.same (s5.trans st2), ok, l8, .inr ⟨t2, rfl, upd_same, .inl ⟨by decide, by decide, by decide, by decide⟩⟩, fun H6 p2 s6 n2 h2 => ?_⟩
        have e2 : low ((matR r).app (2, 2)) = low ((matR r).app (1, 1)) := by
          rw [show ((2, 2) : Int × Int) = sc 2 (1, 1) from rfl, app_sc', low_sc (by decide)]
        rw [e2] at h2
        have S6 := S4.same ((s5.trans st2).trans s6)
        refine ⟨prD (low ((matR r).app (1, 1))), prD (low ((matR r).app (1, 1))), dp_pair ((st2.trans s6) _ _ h1), dp_pair h2, rfl, rfl, _, rfl, ite2 (fun q => absurd q (ne_prD _)) (fun _ => ?_)⟩
        refine ⟨_, rfl, fun y dy ny ndy ney => make_lad (e := (1, 1)) ny ndy S6.pat ok l8 (.inl ⟨1, rfl, by decide, by decide, rfl⟩) fun H7 s7 hy => ?_⟩
        obtain ⟨dy', fy, hiy⟩ := hy.ins
        refine ⟨y, dy', fy, rfl, hiy, y, r, low (1, 1), rfl, hy, fun p3 h3 => ⟨(by show 2 ≤ sizeLine; decide), fun t4 nt4 => ?_⟩⟩
        have st4 := same_upd (o := .tup [.int 1, .int 1]) nt4
        rw [show low (1, 1) = (1, 1) by decide +kernel] at h3
        exact ⟨prD (1, 1), prD (1, 1), dp_pair (st4 _ _ h3), dp_pair (show PairAt _ t4 (1, 1) from upd_same), rfl, rfl, _, rfl, ite2 (fun q => absurd q (ne_prD _)) (fun _ => ⟨rfl, S6.same (s7.trans st4)⟩)⟩
      rintro σ5 H5 ⟨rfl, S5⟩
      clear S4
      have S5' := S5
      obtain ⟨do_, ho5, go, hres⟩ := S5'.odd
      -- told
      refine ⟨fun σ' H' => ∃ l a1, σ' = [some (.ref cu), some (.int (0 + i)), some (.ref z), some odd, some ev, some bad, some (.ref l), v7, v8] ∧ Told cu l TT H5 [a1] 2 (PyData.shown do_) H', ?_, ?_⟩
      · refine ⟨S5.tabs, fun H6 x6 t6 => ?_⟩
        have be : ButT cu H5 H6 := .ext x6
        have hd6 := dqv (dqs ho5 be)
        have SP := S5.pat.butT S5.cup be
        obtain ⟨dz, fz, hiz⟩ := ins_of SP
        exact ⟨_, rfl, _, rfl, fun x dx nx ndx nex => ⟨x, .ref z, odd, rfl, .inr ⟨z, dz, fz, do_, rfl, (same_mk nx ndx) _ _ hiz, hd6.same (same_mk nx ndx), hres, fun H8 dd s7 hdd => ⟨c 2, 2, [2, 20, 23], dd, odd, do_, rfl, EC2, rfl, hdd, (hd6.same (same_mk nx ndx)).same s7, go.s, go.p, go.l, fun H9 a s8 ha => ⟨(by show 1 ≤ sizeLine; decide), fun l nl => ⟨l, a, rfl, Told.one S5.cup x6 t6 (((same_mk nx ndx).trans s7).trans s8) ha nl⟩⟩⟩⟩⟩⟩
      rintro σ3 H6 ⟨l, a1, rfl, W1⟩
      refine ⟨fun σ' H' => ∃ a2, σ' = [some (.ref cu), some (.int (0 + i)), some (.ref z), some odd, some ev, some bad, some (.ref l), v7, v8] ∧ Told cu l TT H5 [a1, a2] 2 (PyData.shown do_) H', ?_, ?_⟩
      · refine ⟨_, rfl, .inl ⟨rfl, _, SqL.of W1.hl⟩, W1.tabs, fun H7 x7 t7 => ?_⟩
        have be : ButT cu H5 H7 := W1.but.trans (.ext x7)
        have hd6 := dqv (dqs ho5 be)
        have SP := S5.pat.butT S5.cup be
        obtain ⟨dz, fz, hiz⟩ := ins_of SP
        exact ⟨_, rfl, _, rfl, rfl, rfl, fun x dx nx ndx nex => ⟨x, .ref z, odd, rfl, .inr ⟨z, dz, fz, do_, rfl, (same_mk nx ndx) _ _ hiz, hd6.same (same_mk nx ndx), hres, fun H8 dd s7 hdd => ⟨c 2, 2, [2, 20, 23], dd, odd, do_, rfl, EC2, rfl, hdd, (hd6.same (same_mk nx ndx)).same s7, go.s, go.p, go.l, fun H9 a s8 ha => (by
          obtain ⟨hl8, W⟩ := W1.more x7 t7 (((same_mk nx ndx).trans s7).trans s8) ha
          exact ⟨l, _, .ref a, rfl, rfl, hl8, by show 1 < sizeLine; decide, a, rfl, W⟩)⟩⟩⟩⟩
      rintro σ3 H6 ⟨a2, rfl, W2⟩
      clear W1
      refine ⟨fun σ' H' => ∃ a3, σ' = [some (.ref cu), some (.int (0 + i)), some (.ref z), some odd, some ev, some bad, some (.ref l), v7, v8] ∧ Told cu l TT H5 [a1, a2, a3] 2 (PyData.shown do_) H', ?_, ?_⟩
      · refine ⟨_, rfl, .inl ⟨rfl, _, SqL.of W2.hl⟩, W2.tabs, fun H7 x7 t7 => ?_⟩
        have be : ButT cu H5 H7 := W2.but.trans (.ext x7)
        have hd6 := dqv (dqs ho5 be)
        have SP := S5.pat.butT S5.cup be
        obtain ⟨dz, fz, hiz⟩ := ins_of SP
        exact ⟨_, rfl, z, rfl, _, rfl, ⟨dz, fz, hiz⟩, .ref z, odd, do_, rfl, hd6, hres, fun H8 dd s7 hdd => ⟨c 2, 2, [2, 20, 23], dd, odd, do_, rfl, EC2, rfl, hdd, hd6.same s7, go.s, go.p, go.l, fun H9 a s8 ha => (by
          obtain ⟨hl8, W⟩ := W2.more x7 t7 (s7.trans s8) ha
          exact ⟨l, _, .ref a, rfl, rfl, hl8, by show 2 < sizeLine; decide, a, rfl, W⟩)⟩⟩
      rintro σ3 H6 ⟨a3, rfl, W3⟩
      clear W2
      refine ⟨fun σ' H' => ∃ a4, σ' = [some (.ref cu), some (.int (0 + i)), some (.ref z), some odd, some ev, some bad, some (.ref l), v7, v8] ∧ Told cu l TT H5 [a1, a2, a3, a4] 2 (PyData.shown do_) H', ?_, ?_⟩
      · refine ⟨_, rfl, .inl ⟨rfl, _, SqL.of W3.hl⟩, W3.tabs, fun H7 x7 t7 => ?_⟩
        have be : ButT cu H5 H7 := W3.but.trans (.ext x7)
        have hd6 := dqv (dqs ho5 be)
        have SP := S5.pat.butT S5.cup be
        obtain ⟨dz, fz, hiz⟩ := ins_of SP
        exact ⟨_, rfl, z, rfl, _, rfl, ⟨dz, fz, hiz⟩, .ref z, odd, do_, rfl, hd6, hres, fun H8 dd s7 hdd => ⟨c 2, 2, [2, 20, 23], dd, odd, do_, rfl, EC2, rfl, hdd, hd6.same s7, go.s, go.p, go.l, fun H9 a s8 ha => (by
          obtain ⟨hl8, W⟩ := W3.more x7 t7 (s7.trans s8) ha
          exact ⟨l, _, .ref a, rfl, rfl, hl8, by show 3 < sizeLine; decide, a, rfl, W⟩)⟩⟩
      rintro σ3 H6 ⟨a4, rfl, W4⟩
      clear W3
      refine ⟨fun σ' H' => σ' = [some (.ref cu), some (.int (0 + i)), some (.ref z), some odd, some ev, some bad, some (.ref l), v7, v8] ∧ ButT cu H5 H' ∧ CupAt cu H' ∧ LamX.Tabs TT H', ?_, ?_⟩
      · have hdN := dqv (dqs ho5 W4.but)
        refine ⟨_, rfl, _, rfl, _, do_, rfl, hdN, go.s, go.p, go.l, (by show 4 ≤ sizeLine; decide), fun p np => ⟨(by show 1 ≤ sizeLine; decide), fun p' np' => ?_⟩⟩
        have s1 := same_upd (o := .lst (errL 2 (PyData.shown do_))) np
        have s2 := same_upd (o := .lst [.ref p]) np'
        refine ⟨p', 4, _, rfl, rfl, upd_same, by decide, by decide, (by show 4 ≤ sizeLine; decide), fun y ny => ?_⟩
        have s3 := same_upd (o := .lst (List.replicate (Int.toNat 4) [V.ref p]).flatten) ny
        have sx := (s1.trans s2).trans s3
        have dpz := (s2.trans s3) _ _ (upd_at (o := .lst (errL 2 (PyData.shown do_))) np)
        refine ⟨.list (List.replicate 4 (errD 2 (PyData.shown do_))), .list (List.replicate 4 (errD 2 (PyData.shown do_))), .lst (SqL.of (sx _ _ W4.hl)) (dp_many fun a ha => dp_err (sx _ _ (W4.ha a ha))), .lst (SqL.of upd_same) (.cons (dp_err dpz) (.cons (dp_err dpz) (.cons (dp_err dpz) (.cons (dp_err dpz) .nil)))), sh_many go.u 4, sh_many go.u 4, _, rfl, ite2 (fun q => absurd q (ne_many _ _ _)) (fun _ => ⟨rfl, W4.but.trans (.of sx), W4.cup.same sx, tabs_same W4.tabs sx⟩)⟩
      rintro σ4 H6 ⟨rfl, b56, hc6, t6⟩
      have S6 := S5.step b56 hc6 t6
      clear S5 S5' ho5 b56 hc6 t6 W4
      -- the ladder
      refine ⟨fun σ' H' => ∃ y, σ' = [some (.ref cu), some (.int (0 + i)), some (.ref z), some odd, some ev, some bad, some (.ref l), some (.ref y), v8] ∧ St C TT H cu z odd ev r e K H' ∧ LadAt C aO Ce Cl H' y r (low e), ?_, ?_⟩
      · refine ⟨_, rfl, _, rfl, fun y dy ny ndy ney => make_lad ny ndy S6.pat ok l8 S6.load fun H7 s7 hy => ?_⟩
        exact ⟨y, rfl, S6.same s7, hy⟩
      rintro σ6 H7 ⟨y, rfl, S7, hy7⟩
      clear S6
      have pe : Pos2 e := S7.load.pos
      have pl : Pos2 (low e) := low_pos pe
      have ll : low (low e) = low e := low_low pe
      obtain ⟨m1, m2⟩ := S7.load.sm
      obtain ⟨e1, e2⟩ := low_sm pe m1 m2
      -- what it shows
      refine ⟨fun σ' H' => σ' = [some (.ref cu), some (.int (0 + i)), some (.ref z), some odd, some ev, some bad, some (.ref l), some (.ref y), v8] ∧ St C TT H cu z odd ev r e K H' ∧ LadAt C aO Ce Cl H' y r (low e), ?_, ?_⟩
      · have ask : ∀ {H8 : Hp} (i0 : Int) (f : Int × Int), St C TT H cu z odd ev r e K H8 → LadAt C aO Ce Cl H8 y r (low e) → True := fun _ _ _ _ => trivial
        obtain ⟨dz, fz, hiz⟩ := ins_of S7.pat
        refine ⟨_, rfl, z, rfl, .inr ⟨dz, fz, hiz⟩, z, .int 0, r, (0, 1), rfl, S7.pat, ok, l8, .inl ⟨0, rfl, by decide, by decide, rfl⟩, fun H8 p1 s8 n1 h1 => ?_⟩
        refine ⟨_, rfl, z, rfl, (by show 2 ≤ sizeLine; decide), fun t2 nt2 => ?_⟩
        have st2 := same_upd (o := .tup [.int 0, .int 1]) nt2
        refine ⟨.inr ⟨dz, fz, (s8.trans st2) _ _ hiz⟩, z, .ref t2, r, (0, 1), rfl, S7.pat.same (s8.trans st2), ok, l8, .inr ⟨t2, rfl, upd_same, .inl ⟨by decide, by decide, by decide, by decide⟩⟩, fun H9 p2 s9 n2 h2 => ?_⟩
        have S9 := S7.same ((s8.trans st2).trans s9)
        have hy9 := hy7.same ((s8.trans st2).trans s9)
        refine ⟨prD (low ((matR r).app (0, 1))), prD (low ((matR r).app (0, 1))), dp_pair ((st2.trans s9) _ _ h1), dp_pair h2, rfl, rfl, _, rfl, ite2 (fun q => absurd q (ne_prD _)) (fun _ => ?_)⟩
        clear h1 h2 s8 st2 s9 hiz dz fz
        obtain ⟨dz, fz, hiz⟩ := ins_of S9.pat
        refine ⟨_, rfl, z, rfl, .inr ⟨dz, fz, hiz⟩, z, .int 1, r, (1, 1), rfl, S9.pat, ok, l8, .inl ⟨1, rfl, by decide, by decide, rfl⟩, fun H10 p1 s8 n1 h1 => ?_⟩
        refine ⟨_, rfl, z, rfl, (by show 2 ≤ sizeLine; decide), fun t2 nt2 => ?_⟩
        have st2 := same_upd (o := .tup [.int 1, .int 1]) nt2
        refine ⟨.inr ⟨dz, fz, (s8.trans st2) _ _ hiz⟩, z, .ref t2, r, (1, 1), rfl, S9.pat.same (s8.trans st2), ok, l8, .inr ⟨t2, rfl, upd_same, .inl ⟨by decide, by decide, by decide, by decide⟩⟩, fun H11 p2 s9 n2 h2 => ?_⟩
        have SB := S9.same ((s8.trans st2).trans s9)
        have hyB := hy9.same ((s8.trans st2).trans s9)
        refine ⟨prD (low ((matR r).app (1, 1))), prD (low ((matR r).app (1, 1))), dp_pair ((st2.trans s9) _ _ h1), dp_pair h2, rfl, rfl, _, rfl, ite2 (fun q => absurd q (ne_prD _)) (fun _ => ?_)⟩
        refine ⟨_, rfl, y, rfl, insLad hyB, y, 0, r, low e, rfl, hyB, ok, l8, pl, e1, e2, by decide, by decide, fun H12 g1 s12 ng1 hg1 => ?_⟩
        refine ⟨_, rfl, y, rfl, insLad (hyB.same s12), y, 1, r, low e, rfl, hyB.same s12, ok, l8, pl, e1, e2, by decide, by decide, fun H13 g2 s13 ng2 hg2 => ⟨(by show 2 ≤ sizeLine; decide), fun k1 nk1 => ?_⟩⟩
        have sk := same_upd (o := .lst [.ref g1, .ref g2]) nk1
        have hyD := hyB.same ((s12.trans s13).trans sk)
        obtain ⟨dy, p0, q0, v0, hiy, _⟩ := id hyD
        refine ⟨_, rfl, y, dy, _, rfl, hiy, lkOp _ _ _, y, 2, r, low e, rfl, hyD, ok, .inr ⟨l8, by decide⟩, pl, ll, e1, e2, by decide, fun H14 zs s14 hzs => fun k2 nk2 => ?_⟩
        have sk2 := same_upd (o := .lst zs) nk2
        have sAll := ((s12.trans s13).trans sk).trans (s14.trans sk2)
        obtain ⟨u1, u2, rfl, hu1, hu2⟩ := pairs2 hzs
        have hk1 := (s14.trans sk2) _ _ (upd_at (o := .lst [.ref g1, .ref g2]) nk1)
        refine ⟨.list [prD (shN r (low e) 0), prD (shN r (low e) 1)], .list [prD (shN r (low e) 0), prD (shN r (low e) 1)], .lst (SqL.of hk1) (.cons (dp_pair ((((s13.trans sk).trans s14).trans sk2) _ _ hg1)) (.cons (dp_pair (((sk.trans s14).trans sk2) _ _ hg2)) .nil)), .lst (SqL.of upd_same) (.cons (dp_pair (sk2 _ _ hu1)) (.cons (dp_pair (sk2 _ _ hu2)) .nil)), rfl, rfl, _, rfl, ite2 (fun q => absurd q (ne_prs _ _)) (fun _ => ⟨rfl, SB.same sAll, hyB.same sAll⟩)⟩
      rintro σ7 H8 ⟨rfl, S8, hy8⟩
      clear S7 hy7
      -- no number of sections
      refine ⟨fun σ' H' => ∃ mv, σ' = [some (.ref cu), some (.int (0 + i)), some (.ref z), some odd, some ev, some bad, some (.ref l), some (.ref y), some mv] ∧ St C TT H cu z odd ev r e K H' ∧ LadAt C aO Ce Cl H' y r (low e) ∧ OddQ (fun d => withinD d 0 100) K cu H' mv, ?_, ?_⟩
      · refine ⟨_, rfl, ?_⟩
        refine ⟨_, rfl, (by show 1 ≤ sizeLine; decide), fun mp1 mn1 => ?_⟩
        have ms1 := same_upd (o := .tup [.int 3]) mn1
        have me1 : mp1 ≠ cu := (CupAt.ne S8.cup mn1).symm
        have mc1 := CupAt.same S8.cup ms1
        refine ⟨(by show 0 ≤ sizeLine; decide), fun mp2 mn2 => ?_⟩
        have ms2 := same_upd (o := .lst []) mn2
        have me2 : mp2 ≠ cu := (CupAt.ne mc1 mn2).symm
        have mc2 := CupAt.same mc1 ms2
        refine (fun mp3 mn3 => ?_)
        have ms3 := same_upd (o := .dK []) mn3
        have me3 : mp3 ≠ cu := (CupAt.ne mc2 mn3).symm
        have mc3 := CupAt.same mc2 ms3
        refine ⟨_, _, rfl, rfl, ⟨by decide, by decide, by decide⟩, _, _, rfl, rfl, ⟨by decide, by decide, by decide⟩, _, rfl, (by show 2 ≤ sizeLine; decide), fun mp4 mn4 => ?_⟩
        have ms4 := same_upd (o := .tup [.int 1, .int 0]) mn4
        have me4 : mp4 ≠ cu := (CupAt.ne mc3 mn4).symm
        have mc4 := CupAt.same mc3 ms4
        have mt3 := ms4
        have mt2 := ms3.trans mt3
        have mt1 := ms2.trans mt2
        have mall := ms1.trans mt1
        have mg1 : hidS cu cu _ mp1 = some (.tup [.int 3]) := hs_of (mt1 _ _ (upd_at (o := .tup [.int 3]) mn1)) me1 me1 (by intro ps z; cases z)
        have mg2 : hidS cu cu _ mp2 = some (.lst []) := hs_of (mt2 _ _ (upd_at (o := .lst []) mn2)) me2 me2 (by intro ps z; cases z)
        have mg3 : hidS cu cu _ mp3 = some (.dK []) := hs_of (mt3 _ _ (upd_at (o := .dK []) mn3)) me3 me3 (by intro ps z; cases z)
        have mg4 : hidS cu cu _ mp4 = some (.tup [.int 1, .int 0]) := hs_of (upd_at (o := .tup [.int 1, .int 0]) mn4) me4 me4 (by intro ps z; cases z)
        have modd : ∀ v ∈ ([.int (-1), .int 101, .non, .bl true, .bl false, .str (Str.ofString "3"), .ref mp1, .ref mp2, .ref mp3, .int (10 ^ Int.toNat 30), .int (-(10 ^ Int.toNat 30)), .ref mp4] : List V), OddQ (fun d => withinD d 0 100) K cu (upd (upd (upd (upd H8 mp1 (.tup [.int 3])) mp2 (.lst [])) mp3 (.dK [])) mp4 (.tup [.int 1, .int 0])) v := by
          intro v hv
          simp only [List.mem_cons, List.not_mem_nil, or_false] at hv
          rcases hv with rfl | rfl | rfl | rfl | rfl | rfl | rfl | rfl | rfl | rfl | rfl | rfl
          · exact ⟨.int (-1), .dp (.int _) (by decide +kernel), gd_of (by decide +kernel), by decide +kernel⟩
          · exact ⟨.int 101, .dp (.int _) (by decide +kernel), gd_of (by decide +kernel), by decide +kernel⟩
          · exact ⟨.none, .dp .non (by decide +kernel), gd_of (by decide +kernel), by decide +kernel⟩
          · exact ⟨.bool true, .dp (.bl _) (by decide +kernel), gd_of (by decide +kernel), by decide +kernel⟩
          · exact ⟨.bool false, .dp (.bl _) (by decide +kernel), gd_of (by decide +kernel), by decide +kernel⟩
          · exact ⟨.str (Str.ofString "3"), .dp (.str _) (by decide +kernel), gd_of (by decide +kernel), by decide +kernel⟩
          · exact ⟨.tuple [.int 3], .dp (.tup (SqT.of mg1) (.cons (.int _) .nil)) (by decide +kernel), gd_of (by decide +kernel), by decide +kernel⟩
          · exact ⟨.list [], .dp (.lst (SqL.of mg2) .nil) (by decide +kernel), gd_of (by decide +kernel), by decide +kernel⟩
          · exact ⟨.dict [], .dk (kvs := []) mg3, gd_of (by decide +kernel), by decide +kernel⟩
          · exact ⟨.int (10 ^ Int.toNat 30), .dp (.int _) (by decide +kernel), gd_of (by decide +kernel), by decide +kernel⟩
          · exact ⟨.int (-(10 ^ Int.toNat 30)), .dp (.int _) (by decide +kernel), gd_of (by decide +kernel), by decide +kernel⟩
          · exact ⟨.tuple [.int 1, .int 0], .dp (.tup (SqT.of mg4) (.cons (.int _) (.cons (.int _) .nil))) (by decide +kernel), gd_of (by decide +kernel), by decide +kernel⟩
        refine ⟨(by show 12 ≤ sizeLine; decide), fun l2 nl => ?_⟩
        have sl := same_upd (o := .lst [.int (-1), .int 101, .non, .bl true, .bl false, .str (Str.ofString "3"), .ref mp1, .ref mp2, .ref mp3, .int (10 ^ Int.toNat 30), .int (-(10 ^ Int.toNat 30)), .ref mp4]) nl
        have S9 := (S8.same mall).same sl
        refine ⟨cu, l2, _, rfl, S9.cup, (CupAt.ne (S8.same mall).cup nl), upd_same, (by show 0 < 12; decide), (by show 12 ≤ 100; decide), fun H4 v b4 hc4 hv => ?_⟩
        exact ⟨v, rfl, S9.but b4 hc4, ((hy8.same mall).same sl).butT S9.cup (.but b4), ((modd v hv).same sl).butT (.but b4)⟩
      rintro σ8 H9 ⟨mv, rfl, S9, hy9, ⟨dm, hm9, gm, hcnt⟩⟩
      clear S8 hy8
      -- told
      refine ⟨fun σ' H' => ∃ l a1, σ' = [some (.ref cu), some (.int (0 + i)), some (.ref z), some odd, some ev, some bad, some (.ref l), some (.ref y), some mv] ∧ Told cu l TT H9 [a1] 3 (PyData.shown dm) H', ?_, ?_⟩
      · refine ⟨S9.tabs, fun H6 x6 t6 => ?_⟩
        have be : ButT cu H9 H6 := .ext x6
        have hd6 := dqv (dqs hm9 be)
        have SY := hy9.butT S9.cup be
        obtain ⟨dy, p0, q0, v0, hiy, _⟩ := id SY
        exact ⟨_, rfl, y, rfl, _, rfl, ⟨dy, _, hiy⟩, .ref y, mv, dm, rfl, hd6, hcnt, fun H8 dd s7 hdd => ⟨c 3, 3, [3, 20, 23], dd, mv, dm, rfl, EC3, rfl, hdd, hd6.same s7, gm.s, gm.p, gm.l, fun H9 a s8 ha => ⟨(by show 1 ≤ sizeLine; decide), fun l nl => ⟨l, a, rfl, Told.one S9.cup x6 t6 (s7.trans s8) ha nl⟩⟩⟩⟩
      rintro σ3 H6 ⟨l, a1, rfl, W1⟩
      refine ⟨fun σ' H' => ∃ a2, σ' = [some (.ref cu), some (.int (0 + i)), some (.ref z), some odd, some ev, some bad, some (.ref l), some (.ref y), some mv] ∧ Told cu l TT H9 [a1, a2] 3 (PyData.shown dm) H', ?_, ?_⟩
      · refine ⟨_, rfl, .inl ⟨rfl, _, SqL.of W1.hl⟩, W1.tabs, fun H7 x7 t7 => ?_⟩
        have be : ButT cu H9 H7 := W1.but.trans (.ext x7)
        have hd6 := dqv (dqs hm9 be)
        have SY := hy9.butT S9.cup be
        obtain ⟨dy, p0, q0, v0, hiy, _⟩ := id SY
        exact ⟨_, rfl, y, rfl, _, rfl, ⟨dy, _, hiy⟩, .ref y, mv, dm, rfl, hd6, hcnt, fun H8 dd s7 hdd => ⟨c 3, 3, [3, 20, 23], dd, mv, dm, rfl, EC3, rfl, hdd, hd6.same s7, gm.s, gm.p, gm.l, fun H9 a s8 ha => (by
          obtain ⟨hl8, W⟩ := W1.more x7 t7 (s7.trans s8) ha
          exact ⟨l, _, .ref a, rfl, rfl, hl8, by show 1 < sizeLine; decide, a, rfl, W⟩)⟩⟩
      rintro σ3 H6 ⟨a2, rfl, W2⟩
      clear W1
      refine ⟨fun σ' H' => ∃ a3, σ' = [some (.ref cu), some (.int (0 + i)), some (.ref z), some odd, some ev, some bad, some (.ref l), some (.ref y), some mv] ∧ Told cu l TT H9 [a1, a2, a3] 3 (PyData.shown dm) H', ?_, ?_⟩
      · refine ⟨_, rfl, .inl ⟨rfl, _, SqL.of W2.hl⟩, W2.tabs, fun H7 x7 t7 => ?_⟩
        have be : ButT cu H9 H7 := W2.but.trans (.ext x7)
        have hd6 := dqv (dqs hm9 be)
        have SY := hy9.butT S9.cup be
        obtain ⟨dy, p0, q0, v0, hiy, _⟩ := id SY
        exact ⟨_, rfl, y, dy, _, rfl, hiy, lkOp _ _ _, _, rfl, mv, rfl, .ref y, mv, dm, rfl, hd6, hcnt, fun H8 dd s7 hdd => ⟨rfl, ⟨c 3, 3, [3, 20, 23], dd, mv, dm, rfl, EC3, rfl, hdd, hd6.same s7, gm.s, gm.p, gm.l, fun H9 a s8 ha => (by
          obtain ⟨hl8, W⟩ := W2.more x7 t7 (s7.trans s8) ha
          exact ⟨l, _, .ref a, rfl, rfl, hl8, by show 2 < sizeLine; decide, a, rfl, W⟩)⟩⟩⟩
      rintro σ3 H6 ⟨a3, rfl, W3⟩
      clear W2
      refine ⟨fun σ' H' => ∃ a4, σ' = [some (.ref cu), some (.int (0 + i)), some (.ref z), some odd, some ev, some bad, some (.ref l), some (.ref y), some mv] ∧ Told cu l TT H9 [a1, a2, a3, a4] 3 (PyData.shown dm) H', ?_, ?_⟩
      · refine ⟨_, rfl, .inl ⟨rfl, _, SqL.of W3.hl⟩, W3.tabs, fun H7 x7 t7 => ?_⟩
        have be : ButT cu H9 H7 := W3.but.trans (.ext x7)
        have hd6 := dqv (dqs hm9 be)
        have SY := hy9.butT S9.cup be
        obtain ⟨dy, p0, q0, v0, hiy, _⟩ := id SY
        exact ⟨_, rfl, y, dy, _, rfl, hiy, lkOp _ _ _, _, rfl, mv, rfl, .ref y, mv, dm, rfl, hd6, hcnt, fun H8 dd s7 hdd => ⟨rfl, ⟨c 3, 3, [3, 20, 23], dd, mv, dm, rfl, EC3, rfl, hdd, hd6.same s7, gm.s, gm.p, gm.l, fun H9 a s8 ha => (by
          obtain ⟨hl8, W⟩ := W3.more x7 t7 (s7.trans s8) ha
          exact ⟨l, _, .ref a, rfl, rfl, hl8, by show 3 < sizeLine; decide, a, rfl, W⟩)⟩⟩⟩
      rintro σ3 H6 ⟨a4, rfl, W4⟩
      clear W3
      have hdN := dqv (dqs hm9 W4.but)
      refine ⟨_, rfl, _, rfl, _, dm, rfl, hdN, gm.s, gm.p, gm.l, (by show 4 ≤ sizeLine; decide), fun p np => ⟨(by show 1 ≤ sizeLine; decide), fun p' np' => ?_⟩⟩
      have s1 := same_upd (o := .lst (errL 3 (PyData.shown dm))) np
      have s2 := same_upd (o := .lst [.ref p]) np'
      refine ⟨p', 4, _, rfl, rfl, upd_same, by decide, by decide, (by show 4 ≤ sizeLine; decide), fun y ny => ?_⟩
      have s3 := same_upd (o := .lst (List.replicate (Int.toNat 4) [V.ref p]).flatten) ny
      have sx := (s1.trans s2).trans s3
      have dpz := (s2.trans s3) _ _ (upd_at (o := .lst (errL 3 (PyData.shown dm))) np)
      refine ⟨.list (List.replicate 4 (errD 3 (PyData.shown dm))), .list (List.replicate 4 (errD 3 (PyData.shown dm))), .lst (SqL.of (sx _ _ W4.hl)) (dp_many fun a ha => dp_err (sx _ _ (W4.ha a ha))), .lst (SqL.of upd_same) (.cons (dp_err dpz) (.cons (dp_err dpz) (.cons (dp_err dpz) (.cons (dp_err dpz) .nil)))), sh_many gm.u 4, sh_many gm.u 4, _, rfl, ite2 (fun q => absurd q (ne_many _ _ _)) (fun _ => ⟨⟨_, _, _, _, _, _, _, _, rfl⟩, S9.all.trans (W4.but.trans (.of sx)), W4.cup.same sx, tabs_same W4.tabs sx⟩)⟩
    · rintro σ H' ⟨⟨v1, v2, v3, v4, v5, v6, v7, v8, rfl⟩, b1, hc1, t1⟩
      exact k _ b1 t1
end
end RL

set_option maxHeartbeats 2000000
namespace RL
open PySem L2 PySem.Spec PyProof.Rows GenW
def spLaw (K : PySem.W.Frag) (TT : List (Addr × Str)) : Sp := fun vs H Q _ => ∃ (a : Addr) (ns : List Int), vs = [.ref a] ∧ SqL K H a (ns.map V.int) ∧ ns.length ≤ 63 ∧ LamX.Tabs TT H ∧ ∀ H', Q (.bl true) H'
theorem seq_butT {K : PySem.W.Frag} {H H' : Hp} {D a : Addr} {xs : List V} (h : SqL K H a xs) (n : H D = none) (b : ButT D H H') : SqL K H' a xs := by
  rcases h with (h | ⟨o, h⟩) | h
  · exact .inl (.inl (b _ _ (ne_of_none h n) (by intro ps z; cases z) h))
  · exact .inl (.inr ⟨o, b _ _ (ne_of_none h n) (by intro ps z; cases z) h⟩)
  · exact .inr h
theorem pcs1 {H : Hp} {t : Addr} {r : Bool} {o : Int} (h : H t = some (.tup [.str (wd r), .int o])) : PiecesAt H [.ref t] [(r, o)] := by
  refine ⟨rfl, fun i p hp => ?_⟩
  match i, hp with
  | 0, hp =>
    cases hp
    exact ⟨_, rfl, t, rfl, h⟩
abbrev ra : List Pc := [(true, 1)]
theorem oka : RowOk ra := fun p hp => by
  rw [List.mem_singleton] at hp
  subst hp
  exact ⟨by decide, by decide⟩
theorem v_100 : low (appN (matR ra) (Int.toNat 100) (low (0, 1))) = (100, 1) := by decide +kernel
section
variable {P : Program} {w : World} {K : PySem.W.Frag} {mg : Str → Option Value} {base : Heap} {tG t1 t2 t3 tP tC : Tok} {aO aW J C Ce Cl fP fL : Addr} {fdL : FuncData} {gl : Addr} {fl : FuncData} {c : Nat → Addr}
abbrev s_law : Stmt := top 80
theorem sc_law : FnScope ["_law_script", "_law_way", "_law_spot"] ["_law_script"] (defScope s_law) := ⟨rfl, rfl, rfl, by decide +kernel, rfl, by decide +kernel, by decide +kernel⟩

theorem ok_law {f cL PL : Addr} {fd : FuncData} {TT : List (Addr × Str)} (F : FunC K "law" "law" s_law f fd cL) (T : Txt4 K mg tG t1 t2 t3 tP tC aO aW J C Ce Cl) (X_pat : PatD P w K mg base C J fP) (X_lad : LadD P w K mg base C aO Ce Cl fL fdL) (OL : OwL P w K mg base C aO Ce Cl gl fl) (OLN : CoN P w K mg base Cl 6 "self" "count" (spCntN K (c 3)))
    (CG : CgtD P w K mg base c 1 (rRp K)) (EC3 : EC K c (c 3) 3 [3, 20, 23]) (TBL : LamX.TabB base mg cL PL) (TML : (PL, ("law" : Str) ++ ".<locals>.<lambda>") ∈ TT) (TUL : ∀ p ∈ TT, p.1 = PL → p.2 = ("law" : Str) ++ ".<locals>.<lambda>")
    (D_law_cup : Df P w K mg base 1 "_law_cup" ["_law_script", "_law_spot"] (spCup K)) (D_law_right : DfG P w K mg base 13 "_law_right" ["_law_cup_here"] (spRight TT)) : FnG P w K mg base 14 f fd ["_law_script"] (spLaw K TT) := by
  refine okGC F sc_law (fun vs H Q E h => ?_) (fun A outer s H vs Q E hg hr h => ?_)
  · obtain ⟨a, ns, rfl, _⟩ := h
    rfl
  · obtain ⟨a, ns, rfl, hS, hlen, ht, k⟩ := h
    refine ⟨_, (C8.pss_cut (ps_set (i := 1) sc_law.nd rfl (.inr rfl) (pe_make X_lad.m X_lad.fn (hr.mono (by decide)) rfl T.mgL X_lad.bd .nil pass0 (pa_cons (StX.pe_makeR X_pat.m X_pat.fn (hr.mono (by decide)) rfl T.mgC pass0 (pa_cons (pe_tup (pa_cons pe_str (pa_cons pe_int pa_nil))) pa_nil)) (pa_cons pe_int pa_nil))))
      (C8.pss_cut (ps_if (PW.pt (pw_or (pt_cmpR (op_neD hr.units) (StX.pe_callO (pv 1) OL.co OL.fr (hr.mono (by decide)) pass0 (pa_cons pe_int pa_nil)) (pe_tup (pa_cons pe_int (pa_cons pe_int pa_nil))) (nomark _)) (pw_or1 (pt_cmpR (op_neD hr.units) (pe_cgt (k := 10) CG hg (by decide) (by decide) TBL rfl TML TUL (hr.mono (by decide)) rfl (fun A2 outer2 s2 H2 E2 f2 c2 hg2 hr2 => (pe_coN (pv 1) OLN (hr2.mono (by decide)) (passN lamN_takes fun _ _ _ _ h => h) (pa_cons pe_int pa_nil)))) (pe_lst (pa_cons pe_int (pa_cons pe_int (pa_cons pe_int (pa_cons pe_str pa_nil))))) (nomark _))))) (pss_one (ps_ret pe_bl)) pss_nil)
      (pss_one (ps_ret (pe_callB (cr_all rfl) (by rfl) T.all (by decide +kernel) (pa_cons (pe_lc (own := [("_law_spot", 2)]) (g := gName 2) (tt := tYes) rfl sc_law.nd (pi_range1 rfl T.range (pa_cons (pe_callB (call_max2 rfl) (by rfl) T.max (by decide +kernel) (pa_cons pe_int (pa_cons (pe_callB (call_min2 rfl) (by rfl) T.min (by decide +kernel) (pa_cons (pe_callB call_len_seq (by rfl) T.len (by decide +kernel) (pa_cons (pv 0) pa_nil)) (pa_cons pe_int pa_nil))) pa_nil))) pa_nil)) (blkOk_by (N := ["_law_script", "_law_way", "_law_spot"]) (sc := defScope s_law) (by decide +kernel)) (fun _ _ _ _ _ => pg_name (i := 2) sc_law.nd rfl (Or.inl rfl)) (fun _ _ _ _ _ => pts_nil) (fun _ _ _ _ _ => (pe_dfG D_law_right hg (hr.mono (by decide)) (by rfl) (pa_cons (pe_df D_law_cup (hr.mono (by decide)) (by rfl) (pa_cons (pv 0) (pa_cons (pv 2) pa_nil))) pa_nil)))) pa_nil)))))), ?_⟩
    refine ⟨fun σ' H' => ∃ y, σ' = [some (.ref a), some (.ref y), none] ∧ SqL K H' a (ns.map V.int) ∧ LamX.Tabs TT H' ∧ LadAt C aO Ce Cl H' y ra (low (0, 1)), ?_, ?_⟩
    · refine ⟨(by show 2 ≤ sizeLine; decide), fun p1 np1 => ?_⟩
      have s1 := same_upd (o := .tup [.str (Str.ofString "rail"), .int 1]) np1
      intro z dz nz ndz nez
      refine make_lit nz ndz (pcs1 (r := true) upd_same) oka (by decide) (by decide) fun H1 s2 hz => ?_
      refine fun y dy ny ndy ney => make_lad (e := (0, 1)) ny ndy hz oka (by decide) (.inl ⟨0, rfl, by decide, by decide, rfl⟩) fun H2 s3 hy => ?_
      have sx := (s1.trans s2).trans s3
      exact ⟨y, rfl, sx.seq hS, tabs_same ht sx, hy⟩
    rintro σ1 H1 ⟨y, rfl, hS1, t1, hy⟩
    have zp : Pos2 (low (0, 1)) := low_pos ⟨by decide, by decide, .inr (by decide)⟩
    have z1 : Sm 41 (low (0, 1)).1 := by unfold Sm; decide +kernel
    have z2 : Sm 41 (low (0, 1)).2 := by unfold Sm; decide +kernel
    refine ⟨fun σ' H' => σ' = [some (.ref a), some (.ref y), none] ∧ SqL K H' a (ns.map V.int) ∧ LamX.Tabs TT H', ?_, ?_⟩
    · refine ⟨_, rfl, y, rfl, insLad hy, y, 100, ra, low (0, 1), rfl, hy, oka, by decide, zp, z1, z2, by decide, by decide, fun H2 g s2 ng hg2 => ⟨(by show 2 ≤ sizeLine; decide), fun t nt => ?_⟩⟩
      have st := same_upd (o := .tup [.int 100, .int 1]) nt
      rw [v_100] at hg2
      refine ⟨prD (100, 1), prD (100, 1), dp_pair (st _ _ hg2), dp_pair (show PairAt _ t (100, 1) from upd_same), rfl, rfl, _, rfl, ite2 (fun q => absurd q (ne_prD _)) (fun _ => ?_)⟩
      have s24 := s2.trans st
      refine ⟨tabs_same t1 s24, fun H3 x3 t3 => ?_⟩
      obtain ⟨dy, fy, hiy⟩ := (hy.same s24).ins
      refine ⟨_, rfl, y, rfl, ⟨dy, fy, x3 _ _ hiy (by intro ps z; cases z)⟩, .ref y, .int 101, .int 101, rfl, .dp (.int _) rfl, by decide +kernel, fun H4 dd s4 hdd => ?_⟩
      refine ⟨c 3, 3, [3, 20, 23], dd, .int 101, .int 101, rfl, EC3, rfl, hdd, .dp (.int _) rfl, by decide +kernel, by decide +kernel, by decide +kernel, fun H5 q s5 hq => ⟨(by show 4 ≤ sizeLine; decide), fun p np => ?_⟩⟩
      have sp := same_upd (o := .lst [.int 3, .int 20, .int 23, .str (Str.ofString "101")]) np
      have sx := (s4.trans s5).trans sp
      exact ⟨.list [.int 3, .int 20, .int 23, .str (PyData.shown (.int 101))], .list [.int 3, .int 20, .int 23, .str (Str.ofString "101")], .lst (SqL.of (sp _ _ hq)) (.cons (.int _) (.cons (.int _) (.cons (.int _) (.cons (.str _) .nil)))), .lst (SqL.of upd_same) (.cons (.int _) (.cons (.int _) (.cons (.int _) (.cons (.str _) .nil)))), by decide +kernel, by decide +kernel, _, rfl, ite2 (fun z => absurd z (by decide +kernel)) (fun _ => ⟨rfl, sx.seq (sql_ext (s24.seq hS1) x3), tabs_same t3 sx⟩)⟩
    rintro σ' H3 ⟨rfl, hSg, t3⟩
    refine ⟨_, rfl, a, _, rfl, .inl hSg, _, _, rfl, _, _, rfl, _, rfl, ?_, ?_, fun D hD => ?_⟩
    · split <;> split <;> omega
    · have : (List.map V.int ns).length = ns.length := List.length_map ..
      split <;> split <;> omega
    · refine lc_range (lo := 0) (fun i H' => ButT D _ H' ∧ LamX.Tabs TT H' ∧ H' D = some (.lst (List.replicate i (.bl true)))) ⟨.but But.upd, tabs_same t3 (same_upd hD), upd_same⟩ ?_ ?_
      · rintro i H1' hi ⟨bD, tD, hDi⟩
        have hi63 : i ≤ 100 := by
          have : (List.map V.int ns).length = ns.length := List.length_map ..
          split at hi <;> split at hi <;> omega
        refine ⟨rfl, ?_⟩
        unfold tYes
        refine iteT ?_
        refine ⟨_, rfl, _, rfl, a, ns, i, ?_, seq_butT hSg hD bD, hi63, hlen, fun H2' c sc nc hc => ?_⟩
        · show [V.ref a, V.int (0 + (i : Int))] = _
          rw [Int.zero_add]
        refine ⟨c, rfl, hc, tabs_same tD sc, fun H3' b3 t3' => ?_⟩
        have nDc : D ≠ c := ne_of_none hDi nc
        have hD3 := b3 D _ nDc (by intro ps z; cases z) (sc _ _ hDi)
        refine ⟨_, hD3, ?_, ?_, tabs_upd t3' hD3, ?_⟩
        · rw [List.length_replicate]
          exact small1000 (by omega)
        · intro y o ny nt e
          rw [upd_ne ny]
          have hy1 := bD _ _ ny nt e
          exact b3 _ _ (ne_of_none hy1 nc) nt (sc _ _ hy1)
        · rw [upd_same, List.replicate_succ']
      · rintro H1' ⟨bD, _, hDn⟩
        refine ⟨D, List.replicate _ true, rfl, SqL.of (by rw [List.map_replicate]; exact hDn), ?_⟩
        have ea : ∀ n : Nat, (List.replicate n true).all id = true := fun n => by
          rw [List.all_eq_true]
          intro z hz
          rw [List.eq_of_mem_replicate hz]
          rfl
        rw [ea]
        exact k _
end
end RL

namespace RL
open PySem L2
set_option maxHeartbeats 4000000 in
theorem all_mk {l : PySem.W.OpenLaw} {w : World} {K : PySem.W.Frag} {h : Heap} {mg : Str → Option Value} (X : K.In h) (G : h.Ns mainGlobals mg) {fa aO aW J C f_JoinedRow_init f_Pattern_init f_Pattern_call f_Pattern_add f_Pattern_numbers pr_Pattern_numbers f_Pattern_read pr_Pattern_read f_is_integer f_is_integer_within f_is_pair_of_integers f_is_resistance f_pair_of f_common_divisor f_lowest_terms f_lowest_pair f_is_piece f_checked_row f_matrix_and_scale f_shown_before f_piece_text f_piece_with_text f_law_cup f_law_sip f_law_pick Ce Cl f_is_count f_fraction_text f_sign f_square_root f_under_root f_equation_of_fraction f_simplest_equation f_with_commas f_pair_order f_check_resistance f_check_count f_Exact_init f_check_pattern f_ladder_limit f_Ladder_init f_Ladder_after f_Ladder_call f_Ladder_goes pr_Ladder_goes f_Ladder_limit pr_Ladder_limit f_Exact_equation pr_Exact_equation f_Exact_fraction pr_Exact_fraction f_law_row f_law_words f_law_read X0 X1 X2 X3 X4 X5 X6 X7 X8 X9 X10 X11 X12 X13 X14 X15 X16 X17 X18 X19 X20 X21 f_WrongValue_init f_NotAPattern_init f_InvalidResistance_init f_InvalidCount_init f_law_classes f_law_caught f_Pattern_pieces pr_Pattern_pieces f_Ladder_load pr_Ladder_load f_Ladder_opening f_law_nothing f_law_right cA_law_right PA_law_right f_law cA_law PA_law : Addr}
    {od_JoinedRow_init an_JoinedRow_init od_Pattern_init an_Pattern_init od_Pattern_call an_Pattern_call od_Pattern_add an_Pattern_add od_Pattern_numbers an_Pattern_numbers od_Pattern_read an_Pattern_read od_is_integer an_is_integer od_is_integer_within an_is_integer_within od_is_pair_of_integers an_is_pair_of_integers od_is_resistance an_is_resistance od_pair_of an_pair_of od_common_divisor an_common_divisor od_lowest_terms an_lowest_terms od_lowest_pair an_lowest_pair od_is_piece an_is_piece od_checked_row an_checked_row od_matrix_and_scale an_matrix_and_scale od_shown_before an_shown_before od_piece_text an_piece_text od_piece_with_text an_piece_with_text od_law_cup an_law_cup od_law_sip an_law_sip od_law_pick an_law_pick od_is_count an_is_count od_fraction_text an_fraction_text od_sign an_sign od_square_root an_square_root od_under_root an_under_root od_equation_of_fraction an_equation_of_fraction od_simplest_equation an_simplest_equation od_with_commas an_with_commas od_pair_order an_pair_order od_check_resistance an_check_resistance od_check_count an_check_count od_Exact_init an_Exact_init od_check_pattern an_check_pattern od_ladder_limit an_ladder_limit od_Ladder_init an_Ladder_init od_Ladder_after an_Ladder_after od_Ladder_call an_Ladder_call od_Ladder_goes an_Ladder_goes od_Ladder_limit an_Ladder_limit od_Exact_equation an_Exact_equation od_Exact_fraction an_Exact_fraction od_law_row an_law_row od_law_words an_law_words od_law_read an_law_read od_WrongValue_init an_WrongValue_init od_NotAPattern_init an_NotAPattern_init od_InvalidResistance_init an_InvalidResistance_init od_InvalidCount_init an_InvalidCount_init od_law_classes an_law_classes od_law_caught an_law_caught od_Pattern_pieces an_Pattern_pieces od_Ladder_load an_Ladder_load od_Ladder_opening an_Ladder_opening od_law_nothing an_law_nothing od_law_right an_law_right od_law an_law : Option Addr} {sl_JoinedRow_init sl_Pattern_init sl_Pattern_call sl_Pattern_add sl_Pattern_numbers sl_Pattern_read sl_is_integer sl_is_integer_within sl_is_pair_of_integers sl_is_resistance sl_pair_of sl_common_divisor sl_lowest_terms sl_lowest_pair sl_is_piece sl_checked_row sl_matrix_and_scale sl_shown_before sl_piece_text sl_piece_with_text sl_law_cup sl_law_sip sl_law_pick sl_is_count sl_fraction_text sl_sign sl_square_root sl_under_root sl_equation_of_fraction sl_simplest_equation sl_with_commas sl_pair_order sl_check_resistance sl_check_count sl_Exact_init sl_check_pattern sl_ladder_limit sl_Ladder_init sl_Ladder_after sl_Ladder_call sl_Ladder_goes sl_Ladder_limit sl_Exact_equation sl_Exact_fraction sl_law_row sl_law_words sl_law_read sl_WrongValue_init sl_NotAPattern_init sl_InvalidResistance_init sl_InvalidCount_init sl_law_classes sl_law_caught sl_Pattern_pieces sl_Ladder_load sl_Ladder_opening sl_law_nothing sl_law_right sl_law : Array (Option Value)}
    {oc_JoinedRow_init kV_JoinedRow_init dc_JoinedRow_init pm_JoinedRow_init cd_JoinedRow_init ct_JoinedRow_init oc_Pattern_init kV_Pattern_init dc_Pattern_init pm_Pattern_init cd_Pattern_init ct_Pattern_init oc_Pattern_call kV_Pattern_call dc_Pattern_call pm_Pattern_call cd_Pattern_call ct_Pattern_call oc_Pattern_add kV_Pattern_add dc_Pattern_add pm_Pattern_add cd_Pattern_add ct_Pattern_add oc_Pattern_numbers kV_Pattern_numbers dc_Pattern_numbers pm_Pattern_numbers cd_Pattern_numbers ct_Pattern_numbers oc_Pattern_read kV_Pattern_read dc_Pattern_read pm_Pattern_read cd_Pattern_read ct_Pattern_read oc_is_integer kV_is_integer dc_is_integer pm_is_integer cd_is_integer ct_is_integer oc_is_integer_within kV_is_integer_within dc_is_integer_within pm_is_integer_within cd_is_integer_within ct_is_integer_within oc_is_pair_of_integers kV_is_pair_of_integers dc_is_pair_of_integers pm_is_pair_of_integers cd_is_pair_of_integers ct_is_pair_of_integers oc_is_resistance kV_is_resistance dc_is_resistance pm_is_resistance cd_is_resistance ct_is_resistance oc_pair_of kV_pair_of dc_pair_of pm_pair_of cd_pair_of ct_pair_of oc_common_divisor kV_common_divisor dc_common_divisor pm_common_divisor cd_common_divisor ct_common_divisor oc_lowest_terms kV_lowest_terms dc_lowest_terms pm_lowest_terms cd_lowest_terms ct_lowest_terms oc_lowest_pair kV_lowest_pair dc_lowest_pair pm_lowest_pair cd_lowest_pair ct_lowest_pair oc_is_piece kV_is_piece dc_is_piece pm_is_piece cd_is_piece ct_is_piece oc_checked_row kV_checked_row dc_checked_row pm_checked_row cd_checked_row ct_checked_row oc_matrix_and_scale kV_matrix_and_scale dc_matrix_and_scale pm_matrix_and_scale cd_matrix_and_scale ct_matrix_and_scale oc_shown_before kV_shown_before dc_shown_before pm_shown_before cd_shown_before ct_shown_before oc_piece_text kV_piece_text dc_piece_text pm_piece_text cd_piece_text ct_piece_text oc_piece_with_text kV_piece_with_text dc_piece_with_text pm_piece_with_text cd_piece_with_text ct_piece_with_text oc_law_cup kV_law_cup dc_law_cup pm_law_cup cd_law_cup ct_law_cup oc_law_sip kV_law_sip dc_law_sip pm_law_sip cd_law_sip ct_law_sip oc_law_pick kV_law_pick dc_law_pick pm_law_pick cd_law_pick ct_law_pick oc_is_count kV_is_count dc_is_count pm_is_count cd_is_count ct_is_count oc_fraction_text kV_fraction_text dc_fraction_text pm_fraction_text cd_fraction_text ct_fraction_text oc_sign kV_sign dc_sign pm_sign cd_sign ct_sign oc_square_root kV_square_root dc_square_root pm_square_root cd_square_root ct_square_root oc_under_root kV_under_root dc_under_root pm_under_root cd_under_root ct_under_root oc_equation_of_fraction kV_equation_of_fraction dc_equation_of_fraction pm_equation_of_fraction cd_equation_of_fraction ct_equation_of_fraction oc_simplest_equation kV_simplest_equation dc_simplest_equation pm_simplest_equation cd_simplest_equation ct_simplest_equation oc_with_commas kV_with_commas dc_with_commas pm_with_commas cd_with_commas ct_with_commas oc_pair_order kV_pair_order dc_pair_order pm_pair_order cd_pair_order ct_pair_order oc_check_resistance kV_check_resistance dc_check_resistance pm_check_resistance cd_check_resistance ct_check_resistance oc_check_count kV_check_count dc_check_count pm_check_count cd_check_count ct_check_count oc_Exact_init kV_Exact_init dc_Exact_init pm_Exact_init cd_Exact_init ct_Exact_init oc_check_pattern kV_check_pattern dc_check_pattern pm_check_pattern cd_check_pattern ct_check_pattern oc_ladder_limit kV_ladder_limit dc_ladder_limit pm_ladder_limit cd_ladder_limit ct_ladder_limit oc_Ladder_init kV_Ladder_init dc_Ladder_init pm_Ladder_init cd_Ladder_init ct_Ladder_init oc_Ladder_after kV_Ladder_after dc_Ladder_after pm_Ladder_after cd_Ladder_after ct_Ladder_after oc_Ladder_call kV_Ladder_call dc_Ladder_call pm_Ladder_call cd_Ladder_call ct_Ladder_call oc_Ladder_goes kV_Ladder_goes dc_Ladder_goes pm_Ladder_goes cd_Ladder_goes ct_Ladder_goes oc_Ladder_limit kV_Ladder_limit dc_Ladder_limit pm_Ladder_limit cd_Ladder_limit ct_Ladder_limit oc_Exact_equation kV_Exact_equation dc_Exact_equation pm_Exact_equation cd_Exact_equation ct_Exact_equation oc_Exact_fraction kV_Exact_fraction dc_Exact_fraction pm_Exact_fraction cd_Exact_fraction ct_Exact_fraction oc_law_row kV_law_row dc_law_row pm_law_row cd_law_row ct_law_row oc_law_words kV_law_words dc_law_words pm_law_words cd_law_words ct_law_words oc_law_read kV_law_read dc_law_read pm_law_read cd_law_read ct_law_read oc_WrongValue_init kV_WrongValue_init dc_WrongValue_init pm_WrongValue_init cd_WrongValue_init ct_WrongValue_init oc_NotAPattern_init kV_NotAPattern_init dc_NotAPattern_init pm_NotAPattern_init cd_NotAPattern_init ct_NotAPattern_init oc_InvalidResistance_init kV_InvalidResistance_init dc_InvalidResistance_init pm_InvalidResistance_init cd_InvalidResistance_init ct_InvalidResistance_init oc_InvalidCount_init kV_InvalidCount_init dc_InvalidCount_init pm_InvalidCount_init cd_InvalidCount_init ct_InvalidCount_init oc_law_classes kV_law_classes dc_law_classes pm_law_classes cd_law_classes ct_law_classes oc_law_caught kV_law_caught dc_law_caught pm_law_caught cd_law_caught ct_law_caught oc_Pattern_pieces kV_Pattern_pieces dc_Pattern_pieces pm_Pattern_pieces cd_Pattern_pieces ct_Pattern_pieces oc_Ladder_load kV_Ladder_load dc_Ladder_load pm_Ladder_load cd_Ladder_load ct_Ladder_load oc_Ladder_opening kV_Ladder_opening dc_Ladder_opening pm_Ladder_opening cd_Ladder_opening ct_Ladder_opening oc_law_nothing kV_law_nothing dc_law_nothing pm_law_nothing cd_law_nothing ct_law_nothing oc_law_right kV_law_right dc_law_right pm_law_right cd_law_right ct_law_right oc_law kV_law dc_law pm_law cd_law ct_law : Value} {tG : Tok} {t1 : Tok} {t2 : Tok} {t3 : Tok} {aO_k0 aO_k1 : Tok} {od_aO : Option Addr} {nn_aO : Nat} {sl_aO : Array (Option Value)} {aW_k0 aW_k1 : Tok} {od_aW : Option Addr} {nn_aW : Nat} {sl_aW : Array (Option Value)} {rest_Pattern_numbers : List Value} {rest_Pattern_read : List Value} {tP : Tok} {tC : Tok} {rest_Ladder_goes : List Value} {rest_Ladder_limit : List Value} {rest_Exact_equation : List Value} {rest_Exact_fraction : List Value} {rest_Pattern_pieces : List Value} {rest_Ladder_load : List Value} {dC_law_right : Option Addr} {vC_law_right : Array Value} {sC_law_right : Array (Option Value)} {dC_law : Option Addr} {vC_law : Array Value} {sC_law : Array (Option Value)} (hfa : mg "law" = some (.ref fa))
    (aG : PySem.W.nsIn K mainGlobals "GREATEST" = some (some (.int 1000000000000 tG)))
    (aOh : PySem.W.nsIn K mainGlobals "MOST_OHMS" = some (some (.int 12 t1)))
    (aPi : PySem.W.nsIn K mainGlobals "MOST_PIECES" = some (some (.int 4 t2)))
    (aJo : PySem.W.nsIn K mainGlobals "MOST_JOINED" = some (some (.int 8 t3)))
    (aOp : PySem.W.nsIn K mainGlobals "OPEN" = some (some (.ref aO)))
    (laOp : K.lookup aO = some ⟨.type "tuple", od_aO, .seq #[.int 1 aO_k0, .int 0 aO_k1] nn_aO, sl_aO⟩)
    (aWo : PySem.W.nsIn K mainGlobals "WORDS" = some (some (.ref aW)))
    (laWo : K.lookup aW = some ⟨.type "tuple", od_aW, .seq #[.str (Str.ofString "rail") aW_k0, .str (Str.ofString "rung") aW_k1] nn_aW, sl_aW⟩)
    (aJ : PySem.W.nsIn K mainGlobals "JoinedRow" = some (some (.ref J)))
    (pgJ : PySem.W.plainGet K J Str.empty = true)
    (hdJ : PySem.W.hasDictIn K J = true)
    (poJ : PySem.W.plainOver K J = true)
    (saJ : PySem.W.findIn K (.ref J) "__setattr__" = some (some (.builtin "object.__setattr__")))
    (mkJ : PySem.W.makesIn K J = true)
    (kcJ : PySem.W.keepIn K (.ref J) = true)
    (nJ_row : PySem.W.findIn K (.ref J) "row" = some none)
    (caJ : PySem.W.findIn K (.ref J) "__class__" = some (some (.builtin "object.__class__")))
    (cmJ : PySem.W.mroIn K J (.type "object") = some true)
    (cn : PySem.W.specialIn K (.builtin "object.__class__") "__get__" = some (some (.builtin "getset_descriptor.__get__")))
    (ct : PySem.W.takesIn K (.builtin "object.__class__") = some true)
    (aC : PySem.W.nsIn K mainGlobals "Pattern" = some (some (.ref C)))
    (pgC : PySem.W.plainGet K C Str.empty = true)
    (hdC : PySem.W.hasDictIn K C = true)
    (poC : PySem.W.plainOver K C = true)
    (saC : PySem.W.findIn K (.ref C) "__setattr__" = some (some (.builtin "object.__setattr__")))
    (mkC : PySem.W.makesIn K C = true)
    (kcC : PySem.W.keepIn K (.ref C) = true)
    (nC_row : PySem.W.findIn K (.ref C) "row" = some none)
    (nC_matrix : PySem.W.findIn K (.ref C) "matrix" = some none)
    (nC_scale : PySem.W.findIn K (.ref C) "scale" = some none)
    (nC_four : PySem.W.findIn K (.ref C) "four" = some none)
    (kt_J : PySem.W.kitOne K (.type "tuple") (.ref J) = some false)
    (sfC : PySem.W.selfFirst K C = true)
    (rdC : PySem.W.readsIn K C (.type "type") = true)
    (gaC : PySem.W.specialIn K (.ref C) "__getattribute__" = some (some (.builtin "type.__getattribute__")))
    (a_JoinedRow_init : PySem.W.findIn K (.ref J) "__init__" = some (some (.ref f_JoinedRow_init)))
    (i_JoinedRow_init : PySem.W.isFn K (.ref f_JoinedRow_init) = true)
    (l_JoinedRow_init : K.lookup f_JoinedRow_init = some ⟨oc_JoinedRow_init, od_JoinedRow_init, .func (PySem.W.fnOf "__init__" "JoinedRow.__init__" (defArgs s_JoinedRow_init) (defBody s_JoinedRow_init) (defScope s_JoinedRow_init) .none kV_JoinedRow_init dc_JoinedRow_init pm_JoinedRow_init an_JoinedRow_init cd_JoinedRow_init ct_JoinedRow_init), sl_JoinedRow_init⟩)
    (c_JoinedRow_init : PySem.W.codeIn K cd_JoinedRow_init "JoinedRow.__init__" = true)
    (k_JoinedRow_init : PySem.W.keepIn K (.ref f_JoinedRow_init) = true)
    (a_Pattern_init : PySem.W.findIn K (.ref C) "__init__" = some (some (.ref f_Pattern_init)))
    (i_Pattern_init : PySem.W.isFn K (.ref f_Pattern_init) = true)
    (l_Pattern_init : K.lookup f_Pattern_init = some ⟨oc_Pattern_init, od_Pattern_init, .func (PySem.W.fnOf "__init__" "Pattern.__init__" (defArgs s_Pattern_init) (defBody s_Pattern_init) (defScope s_Pattern_init) .none kV_Pattern_init dc_Pattern_init pm_Pattern_init an_Pattern_init cd_Pattern_init ct_Pattern_init), sl_Pattern_init⟩)
    (c_Pattern_init : PySem.W.codeIn K cd_Pattern_init "Pattern.__init__" = true)
    (k_Pattern_init : PySem.W.keepIn K (.ref f_Pattern_init) = true)
    (a_Pattern_call : PySem.W.findIn K (.ref C) "__call__" = some (some (.ref f_Pattern_call)))
    (i_Pattern_call : PySem.W.isFn K (.ref f_Pattern_call) = true)
    (l_Pattern_call : K.lookup f_Pattern_call = some ⟨oc_Pattern_call, od_Pattern_call, .func (PySem.W.fnOf "__call__" "Pattern.__call__" (defArgs s_Pattern_call) (defBody s_Pattern_call) (defScope s_Pattern_call) .none kV_Pattern_call dc_Pattern_call pm_Pattern_call an_Pattern_call cd_Pattern_call ct_Pattern_call), sl_Pattern_call⟩)
    (c_Pattern_call : PySem.W.codeIn K cd_Pattern_call "Pattern.__call__" = true)
    (k_Pattern_call : PySem.W.keepIn K (.ref f_Pattern_call) = true)
    (fi_call : PySem.W.fnIn K f_Pattern_call = true)
    (a_Pattern_add : PySem.W.findIn K (.ref C) "__add__" = some (some (.ref f_Pattern_add)))
    (i_Pattern_add : PySem.W.isFn K (.ref f_Pattern_add) = true)
    (l_Pattern_add : K.lookup f_Pattern_add = some ⟨oc_Pattern_add, od_Pattern_add, .func (PySem.W.fnOf "__add__" "Pattern.__add__" (defArgs s_Pattern_add) (defBody s_Pattern_add) (defScope s_Pattern_add) .none kV_Pattern_add dc_Pattern_add pm_Pattern_add an_Pattern_add cd_Pattern_add ct_Pattern_add), sl_Pattern_add⟩)
    (c_Pattern_add : PySem.W.codeIn K cd_Pattern_add "Pattern.__add__" = true)
    (k_Pattern_add : PySem.W.keepIn K (.ref f_Pattern_add) = true)
    (pa_Pattern_numbers : PySem.W.findIn K (.ref C) "numbers" = some (some (.ref pr_Pattern_numbers)))
    (pg_Pattern_numbers : PySem.W.specialIn K (.ref pr_Pattern_numbers) "__get__" = some (some (.builtin "property.__get__")))
    (pt_Pattern_numbers : PySem.W.takesIn K (.ref pr_Pattern_numbers) = some true)
    (pc_Pattern_numbers : PySem.W.recIn K pr_Pattern_numbers "property" = some (.ref f_Pattern_numbers :: rest_Pattern_numbers))
    (l_Pattern_numbers : K.lookup f_Pattern_numbers = some ⟨oc_Pattern_numbers, od_Pattern_numbers, .func (PySem.W.fnOf "numbers" "Pattern.numbers" (defArgs s_Pattern_numbers) (defBody s_Pattern_numbers) (defScope s_Pattern_numbers) .none kV_Pattern_numbers dc_Pattern_numbers pm_Pattern_numbers an_Pattern_numbers cd_Pattern_numbers ct_Pattern_numbers), sl_Pattern_numbers⟩)
    (c_Pattern_numbers : PySem.W.codeIn K cd_Pattern_numbers "Pattern.numbers" = true)
    (k_Pattern_numbers : PySem.W.keepIn K (.ref f_Pattern_numbers) = true)
    (sa_Pattern_read : PySem.W.findCls K (.ref C) (.type "type") "read" = some (.get (.builtin "staticmethod.__get__") (.ref pr_Pattern_read) .none (.ref C)))
    (sc_Pattern_read : PySem.W.recIn K pr_Pattern_read "staticmethod" = some (.ref f_Pattern_read :: rest_Pattern_read))
    (l_Pattern_read : K.lookup f_Pattern_read = some ⟨oc_Pattern_read, od_Pattern_read, .func (PySem.W.fnOf "read" "Pattern.read" (defArgs s_Pattern_read) (defBody s_Pattern_read) (defScope s_Pattern_read) .none kV_Pattern_read dc_Pattern_read pm_Pattern_read an_Pattern_read cd_Pattern_read ct_Pattern_read), sl_Pattern_read⟩)
    (c_Pattern_read : PySem.W.codeIn K cd_Pattern_read "Pattern.read" = true)
    (k_Pattern_read : PySem.W.keepIn K (.ref f_Pattern_read) = true)
    (z_len : PySem.W.nsIn K mainGlobals "len" = some none)
    (z_abs : PySem.W.nsIn K mainGlobals "abs" = some none)
    (z_int : PySem.W.nsIn K mainGlobals "int" = some none)
    (z_bool : PySem.W.nsIn K mainGlobals "bool" = some none)
    (z_tuple : PySem.W.nsIn K mainGlobals "tuple" = some none)
    (z_isinstance : PySem.W.nsIn K mainGlobals "isinstance" = some none)
    (z_divmod : PySem.W.nsIn K mainGlobals "divmod" = some none)
    (z_max : PySem.W.nsIn K mainGlobals "max" = some none)
    (z_min : PySem.W.nsIn K mainGlobals "min" = some none)
    (z_range : PySem.W.nsIn K mainGlobals "range" = some none)
    (z_all : PySem.W.nsIn K mainGlobals "all" = some none)
    (z_repr : PySem.W.nsIn K mainGlobals "repr" = some none)
    (z_str : PySem.W.nsIn K mainGlobals "str" = some none)
    (z_enumerate : PySem.W.nsIn K mainGlobals "enumerate" = some none)
    (a_is_integer : PySem.W.nsIn K mainGlobals "is_integer" = some (some (.ref f_is_integer)))
    (l_is_integer : K.lookup f_is_integer = some ⟨oc_is_integer, od_is_integer, .func (PySem.W.fnOf "is_integer" "is_integer" (defArgs s_is_integer) (defBody s_is_integer) (defScope s_is_integer) .none kV_is_integer dc_is_integer pm_is_integer an_is_integer cd_is_integer ct_is_integer), sl_is_integer⟩)
    (c_is_integer : PySem.W.codeIn K cd_is_integer "is_integer" = true)
    (k_is_integer : PySem.W.keepIn K (.ref f_is_integer) = true)
    (a_is_integer_within : PySem.W.nsIn K mainGlobals "is_integer_within" = some (some (.ref f_is_integer_within)))
    (l_is_integer_within : K.lookup f_is_integer_within = some ⟨oc_is_integer_within, od_is_integer_within, .func (PySem.W.fnOf "is_integer_within" "is_integer_within" (defArgs s_is_integer_within) (defBody s_is_integer_within) (defScope s_is_integer_within) .none kV_is_integer_within dc_is_integer_within pm_is_integer_within an_is_integer_within cd_is_integer_within ct_is_integer_within), sl_is_integer_within⟩)
    (c_is_integer_within : PySem.W.codeIn K cd_is_integer_within "is_integer_within" = true)
    (k_is_integer_within : PySem.W.keepIn K (.ref f_is_integer_within) = true)
    (a_is_pair_of_integers : PySem.W.nsIn K mainGlobals "is_pair_of_integers" = some (some (.ref f_is_pair_of_integers)))
    (l_is_pair_of_integers : K.lookup f_is_pair_of_integers = some ⟨oc_is_pair_of_integers, od_is_pair_of_integers, .func (PySem.W.fnOf "is_pair_of_integers" "is_pair_of_integers" (defArgs s_is_pair_of_integers) (defBody s_is_pair_of_integers) (defScope s_is_pair_of_integers) .none kV_is_pair_of_integers dc_is_pair_of_integers pm_is_pair_of_integers an_is_pair_of_integers cd_is_pair_of_integers ct_is_pair_of_integers), sl_is_pair_of_integers⟩)
    (c_is_pair_of_integers : PySem.W.codeIn K cd_is_pair_of_integers "is_pair_of_integers" = true)
    (k_is_pair_of_integers : PySem.W.keepIn K (.ref f_is_pair_of_integers) = true)
    (a_is_resistance : PySem.W.nsIn K mainGlobals "is_resistance" = some (some (.ref f_is_resistance)))
    (l_is_resistance : K.lookup f_is_resistance = some ⟨oc_is_resistance, od_is_resistance, .func (PySem.W.fnOf "is_resistance" "is_resistance" (defArgs s_is_resistance) (defBody s_is_resistance) (defScope s_is_resistance) .none kV_is_resistance dc_is_resistance pm_is_resistance an_is_resistance cd_is_resistance ct_is_resistance), sl_is_resistance⟩)
    (c_is_resistance : PySem.W.codeIn K cd_is_resistance "is_resistance" = true)
    (k_is_resistance : PySem.W.keepIn K (.ref f_is_resistance) = true)
    (a_pair_of : PySem.W.nsIn K mainGlobals "pair_of" = some (some (.ref f_pair_of)))
    (l_pair_of : K.lookup f_pair_of = some ⟨oc_pair_of, od_pair_of, .func (PySem.W.fnOf "pair_of" "pair_of" (defArgs s_pair_of) (defBody s_pair_of) (defScope s_pair_of) .none kV_pair_of dc_pair_of pm_pair_of an_pair_of cd_pair_of ct_pair_of), sl_pair_of⟩)
    (c_pair_of : PySem.W.codeIn K cd_pair_of "pair_of" = true)
    (k_pair_of : PySem.W.keepIn K (.ref f_pair_of) = true)
    (a_common_divisor : PySem.W.nsIn K mainGlobals "common_divisor" = some (some (.ref f_common_divisor)))
    (l_common_divisor : K.lookup f_common_divisor = some ⟨oc_common_divisor, od_common_divisor, .func (PySem.W.fnOf "common_divisor" "common_divisor" (defArgs s_common_divisor) (defBody s_common_divisor) (defScope s_common_divisor) .none kV_common_divisor dc_common_divisor pm_common_divisor an_common_divisor cd_common_divisor ct_common_divisor), sl_common_divisor⟩)
    (c_common_divisor : PySem.W.codeIn K cd_common_divisor "common_divisor" = true)
    (k_common_divisor : PySem.W.keepIn K (.ref f_common_divisor) = true)
    (a_lowest_terms : PySem.W.nsIn K mainGlobals "lowest_terms" = some (some (.ref f_lowest_terms)))
    (l_lowest_terms : K.lookup f_lowest_terms = some ⟨oc_lowest_terms, od_lowest_terms, .func (PySem.W.fnOf "lowest_terms" "lowest_terms" (defArgs s_lowest_terms) (defBody s_lowest_terms) (defScope s_lowest_terms) .none kV_lowest_terms dc_lowest_terms pm_lowest_terms an_lowest_terms cd_lowest_terms ct_lowest_terms), sl_lowest_terms⟩)
    (c_lowest_terms : PySem.W.codeIn K cd_lowest_terms "lowest_terms" = true)
    (k_lowest_terms : PySem.W.keepIn K (.ref f_lowest_terms) = true)
    (a_lowest_pair : PySem.W.nsIn K mainGlobals "lowest_pair" = some (some (.ref f_lowest_pair)))
    (l_lowest_pair : K.lookup f_lowest_pair = some ⟨oc_lowest_pair, od_lowest_pair, .func (PySem.W.fnOf "lowest_pair" "lowest_pair" (defArgs s_lowest_pair) (defBody s_lowest_pair) (defScope s_lowest_pair) .none kV_lowest_pair dc_lowest_pair pm_lowest_pair an_lowest_pair cd_lowest_pair ct_lowest_pair), sl_lowest_pair⟩)
    (c_lowest_pair : PySem.W.codeIn K cd_lowest_pair "lowest_pair" = true)
    (k_lowest_pair : PySem.W.keepIn K (.ref f_lowest_pair) = true)
    (a_is_piece : PySem.W.nsIn K mainGlobals "is_piece" = some (some (.ref f_is_piece)))
    (l_is_piece : K.lookup f_is_piece = some ⟨oc_is_piece, od_is_piece, .func (PySem.W.fnOf "is_piece" "is_piece" (defArgs s_is_piece) (defBody s_is_piece) (defScope s_is_piece) .none kV_is_piece dc_is_piece pm_is_piece an_is_piece cd_is_piece ct_is_piece), sl_is_piece⟩)
    (c_is_piece : PySem.W.codeIn K cd_is_piece "is_piece" = true)
    (k_is_piece : PySem.W.keepIn K (.ref f_is_piece) = true)
    (a_checked_row : PySem.W.nsIn K mainGlobals "checked_row" = some (some (.ref f_checked_row)))
    (l_checked_row : K.lookup f_checked_row = some ⟨oc_checked_row, od_checked_row, .func (PySem.W.fnOf "checked_row" "checked_row" (defArgs s_checked_row) (defBody s_checked_row) (defScope s_checked_row) .none kV_checked_row dc_checked_row pm_checked_row an_checked_row cd_checked_row ct_checked_row), sl_checked_row⟩)
    (c_checked_row : PySem.W.codeIn K cd_checked_row "checked_row" = true)
    (k_checked_row : PySem.W.keepIn K (.ref f_checked_row) = true)
    (a_matrix_and_scale : PySem.W.nsIn K mainGlobals "matrix_and_scale" = some (some (.ref f_matrix_and_scale)))
    (l_matrix_and_scale : K.lookup f_matrix_and_scale = some ⟨oc_matrix_and_scale, od_matrix_and_scale, .func (PySem.W.fnOf "matrix_and_scale" "matrix_and_scale" (defArgs s_matrix_and_scale) (defBody s_matrix_and_scale) (defScope s_matrix_and_scale) .none kV_matrix_and_scale dc_matrix_and_scale pm_matrix_and_scale an_matrix_and_scale cd_matrix_and_scale ct_matrix_and_scale), sl_matrix_and_scale⟩)
    (c_matrix_and_scale : PySem.W.codeIn K cd_matrix_and_scale "matrix_and_scale" = true)
    (k_matrix_and_scale : PySem.W.keepIn K (.ref f_matrix_and_scale) = true)
    (a_shown_before : PySem.W.nsIn K mainGlobals "shown_before" = some (some (.ref f_shown_before)))
    (l_shown_before : K.lookup f_shown_before = some ⟨oc_shown_before, od_shown_before, .func (PySem.W.fnOf "shown_before" "shown_before" (defArgs s_shown_before) (defBody s_shown_before) (defScope s_shown_before) .none kV_shown_before dc_shown_before pm_shown_before an_shown_before cd_shown_before ct_shown_before), sl_shown_before⟩)
    (c_shown_before : PySem.W.codeIn K cd_shown_before "shown_before" = true)
    (k_shown_before : PySem.W.keepIn K (.ref f_shown_before) = true)
    (a_piece_text : PySem.W.nsIn K mainGlobals "piece_text" = some (some (.ref f_piece_text)))
    (l_piece_text : K.lookup f_piece_text = some ⟨oc_piece_text, od_piece_text, .func (PySem.W.fnOf "piece_text" "piece_text" (defArgs s_piece_text) (defBody s_piece_text) (defScope s_piece_text) .none kV_piece_text dc_piece_text pm_piece_text an_piece_text cd_piece_text ct_piece_text), sl_piece_text⟩)
    (c_piece_text : PySem.W.codeIn K cd_piece_text "piece_text" = true)
    (k_piece_text : PySem.W.keepIn K (.ref f_piece_text) = true)
    (a_piece_with_text : PySem.W.nsIn K mainGlobals "piece_with_text" = some (some (.ref f_piece_with_text)))
    (l_piece_with_text : K.lookup f_piece_with_text = some ⟨oc_piece_with_text, od_piece_with_text, .func (PySem.W.fnOf "piece_with_text" "piece_with_text" (defArgs s_piece_with_text) (defBody s_piece_with_text) (defScope s_piece_with_text) .none kV_piece_with_text dc_piece_with_text pm_piece_with_text an_piece_with_text cd_piece_with_text ct_piece_with_text), sl_piece_with_text⟩)
    (c_piece_with_text : PySem.W.codeIn K cd_piece_with_text "piece_with_text" = true)
    (k_piece_with_text : PySem.W.keepIn K (.ref f_piece_with_text) = true)
    (a_law_cup : PySem.W.nsIn K mainGlobals "_law_cup" = some (some (.ref f_law_cup)))
    (l_law_cup : K.lookup f_law_cup = some ⟨oc_law_cup, od_law_cup, .func (PySem.W.fnOf "_law_cup" "_law_cup" (defArgs s_law_cup) (defBody s_law_cup) (defScope s_law_cup) .none kV_law_cup dc_law_cup pm_law_cup an_law_cup cd_law_cup ct_law_cup), sl_law_cup⟩)
    (c_law_cup : PySem.W.codeIn K cd_law_cup "_law_cup" = true)
    (k_law_cup : PySem.W.keepIn K (.ref f_law_cup) = true)
    (a_law_sip : PySem.W.nsIn K mainGlobals "_law_sip" = some (some (.ref f_law_sip)))
    (l_law_sip : K.lookup f_law_sip = some ⟨oc_law_sip, od_law_sip, .func (PySem.W.fnOf "_law_sip" "_law_sip" (defArgs s_law_sip) (defBody s_law_sip) (defScope s_law_sip) .none kV_law_sip dc_law_sip pm_law_sip an_law_sip cd_law_sip ct_law_sip), sl_law_sip⟩)
    (c_law_sip : PySem.W.codeIn K cd_law_sip "_law_sip" = true)
    (k_law_sip : PySem.W.keepIn K (.ref f_law_sip) = true)
    (a_law_pick : PySem.W.nsIn K mainGlobals "_law_pick" = some (some (.ref f_law_pick)))
    (l_law_pick : K.lookup f_law_pick = some ⟨oc_law_pick, od_law_pick, .func (PySem.W.fnOf "_law_pick" "_law_pick" (defArgs s_law_pick) (defBody s_law_pick) (defScope s_law_pick) .none kV_law_pick dc_law_pick pm_law_pick an_law_pick cd_law_pick ct_law_pick), sl_law_pick⟩)
    (c_law_pick : PySem.W.codeIn K cd_law_pick "_law_pick" = true)
    (k_law_pick : PySem.W.keepIn K (.ref f_law_pick) = true)
    (caC : PySem.W.findIn K (.ref C) "__class__" = some (some (.builtin "object.__class__")))
    (cmC : PySem.W.mroIn K C (.type "object") = some true)
    (aGP : PySem.W.nsIn K mainGlobals "GREATEST_PART" = some (some (.int 10000000000000000000000000000000000000000 tP)))
    (aMS : PySem.W.nsIn K mainGlobals "MOST_SECTIONS" = some (some (.int 100 tC)))
    (aCe : PySem.W.nsIn K mainGlobals "Exact" = some (some (.ref Ce)))
    (pgCe : PySem.W.plainGet K Ce Str.empty = true)
    (hdCe : PySem.W.hasDictIn K Ce = true)
    (poCe : PySem.W.plainOver K Ce = true)
    (saCe : PySem.W.findIn K (.ref Ce) "__setattr__" = some (some (.builtin "object.__setattr__")))
    (mkCe : PySem.W.makesIn K Ce = true)
    (kcCe : PySem.W.keepIn K (.ref Ce) = true)
    (nCe_parts : PySem.W.findIn K (.ref Ce) "parts" = some none)
    (caCe : PySem.W.findIn K (.ref Ce) "__class__" = some (some (.builtin "object.__class__")))
    (cmCe : PySem.W.mroIn K Ce (.type "object") = some true)
    (aCl : PySem.W.nsIn K mainGlobals "Ladder" = some (some (.ref Cl)))
    (pgCl : PySem.W.plainGet K Cl Str.empty = true)
    (hdCl : PySem.W.hasDictIn K Cl = true)
    (poCl : PySem.W.plainOver K Cl = true)
    (saCl : PySem.W.findIn K (.ref Cl) "__setattr__" = some (some (.builtin "object.__setattr__")))
    (mkCl : PySem.W.makesIn K Cl = true)
    (kcCl : PySem.W.keepIn K (.ref Cl) = true)
    (nCl_section : PySem.W.findIn K (.ref Cl) "section" = some none)
    (nCl_behind : PySem.W.findIn K (.ref Cl) "behind" = some none)
    (nCl_far : PySem.W.findIn K (.ref Cl) "far" = some none)
    (a_is_count : PySem.W.nsIn K mainGlobals "is_count" = some (some (.ref f_is_count)))
    (l_is_count : K.lookup f_is_count = some ⟨oc_is_count, od_is_count, .func (PySem.W.fnOf "is_count" "is_count" (defArgs s_is_count) (defBody s_is_count) (defScope s_is_count) .none kV_is_count dc_is_count pm_is_count an_is_count cd_is_count ct_is_count), sl_is_count⟩)
    (c_is_count : PySem.W.codeIn K cd_is_count "is_count" = true)
    (k_is_count : PySem.W.keepIn K (.ref f_is_count) = true)
    (a_fraction_text : PySem.W.nsIn K mainGlobals "fraction_text" = some (some (.ref f_fraction_text)))
    (l_fraction_text : K.lookup f_fraction_text = some ⟨oc_fraction_text, od_fraction_text, .func (PySem.W.fnOf "fraction_text" "fraction_text" (defArgs s_fraction_text) (defBody s_fraction_text) (defScope s_fraction_text) .none kV_fraction_text dc_fraction_text pm_fraction_text an_fraction_text cd_fraction_text ct_fraction_text), sl_fraction_text⟩)
    (c_fraction_text : PySem.W.codeIn K cd_fraction_text "fraction_text" = true)
    (k_fraction_text : PySem.W.keepIn K (.ref f_fraction_text) = true)
    (a_sign : PySem.W.nsIn K mainGlobals "sign" = some (some (.ref f_sign)))
    (l_sign : K.lookup f_sign = some ⟨oc_sign, od_sign, .func (PySem.W.fnOf "sign" "sign" (defArgs s_sign) (defBody s_sign) (defScope s_sign) .none kV_sign dc_sign pm_sign an_sign cd_sign ct_sign), sl_sign⟩)
    (c_sign : PySem.W.codeIn K cd_sign "sign" = true)
    (k_sign : PySem.W.keepIn K (.ref f_sign) = true)
    (a_square_root : PySem.W.nsIn K mainGlobals "square_root" = some (some (.ref f_square_root)))
    (l_square_root : K.lookup f_square_root = some ⟨oc_square_root, od_square_root, .func (PySem.W.fnOf "square_root" "square_root" (defArgs s_square_root) (defBody s_square_root) (defScope s_square_root) .none kV_square_root dc_square_root pm_square_root an_square_root cd_square_root ct_square_root), sl_square_root⟩)
    (c_square_root : PySem.W.codeIn K cd_square_root "square_root" = true)
    (k_square_root : PySem.W.keepIn K (.ref f_square_root) = true)
    (a_under_root : PySem.W.nsIn K mainGlobals "under_root" = some (some (.ref f_under_root)))
    (l_under_root : K.lookup f_under_root = some ⟨oc_under_root, od_under_root, .func (PySem.W.fnOf "under_root" "under_root" (defArgs s_under_root) (defBody s_under_root) (defScope s_under_root) .none kV_under_root dc_under_root pm_under_root an_under_root cd_under_root ct_under_root), sl_under_root⟩)
    (c_under_root : PySem.W.codeIn K cd_under_root "under_root" = true)
    (k_under_root : PySem.W.keepIn K (.ref f_under_root) = true)
    (a_equation_of_fraction : PySem.W.nsIn K mainGlobals "equation_of_fraction" = some (some (.ref f_equation_of_fraction)))
    (l_equation_of_fraction : K.lookup f_equation_of_fraction = some ⟨oc_equation_of_fraction, od_equation_of_fraction, .func (PySem.W.fnOf "equation_of_fraction" "equation_of_fraction" (defArgs s_equation_of_fraction) (defBody s_equation_of_fraction) (defScope s_equation_of_fraction) .none kV_equation_of_fraction dc_equation_of_fraction pm_equation_of_fraction an_equation_of_fraction cd_equation_of_fraction ct_equation_of_fraction), sl_equation_of_fraction⟩)
    (c_equation_of_fraction : PySem.W.codeIn K cd_equation_of_fraction "equation_of_fraction" = true)
    (k_equation_of_fraction : PySem.W.keepIn K (.ref f_equation_of_fraction) = true)
    (a_simplest_equation : PySem.W.nsIn K mainGlobals "simplest_equation" = some (some (.ref f_simplest_equation)))
    (l_simplest_equation : K.lookup f_simplest_equation = some ⟨oc_simplest_equation, od_simplest_equation, .func (PySem.W.fnOf "simplest_equation" "simplest_equation" (defArgs s_simplest_equation) (defBody s_simplest_equation) (defScope s_simplest_equation) .none kV_simplest_equation dc_simplest_equation pm_simplest_equation an_simplest_equation cd_simplest_equation ct_simplest_equation), sl_simplest_equation⟩)
    (c_simplest_equation : PySem.W.codeIn K cd_simplest_equation "simplest_equation" = true)
    (k_simplest_equation : PySem.W.keepIn K (.ref f_simplest_equation) = true)
    (a_with_commas : PySem.W.nsIn K mainGlobals "with_commas" = some (some (.ref f_with_commas)))
    (l_with_commas : K.lookup f_with_commas = some ⟨oc_with_commas, od_with_commas, .func (PySem.W.fnOf "with_commas" "with_commas" (defArgs s_with_commas) (defBody s_with_commas) (defScope s_with_commas) .none kV_with_commas dc_with_commas pm_with_commas an_with_commas cd_with_commas ct_with_commas), sl_with_commas⟩)
    (c_with_commas : PySem.W.codeIn K cd_with_commas "with_commas" = true)
    (k_with_commas : PySem.W.keepIn K (.ref f_with_commas) = true)
    (a_pair_order : PySem.W.nsIn K mainGlobals "pair_order" = some (some (.ref f_pair_order)))
    (l_pair_order : K.lookup f_pair_order = some ⟨oc_pair_order, od_pair_order, .func (PySem.W.fnOf "pair_order" "pair_order" (defArgs s_pair_order) (defBody s_pair_order) (defScope s_pair_order) .none kV_pair_order dc_pair_order pm_pair_order an_pair_order cd_pair_order ct_pair_order), sl_pair_order⟩)
    (c_pair_order : PySem.W.codeIn K cd_pair_order "pair_order" = true)
    (k_pair_order : PySem.W.keepIn K (.ref f_pair_order) = true)
    (a_check_resistance : PySem.W.nsIn K mainGlobals "check_resistance" = some (some (.ref f_check_resistance)))
    (l_check_resistance : K.lookup f_check_resistance = some ⟨oc_check_resistance, od_check_resistance, .func (PySem.W.fnOf "check_resistance" "check_resistance" (defArgs s_check_resistance) (defBody s_check_resistance) (defScope s_check_resistance) .none kV_check_resistance dc_check_resistance pm_check_resistance an_check_resistance cd_check_resistance ct_check_resistance), sl_check_resistance⟩)
    (c_check_resistance : PySem.W.codeIn K cd_check_resistance "check_resistance" = true)
    (k_check_resistance : PySem.W.keepIn K (.ref f_check_resistance) = true)
    (a_check_count : PySem.W.nsIn K mainGlobals "check_count" = some (some (.ref f_check_count)))
    (l_check_count : K.lookup f_check_count = some ⟨oc_check_count, od_check_count, .func (PySem.W.fnOf "check_count" "check_count" (defArgs s_check_count) (defBody s_check_count) (defScope s_check_count) .none kV_check_count dc_check_count pm_check_count an_check_count cd_check_count ct_check_count), sl_check_count⟩)
    (c_check_count : PySem.W.codeIn K cd_check_count "check_count" = true)
    (k_check_count : PySem.W.keepIn K (.ref f_check_count) = true)
    (a_Exact_init : PySem.W.findIn K (.ref Ce) "__init__" = some (some (.ref f_Exact_init)))
    (i_Exact_init : PySem.W.isFn K (.ref f_Exact_init) = true)
    (l_Exact_init : K.lookup f_Exact_init = some ⟨oc_Exact_init, od_Exact_init, .func (PySem.W.fnOf "__init__" "Exact.__init__" (defArgs s_Exact_init) (defBody s_Exact_init) (defScope s_Exact_init) .none kV_Exact_init dc_Exact_init pm_Exact_init an_Exact_init cd_Exact_init ct_Exact_init), sl_Exact_init⟩)
    (c_Exact_init : PySem.W.codeIn K cd_Exact_init "Exact.__init__" = true)
    (k_Exact_init : PySem.W.keepIn K (.ref f_Exact_init) = true)
    (a_check_pattern : PySem.W.nsIn K mainGlobals "check_pattern" = some (some (.ref f_check_pattern)))
    (l_check_pattern : K.lookup f_check_pattern = some ⟨oc_check_pattern, od_check_pattern, .func (PySem.W.fnOf "check_pattern" "check_pattern" (defArgs s_check_pattern) (defBody s_check_pattern) (defScope s_check_pattern) .none kV_check_pattern dc_check_pattern pm_check_pattern an_check_pattern cd_check_pattern ct_check_pattern), sl_check_pattern⟩)
    (c_check_pattern : PySem.W.codeIn K cd_check_pattern "check_pattern" = true)
    (k_check_pattern : PySem.W.keepIn K (.ref f_check_pattern) = true)
    (a_ladder_limit : PySem.W.nsIn K mainGlobals "ladder_limit" = some (some (.ref f_ladder_limit)))
    (l_ladder_limit : K.lookup f_ladder_limit = some ⟨oc_ladder_limit, od_ladder_limit, .func (PySem.W.fnOf "ladder_limit" "ladder_limit" (defArgs s_ladder_limit) (defBody s_ladder_limit) (defScope s_ladder_limit) .none kV_ladder_limit dc_ladder_limit pm_ladder_limit an_ladder_limit cd_ladder_limit ct_ladder_limit), sl_ladder_limit⟩)
    (c_ladder_limit : PySem.W.codeIn K cd_ladder_limit "ladder_limit" = true)
    (k_ladder_limit : PySem.W.keepIn K (.ref f_ladder_limit) = true)
    (a_Ladder_init : PySem.W.findIn K (.ref Cl) "__init__" = some (some (.ref f_Ladder_init)))
    (i_Ladder_init : PySem.W.isFn K (.ref f_Ladder_init) = true)
    (l_Ladder_init : K.lookup f_Ladder_init = some ⟨oc_Ladder_init, od_Ladder_init, .func (PySem.W.fnOf "__init__" "Ladder.__init__" (defArgs s_Ladder_init) (defBody s_Ladder_init) (defScope s_Ladder_init) .none kV_Ladder_init dc_Ladder_init pm_Ladder_init an_Ladder_init cd_Ladder_init ct_Ladder_init), sl_Ladder_init⟩)
    (c_Ladder_init : PySem.W.codeIn K cd_Ladder_init "Ladder.__init__" = true)
    (k_Ladder_init : PySem.W.keepIn K (.ref f_Ladder_init) = true)
    (a_Ladder_after : PySem.W.findIn K (.ref Cl) "after" = some (some (.ref f_Ladder_after)))
    (i_Ladder_after : PySem.W.isFn K (.ref f_Ladder_after) = true)
    (l_Ladder_after : K.lookup f_Ladder_after = some ⟨oc_Ladder_after, od_Ladder_after, .func (PySem.W.fnOf "after" "Ladder.after" (defArgs s_Ladder_after) (defBody s_Ladder_after) (defScope s_Ladder_after) .none kV_Ladder_after dc_Ladder_after pm_Ladder_after an_Ladder_after cd_Ladder_after ct_Ladder_after), sl_Ladder_after⟩)
    (c_Ladder_after : PySem.W.codeIn K cd_Ladder_after "Ladder.after" = true)
    (k_Ladder_after : PySem.W.keepIn K (.ref f_Ladder_after) = true)
    (a_Ladder_call : PySem.W.findIn K (.ref Cl) "__call__" = some (some (.ref f_Ladder_call)))
    (i_Ladder_call : PySem.W.isFn K (.ref f_Ladder_call) = true)
    (l_Ladder_call : K.lookup f_Ladder_call = some ⟨oc_Ladder_call, od_Ladder_call, .func (PySem.W.fnOf "__call__" "Ladder.__call__" (defArgs s_Ladder_call) (defBody s_Ladder_call) (defScope s_Ladder_call) .none kV_Ladder_call dc_Ladder_call pm_Ladder_call an_Ladder_call cd_Ladder_call ct_Ladder_call), sl_Ladder_call⟩)
    (c_Ladder_call : PySem.W.codeIn K cd_Ladder_call "Ladder.__call__" = true)
    (k_Ladder_call : PySem.W.keepIn K (.ref f_Ladder_call) = true)
    (fi_lcall : PySem.W.fnIn K f_Ladder_call = true)
    (pa_Ladder_goes : PySem.W.findIn K (.ref Cl) "goes" = some (some (.ref pr_Ladder_goes)))
    (pg_Ladder_goes : PySem.W.specialIn K (.ref pr_Ladder_goes) "__get__" = some (some (.builtin "property.__get__")))
    (pt_Ladder_goes : PySem.W.takesIn K (.ref pr_Ladder_goes) = some true)
    (pc_Ladder_goes : PySem.W.recIn K pr_Ladder_goes "property" = some (.ref f_Ladder_goes :: rest_Ladder_goes))
    (l_Ladder_goes : K.lookup f_Ladder_goes = some ⟨oc_Ladder_goes, od_Ladder_goes, .func (PySem.W.fnOf "goes" "Ladder.goes" (defArgs s_Ladder_goes) (defBody s_Ladder_goes) (defScope s_Ladder_goes) .none kV_Ladder_goes dc_Ladder_goes pm_Ladder_goes an_Ladder_goes cd_Ladder_goes ct_Ladder_goes), sl_Ladder_goes⟩)
    (c_Ladder_goes : PySem.W.codeIn K cd_Ladder_goes "Ladder.goes" = true)
    (k_Ladder_goes : PySem.W.keepIn K (.ref f_Ladder_goes) = true)
    (pa_Ladder_limit : PySem.W.findIn K (.ref Cl) "limit" = some (some (.ref pr_Ladder_limit)))
    (pg_Ladder_limit : PySem.W.specialIn K (.ref pr_Ladder_limit) "__get__" = some (some (.builtin "property.__get__")))
    (pt_Ladder_limit : PySem.W.takesIn K (.ref pr_Ladder_limit) = some true)
    (pc_Ladder_limit : PySem.W.recIn K pr_Ladder_limit "property" = some (.ref f_Ladder_limit :: rest_Ladder_limit))
    (l_Ladder_limit : K.lookup f_Ladder_limit = some ⟨oc_Ladder_limit, od_Ladder_limit, .func (PySem.W.fnOf "limit" "Ladder.limit" (defArgs s_Ladder_limit) (defBody s_Ladder_limit) (defScope s_Ladder_limit) .none kV_Ladder_limit dc_Ladder_limit pm_Ladder_limit an_Ladder_limit cd_Ladder_limit ct_Ladder_limit), sl_Ladder_limit⟩)
    (c_Ladder_limit : PySem.W.codeIn K cd_Ladder_limit "Ladder.limit" = true)
    (k_Ladder_limit : PySem.W.keepIn K (.ref f_Ladder_limit) = true)
    (pa_Exact_equation : PySem.W.findIn K (.ref Ce) "equation" = some (some (.ref pr_Exact_equation)))
    (pg_Exact_equation : PySem.W.specialIn K (.ref pr_Exact_equation) "__get__" = some (some (.builtin "property.__get__")))
    (pt_Exact_equation : PySem.W.takesIn K (.ref pr_Exact_equation) = some true)
    (pc_Exact_equation : PySem.W.recIn K pr_Exact_equation "property" = some (.ref f_Exact_equation :: rest_Exact_equation))
    (l_Exact_equation : K.lookup f_Exact_equation = some ⟨oc_Exact_equation, od_Exact_equation, .func (PySem.W.fnOf "equation" "Exact.equation" (defArgs s_Exact_equation) (defBody s_Exact_equation) (defScope s_Exact_equation) .none kV_Exact_equation dc_Exact_equation pm_Exact_equation an_Exact_equation cd_Exact_equation ct_Exact_equation), sl_Exact_equation⟩)
    (c_Exact_equation : PySem.W.codeIn K cd_Exact_equation "Exact.equation" = true)
    (k_Exact_equation : PySem.W.keepIn K (.ref f_Exact_equation) = true)
    (pa_Exact_fraction : PySem.W.findIn K (.ref Ce) "fraction" = some (some (.ref pr_Exact_fraction)))
    (pg_Exact_fraction : PySem.W.specialIn K (.ref pr_Exact_fraction) "__get__" = some (some (.builtin "property.__get__")))
    (pt_Exact_fraction : PySem.W.takesIn K (.ref pr_Exact_fraction) = some true)
    (pc_Exact_fraction : PySem.W.recIn K pr_Exact_fraction "property" = some (.ref f_Exact_fraction :: rest_Exact_fraction))
    (l_Exact_fraction : K.lookup f_Exact_fraction = some ⟨oc_Exact_fraction, od_Exact_fraction, .func (PySem.W.fnOf "fraction" "Exact.fraction" (defArgs s_Exact_fraction) (defBody s_Exact_fraction) (defScope s_Exact_fraction) .none kV_Exact_fraction dc_Exact_fraction pm_Exact_fraction an_Exact_fraction cd_Exact_fraction ct_Exact_fraction), sl_Exact_fraction⟩)
    (c_Exact_fraction : PySem.W.codeIn K cd_Exact_fraction "Exact.fraction" = true)
    (k_Exact_fraction : PySem.W.keepIn K (.ref f_Exact_fraction) = true)
    (a_law_row : PySem.W.nsIn K mainGlobals "_law_row" = some (some (.ref f_law_row)))
    (l_law_row : K.lookup f_law_row = some ⟨oc_law_row, od_law_row, .func (PySem.W.fnOf "_law_row" "_law_row" (defArgs s_law_row) (defBody s_law_row) (defScope s_law_row) .none kV_law_row dc_law_row pm_law_row an_law_row cd_law_row ct_law_row), sl_law_row⟩)
    (c_law_row : PySem.W.codeIn K cd_law_row "_law_row" = true)
    (k_law_row : PySem.W.keepIn K (.ref f_law_row) = true)
    (a_law_words : PySem.W.nsIn K mainGlobals "_law_words" = some (some (.ref f_law_words)))
    (l_law_words : K.lookup f_law_words = some ⟨oc_law_words, od_law_words, .func (PySem.W.fnOf "_law_words" "_law_words" (defArgs s_law_words) (defBody s_law_words) (defScope s_law_words) .none kV_law_words dc_law_words pm_law_words an_law_words cd_law_words ct_law_words), sl_law_words⟩)
    (c_law_words : PySem.W.codeIn K cd_law_words "_law_words" = true)
    (k_law_words : PySem.W.keepIn K (.ref f_law_words) = true)
    (a_law_read : PySem.W.nsIn K mainGlobals "_law_read" = some (some (.ref f_law_read)))
    (l_law_read : K.lookup f_law_read = some ⟨oc_law_read, od_law_read, .func (PySem.W.fnOf "_law_read" "_law_read" (defArgs s_law_read) (defBody s_law_read) (defScope s_law_read) .none kV_law_read dc_law_read pm_law_read an_law_read cd_law_read ct_law_read), sl_law_read⟩)
    (c_law_read : PySem.W.codeIn K cd_law_read "_law_read" = true)
    (k_law_read : PySem.W.keepIn K (.ref f_law_read) = true)
    (aX0 : PySem.W.nsIn K mainGlobals "NotAPattern" = some (some (.ref X0)))
    (aX1 : PySem.W.nsIn K mainGlobals "NotARun" = some (some (.ref X1)))
    (aX2 : PySem.W.nsIn K mainGlobals "InvalidResistance" = some (some (.ref X2)))
    (aX3 : PySem.W.nsIn K mainGlobals "InvalidCount" = some (some (.ref X3)))
    (aX4 : PySem.W.nsIn K mainGlobals "InvalidNumber" = some (some (.ref X4)))
    (aX5 : PySem.W.nsIn K mainGlobals "InvalidText" = some (some (.ref X5)))
    (aX6 : PySem.W.nsIn K mainGlobals "InvalidName" = some (some (.ref X6)))
    (aX7 : PySem.W.nsIn K mainGlobals "InvalidClaim" = some (some (.ref X7)))
    (aX8 : PySem.W.nsIn K mainGlobals "InvalidIndex" = some (some (.ref X8)))
    (aX9 : PySem.W.nsIn K mainGlobals "InvalidPieces" = some (some (.ref X9)))
    (aX10 : PySem.W.nsIn K mainGlobals "InvalidKinds" = some (some (.ref X10)))
    (aX11 : PySem.W.nsIn K mainGlobals "InvalidStretches" = some (some (.ref X11)))
    (aX12 : PySem.W.nsIn K mainGlobals "InvalidDeeds" = some (some (.ref X12)))
    (aX13 : PySem.W.nsIn K mainGlobals "UnknownName" = some (some (.ref X13)))
    (aX14 : PySem.W.nsIn K mainGlobals "InUse" = some (some (.ref X14)))
    (aX15 : PySem.W.nsIn K mainGlobals "TooMany" = some (some (.ref X15)))
    (aX16 : PySem.W.nsIn K mainGlobals "Broken" = some (some (.ref X16)))
    (aX17 : PySem.W.nsIn K mainGlobals "NoLimit" = some (some (.ref X17)))
    (aX18 : PySem.W.nsIn K mainGlobals "NothingToUndo" = some (some (.ref X18)))
    (aX19 : PySem.W.nsIn K mainGlobals "WrongValue" = some (some (.ref X19)))
    (aX20 : PySem.W.nsIn K mainGlobals "WrongName" = some (some (.ref X20)))
    (aX21 : PySem.W.nsIn K mainGlobals "NoAnswer" = some (some (.ref X21)))
    (z_ValueError : PySem.W.nsIn K mainGlobals "ValueError" = some none)
    (z_LookupError : PySem.W.nsIn K mainGlobals "LookupError" = some none)
    (z_ArithmeticError : PySem.W.nsIn K mainGlobals "ArithmeticError" = some none)
    (a_WrongValue_init : PySem.W.findIn K (.ref X19) "__init__" = some (some (.ref f_WrongValue_init)))
    (i_WrongValue_init : PySem.W.isFn K (.ref f_WrongValue_init) = true)
    (l_WrongValue_init : K.lookup f_WrongValue_init = some ⟨oc_WrongValue_init, od_WrongValue_init, .func (PySem.W.fnOf "__init__" "WrongValue.__init__" (defArgs s_WrongValue_init) (defBody s_WrongValue_init) (defScope s_WrongValue_init) .none kV_WrongValue_init dc_WrongValue_init pm_WrongValue_init an_WrongValue_init cd_WrongValue_init ct_WrongValue_init), sl_WrongValue_init⟩)
    (c_WrongValue_init : PySem.W.codeIn K cd_WrongValue_init "WrongValue.__init__" = true)
    (k_WrongValue_init : PySem.W.keepIn K (.ref f_WrongValue_init) = true)
    (rd_19 : PySem.W.readsIn K X19 (.type "type") = true)
    (ga_19 : PySem.W.specialIn K (.ref X19) "__getattribute__" = some (some (.builtin "type.__getattribute__")))
    (fc_19 : PySem.W.findCls K (.ref X19) (.type "type") "__init__" = some (.val (.ref f_WrongValue_init)))
    (a_NotAPattern_init : PySem.W.findIn K (.ref X0) "__init__" = some (some (.ref f_NotAPattern_init)))
    (i_NotAPattern_init : PySem.W.isFn K (.ref f_NotAPattern_init) = true)
    (l_NotAPattern_init : K.lookup f_NotAPattern_init = some ⟨oc_NotAPattern_init, od_NotAPattern_init, .func (PySem.W.fnOf "__init__" "NotAPattern.__init__" (defArgs s_NotAPattern_init) (defBody s_NotAPattern_init) (defScope s_NotAPattern_init) .none kV_NotAPattern_init dc_NotAPattern_init pm_NotAPattern_init an_NotAPattern_init cd_NotAPattern_init ct_NotAPattern_init), sl_NotAPattern_init⟩)
    (c_NotAPattern_init : PySem.W.codeIn K cd_NotAPattern_init "NotAPattern.__init__" = true)
    (k_NotAPattern_init : PySem.W.keepIn K (.ref f_NotAPattern_init) = true)
    (xb_0 : xcB K X0 [.type "ValueError", .type "Exception", .type "BaseException", .type "object"] "ValueError.__new__" = true)
    (ro_0 : rowB K [X0, X1, X2, X3, X4, X5, X6, X7, X8, X9, X10, X11, X12, X13, X14, X15, X16, X17, X18, X19, X20, X21] 0 = true)
    (any_0 : PySem.W.exmAny K (.ref X0) [.ref X19, .ref X20, .ref X21] = some true)
    (ty_0 : PySem.W.typeIn K (.ref X0) = some (.type "type"))
    (no_0 : PySem.W.findIn K (.ref X0) "given" = some none)
    (a_InvalidResistance_init : PySem.W.findIn K (.ref X2) "__init__" = some (some (.ref f_InvalidResistance_init)))
    (i_InvalidResistance_init : PySem.W.isFn K (.ref f_InvalidResistance_init) = true)
    (l_InvalidResistance_init : K.lookup f_InvalidResistance_init = some ⟨oc_InvalidResistance_init, od_InvalidResistance_init, .func (PySem.W.fnOf "__init__" "InvalidResistance.__init__" (defArgs s_InvalidResistance_init) (defBody s_InvalidResistance_init) (defScope s_InvalidResistance_init) .none kV_InvalidResistance_init dc_InvalidResistance_init pm_InvalidResistance_init an_InvalidResistance_init cd_InvalidResistance_init ct_InvalidResistance_init), sl_InvalidResistance_init⟩)
    (c_InvalidResistance_init : PySem.W.codeIn K cd_InvalidResistance_init "InvalidResistance.__init__" = true)
    (k_InvalidResistance_init : PySem.W.keepIn K (.ref f_InvalidResistance_init) = true)
    (xb_2 : xcB K X2 [.type "ValueError", .type "Exception", .type "BaseException", .type "object"] "ValueError.__new__" = true)
    (ro_2 : rowB K [X0, X1, X2, X3, X4, X5, X6, X7, X8, X9, X10, X11, X12, X13, X14, X15, X16, X17, X18, X19, X20, X21] 2 = true)
    (any_2 : PySem.W.exmAny K (.ref X2) [.ref X19, .ref X20, .ref X21] = some true)
    (ty_2 : PySem.W.typeIn K (.ref X2) = some (.type "type"))
    (no_2 : PySem.W.findIn K (.ref X2) "given" = some none)
    (a_InvalidCount_init : PySem.W.findIn K (.ref X3) "__init__" = some (some (.ref f_InvalidCount_init)))
    (i_InvalidCount_init : PySem.W.isFn K (.ref f_InvalidCount_init) = true)
    (l_InvalidCount_init : K.lookup f_InvalidCount_init = some ⟨oc_InvalidCount_init, od_InvalidCount_init, .func (PySem.W.fnOf "__init__" "InvalidCount.__init__" (defArgs s_InvalidCount_init) (defBody s_InvalidCount_init) (defScope s_InvalidCount_init) .none kV_InvalidCount_init dc_InvalidCount_init pm_InvalidCount_init an_InvalidCount_init cd_InvalidCount_init ct_InvalidCount_init), sl_InvalidCount_init⟩)
    (c_InvalidCount_init : PySem.W.codeIn K cd_InvalidCount_init "InvalidCount.__init__" = true)
    (k_InvalidCount_init : PySem.W.keepIn K (.ref f_InvalidCount_init) = true)
    (xb_3 : xcB K X3 [.type "ValueError", .type "Exception", .type "BaseException", .type "object"] "ValueError.__new__" = true)
    (ro_3 : rowB K [X0, X1, X2, X3, X4, X5, X6, X7, X8, X9, X10, X11, X12, X13, X14, X15, X16, X17, X18, X19, X20, X21] 3 = true)
    (any_3 : PySem.W.exmAny K (.ref X3) [.ref X19, .ref X20, .ref X21] = some true)
    (ty_3 : PySem.W.typeIn K (.ref X3) = some (.type "type"))
    (no_3 : PySem.W.findIn K (.ref X3) "given" = some none)
    (a_law_classes : PySem.W.nsIn K mainGlobals "_law_classes" = some (some (.ref f_law_classes)))
    (l_law_classes : K.lookup f_law_classes = some ⟨oc_law_classes, od_law_classes, .func (PySem.W.fnOf "_law_classes" "_law_classes" (defArgs s_law_classes) (defBody s_law_classes) (defScope s_law_classes) .none kV_law_classes dc_law_classes pm_law_classes an_law_classes cd_law_classes ct_law_classes), sl_law_classes⟩)
    (c_law_classes : PySem.W.codeIn K cd_law_classes "_law_classes" = true)
    (k_law_classes : PySem.W.keepIn K (.ref f_law_classes) = true)
    (a_law_caught : PySem.W.nsIn K mainGlobals "_law_caught" = some (some (.ref f_law_caught)))
    (l_law_caught : K.lookup f_law_caught = some ⟨oc_law_caught, od_law_caught, .func (PySem.W.fnOf "_law_caught" "_law_caught" (defArgs s_law_caught) (defBody s_law_caught) (defScope s_law_caught) .none kV_law_caught dc_law_caught pm_law_caught an_law_caught cd_law_caught ct_law_caught), sl_law_caught⟩)
    (c_law_caught : PySem.W.codeIn K cd_law_caught "_law_caught" = true)
    (k_law_caught : PySem.W.keepIn K (.ref f_law_caught) = true)
    (kt_CNoneType : PySem.W.kitOne K (.type "NoneType") (.ref C) = some false)
    (kt_Cbool : PySem.W.kitOne K (.type "bool") (.ref C) = some false)
    (kt_Cint : PySem.W.kitOne K (.type "int") (.ref C) = some false)
    (kt_Cstr : PySem.W.kitOne K (.type "str") (.ref C) = some false)
    (kt_Clist : PySem.W.kitOne K (.type "list") (.ref C) = some false)
    (kt_Cdict : PySem.W.kitOne K (.type "dict") (.ref C) = some false)
    (kt_Ctuple : PySem.W.kitOne K (.type "tuple") (.ref C) = some false)
    (ns3 : PySem.W.subIn K (.ref X3) (.type "StopIteration") = some false)
    (z_list : PySem.W.nsIn K mainGlobals "list" = some none)
    (pa_Pattern_pieces : PySem.W.findIn K (.ref C) "pieces" = some (some (.ref pr_Pattern_pieces)))
    (pg_Pattern_pieces : PySem.W.specialIn K (.ref pr_Pattern_pieces) "__get__" = some (some (.builtin "property.__get__")))
    (pt_Pattern_pieces : PySem.W.takesIn K (.ref pr_Pattern_pieces) = some true)
    (pc_Pattern_pieces : PySem.W.recIn K pr_Pattern_pieces "property" = some (.ref f_Pattern_pieces :: rest_Pattern_pieces))
    (l_Pattern_pieces : K.lookup f_Pattern_pieces = some ⟨oc_Pattern_pieces, od_Pattern_pieces, .func (PySem.W.fnOf "pieces" "Pattern.pieces" (defArgs s_Pattern_pieces) (defBody s_Pattern_pieces) (defScope s_Pattern_pieces) .none kV_Pattern_pieces dc_Pattern_pieces pm_Pattern_pieces an_Pattern_pieces cd_Pattern_pieces ct_Pattern_pieces), sl_Pattern_pieces⟩)
    (c_Pattern_pieces : PySem.W.codeIn K cd_Pattern_pieces "Pattern.pieces" = true)
    (k_Pattern_pieces : PySem.W.keepIn K (.ref f_Pattern_pieces) = true)
    (pa_Ladder_load : PySem.W.findIn K (.ref Cl) "load" = some (some (.ref pr_Ladder_load)))
    (pg_Ladder_load : PySem.W.specialIn K (.ref pr_Ladder_load) "__get__" = some (some (.builtin "property.__get__")))
    (pt_Ladder_load : PySem.W.takesIn K (.ref pr_Ladder_load) = some true)
    (pc_Ladder_load : PySem.W.recIn K pr_Ladder_load "property" = some (.ref f_Ladder_load :: rest_Ladder_load))
    (l_Ladder_load : K.lookup f_Ladder_load = some ⟨oc_Ladder_load, od_Ladder_load, .func (PySem.W.fnOf "load" "Ladder.load" (defArgs s_Ladder_load) (defBody s_Ladder_load) (defScope s_Ladder_load) .none kV_Ladder_load dc_Ladder_load pm_Ladder_load an_Ladder_load cd_Ladder_load ct_Ladder_load), sl_Ladder_load⟩)
    (c_Ladder_load : PySem.W.codeIn K cd_Ladder_load "Ladder.load" = true)
    (k_Ladder_load : PySem.W.keepIn K (.ref f_Ladder_load) = true)
    (a_Ladder_opening : PySem.W.findIn K (.ref Cl) "opening" = some (some (.ref f_Ladder_opening)))
    (i_Ladder_opening : PySem.W.isFn K (.ref f_Ladder_opening) = true)
    (l_Ladder_opening : K.lookup f_Ladder_opening = some ⟨oc_Ladder_opening, od_Ladder_opening, .func (PySem.W.fnOf "opening" "Ladder.opening" (defArgs s_Ladder_opening) (defBody s_Ladder_opening) (defScope s_Ladder_opening) .none kV_Ladder_opening dc_Ladder_opening pm_Ladder_opening an_Ladder_opening cd_Ladder_opening ct_Ladder_opening), sl_Ladder_opening⟩)
    (c_Ladder_opening : PySem.W.codeIn K cd_Ladder_opening "Ladder.opening" = true)
    (k_Ladder_opening : PySem.W.keepIn K (.ref f_Ladder_opening) = true)
    (a_law_nothing : PySem.W.nsIn K mainGlobals "_law_nothing" = some (some (.ref f_law_nothing)))
    (l_law_nothing : K.lookup f_law_nothing = some ⟨oc_law_nothing, od_law_nothing, .func (PySem.W.fnOf "_law_nothing" "_law_nothing" (defArgs s_law_nothing) (defBody s_law_nothing) (defScope s_law_nothing) .none kV_law_nothing dc_law_nothing pm_law_nothing an_law_nothing cd_law_nothing ct_law_nothing), sl_law_nothing⟩)
    (c_law_nothing : PySem.W.codeIn K cd_law_nothing "_law_nothing" = true)
    (k_law_nothing : PySem.W.keepIn K (.ref f_law_nothing) = true)
    (a_law_right : PySem.W.nsIn K mainGlobals "_law_right" = some (some (.ref f_law_right)))
    (l_law_right : K.lookup f_law_right = some ⟨oc_law_right, od_law_right, .func (PySem.W.fnOf "_law_right" "_law_right" (defArgs s_law_right) (defBody s_law_right) (defScope s_law_right) .none kV_law_right dc_law_right pm_law_right an_law_right cd_law_right ct_law_right), sl_law_right⟩)
    (c_law_right : PySem.W.codeIn K cd_law_right "_law_right" = true)
    (k_law_right : PySem.W.keepIn K (.ref f_law_right) = true)
    (e_law_right : cd_law_right = .ref cA_law_right)
    (lc_law_right : K.lookup cA_law_right = some ⟨.type "code", dC_law_right, .fields vC_law_right, sC_law_right⟩)
    (pl_law_right : (vC_law_right[11]? : Option Value) = some (.ref PA_law_right))
    (ch_law_right : PySem.W.codeHdIn K cA_law_right PA_law_right = true)
    (tt_law_right : h.get? PA_law_right = some (PySem.W.tabObj #[]))
    (kn_law_right : K.lookup PA_law_right = none)
    (a_law : PySem.W.nsIn K mainGlobals "law" = some (some (.ref f_law)))
    (l_law : K.lookup f_law = some ⟨oc_law, od_law, .func (PySem.W.fnOf "law" "law" (defArgs s_law) (defBody s_law) (defScope s_law) .none kV_law dc_law pm_law an_law cd_law ct_law), sl_law⟩)
    (c_law : PySem.W.codeIn K cd_law "law" = true)
    (k_law : PySem.W.keepIn K (.ref f_law) = true)
    (e_law : cd_law = .ref cA_law)
    (lc_law : K.lookup cA_law = some ⟨.type "code", dC_law, .fields vC_law, sC_law⟩)
    (pl_law : (vC_law[11]? : Option Value) = some (.ref PA_law))
    (ch_law : PySem.W.codeHdIn K cA_law PA_law = true)
    (tt_law : h.get? PA_law = some (PySem.W.tabObj #[]))
    (kn_law : K.lookup PA_law = none)
    (ne_law_right_law : PA_law_right ≠ PA_law)
    (ne_law_law_right : PA_law ≠ PA_law_right) :
    LawT l w K 14 63 "_law_script" mg fa h := by
  have e := hfa.symm.trans (PySem.W.mg_of X G a_law)
  cases e
  subst e_law_right
  subst e_law
  have T : Txt4 K mg tG t1 t2 t3 tP tC aO aW J C Ce Cl := { len := PySem.W.mg_none_of X G z_len, abs := PySem.W.mg_none_of X G z_abs, int_ := PySem.W.mg_none_of X G z_int, bool_ := PySem.W.mg_none_of X G z_bool, tuple_ := PySem.W.mg_none_of X G z_tuple, isinstance := PySem.W.mg_none_of X G z_isinstance, divmod := PySem.W.mg_none_of X G z_divmod, max := PySem.W.mg_none_of X G z_max, min := PySem.W.mg_none_of X G z_min, range := PySem.W.mg_none_of X G z_range, all := PySem.W.mg_none_of X G z_all, repr := PySem.W.mg_none_of X G z_repr, str_ := PySem.W.mg_none_of X G z_str, enumerate := PySem.W.mg_none_of X G z_enumerate, mgG := PySem.W.mg_of X G aG, mgO := PySem.W.mg_of X G aOp, opn := ⟨_, _, _, laOp, rfl, rfl, (by show 2 ≤ sizeLine; decide), .cons ⟨_, rfl⟩ (.cons ⟨_, rfl⟩ .nil)⟩, mgOh := PySem.W.mg_of X G aOh, mgPi := PySem.W.mg_of X G aPi, mgJo := PySem.W.mg_of X G aJo, mgW := PySem.W.mg_of X G aWo, wds := ⟨_, _, _, laWo, rfl, rfl, (by show 2 ≤ sizeLine; decide), .cons ⟨_, rfl⟩ (.cons ⟨_, rfl⟩ .nil)⟩, mgJ := PySem.W.mg_of X G aJ, mgC := PySem.W.mg_of X G aC, clJ := ⟨pgJ, hdJ, poJ, saJ⟩, nJ := nJ_row, caJ := caJ, cnJ := cn, ctJ := ct, cmJ := cmJ, isJ := (by unfold PySem.W.kitOne; simp), ktJ := kt_J, cl := ⟨pgC, hdC, poC, saC⟩, nRow := nC_row, nMat := nC_matrix, nScl := nC_scale, nFour := nC_four, mgP := PySem.W.mg_of X G aGP, mgCo := PySem.W.mg_of X G aMS, mgE := PySem.W.mg_of X G aCe, clE := ⟨pgCe, hdCe, poCe, saCe⟩, nP := nCe_parts, mgL := PySem.W.mg_of X G aCl, clL := ⟨pgCl, hdCl, poCl, saCl⟩, nSec := nCl_section, nBeh := nCl_behind, nFar := nCl_far }
  refine ⟨PySem.W.fnOf "law" "law" (defArgs s_law) (defBody s_law) (defScope s_law) .none kV_law dc_law pm_law an_law (.ref cA_law) ct_law, [(cA_law_right, PA_law_right), (cA_law, PA_law)], spLaw K [(PA_law_right, ("_law_right" : Str) ++ ".<locals>.<lambda>"), (PA_law, ("law" : Str) ++ ".<locals>.<lambda>")], List.forall_mem_cons.mpr ⟨tt_law_right, List.forall_mem_cons.mpr ⟨tt_law, fun _ z => nomatch z⟩⟩, List.forall_mem_cons.mpr ⟨kn_law_right, List.forall_mem_cons.mpr ⟨kn_law, fun _ z => nomatch z⟩⟩, List.forall_mem_cons.mpr ⟨PySem.W.codeHd_of_K X ch_law_right, List.forall_mem_cons.mpr ⟨PySem.W.codeHd_of_K X ch_law, fun _ z => nomatch z⟩⟩, fun s v => .of_eq rfl, fun H a ns hl hT hS => ⟨a, ns, rfl, hS, hl, ?_, fun _ => rfl⟩, fun base _ _ hTB => ?_⟩
  · exact List.forall_mem_cons.mpr ⟨LamX.TabS.nil (hT (cA_law_right, PA_law_right) (by simp)), List.forall_mem_cons.mpr ⟨LamX.TabS.nil (hT (cA_law, PA_law) (by simp)), fun _ z => nomatch z⟩⟩
  have TB_law_right := hTB (cA_law_right, PA_law_right) (by simp)
  have TM_law_right : (PA_law_right, ("_law_right" : Str) ++ ".<locals>.<lambda>") ∈ ([(PA_law_right, ("_law_right" : Str) ++ ".<locals>.<lambda>"), (PA_law, ("law" : Str) ++ ".<locals>.<lambda>")] : List (Addr × Str)) := by simp
  have TU_law_right : ∀ p ∈ ([(PA_law_right, ("_law_right" : Str) ++ ".<locals>.<lambda>"), (PA_law, ("law" : Str) ++ ".<locals>.<lambda>")] : List (Addr × Str)), p.1 = PA_law_right → p.2 = ("_law_right" : Str) ++ ".<locals>.<lambda>" := List.forall_mem_cons.mpr ⟨fun _ => rfl, List.forall_mem_cons.mpr ⟨fun z => absurd z ne_law_law_right, fun _ z => nomatch z⟩⟩
  have FC_law_right : FunC K "_law_right" "_law_right" s_law_right f_law_right _ cA_law_right := ⟨_, _, _, _, _, _, _, _, rfl, l_law_right, c_law_right⟩
  have TB_law := hTB (cA_law, PA_law) (by simp)
  have TM_law : (PA_law, ("law" : Str) ++ ".<locals>.<lambda>") ∈ ([(PA_law_right, ("_law_right" : Str) ++ ".<locals>.<lambda>"), (PA_law, ("law" : Str) ++ ".<locals>.<lambda>")] : List (Addr × Str)) := by simp
  have TU_law : ∀ p ∈ ([(PA_law_right, ("_law_right" : Str) ++ ".<locals>.<lambda>"), (PA_law, ("law" : Str) ++ ".<locals>.<lambda>")] : List (Addr × Str)), p.1 = PA_law → p.2 = ("law" : Str) ++ ".<locals>.<lambda>" := List.forall_mem_cons.mpr ⟨fun z => absurd z ne_law_right_law, List.forall_mem_cons.mpr ⟨fun _ => rfl, fun _ z => nomatch z⟩⟩
  have FC_law : FunC K "law" "law" s_law fa _ cA_law := ⟨_, _, _, _, _, _, _, _, rfl, l_law, c_law⟩
  have T4 := T
  replace T := T4.toTxt3
  have F_is_integer := fun_mk (st := s_is_integer) l_is_integer c_is_integer k_is_integer
  have b_is_integer := F_is_integer.binds (ps := ["value"]) fun _ _ _ _ _ _ us hl => match us, hl with | [_], _ => rfl
  have D_is_integer : Df l.prog w K mg base 1 "is_integer" ["value"] spIsInt := ⟨_, _, ok_isint F_is_integer T.toTxt, PySem.W.mg_of X G a_is_integer, k_is_integer, b_is_integer⟩
  have F_is_integer_within := fun_mk (st := s_is_integer_within) l_is_integer_within c_is_integer_within k_is_integer_within
  have b_is_integer_within := F_is_integer_within.binds (ps := ["value", "least", "most"]) fun _ _ _ _ _ _ us hl => match us, hl with | [_, _, _], _ => rfl
  have D_is_integer_within : Df l.prog w K mg base 2 "is_integer_within" ["value", "least", "most"] spWithin := ⟨_, _, ok_within F_is_integer_within D_is_integer, PySem.W.mg_of X G a_is_integer_within, k_is_integer_within, b_is_integer_within⟩
  have F_is_pair_of_integers := fun_mk (st := s_is_pair_of_integers) l_is_pair_of_integers c_is_pair_of_integers k_is_pair_of_integers
  have b_is_pair_of_integers := F_is_pair_of_integers.binds (ps := ["value"]) fun _ _ _ _ _ _ us hl => match us, hl with | [_], _ => rfl
  have D_is_pair_of_integers : Df l.prog w K mg base 2 "is_pair_of_integers" ["value"] spIsPair := ⟨_, _, ok_ispair F_is_pair_of_integers T.toTxt D_is_integer, PySem.W.mg_of X G a_is_pair_of_integers, k_is_pair_of_integers, b_is_pair_of_integers⟩
  have F_is_resistance := fun_mk (st := s_is_resistance) l_is_resistance c_is_resistance k_is_resistance
  have b_is_resistance := F_is_resistance.binds (ps := ["value"]) fun _ _ _ _ _ _ us hl => match us, hl with | [_], _ => rfl
  have D_is_resistance : Df l.prog w K mg base 3 "is_resistance" ["value"] spIsRes := ⟨_, _, ok_isres F_is_resistance T.toTxt2 D_is_integer D_is_pair_of_integers, PySem.W.mg_of X G a_is_resistance, k_is_resistance, b_is_resistance⟩
  have F_pair_of := fun_mk (st := s_pair_of) l_pair_of c_pair_of k_pair_of
  have b_pair_of := F_pair_of.binds (ps := ["fraction_or_open"]) fun _ _ _ _ _ _ us hl => match us, hl with | [_], _ => rfl
  have D_pair_of : Df l.prog w K mg base 2 "pair_of" ["fraction_or_open"] spPairOf := ⟨_, _, ok_pairof F_pair_of D_is_integer, PySem.W.mg_of X G a_pair_of, k_pair_of, b_pair_of⟩
  have F_common_divisor := fun_mk (st := s_common_divisor) l_common_divisor c_common_divisor k_common_divisor
  have b_common_divisor := F_common_divisor.binds (ps := ["first", "second"]) fun _ _ _ _ _ _ us hl => match us, hl with | [_, _], _ => rfl
  have D_common_divisor : Df l.prog w K mg base 1 "common_divisor" ["first", "second"] spGcd := ⟨_, _, ok_gcd F_common_divisor T.toTxt, PySem.W.mg_of X G a_common_divisor, k_common_divisor, b_common_divisor⟩
  have F_lowest_terms := fun_mk (st := s_lowest_terms) l_lowest_terms c_lowest_terms k_lowest_terms
  have b_lowest_terms := F_lowest_terms.binds (ps := ["top", "bottom"]) fun _ _ _ _ _ _ us hl => match us, hl with | [_, _], _ => rfl
  have D_lowest_terms : Df l.prog w K mg base 2 "lowest_terms" ["top", "bottom"] spLow := ⟨_, _, ok_low F_lowest_terms D_common_divisor, PySem.W.mg_of X G a_lowest_terms, k_lowest_terms, b_lowest_terms⟩
  have F_lowest_pair := fun_mk (st := s_lowest_pair) l_lowest_pair c_lowest_pair k_lowest_pair
  have b_lowest_pair := F_lowest_pair.binds (ps := ["fraction_or_open"]) fun _ _ _ _ _ _ us hl => match us, hl with | [_], _ => rfl
  have D_lowest_pair : Df l.prog w K mg base 3 "lowest_pair" ["fraction_or_open"] spLowP := ⟨_, _, ok_lowp F_lowest_pair D_pair_of D_lowest_terms, PySem.W.mg_of X G a_lowest_pair, k_lowest_pair, b_lowest_pair⟩
  have F_is_piece := fun_mk (st := s_is_piece) l_is_piece c_is_piece k_is_piece
  have b_is_piece := F_is_piece.binds (ps := ["value"]) fun _ _ _ _ _ _ us hl => match us, hl with | [_], _ => rfl
  have D_is_piece : Df l.prog w K mg base 3 "is_piece" ["value"] spIsPiece := ⟨_, _, ok_ispiece F_is_piece T D_is_integer_within, PySem.W.mg_of X G a_is_piece, k_is_piece, b_is_piece⟩
  have F_checked_row := fun_mk (st := s_checked_row) l_checked_row c_checked_row k_checked_row
  have b_checked_row := F_checked_row.binds (ps := ["pieces"]) fun _ _ _ _ _ _ us hl => match us, hl with | [_], _ => rfl
  have D_checked_row : Df l.prog w K mg base 4 "checked_row" ["pieces"] (spChk J) := ⟨_, _, ok_chk F_checked_row T D_is_piece, PySem.W.mg_of X G a_checked_row, k_checked_row, b_checked_row⟩
  have F_matrix_and_scale := fun_mk (st := s_matrix_and_scale) l_matrix_and_scale c_matrix_and_scale k_matrix_and_scale
  have b_matrix_and_scale := F_matrix_and_scale.binds (ps := ["row"]) fun _ _ _ _ _ _ us hl => match us, hl with | [_], _ => rfl
  have D_matrix_and_scale : Df l.prog w K mg base 1 "matrix_and_scale" ["row"] spMat := ⟨_, _, ok_mat F_matrix_and_scale, PySem.W.mg_of X G a_matrix_and_scale, k_matrix_and_scale, b_matrix_and_scale⟩
  have F_shown_before := fun_mk (st := s_shown_before) l_shown_before c_shown_before k_shown_before
  have b_shown_before := F_shown_before.binds (ps := ["matrix", "pair"]) fun _ _ _ _ _ _ us hl => match us, hl with | [_, _], _ => rfl
  have D_shown_before : Df l.prog w K mg base 1 "shown_before" ["matrix", "pair"] spShown := ⟨_, _, ok_shown F_shown_before, PySem.W.mg_of X G a_shown_before, k_shown_before, b_shown_before⟩
  have F_piece_text := fun_mk (st := s_piece_text) l_piece_text c_piece_text k_piece_text
  have b_piece_text := F_piece_text.binds (ps := ["word", "ohms"]) fun _ _ _ _ _ _ us hl => match us, hl with | [_, _], _ => rfl
  have D_piece_text : Df l.prog w K mg base 1 "piece_text" ["word", "ohms"] spPtx := ⟨_, _, ok_ptx F_piece_text, PySem.W.mg_of X G a_piece_text, k_piece_text, b_piece_text⟩
  have F_piece_with_text := fun_mk (st := s_piece_with_text) l_piece_with_text c_piece_with_text k_piece_with_text
  have b_piece_with_text := F_piece_with_text.binds (ps := ["text"]) fun _ _ _ _ _ _ us hl => match us, hl with | [_], _ => rfl
  have D_piece_with_text : Df l.prog w K mg base 2 "piece_with_text" ["text"] spPwt := ⟨_, _, ok_pwt F_piece_with_text T D_piece_text, PySem.W.mg_of X G a_piece_with_text, k_piece_with_text, b_piece_with_text⟩
  have F_law_cup := fun_mk (st := s_law_cup) l_law_cup c_law_cup k_law_cup
  have b_law_cup := F_law_cup.binds (ps := ["_law_script", "_law_spot"]) fun _ _ _ _ _ _ us hl => match us, hl with | [_, _], _ => rfl
  have D_law_cup : Df l.prog w K mg base 1 "_law_cup" ["_law_script", "_law_spot"] (spCup K) := ⟨_, _, ok_cup F_law_cup T.toTxt, PySem.W.mg_of X G a_law_cup, k_law_cup, b_law_cup⟩
  have F_law_sip := fun_mk (st := s_law_sip) l_law_sip c_law_sip k_law_sip
  have b_law_sip := F_law_sip.binds (ps := ["_law_cup_here", "_law_many"]) fun _ _ _ _ _ _ us hl => match us, hl with | [_, _], _ => rfl
  have D_law_sip : Df l.prog w K mg base 1 "_law_sip" ["_law_cup_here", "_law_many"] spSip := ⟨_, _, ok_sip F_law_sip T.toTxt, PySem.W.mg_of X G a_law_sip, k_law_sip, b_law_sip⟩
  have F_law_pick := fun_mk (st := s_law_pick) l_law_pick c_law_pick k_law_pick
  have b_law_pick := F_law_pick.binds (ps := ["_law_cup_here", "_law_things"]) fun _ _ _ _ _ _ us hl => match us, hl with | [_, _], _ => rfl
  have D_law_pick : Df l.prog w K mg base 2 "_law_pick" ["_law_cup_here", "_law_things"] spPick := ⟨_, _, ok_pick F_law_pick T.toTxt D_law_sip, PySem.W.mg_of X G a_law_pick, k_law_pick, b_law_pick⟩
  have F_JoinedRow_init := fun_mk (st := s_JoinedRow_init) l_JoinedRow_init c_JoinedRow_init k_JoinedRow_init
  have b_JoinedRow_init := F_JoinedRow_init.binds (ps := ["self", "row"]) fun _ _ _ _ _ _ us hl => match us, hl with | [_, _], _ => rfl
  have F_Pattern_call := fun_mk (st := s_Pattern_call) l_Pattern_call c_Pattern_call k_Pattern_call
  have b_Pattern_call := F_Pattern_call.binds (ps := ["self", "load"]) fun _ _ _ _ _ _ us hl => match us, hl with | [_, _], _ => rfl
  have F_Pattern_add := fun_mk (st := s_Pattern_add) l_Pattern_add c_Pattern_add k_Pattern_add
  have b_Pattern_add := F_Pattern_add.binds (ps := ["self", "other"]) fun _ _ _ _ _ _ us hl => match us, hl with | [_, _], _ => rfl
  have F_Pattern_numbers := fun_mk (st := s_Pattern_numbers) l_Pattern_numbers c_Pattern_numbers k_Pattern_numbers
  have b_Pattern_numbers := F_Pattern_numbers.binds (ps := ["self"]) fun _ _ _ _ _ _ us hl => match us, hl with | [_], _ => rfl
  have F_Pattern_read := fun_mk (st := s_Pattern_read) l_Pattern_read c_Pattern_read k_Pattern_read
  have b_Pattern_read := F_Pattern_read.binds (ps := ["text"]) fun _ _ _ _ _ _ us hl => match us, hl with | [_], _ => rfl
  have F_Pattern_init := fun_mk (st := s_Pattern_init) l_Pattern_init c_Pattern_init k_Pattern_init
  have X_join : JoinD l.prog w K mg base J f_JoinedRow_init _ := ⟨⟨mkJ, a_JoinedRow_init, i_JoinedRow_init, kcJ⟩, ok_join F_JoinedRow_init T, b_JoinedRow_init⟩
  have X_pat : PatD l.prog w K mg base C J f_Pattern_init := ⟨⟨mkC, a_Pattern_init, i_Pattern_init, kcC⟩, ok_pinit F_Pattern_init T D_checked_row D_matrix_and_scale D_lowest_terms⟩
  have G_call := ok_call (P := l.prog) (w := w) (base := base) F_Pattern_call T D_is_resistance D_pair_of D_shown_before D_lowest_pair
  have OC : OwC l.prog w K mg base C f_Pattern_call _ := ⟨⟨a_Pattern_call, i_Pattern_call, fi_call⟩, G_call, fnR_mk G_call b_Pattern_call, fun _ _ _ _ => .of_eq rfl⟩
  have OR : OwR l.prog w K mg base C pr_Pattern_read f_Pattern_read _ := ⟨⟨rdC, gaC⟩, ⟨sa_Pattern_read, ⟨_, sc_Pattern_read⟩, k_Pattern_read⟩, ok_read F_Pattern_read T X_pat X_join D_piece_with_text, b_Pattern_read⟩
  have e_add : PySem.dunder Operator.Add.info.2 = ("__add__" : Str) := by decide +kernel
  have OA : OwA l.prog w K mg base C f_Pattern_add _ := ⟨sfC, (by rw [e_add]; exact a_Pattern_add), i_Pattern_add, ok_add F_Pattern_add T X_pat X_join, b_Pattern_add⟩
  have ON : OwN l.prog w K mg base C pr_Pattern_numbers f_Pattern_numbers _ := ⟨⟨pa_Pattern_numbers, pg_Pattern_numbers, pt_Pattern_numbers, _, pc_Pattern_numbers⟩, ok_num F_Pattern_numbers T, b_Pattern_numbers⟩
  have F_is_count := fun_mk (st := s_is_count) l_is_count c_is_count k_is_count
  have b_is_count := F_is_count.binds (ps := ["value"]) fun _ _ _ _ _ _ us hl => match us, hl with | [_], _ => rfl
  have D_is_count : Df l.prog w K mg base 3 "is_count" ["value"] spCount := ⟨_, _, ok_count F_is_count T4 D_is_integer_within, PySem.W.mg_of X G a_is_count, k_is_count, b_is_count⟩
  have F_fraction_text := fun_mk (st := s_fraction_text) l_fraction_text c_fraction_text k_fraction_text
  have b_fraction_text := F_fraction_text.binds (ps := ["top", "bottom"]) fun _ _ _ _ _ _ us hl => match us, hl with | [_, _], _ => rfl
  have D_fraction_text : Df l.prog w K mg base 1 "fraction_text" ["top", "bottom"] spFt := ⟨_, _, ok_ft F_fraction_text T.toTxt, PySem.W.mg_of X G a_fraction_text, k_fraction_text, b_fraction_text⟩
  have F_sign := fun_mk (st := s_sign) l_sign c_sign k_sign
  have b_sign := F_sign.binds (ps := ["number"]) fun _ _ _ _ _ _ us hl => match us, hl with | [_], _ => rfl
  have D_sign : Df l.prog w K mg base 1 "sign" ["number"] spSign := ⟨_, _, ok_sign F_sign, PySem.W.mg_of X G a_sign, k_sign, b_sign⟩
  have F_square_root := fun_mk (st := s_square_root) l_square_root c_square_root k_square_root
  have b_square_root := F_square_root.binds (ps := ["number"]) fun _ _ _ _ _ _ us hl => match us, hl with | [_], _ => rfl
  have D_square_root : Df l.prog w K mg base 1 "square_root" ["number"] spRoot := ⟨_, _, ok_sqrt F_square_root, PySem.W.mg_of X G a_square_root, k_square_root, b_square_root⟩
  have F_under_root := fun_mk (st := s_under_root) l_under_root c_under_root k_under_root
  have b_under_root := F_under_root.binds (ps := ["square", "line", "whole"]) fun _ _ _ _ _ _ us hl => match us, hl with | [_, _, _], _ => rfl
  have D_under_root : Df l.prog w K mg base 1 "under_root" ["square", "line", "whole"] spUnder := ⟨_, _, ok_under F_under_root, PySem.W.mg_of X G a_under_root, k_under_root, b_under_root⟩
  have F_equation_of_fraction := fun_mk (st := s_equation_of_fraction) l_equation_of_fraction c_equation_of_fraction k_equation_of_fraction
  have b_equation_of_fraction := F_equation_of_fraction.binds (ps := ["top", "bottom"]) fun _ _ _ _ _ _ us hl => match us, hl with | [_, _], _ => rfl
  have D_equation_of_fraction : Df l.prog w K mg base 3 "equation_of_fraction" ["top", "bottom"] spEqF := ⟨_, _, ok_eqf F_equation_of_fraction D_lowest_terms, PySem.W.mg_of X G a_equation_of_fraction, k_equation_of_fraction, b_equation_of_fraction⟩
  have F_simplest_equation := fun_mk (st := s_simplest_equation) l_simplest_equation c_simplest_equation k_simplest_equation
  have b_simplest_equation := F_simplest_equation.binds (ps := ["square", "line", "whole"]) fun _ _ _ _ _ _ us hl => match us, hl with | [_, _, _], _ => rfl
  have D_simplest_equation : Df l.prog w K mg base 4 "simplest_equation" ["square", "line", "whole"] spSimp := ⟨_, _, ok_simp F_simplest_equation D_common_divisor D_square_root D_under_root D_equation_of_fraction, PySem.W.mg_of X G a_simplest_equation, k_simplest_equation, b_simplest_equation⟩
  have F_with_commas := fun_mk (st := s_with_commas) l_with_commas c_with_commas k_with_commas
  have b_with_commas := F_with_commas.binds (ps := ["parts"]) fun _ _ _ _ _ _ us hl => match us, hl with | [_], _ => rfl
  have D_with_commas : Df l.prog w K mg base 1 "with_commas" ["parts"] spCm := ⟨_, _, ok_cm F_with_commas T.toTxt, PySem.W.mg_of X G a_with_commas, k_with_commas, b_with_commas⟩
  have F_pair_order := fun_mk (st := s_pair_order) l_pair_order c_pair_order k_pair_order
  have b_pair_order := F_pair_order.binds (ps := ["first", "second"]) fun _ _ _ _ _ _ us hl => match us, hl with | [_, _], _ => rfl
  have D_pair_order : Df l.prog w K mg base 2 "pair_order" ["first", "second"] spPO := ⟨_, _, ok_po F_pair_order D_sign, PySem.W.mg_of X G a_pair_order, k_pair_order, b_pair_order⟩
  have F_check_resistance := fun_mk (st := s_check_resistance) l_check_resistance c_check_resistance k_check_resistance
  have b_check_resistance := F_check_resistance.binds (ps := ["value"]) fun _ _ _ _ _ _ us hl => match us, hl with | [_], _ => rfl
  have D_check_resistance : Df l.prog w K mg base 4 "check_resistance" ["value"] spChkR := ⟨_, _, ok_chkr F_check_resistance D_is_resistance, PySem.W.mg_of X G a_check_resistance, k_check_resistance, b_check_resistance⟩
  have F_check_count := fun_mk (st := s_check_count) l_check_count c_check_count k_check_count
  have b_check_count := F_check_count.binds (ps := ["value"]) fun _ _ _ _ _ _ us hl => match us, hl with | [_], _ => rfl
  have D_check_count : Df l.prog w K mg base 4 "check_count" ["value"] spChkC := ⟨_, _, ok_chkc F_check_count D_is_count, PySem.W.mg_of X G a_check_count, k_check_count, b_check_count⟩
  have F_Exact_init := fun_mk (st := s_Exact_init) l_Exact_init c_Exact_init k_Exact_init
  have b_Exact_init := F_Exact_init.binds (ps := ["self", "square", "line", "whole"]) fun _ _ _ _ _ _ us hl => match us, hl with | [_, _, _, _], _ => rfl
  have X_exact : ExD l.prog w K mg base Ce := ⟨_, _, ⟨mkCe, a_Exact_init, i_Exact_init, kcCe⟩, ok_init F_Exact_init T4 D_is_integer_within D_simplest_equation, b_Exact_init⟩
  have I : IsC K C := ⟨caC, cn, ct, cmC, (by unfold PySem.W.kitOne; simp)⟩
  have IE : IsC K Ce := ⟨caCe, cn, ct, cmCe, (by unfold PySem.W.kitOne; simp)⟩
  have F_check_pattern := fun_mk (st := s_check_pattern) l_check_pattern c_check_pattern k_check_pattern
  have b_check_pattern := F_check_pattern.binds (ps := ["value"]) fun _ _ _ _ _ _ us hl => match us, hl with | [_], _ => rfl
  have D_check_pattern : Df l.prog w K mg base 1 "check_pattern" ["value"] (spChkP C) := ⟨_, _, ok_chkp F_check_pattern T4 I, PySem.W.mg_of X G a_check_pattern, k_check_pattern, b_check_pattern⟩
  have F_ladder_limit := fun_mk (st := s_ladder_limit) l_ladder_limit c_ladder_limit k_ladder_limit
  have b_ladder_limit := F_ladder_limit.binds (ps := ["matrix"]) fun _ _ _ _ _ _ us hl => match us, hl with | [_], _ => rfl
  have D_ladder_limit : Df l.prog w K mg base 7 "ladder_limit" ["matrix"] (spLim aO Ce) := ⟨_, _, ok_lim F_ladder_limit T4 X_exact, PySem.W.mg_of X G a_ladder_limit, k_ladder_limit, b_ladder_limit⟩
  have F_Ladder_init := fun_mk (st := s_Ladder_init) l_Ladder_init c_Ladder_init k_Ladder_init
  have b_Ladder_init := F_Ladder_init.binds (ps := ["self", "pattern", "load"]) fun _ _ _ _ _ _ us hl => match us, hl with | [_, _, _], _ => rfl
  have X_lad : LadD l.prog w K mg base C aO Ce Cl f_Ladder_init _ := ⟨⟨mkCl, a_Ladder_init, i_Ladder_init, kcCl⟩, ok_lad F_Ladder_init T4 D_check_pattern D_check_resistance D_lowest_pair D_ladder_limit, b_Ladder_init⟩
  have F_Ladder_after := fun_mk (st := s_Ladder_after) l_Ladder_after c_Ladder_after k_Ladder_after
  have b_Ladder_after := F_Ladder_after.binds (ps := ["self", "pair"]) fun _ _ _ _ _ _ us hl => match us, hl with | [_, _], _ => rfl
  have M_after : Mt l.prog w K mg base Cl 2 "after" "self" "pair" (spAfter C aO Ce Cl) := ⟨_, _, ok_after F_Ladder_after T4 D_shown_before, ⟨a_Ladder_after, i_Ladder_after, k_Ladder_after⟩, b_Ladder_after, fun _ _ _ _ => .of_eq rfl⟩
  have F_Ladder_call := fun_mk (st := s_Ladder_call) l_Ladder_call c_Ladder_call k_Ladder_call
  have b_Ladder_call := F_Ladder_call.binds (ps := ["self", "count"]) fun _ _ _ _ _ _ us hl => match us, hl with | [_, _], _ => rfl
  have OL : OwL l.prog w K mg base C aO Ce Cl f_Ladder_call _ := ⟨⟨a_Ladder_call, i_Ladder_call, fi_lcall⟩, ok_lcall F_Ladder_call T4 D_check_count M_after D_lowest_pair, fnR_mk (ok_lcall F_Ladder_call T4 D_check_count M_after D_lowest_pair) b_Ladder_call⟩
  have F_Ladder_goes := fun_mk (st := s_Ladder_goes) l_Ladder_goes c_Ladder_goes k_Ladder_goes
  have b_Ladder_goes := F_Ladder_goes.binds (ps := ["self"]) fun _ _ _ _ _ _ us hl => match us, hl with | [_], _ => rfl
  have OG : OwG l.prog w K mg base C aO Ce Cl pr_Ladder_goes f_Ladder_goes _ := ⟨⟨pa_Ladder_goes, pg_Ladder_goes, pt_Ladder_goes, _, pc_Ladder_goes⟩, ok_goes F_Ladder_goes T4 D_pair_order M_after, b_Ladder_goes⟩
  have F_Ladder_limit := fun_mk (st := s_Ladder_limit) l_Ladder_limit c_Ladder_limit k_Ladder_limit
  have b_Ladder_limit := F_Ladder_limit.binds (ps := ["self"]) fun _ _ _ _ _ _ us hl => match us, hl with | [_], _ => rfl
  have OM : OwM l.prog w K mg base C aO Ce Cl pr_Ladder_limit f_Ladder_limit _ := ⟨⟨pa_Ladder_limit, pg_Ladder_limit, pt_Ladder_limit, _, pc_Ladder_limit⟩, ok_limit F_Ladder_limit T4, b_Ladder_limit⟩
  have F_Exact_equation := fun_mk (st := s_Exact_equation) l_Exact_equation c_Exact_equation k_Exact_equation
  have b_Exact_equation := F_Exact_equation.binds (ps := ["self"]) fun _ _ _ _ _ _ us hl => match us, hl with | [_], _ => rfl
  have OQ : OwQ l.prog w K mg base Ce pr_Exact_equation f_Exact_equation _ := ⟨⟨pa_Exact_equation, pg_Exact_equation, pt_Exact_equation, _, pc_Exact_equation⟩, ok_eqn F_Exact_equation T4, b_Exact_equation⟩
  have F_Exact_fraction := fun_mk (st := s_Exact_fraction) l_Exact_fraction c_Exact_fraction k_Exact_fraction
  have b_Exact_fraction := F_Exact_fraction.binds (ps := ["self"]) fun _ _ _ _ _ _ us hl => match us, hl with | [_], _ => rfl
  have OF : OwF l.prog w K mg base Ce pr_Exact_fraction f_Exact_fraction _ := ⟨⟨pa_Exact_fraction, pg_Exact_fraction, pt_Exact_fraction, _, pc_Exact_fraction⟩, ok_frac F_Exact_fraction T4, b_Exact_fraction⟩
  have F_law_row := fun_mk (st := s_law_row) l_law_row c_law_row k_law_row
  have b_law_row := F_law_row.binds (ps := ["_law_cup_here", "_law_most"]) fun _ _ _ _ _ _ us hl => match us, hl with | [_, _], _ => rfl
  have D_law_row : Df l.prog w K mg base 3 "_law_row" ["_law_cup_here", "_law_most"] spRow := ⟨_, _, ok_row F_law_row T.toTxt D_law_sip D_law_pick, PySem.W.mg_of X G a_law_row, k_law_row, b_law_row⟩
  have F_law_words := fun_mk (st := s_law_words) l_law_words c_law_words k_law_words
  have b_law_words := F_law_words.binds (ps := ["_law_row_here"]) fun _ _ _ _ _ _ us hl => match us, hl with | [_], _ => rfl
  have D_law_words : Df l.prog w K mg base 1 "_law_words" ["_law_row_here"] spWords := ⟨_, _, ok_words F_law_words T.toTxt, PySem.W.mg_of X G a_law_words, k_law_words, b_law_words⟩
  have F_law_read := fun_mk (st := s_law_read) l_law_read c_law_read k_law_read
  have b_law_read := F_law_read.binds (ps := ["_law_row_here"]) fun _ _ _ _ _ _ us hl => match us, hl with | [_], _ => rfl
  have D_law_read : Df l.prog w K mg base 8 "_law_read" ["_law_row_here"] (spReadL C) := ⟨_, _, ok_readL F_law_read T OR D_law_words, PySem.W.mg_of X G a_law_read, k_law_read, b_law_read⟩
  have TE : TxE mg (cF [X0, X1, X2, X3, X4, X5, X6, X7, X8, X9, X10, X11, X12, X13, X14, X15, X16, X17, X18, X19, X20, X21]) := { m0 := PySem.W.mg_of X G aX0, m1 := PySem.W.mg_of X G aX1, m2 := PySem.W.mg_of X G aX2, m3 := PySem.W.mg_of X G aX3, m4 := PySem.W.mg_of X G aX4, m5 := PySem.W.mg_of X G aX5, m6 := PySem.W.mg_of X G aX6, m7 := PySem.W.mg_of X G aX7, m8 := PySem.W.mg_of X G aX8, m9 := PySem.W.mg_of X G aX9, m10 := PySem.W.mg_of X G aX10, m11 := PySem.W.mg_of X G aX11, m12 := PySem.W.mg_of X G aX12, m13 := PySem.W.mg_of X G aX13, m14 := PySem.W.mg_of X G aX14, m15 := PySem.W.mg_of X G aX15, m16 := PySem.W.mg_of X G aX16, m17 := PySem.W.mg_of X G aX17, m18 := PySem.W.mg_of X G aX18, m19 := PySem.W.mg_of X G aX19, m20 := PySem.W.mg_of X G aX20, m21 := PySem.W.mg_of X G aX21, vV := PySem.W.mg_none_of X G z_ValueError, vL := PySem.W.mg_none_of X G z_LookupError, vA := PySem.W.mg_none_of X G z_ArithmeticError }
  have Z : XK0 K := ⟨cn, ct⟩
  have F_WrongValue_init := fun_mk (st := s_WrongValue_init) l_WrongValue_init c_WrongValue_init k_WrongValue_init
  have b_WrongValue_init := F_WrongValue_init.binds (ps := ["self"]) fun _ _ _ _ _ _ us hl => match us, hl with | [_], _ => rfl
  have B19 : Bi l.prog w K mg base "WrongValue" := ⟨X19, f_WrongValue_init, .type "type", _, PySem.W.mg_of X G aX19, ⟨rd_19, ga_19⟩, fc_19, k_WrongValue_init, ok_WrongValue_init F_WrongValue_init, b_WrongValue_init⟩
  have F_NotAPattern_init := fun_mk (st := s_NotAPattern_init) l_NotAPattern_init c_NotAPattern_init k_NotAPattern_init
  have b_NotAPattern_init := F_NotAPattern_init.binds (ps := ["self", "given"]) fun _ _ _ _ _ _ us hl => match us, hl with | [_, _], _ => rfl
  have x0 : XC K X0 := xcB_ok PySem.F.excBase_ValueError PySem.F.store_ValueError xb_0
  have M0 : XM l.prog w K mg base 2 X0 ["self", "given"] (spI K "given") := ⟨x0, f_NotAPattern_init, _, a_NotAPattern_init, i_NotAPattern_init, ok_NotAPattern_init F_NotAPattern_init B19, b_NotAPattern_init, fun y z e => by
    cases e
    exact ⟨fun s us ws _ h1 h2 => match us, h1, ws, h2 with | [_], _, [_], _ => BindsTo.of_eq (fd := PySem.W.fnOf "__init__" "NotAPattern.__init__" (defArgs s_NotAPattern_init) (defBody s_NotAPattern_init) (defScope s_NotAPattern_init) .none kV_NotAPattern_init dc_NotAPattern_init pm_NotAPattern_init an_NotAPattern_init cd_NotAPattern_init ct_NotAPattern_init) rfl, fun r1 r2 => r1.append r2⟩⟩
  have RZ0 : Rz l.prog w K mg base (cF [X0, X1, X2, X3, X4, X5, X6, X7, X8, X9, X10, X11, X12, X13, X14, X15, X16, X17, X18, X19, X20, X21]) 0 "given" := ⟨M0, ty_0, no_0⟩
  have EC0 : EC K (cF [X0, X1, X2, X3, X4, X5, X6, X7, X8, X9, X10, X11, X12, X13, X14, X15, X16, X17, X18, X19, X20, X21]) (cF [X0, X1, X2, X3, X4, X5, X6, X7, X8, X9, X10, X11, X12, X13, X14, X15, X16, X17, X18, X19, X20, X21] 0) 0 [0, 20, 23] := ec_0 x0 ro_0 any_0 no_0
  have F_InvalidResistance_init := fun_mk (st := s_InvalidResistance_init) l_InvalidResistance_init c_InvalidResistance_init k_InvalidResistance_init
  have b_InvalidResistance_init := F_InvalidResistance_init.binds (ps := ["self", "given"]) fun _ _ _ _ _ _ us hl => match us, hl with | [_, _], _ => rfl
  have x2 : XC K X2 := xcB_ok PySem.F.excBase_ValueError PySem.F.store_ValueError xb_2
  have M2 : XM l.prog w K mg base 2 X2 ["self", "given"] (spI K "given") := ⟨x2, f_InvalidResistance_init, _, a_InvalidResistance_init, i_InvalidResistance_init, ok_InvalidResistance_init F_InvalidResistance_init B19, b_InvalidResistance_init, fun y z e => by
    cases e
    exact ⟨fun s us ws _ h1 h2 => match us, h1, ws, h2 with | [_], _, [_], _ => BindsTo.of_eq (fd := PySem.W.fnOf "__init__" "InvalidResistance.__init__" (defArgs s_InvalidResistance_init) (defBody s_InvalidResistance_init) (defScope s_InvalidResistance_init) .none kV_InvalidResistance_init dc_InvalidResistance_init pm_InvalidResistance_init an_InvalidResistance_init cd_InvalidResistance_init ct_InvalidResistance_init) rfl, fun r1 r2 => r1.append r2⟩⟩
  have RZ2 : Rz l.prog w K mg base (cF [X0, X1, X2, X3, X4, X5, X6, X7, X8, X9, X10, X11, X12, X13, X14, X15, X16, X17, X18, X19, X20, X21]) 2 "given" := ⟨M2, ty_2, no_2⟩
  have EC2 : EC K (cF [X0, X1, X2, X3, X4, X5, X6, X7, X8, X9, X10, X11, X12, X13, X14, X15, X16, X17, X18, X19, X20, X21]) (cF [X0, X1, X2, X3, X4, X5, X6, X7, X8, X9, X10, X11, X12, X13, X14, X15, X16, X17, X18, X19, X20, X21] 2) 2 [2, 20, 23] := ec_2 x2 ro_2 any_2 no_2
  have F_InvalidCount_init := fun_mk (st := s_InvalidCount_init) l_InvalidCount_init c_InvalidCount_init k_InvalidCount_init
  have b_InvalidCount_init := F_InvalidCount_init.binds (ps := ["self", "given"]) fun _ _ _ _ _ _ us hl => match us, hl with | [_, _], _ => rfl
  have x3 : XC K X3 := xcB_ok PySem.F.excBase_ValueError PySem.F.store_ValueError xb_3
  have M3 : XM l.prog w K mg base 2 X3 ["self", "given"] (spI K "given") := ⟨x3, f_InvalidCount_init, _, a_InvalidCount_init, i_InvalidCount_init, ok_InvalidCount_init F_InvalidCount_init B19, b_InvalidCount_init, fun y z e => by
    cases e
    exact ⟨fun s us ws _ h1 h2 => match us, h1, ws, h2 with | [_], _, [_], _ => BindsTo.of_eq (fd := PySem.W.fnOf "__init__" "InvalidCount.__init__" (defArgs s_InvalidCount_init) (defBody s_InvalidCount_init) (defScope s_InvalidCount_init) .none kV_InvalidCount_init dc_InvalidCount_init pm_InvalidCount_init an_InvalidCount_init cd_InvalidCount_init ct_InvalidCount_init) rfl, fun r1 r2 => r1.append r2⟩⟩
  have RZ3 : Rz l.prog w K mg base (cF [X0, X1, X2, X3, X4, X5, X6, X7, X8, X9, X10, X11, X12, X13, X14, X15, X16, X17, X18, X19, X20, X21]) 3 "given" := ⟨M3, ty_3, no_3⟩
  have EC3 : EC K (cF [X0, X1, X2, X3, X4, X5, X6, X7, X8, X9, X10, X11, X12, X13, X14, X15, X16, X17, X18, X19, X20, X21]) (cF [X0, X1, X2, X3, X4, X5, X6, X7, X8, X9, X10, X11, X12, X13, X14, X15, X16, X17, X18, X19, X20, X21] 3) 3 [3, 20, 23] := ec_3 x3 ro_3 any_3 no_3
  have F_law_classes := fun_mk (st := s_law_classes) l_law_classes c_law_classes k_law_classes
  have b_law_classes := F_law_classes.binds (ps := ["_law_e"]) fun _ _ _ _ _ _ us hl => match us, hl with | [_], _ => rfl
  have D_law_classes : DfE l.prog w K mg base 1 "_law_classes" ["_law_e"] (spClsP K (cF [X0, X1, X2, X3, X4, X5, X6, X7, X8, X9, X10, X11, X12, X13, X14, X15, X16, X17, X18, X19, X20, X21])) := ⟨_, _, ok_clsP F_law_classes T.toTxt TE Z, PySem.W.mg_of X G a_law_classes, k_law_classes, b_law_classes⟩
  have F_law_caught := fun_mk (st := s_law_caught) l_law_caught c_law_caught k_law_caught
  have b_law_caught := F_law_caught.binds (ps := ["_law_act"]) fun _ _ _ _ _ _ us hl => match us, hl with | [_], _ => rfl
  have CG : CgtD l.prog w K mg base (cF [X0, X1, X2, X3, X4, X5, X6, X7, X8, X9, X10, X11, X12, X13, X14, X15, X16, X17, X18, X19, X20, X21]) 1 (rRp K) := ⟨T.toTxt, TE, ⟨_, _, F_law_caught, PySem.W.mg_of X G a_law_caught⟩, D_law_classes, fun Y _ _ e _ _ hg hr => by
    subst e
    exact cr_rpK hg hr.units⟩
  have kC : tyPat K C := fun d => by cases d <;> (simp only [tyN]; assumption)
  have TL : mg "list" = none := PySem.W.mg_none_of X G z_list
  have F_Pattern_pieces := fun_mk (st := s_Pattern_pieces) l_Pattern_pieces c_Pattern_pieces k_Pattern_pieces
  have b_Pattern_pieces := F_Pattern_pieces.binds (ps := ["self"]) fun _ _ _ _ _ _ us hl => match us, hl with | [_], _ => rfl
  have OPi : OwPi l.prog w K mg base C pr_Pattern_pieces f_Pattern_pieces _ := ⟨⟨pa_Pattern_pieces, pg_Pattern_pieces, pt_Pattern_pieces, _, pc_Pattern_pieces⟩, ok_pcs F_Pattern_pieces T, b_Pattern_pieces⟩
  have F_Ladder_load := fun_mk (st := s_Ladder_load) l_Ladder_load c_Ladder_load k_Ladder_load
  have b_Ladder_load := F_Ladder_load.binds (ps := ["self"]) fun _ _ _ _ _ _ us hl => match us, hl with | [_], _ => rfl
  have OLo : OwLo l.prog w K mg base C aO Ce Cl pr_Ladder_load f_Ladder_load _ := ⟨⟨pa_Ladder_load, pg_Ladder_load, pt_Ladder_load, _, pc_Ladder_load⟩, ok_load F_Ladder_load T4, b_Ladder_load⟩
  have D_is_integerG : Df l.prog w K mg base 1 "is_integer" ["value"] (spIntG K) := ⟨_, _, ok_isintG F_is_integer T.toTxt, PySem.W.mg_of X G a_is_integer, k_is_integer, b_is_integer⟩
  have D_is_integer_withinG : Df l.prog w K mg base 2 "is_integer_within" ["value", "least", "most"] (spWithinG K) := ⟨_, _, ok_withinG F_is_integer_within D_is_integerG, PySem.W.mg_of X G a_is_integer_within, k_is_integer_within, b_is_integer_within⟩
  have D_is_pair_of_integersG : Df l.prog w K mg base 2 "is_pair_of_integers" ["value"] (spPairG K) := ⟨_, _, ok_ispairG F_is_pair_of_integers T.toTxt D_is_integerG, PySem.W.mg_of X G a_is_pair_of_integers, k_is_pair_of_integers, b_is_pair_of_integers⟩
  have D_is_resistanceG : Df l.prog w K mg base 3 "is_resistance" ["value"] (spResG K) := ⟨_, _, ok_isresG F_is_resistance T.toTxt2 D_is_integerG D_is_pair_of_integersG, PySem.W.mg_of X G a_is_resistance, k_is_resistance, b_is_resistance⟩
  have D_is_countG : Df l.prog w K mg base 3 "is_count" ["value"] (spCntG K) := ⟨_, _, ok_countG F_is_count T4 D_is_integer_withinG, PySem.W.mg_of X G a_is_count, k_is_count, b_is_count⟩
  have D_check_patternN : DfN l.prog w K mg base 4 "check_pattern" ["value"] (spChkPN K C X0) := ⟨_, _, ok_chkpN (c := cF [X0, X1, X2, X3, X4, X5, X6, X7, X8, X9, X10, X11, X12, X13, X14, X15, X16, X17, X18, X19, X20, X21]) F_check_pattern T4 TE RZ0 I kC, PySem.W.mg_of X G a_check_pattern, k_check_pattern, b_check_pattern⟩
  have D_check_resistanceN : DfN l.prog w K mg base 5 "check_resistance" ["value"] (spChkRN K X2) := ⟨_, _, ok_chkrN (c := cF [X0, X1, X2, X3, X4, X5, X6, X7, X8, X9, X10, X11, X12, X13, X14, X15, X16, X17, X18, X19, X20, X21]) F_check_resistance TE RZ2 D_is_resistanceG, PySem.W.mg_of X G a_check_resistance, k_check_resistance, b_check_resistance⟩
  have D_check_countN : DfN l.prog w K mg base 5 "check_count" ["value"] (spChkCN K X3) := ⟨_, _, ok_chkcN (c := cF [X0, X1, X2, X3, X4, X5, X6, X7, X8, X9, X10, X11, X12, X13, X14, X15, X16, X17, X18, X19, X20, X21]) F_check_count TE RZ3 D_is_countG, PySem.W.mg_of X G a_check_count, k_check_count, b_check_count⟩
  have kb : KBn K _ ["self", "pattern", "load"] 1 (["load", "pattern"] : List Str) ordS ordS := ⟨fun s us ws _ h1 h2 => match us, h1, ws, h2 with | [_], _, [_, _], _ => BindsTo.of_eq (fd := PySem.W.fnOf "__init__" "Ladder.__init__" (defArgs s_Ladder_init) (defBody s_Ladder_init) (defScope s_Ladder_init) .none kV_Ladder_init dc_Ladder_init pm_Ladder_init an_Ladder_init cd_Ladder_init ct_Ladder_init) rfl, ordS_rel⟩
  have XLN : MkN l.prog w K mg base Cl 6 "self" "pattern" "load" (spLadN K C X0 X2) := ⟨_, _, ⟨mkCl, a_Ladder_init, i_Ladder_init, kcCl⟩, ok_ladN (c := cF [X0, X1, X2, X3, X4, X5, X6, X7, X8, X9, X10, X11, X12, X13, X14, X15, X16, X17, X18, X19, X20, X21]) F_Ladder_init D_check_patternN D_check_resistanceN, b_Ladder_init, kb⟩
  have OCN : CoN l.prog w K mg base C 5 "self" "load" (spCallN K X2) := ⟨_, _, ⟨a_Pattern_call, i_Pattern_call, fi_call⟩, ok_callN (c := cF [X0, X1, X2, X3, X4, X5, X6, X7, X8, X9, X10, X11, X12, X13, X14, X15, X16, X17, X18, X19, X20, X21]) F_Pattern_call TE RZ2 D_is_resistanceG, b_Pattern_call, fun _ _ _ _ => .of_eq rfl⟩
  have OLN : CoN l.prog w K mg base Cl 6 "self" "count" (spCntN K X3) := ⟨_, _, ⟨a_Ladder_call, i_Ladder_call, fi_lcall⟩, ok_lcallN (c := cF [X0, X1, X2, X3, X4, X5, X6, X7, X8, X9, X10, X11, X12, X13, X14, X15, X16, X17, X18, X19, X20, X21]) F_Ladder_call D_check_countN, b_Ladder_call, fun _ _ _ _ => .of_eq rfl⟩
  have F_Ladder_opening := fun_mk (st := s_Ladder_opening) l_Ladder_opening c_Ladder_opening k_Ladder_opening
  have b_Ladder_opening := F_Ladder_opening.binds (ps := ["self", "count"]) fun _ _ _ _ _ _ us hl => match us, hl with | [_, _], _ => rfl
  have MO : MtG l.prog w K mg base Cl 5 "opening" "self" "count" (spOpen C aO Ce Cl) := ⟨⟨_, _, ok_open l_Ladder_opening c_Ladder_opening T4 D_check_count M_after D_lowest_pair, ⟨a_Ladder_opening, i_Ladder_opening, k_Ladder_opening⟩, b_Ladder_opening, fun _ _ _ _ => .of_eq rfl⟩⟩
  have OON : MtB l.prog w K mg base Cl 6 "opening" "self" "count" (spCntN K X3) := ⟨⟨_, _, ok_openN (c := cF [X0, X1, X2, X3, X4, X5, X6, X7, X8, X9, X10, X11, X12, X13, X14, X15, X16, X17, X18, X19, X20, X21]) l_Ladder_opening c_Ladder_opening D_check_countN, ⟨a_Ladder_opening, i_Ladder_opening, k_Ladder_opening⟩, b_Ladder_opening, fun _ _ _ _ => .of_eq rfl⟩⟩
  have F_law_nothing := fun_mk (st := s_law_nothing) l_law_nothing c_law_nothing k_law_nothing
  have b_law_nothing := F_law_nothing.binds (ps := ["_law_cup_here"]) fun _ _ _ _ _ _ us hl => match us, hl with | [_], _ => rfl
  have D_law_nothing : Df l.prog w K mg base 3 "_law_nothing" ["_law_cup_here"] (spNothing K) := ⟨_, _, ok_nothing F_law_nothing T.toTxt D_law_pick, PySem.W.mg_of X G a_law_nothing, k_law_nothing, b_law_nothing⟩
  have F_law_right := fun_mk (st := s_law_right) l_law_right c_law_right k_law_right
  have b_law_right := F_law_right.binds (ps := ["_law_cup_here"]) fun _ _ _ _ _ _ us hl => match us, hl with | [_], _ => rfl
  have D_law_right : DfG l.prog w K mg base 13 "_law_right" ["_law_cup_here"] (spRight [(PA_law_right, ("_law_right" : Str) ++ ".<locals>.<lambda>"), (PA_law, ("law" : Str) ++ ".<locals>.<lambda>")]) := ⟨_, _, ok_right FC_law_right T4 TL OC OL OPi OLo MO X_lad XLN OCN OLN OON ns3 CG EC0 EC2 EC3 TB_law_right TM_law_right TU_law_right D_law_row D_law_read D_law_nothing D_law_pick, PySem.W.mg_of X G a_law_right, k_law_right, b_law_right⟩
  exact ok_law FC_law T4 X_pat X_lad OL OLN CG EC3 TB_law TM_law TU_law D_law_cup D_law_right
end RL

set_option maxHeartbeats 2000000
/-! Heads by facts for laws with makers: the top runs once in the kernel; what is told of the part K is a list of Bools and a list of functions. -/
namespace RL
open PySem PySem.Spec PyProof.Rows L2 He
abbrev Ad : Type := PySem.W.Frag → Addr
/-- where a property's function stands, a static method's object, a def's code object, its table -/
def rcA (a : Ad) (s : String) : Ad := fun K => match PySem.W.recIn K (a K) s with
  | some (.ref f :: _) => f
  | _ => 0
def glA (x : Str) : Ad := fun K => ga K x
def meA (a : Ad) (m : Str) : Ad := fun K => ma K (a K) m
def cdA (a : Ad) : Ad := fun K => match K.lookup (a K) with
  | some ⟨_, _, .func fd, _⟩ => (match fd.code with
    | .ref c => c
    | _ => 0)
  | _ => 0
def tbA (a : Ad) : Ad := fun K => tabOf K (a K)
/-! ### Bools -/
def intB (x : Str) (i : Int) (K : PySem.W.Frag) : Bool := match PySem.W.nsIn K mainGlobals x with
  | some (some (.int j _)) => decide (j = i)
  | _ => false
theorem intB_ok {x : Str} {i : Int} {K : PySem.W.Frag} (h : intB x i K = true) : ∃ t, PySem.W.nsIn K mainGlobals x = some (some (.int i t)) := by
  unfold intB at h
  split at h
  · next j t e => exact ⟨t, by rw [e, of_decide_eq_true h]⟩
  · cases h
def dB {α : Type} [DecidableEq α] (a b : PySem.W.Frag → α) (K : PySem.W.Frag) : Bool := decide (a K = b K)
theorem dB_ok {α : Type} [DecidableEq α] {a b : PySem.W.Frag → α} {K : PySem.W.Frag} (h : dB a b K = true) : a K = b K := of_decide_eq_true h
def recB (a f : Ad) (s : String) (K : PySem.W.Frag) : Bool := match PySem.W.recIn K (a K) s with
  | some (.ref g :: _) => decide (g = f K)
  | _ => false
theorem recB_ok {a f : Ad} {s : String} {K : PySem.W.Frag} (h : recB a f s K = true) : ∃ rest, PySem.W.recIn K (a K) s = some (.ref (f K) :: rest) := by
  unfold recB at h
  split at h
  · next g r e => exact ⟨r, by rw [e, of_decide_eq_true h]⟩
  · cases h
def codeB (f : Ad) (q : Str) (K : PySem.W.Frag) : Bool := match K.lookup (f K) with
  | some ⟨_, _, .func fd, _⟩ => PySem.W.codeIn K fd.code q
  | _ => false
def fnV (f : Ad) (K : PySem.W.Frag) : FnV := match K.lookup (f K) with
  | some ⟨_, _, .func fd, _⟩ => some (fd.name, fd.qualname, fd.params, fd.body, fd.scope, fd.globals, fd.closure, fd.defaults, fd.builtins)
  | _ => none
structure Dn where
  at_ : Ad
  name : Str
  qual : Str
  st : Stmt
def Dn.val (d : Dn) : FnV := some (d.name, d.qual, defArgs d.st, .stmts (defBody d.st), defScope d.st, mainGlobals, [], .none, builtinsNs)
theorem fnV_ok {f : Ad} {n q : Str} {st : Stmt} {K : PySem.W.Frag} (e : fnV f K = (Dn.mk f n q st).val) (c : codeB f q K = true) :
    ∃ oc od osl kV doc pm an cdv ct, K.lookup (f K) = some ⟨oc, od, .func (PySem.W.fnOf n q (defArgs st) (defBody st) (defScope st) .none kV doc pm an cdv ct), osl⟩ ∧ PySem.W.codeIn K cdv q = true := by
  unfold codeB at c
  unfold fnV Dn.val at e
  cases h : K.lookup (f K) with
  | none =>
    rw [h] at c
    cases c
  | some o =>
    obtain ⟨oc, od, dt, osl⟩ := o
    rw [h] at c e
    cases dt with
    | func fd =>
      obtain ⟨n1, n2, n3, n4, n5, n6, n7, n8, n9, n10, n11, n12, n13, n14, n15⟩ := fd
      have e2 : (some (n1, n2, n3, n4, n5, n6, n7, n8, n15) : FnV) = some (n, q, defArgs st, .stmts (defBody st), defScope st, mainGlobals, [], .none, builtinsNs) := e
      simp only [Option.some.injEq, Prod.mk.injEq] at e2
      obtain ⟨h1, h2, h3, h4, h5, h6, h7, h8, h9⟩ := e2
      subst h1 h2 h3 h4 h5 h6 h7 h8 h9
      exact ⟨oc, od, osl, n9, n10, n11, n12, n13, n14, rfl, c⟩
    | _ => cases c
def tup2i (a : Ad) (i j : Int) (K : PySem.W.Frag) : Bool := match K.lookup (a K) with
  | some ⟨t, _, .seq vs _, _⟩ => decide (t = .type "tuple") && (match vs.toList with
    | [.int x _, .int y _] => decide (x = i) && decide (y = j)
    | _ => false)
  | _ => false
theorem tup2i_ok {a : Ad} {i j : Int} {K : PySem.W.Frag} (h : tup2i a i j K = true) : ∃ od k0 k1 nn sl, K.lookup (a K) = some ⟨.type "tuple", od, .seq #[.int i k0, .int j k1] nn, sl⟩ := by
  unfold tup2i at h
  split at h
  · next t od vs nn sl e =>
    obtain ⟨h1, h2⟩ := ba h
    split at h2
    · next x k0 y k1 ev =>
      obtain ⟨h3, h4⟩ := ba h2
      have h1 := of_decide_eq_true h1
      have h3 := of_decide_eq_true h3
      have h4 := of_decide_eq_true h4
      subst h1 h3 h4
      have : vs = #[.int x k0, .int y k1] := Array.toList_inj.mp ev
      subst this
      exact ⟨od, k0, k1, nn, sl, e⟩
    · cases h2
  · cases h
def tup2s (a : Ad) (i j : Str) (K : PySem.W.Frag) : Bool := match K.lookup (a K) with
  | some ⟨t, _, .seq vs _, _⟩ => decide (t = .type "tuple") && (match vs.toList with
    | [.str x _, .str y _] => decide (x = i) && decide (y = j)
    | _ => false)
  | _ => false
theorem tup2s_ok {a : Ad} {i j : Str} {K : PySem.W.Frag} (h : tup2s a i j K = true) : ∃ od k0 k1 nn sl, K.lookup (a K) = some ⟨.type "tuple", od, .seq #[.str i k0, .str j k1] nn, sl⟩ := by
  unfold tup2s at h
  split at h
  · next t od vs nn sl e =>
    obtain ⟨h1, h2⟩ := ba h
    split at h2
    · next x k0 y k1 ev =>
      obtain ⟨h3, h4⟩ := ba h2
      have h1 := of_decide_eq_true h1
      have h3 := of_decide_eq_true h3
      have h4 := of_decide_eq_true h4
      subst h1 h3 h4
      have : vs = #[.str x k0, .str y k1] := Array.toList_inj.mp ev
      subst this
      exact ⟨od, k0, k1, nn, sl, e⟩
    · cases h2
  · cases h
/-- a static method found off the class -/
def smA (a : Ad) (m : Str) : Ad := fun K => match PySem.W.findCls K (.ref (a K)) (.type "type") m with
  | some (.get _ (.ref p) _ _) => p
  | _ => 0
def smB (a p : Ad) (m : Str) (K : PySem.W.Frag) : Bool := match PySem.W.findCls K (.ref (a K)) (.type "type") m with
  | some (.get g (.ref q) z (.ref c)) => decide (g = .builtin "staticmethod.__get__") && (decide (q = p K) && (decide (z = .none) && decide (c = a K)))
  | _ => false
theorem smB_ok {a p : Ad} {m : Str} {K : PySem.W.Frag} (h : smB a p m K = true) : PySem.W.findCls K (.ref (a K)) (.type "type") m = some (.get (.builtin "staticmethod.__get__") (.ref (p K)) .none (.ref (a K))) := by
  unfold smB at h
  split at h
  · next g q z c e =>
    obtain ⟨h1, h2⟩ := ba h
    obtain ⟨h3, h4⟩ := ba h2
    obtain ⟨h5, h6⟩ := ba h4
    rw [e, of_decide_eq_true h1, of_decide_eq_true h3, of_decide_eq_true h5, of_decide_eq_true h6]
  · cases h
def clvB (a f : Ad) (m : Str) (K : PySem.W.Frag) : Bool := match PySem.W.findCls K (.ref (a K)) (.type "type") m with
  | some (.val (.ref q)) => decide (q = f K)
  | _ => false
theorem clvB_ok {a f : Ad} {m : Str} {K : PySem.W.Frag} (h : clvB a f m K = true) : PySem.W.findCls K (.ref (a K)) (.type "type") m = some (.val (.ref (f K))) := by
  unfold clvB at h
  split at h
  · next q e => rw [e, of_decide_eq_true h]
  · cases h
/-! ### a maker's code object -/
theorem cd_ok {f : Ad} {K : PySem.W.Frag} {oc : Value} {od : Option Addr} {osl : Array (Option Value)} {fd : FuncData} {q : Str} (h : K.lookup (f K) = some ⟨oc, od, .func fd, osl⟩) (c : PySem.W.codeIn K fd.code q = true) : fd.code = .ref (cdA f K) := by
  obtain ⟨b, e⟩ := codeIn_ref c
  have : cdA f K = b := by
    unfold cdA
    rw [h]
    dsimp only
    rw [e]
  rw [e, this]
theorem hd_ok {c P : Addr} {K : PySem.W.Frag} (h : PySem.W.codeHdIn K c P = true) : ∃ dC vC sC, K.lookup c = some ⟨.type "code", dC, .fields vC, sC⟩ ∧ (vC[11]? : Option Value) = some (.ref P) := by
  unfold PySem.W.codeHdIn at h
  split at h
  · next dC vs sC hk =>
    simp only [Bool.and_eq_true] at h
    obtain ⟨⟨⟨⟨⟨h1, _⟩, _⟩, _⟩, _⟩, _⟩ := h
    refine ⟨dC, vs, sC, hk, ?_⟩
    split at h1
    · next P' e =>
      have : P' = P := by simpa using h1
      rw [e, this]
    · cases h1
  · cases h
/-! ### the Hook -/
structure SaysZ (fn : List Dn) (tf : List Ad) (ex : List (PySem.W.Frag → Bool)) (h : Heap) (K : PySem.W.Frag) : Prop where
  fns : fn.map (fun d => fnV d.at_ K) = fn.map Dn.val
  more : (ex.all fun e => e K) = true
  hd : ∀ p ∈ tf, PySem.W.codeHdIn K (cdA p K) (tbA (cdA p) K) = true
  out : ∀ p ∈ tf, K.lookup (tbA (cdA p) K) = none
  empty : ∀ p ∈ tf, h.get? (tbA (cdA p) K) = some { cls := .none, data := .fields #[] }
def tabsZ (g : Addr → Option Obj) (tf : List Ad) (K : PySem.W.Frag) : Bool := tf.all fun p => PySem.W.codeHdIn K (cdA p K) (tbA (cdA p) K) && (match g (tbA (cdA p) K) with
  | some o => emptyTab o
  | none => false)
abbrev AlZ : Type := List FnV × Bool × Bool
def obsK (fn : List Dn) (tf : List Ad) (ex : List (PySem.W.Frag → Bool)) (g : Addr → Option Obj) (K : PySem.W.Frag) : AlZ := (fn.map (fun d => fnV d.at_ K), (ex.all fun e => e K), tabsZ g tf K)
def obsZ (n : List Addr) (fn : List Dn) (tf : List Ad) (ex : List (PySem.W.Frag → Bool)) (g : Addr → Option Obj) : AlZ := obsK fn tf ex g (frT g n)
def valZ (fn : List Dn) : AlZ := (fn.map Dn.val, true, true)
theorem saysZ_of {n : List Addr} {fn : List Dn} {tf : List Ad} {ex : List (PySem.W.Frag → Bool)} {h : Heap} (e : obsZ n fn tf ex h.get? = valZ fn) : SaysZ fn tf ex h (frT h.get? n) := by
  have e1 : fn.map (fun d => fnV d.at_ (frT h.get? n)) = fn.map Dn.val := congrArg (fun z : AlZ => z.1) e
  have h1 : (ex.all fun e => e (frT h.get? n)) = true := congrArg (fun z : AlZ => z.2.1) e
  have h2 : tabsZ h.get? tf (frT h.get? n) = true := congrArg (fun z : AlZ => z.2.2) e
  have key : ∀ p ∈ tf, PySem.W.codeHdIn (frT h.get? n) (cdA p (frT h.get? n)) (tbA (cdA p) (frT h.get? n)) = true ∧ ∃ o, h.get? (tbA (cdA p) (frT h.get? n)) = some o ∧ emptyTab o = true := fun p hp => by
    obtain ⟨h3, h4⟩ := ba (List.all_eq_true.mp h2 p hp)
    refine ⟨h3, ?_⟩
    cases q : h.get? (tbA (cdA p) (frT h.get? n)) with
    | none =>
      rw [q] at h4
      cases h4
    | some o =>
      rw [q] at h4
      exact ⟨o, rfl, h4⟩
  exact ⟨e1, h1, fun p hp => (key p hp).1, fun p hp => by
    obtain ⟨_, o, q, z⟩ := key p hp
    exact frT_none q z, fun p hp => by
    obtain ⟨_, o, q, z⟩ := key p hp
    rw [q, emptyTab_eq z]⟩
def hookZ (n : List Addr) (fn : List Dn) (tf : List Ad) (ex : List (PySem.W.Frag → Bool)) : PySem.W.Hook where
  α := AlZ
  obs := fun s => obsZ n fn tf ex s.heap.get?
  val := fun _ => valZ fn
  says := fun _ h => ∃ K : PySem.W.Frag, K.In h ∧ SaysZ fn tf ex h K
  of := fun _ _ e => ⟨_, frT_in, saysZ_of e⟩
  keeps := fun _ _ _ ⟨K, hK, c⟩ k => ⟨K, PySem.W.Frag.In.keeps hK k, ⟨c.fns, c.more, c.hd, c.out, fun p hp => k _ _ (c.empty p hp)⟩⟩
theorem obsZ_eq {n : List Addr} {fn : List Dn} {tf : List Ad} {ex : List (PySem.W.Frag → Bool)} {g : Addr → Option Obj} {s : Shared} (h : ∀ a, g a = s.heap.get? a) : obsZ n fn tf ex g = (hookZ n fn tf ex).obs s := by
  have e : g = s.heap.get? := funext h
  rw [e] <;> rfl
section
variable {fn : List Dn} {tf : List Ad} {ex : List (PySem.W.Frag → Bool)} {h : Heap} {K : PySem.W.Frag}
theorem SaysZ.fact (c : SaysZ fn tf ex h K) (i : Nat) {f : PySem.W.Frag → Bool} (e : ex[i]? = some f := by rfl) : f K = true := List.all_eq_true.mp c.more f (List.mem_of_getElem? e)
theorem SaysZ.defn (c : SaysZ fn tf ex h K) (i : Nat) {d : Dn} (e : fn[i]? = some d := by rfl) : fnV d.at_ K = d.val := by
  have q := congrArg (fun z => z[i]?) c.fns
  simp only [List.getElem?_map, e, Option.map_some] at q
  exact Option.some.inj q
theorem SaysZ.tab (c : SaysZ fn tf ex h K) (i : Nat) {p : Ad} (e : tf[i]? = some p := by rfl) : PySem.W.codeHdIn K (cdA p K) (tbA (cdA p) K) = true ∧ K.lookup (tbA (cdA p) K) = none ∧ h.get? (tbA (cdA p) K) = some (PySem.W.tabObj #[]) :=
  ⟨c.hd p (List.mem_of_getElem? e), c.out p (List.mem_of_getElem? e), c.empty p (List.mem_of_getElem? e)⟩
end
/-- a law's end over such a head -/
theorem walk_ofZ {l : PySem.W.OpenLaw} {n k : Nat} {q : Program} {loose : List Str} {XP : (Str → Option Value) → Heap → Prop} {YP : World → Heap → Prop} {d : DefRec} {x : Str}
    (hn : l.most = some n) (hn2 : n ≤ sizeLine) (hdf : d.params.defaults = []) (hr : Room k callerA)
    (F : ∀ (w : World) (mg : Str → Option Value) (fa : Addr) (h : Heap), YP w h → h.Ns mainGlobals mg → mg d.name = some (.ref fa) → ∃ K : PySem.W.Frag, K.In h ∧ LawT l w K k n x mg fa h) :
    PySem.W.WalkO q loose XP YP l.row.toRowW d [] (fun f vs => PySem.call f vs) := by
  refine Att.attach_call hn hdf fun w s0 s1 mg mb fa o pm cd doc a vs ns G Y ho hd hcd hmg hobj hints hlen hgen => ?_
  obtain ⟨K, KX, fd, cs, sp, hT, nT, hC, hb, hsp, hF⟩ := F w mg fa _ Y G.T.g hmg
  have rv := vals_ints hints
  have hl : ns.length ≤ sizeLine := Nat.le_trans hlen hn2
  have lenV := hints.length
  have nat : ∀ p ∈ cs, p.2 ≠ a := fun p hp z => by
    have q := hT p hp
    rw [z, hobj] at q
    have z' : Data.seq vs.toArray _ = Data.fields #[] := congrArg Obj.data (Option.some.inj q)
    cases z'
  cases hk : K.lookup a with
  | some ob =>
    have e := KX a ob hk
    rw [hobj] at e
    cases e
    exact law_runT (xs := []) (sc := none) KX G.T.g G.T.b G.T.builtins G.T.nolimit hgen hT nT hC G.T.bmain hobj hr hF hb (.inl rfl) (fun u z => by cases z)
      (hsp _ a ns hlen (fun p hp => startH_t (List.mem_map.mpr ⟨p, hp, rfl⟩) (nat p hp)) (.inr ⟨_, vs.toArray, _, hk, rfl, rfl, rfl, by rw [List.size_toArray, lenV]; exact hl, by simpa using rv⟩))
  | none =>
    exact law_runT (xs := ns.map V.int) (sc := some (.frz { cls := .type "list", data := .seq vs.toArray } (.lst (ns.map V.int)))) KX G.T.g G.T.b G.T.builtins G.T.nolimit hgen hT nT hC G.T.bmain hobj hr hF hb (.inr ⟨hk, rfl⟩)
      (fun u z => by cases z; exact ⟨hobj, by rw [List.length_map]; exact hl, vs, _, rv, hobj⟩) (hsp _ a ns hlen (fun p hp => startH_t (List.mem_map.mpr ⟨p, hp, rfl⟩) (nat p hp)) (.inl (.inr ⟨_, startH_a⟩)))
end RL

set_option maxHeartbeats 0
namespace RL
open PySem PySem.Spec PyProof.Rows L2 He
def e0 : PySem.W.Frag → Bool := fun K => intB "GREATEST" 1000000000000 K
def e1 : PySem.W.Frag → Bool := fun K => intB "MOST_OHMS" 12 K
def e2 : PySem.W.Frag → Bool := fun K => intB "MOST_PIECES" 4 K
def e3 : PySem.W.Frag → Bool := fun K => intB "MOST_JOINED" 8 K
def A_aO : Ad := glA "OPEN"
def e4 : PySem.W.Frag → Bool := fun K => decide (PySem.W.nsIn K mainGlobals "OPEN" = some (some (.ref (A_aO K))))
def e5 : PySem.W.Frag → Bool := fun K => tup2i A_aO 1 0 K
def A_aW : Ad := glA "WORDS"
def e6 : PySem.W.Frag → Bool := fun K => decide (PySem.W.nsIn K mainGlobals "WORDS" = some (some (.ref (A_aW K))))
def e7 : PySem.W.Frag → Bool := fun K => tup2s A_aW (Str.ofString "rail") (Str.ofString "rung") K
def A_J : Ad := glA "JoinedRow"
def e8 : PySem.W.Frag → Bool := fun K => decide (PySem.W.nsIn K mainGlobals "JoinedRow" = some (some (.ref (A_J K))))
def e9 : PySem.W.Frag → Bool := fun K => PySem.W.plainGet K (A_J K) Str.empty
def e10 : PySem.W.Frag → Bool := fun K => PySem.W.hasDictIn K (A_J K)
def e11 : PySem.W.Frag → Bool := fun K => PySem.W.plainOver K (A_J K)
def e12 : PySem.W.Frag → Bool := fun K => decide (PySem.W.findIn K (.ref (A_J K)) "__setattr__" = some (some (.builtin "object.__setattr__")))
def e13 : PySem.W.Frag → Bool := fun K => PySem.W.makesIn K (A_J K)
def e14 : PySem.W.Frag → Bool := fun K => PySem.W.keepIn K (.ref (A_J K))
def e15 : PySem.W.Frag → Bool := fun K => decide (PySem.W.findIn K (.ref (A_J K)) "row" = some none)
def e16 : PySem.W.Frag → Bool := fun K => decide (PySem.W.findIn K (.ref (A_J K)) "__class__" = some (some (.builtin "object.__class__")))
def e17 : PySem.W.Frag → Bool := fun K => decide (PySem.W.mroIn K (A_J K) (.type "object") = some true)
def e18 : PySem.W.Frag → Bool := fun K => decide (PySem.W.specialIn K (.builtin "object.__class__") "__get__" = some (some (.builtin "getset_descriptor.__get__")))
def e19 : PySem.W.Frag → Bool := fun K => decide (PySem.W.takesIn K (.builtin "object.__class__") = some true)
def A_C : Ad := glA "Pattern"
def e20 : PySem.W.Frag → Bool := fun K => decide (PySem.W.nsIn K mainGlobals "Pattern" = some (some (.ref (A_C K))))
def e21 : PySem.W.Frag → Bool := fun K => PySem.W.plainGet K (A_C K) Str.empty
def e22 : PySem.W.Frag → Bool := fun K => PySem.W.hasDictIn K (A_C K)
def e23 : PySem.W.Frag → Bool := fun K => PySem.W.plainOver K (A_C K)
def e24 : PySem.W.Frag → Bool := fun K => decide (PySem.W.findIn K (.ref (A_C K)) "__setattr__" = some (some (.builtin "object.__setattr__")))
def e25 : PySem.W.Frag → Bool := fun K => PySem.W.makesIn K (A_C K)
def e26 : PySem.W.Frag → Bool := fun K => PySem.W.keepIn K (.ref (A_C K))
def e27 : PySem.W.Frag → Bool := fun K => decide (PySem.W.findIn K (.ref (A_C K)) "row" = some none)
def e28 : PySem.W.Frag → Bool := fun K => decide (PySem.W.findIn K (.ref (A_C K)) "matrix" = some none)
def e29 : PySem.W.Frag → Bool := fun K => decide (PySem.W.findIn K (.ref (A_C K)) "scale" = some none)
def e30 : PySem.W.Frag → Bool := fun K => decide (PySem.W.findIn K (.ref (A_C K)) "four" = some none)
def e31 : PySem.W.Frag → Bool := fun K => decide (PySem.W.kitOne K (.type "tuple") (.ref (A_J K)) = some false)
def e32 : PySem.W.Frag → Bool := fun K => PySem.W.selfFirst K (A_C K)
def e33 : PySem.W.Frag → Bool := fun K => PySem.W.readsIn K (A_C K) (.type "type")
def e34 : PySem.W.Frag → Bool := fun K => decide (PySem.W.specialIn K (.ref (A_C K)) "__getattribute__" = some (some (.builtin "type.__getattribute__")))
def A_f_JoinedRow_init : Ad := meA A_J "__init__"
def e35 : PySem.W.Frag → Bool := fun K => decide (PySem.W.findIn K (.ref (A_J K)) "__init__" = some (some (.ref (A_f_JoinedRow_init K))))
def e36 : PySem.W.Frag → Bool := fun K => PySem.W.isFn K (.ref (A_f_JoinedRow_init K))
def e37 : PySem.W.Frag → Bool := fun K => codeB A_f_JoinedRow_init "JoinedRow.__init__" K
def d0 : Dn := ⟨A_f_JoinedRow_init, "__init__", "JoinedRow.__init__", s_JoinedRow_init⟩
def e38 : PySem.W.Frag → Bool := fun K => PySem.W.keepIn K (.ref (A_f_JoinedRow_init K))
def A_f_Pattern_init : Ad := meA A_C "__init__"
def e39 : PySem.W.Frag → Bool := fun K => decide (PySem.W.findIn K (.ref (A_C K)) "__init__" = some (some (.ref (A_f_Pattern_init K))))
def e40 : PySem.W.Frag → Bool := fun K => PySem.W.isFn K (.ref (A_f_Pattern_init K))
def e41 : PySem.W.Frag → Bool := fun K => codeB A_f_Pattern_init "Pattern.__init__" K
def d1 : Dn := ⟨A_f_Pattern_init, "__init__", "Pattern.__init__", s_Pattern_init⟩
def e42 : PySem.W.Frag → Bool := fun K => PySem.W.keepIn K (.ref (A_f_Pattern_init K))
def A_f_Pattern_call : Ad := meA A_C "__call__"
def e43 : PySem.W.Frag → Bool := fun K => decide (PySem.W.findIn K (.ref (A_C K)) "__call__" = some (some (.ref (A_f_Pattern_call K))))
def e44 : PySem.W.Frag → Bool := fun K => PySem.W.isFn K (.ref (A_f_Pattern_call K))
def e45 : PySem.W.Frag → Bool := fun K => codeB A_f_Pattern_call "Pattern.__call__" K
def d2 : Dn := ⟨A_f_Pattern_call, "__call__", "Pattern.__call__", s_Pattern_call⟩
def e46 : PySem.W.Frag → Bool := fun K => PySem.W.keepIn K (.ref (A_f_Pattern_call K))
def e47 : PySem.W.Frag → Bool := fun K => PySem.W.fnIn K (A_f_Pattern_call K)
def A_f_Pattern_add : Ad := meA A_C "__add__"
def e48 : PySem.W.Frag → Bool := fun K => decide (PySem.W.findIn K (.ref (A_C K)) "__add__" = some (some (.ref (A_f_Pattern_add K))))
def e49 : PySem.W.Frag → Bool := fun K => PySem.W.isFn K (.ref (A_f_Pattern_add K))
def e50 : PySem.W.Frag → Bool := fun K => codeB A_f_Pattern_add "Pattern.__add__" K
def d3 : Dn := ⟨A_f_Pattern_add, "__add__", "Pattern.__add__", s_Pattern_add⟩
def e51 : PySem.W.Frag → Bool := fun K => PySem.W.keepIn K (.ref (A_f_Pattern_add K))
def A_pr_Pattern_numbers : Ad := meA A_C "numbers"
def e52 : PySem.W.Frag → Bool := fun K => decide (PySem.W.findIn K (.ref (A_C K)) "numbers" = some (some (.ref (A_pr_Pattern_numbers K))))
def e53 : PySem.W.Frag → Bool := fun K => decide (PySem.W.specialIn K (.ref (A_pr_Pattern_numbers K)) "__get__" = some (some (.builtin "property.__get__")))
def e54 : PySem.W.Frag → Bool := fun K => decide (PySem.W.takesIn K (.ref (A_pr_Pattern_numbers K)) = some true)
def A_f_Pattern_numbers : Ad := rcA A_pr_Pattern_numbers "property"
def e55 : PySem.W.Frag → Bool := fun K => recB A_pr_Pattern_numbers A_f_Pattern_numbers "property" K
def e56 : PySem.W.Frag → Bool := fun K => codeB A_f_Pattern_numbers "Pattern.numbers" K
def d4 : Dn := ⟨A_f_Pattern_numbers, "numbers", "Pattern.numbers", s_Pattern_numbers⟩
def e57 : PySem.W.Frag → Bool := fun K => PySem.W.keepIn K (.ref (A_f_Pattern_numbers K))
def A_pr_Pattern_read : Ad := smA A_C "read"
def e58 : PySem.W.Frag → Bool := fun K => smB A_C A_pr_Pattern_read "read" K
def A_f_Pattern_read : Ad := rcA A_pr_Pattern_read "staticmethod"
def e59 : PySem.W.Frag → Bool := fun K => recB A_pr_Pattern_read A_f_Pattern_read "staticmethod" K
def e60 : PySem.W.Frag → Bool := fun K => codeB A_f_Pattern_read "Pattern.read" K
def d5 : Dn := ⟨A_f_Pattern_read, "read", "Pattern.read", s_Pattern_read⟩
def e61 : PySem.W.Frag → Bool := fun K => PySem.W.keepIn K (.ref (A_f_Pattern_read K))
def e62 : PySem.W.Frag → Bool := fun K => decide (PySem.W.nsIn K mainGlobals "len" = some none)
def e63 : PySem.W.Frag → Bool := fun K => decide (PySem.W.nsIn K mainGlobals "abs" = some none)
def e64 : PySem.W.Frag → Bool := fun K => decide (PySem.W.nsIn K mainGlobals "int" = some none)
def e65 : PySem.W.Frag → Bool := fun K => decide (PySem.W.nsIn K mainGlobals "bool" = some none)
def e66 : PySem.W.Frag → Bool := fun K => decide (PySem.W.nsIn K mainGlobals "tuple" = some none)
def e67 : PySem.W.Frag → Bool := fun K => decide (PySem.W.nsIn K mainGlobals "isinstance" = some none)
def e68 : PySem.W.Frag → Bool := fun K => decide (PySem.W.nsIn K mainGlobals "divmod" = some none)
def e69 : PySem.W.Frag → Bool := fun K => decide (PySem.W.nsIn K mainGlobals "max" = some none)
def e70 : PySem.W.Frag → Bool := fun K => decide (PySem.W.nsIn K mainGlobals "min" = some none)
def e71 : PySem.W.Frag → Bool := fun K => decide (PySem.W.nsIn K mainGlobals "range" = some none)
def e72 : PySem.W.Frag → Bool := fun K => decide (PySem.W.nsIn K mainGlobals "all" = some none)
def e73 : PySem.W.Frag → Bool := fun K => decide (PySem.W.nsIn K mainGlobals "repr" = some none)
def e74 : PySem.W.Frag → Bool := fun K => decide (PySem.W.nsIn K mainGlobals "str" = some none)
def e75 : PySem.W.Frag → Bool := fun K => decide (PySem.W.nsIn K mainGlobals "enumerate" = some none)
def A_f_is_integer : Ad := glA "is_integer"
def e76 : PySem.W.Frag → Bool := fun K => decide (PySem.W.nsIn K mainGlobals "is_integer" = some (some (.ref (A_f_is_integer K))))
def e77 : PySem.W.Frag → Bool := fun K => codeB A_f_is_integer "is_integer" K
def d6 : Dn := ⟨A_f_is_integer, "is_integer", "is_integer", s_is_integer⟩
def e78 : PySem.W.Frag → Bool := fun K => PySem.W.keepIn K (.ref (A_f_is_integer K))
def A_f_is_integer_within : Ad := glA "is_integer_within"
def e79 : PySem.W.Frag → Bool := fun K => decide (PySem.W.nsIn K mainGlobals "is_integer_within" = some (some (.ref (A_f_is_integer_within K))))
def e80 : PySem.W.Frag → Bool := fun K => codeB A_f_is_integer_within "is_integer_within" K
def d7 : Dn := ⟨A_f_is_integer_within, "is_integer_within", "is_integer_within", s_is_integer_within⟩
def e81 : PySem.W.Frag → Bool := fun K => PySem.W.keepIn K (.ref (A_f_is_integer_within K))
def A_f_is_pair_of_integers : Ad := glA "is_pair_of_integers"
def e82 : PySem.W.Frag → Bool := fun K => decide (PySem.W.nsIn K mainGlobals "is_pair_of_integers" = some (some (.ref (A_f_is_pair_of_integers K))))
def e83 : PySem.W.Frag → Bool := fun K => codeB A_f_is_pair_of_integers "is_pair_of_integers" K
def d8 : Dn := ⟨A_f_is_pair_of_integers, "is_pair_of_integers", "is_pair_of_integers", s_is_pair_of_integers⟩
def e84 : PySem.W.Frag → Bool := fun K => PySem.W.keepIn K (.ref (A_f_is_pair_of_integers K))
def A_f_is_resistance : Ad := glA "is_resistance"
def e85 : PySem.W.Frag → Bool := fun K => decide (PySem.W.nsIn K mainGlobals "is_resistance" = some (some (.ref (A_f_is_resistance K))))
def e86 : PySem.W.Frag → Bool := fun K => codeB A_f_is_resistance "is_resistance" K
def d9 : Dn := ⟨A_f_is_resistance, "is_resistance", "is_resistance", s_is_resistance⟩
def e87 : PySem.W.Frag → Bool := fun K => PySem.W.keepIn K (.ref (A_f_is_resistance K))
def A_f_pair_of : Ad := glA "pair_of"
def e88 : PySem.W.Frag → Bool := fun K => decide (PySem.W.nsIn K mainGlobals "pair_of" = some (some (.ref (A_f_pair_of K))))
def e89 : PySem.W.Frag → Bool := fun K => codeB A_f_pair_of "pair_of" K
def d10 : Dn := ⟨A_f_pair_of, "pair_of", "pair_of", s_pair_of⟩
def e90 : PySem.W.Frag → Bool := fun K => PySem.W.keepIn K (.ref (A_f_pair_of K))
def A_f_common_divisor : Ad := glA "common_divisor"
def e91 : PySem.W.Frag → Bool := fun K => decide (PySem.W.nsIn K mainGlobals "common_divisor" = some (some (.ref (A_f_common_divisor K))))
def e92 : PySem.W.Frag → Bool := fun K => codeB A_f_common_divisor "common_divisor" K
def d11 : Dn := ⟨A_f_common_divisor, "common_divisor", "common_divisor", s_common_divisor⟩
def e93 : PySem.W.Frag → Bool := fun K => PySem.W.keepIn K (.ref (A_f_common_divisor K))
def A_f_lowest_terms : Ad := glA "lowest_terms"
def e94 : PySem.W.Frag → Bool := fun K => decide (PySem.W.nsIn K mainGlobals "lowest_terms" = some (some (.ref (A_f_lowest_terms K))))
def e95 : PySem.W.Frag → Bool := fun K => codeB A_f_lowest_terms "lowest_terms" K
def d12 : Dn := ⟨A_f_lowest_terms, "lowest_terms", "lowest_terms", s_lowest_terms⟩
def e96 : PySem.W.Frag → Bool := fun K => PySem.W.keepIn K (.ref (A_f_lowest_terms K))
def A_f_lowest_pair : Ad := glA "lowest_pair"
def e97 : PySem.W.Frag → Bool := fun K => decide (PySem.W.nsIn K mainGlobals "lowest_pair" = some (some (.ref (A_f_lowest_pair K))))
def e98 : PySem.W.Frag → Bool := fun K => codeB A_f_lowest_pair "lowest_pair" K
def d13 : Dn := ⟨A_f_lowest_pair, "lowest_pair", "lowest_pair", s_lowest_pair⟩
def e99 : PySem.W.Frag → Bool := fun K => PySem.W.keepIn K (.ref (A_f_lowest_pair K))
def A_f_is_piece : Ad := glA "is_piece"
def e100 : PySem.W.Frag → Bool := fun K => decide (PySem.W.nsIn K mainGlobals "is_piece" = some (some (.ref (A_f_is_piece K))))
def e101 : PySem.W.Frag → Bool := fun K => codeB A_f_is_piece "is_piece" K
def d14 : Dn := ⟨A_f_is_piece, "is_piece", "is_piece", s_is_piece⟩
def e102 : PySem.W.Frag → Bool := fun K => PySem.W.keepIn K (.ref (A_f_is_piece K))
def A_f_checked_row : Ad := glA "checked_row"
def e103 : PySem.W.Frag → Bool := fun K => decide (PySem.W.nsIn K mainGlobals "checked_row" = some (some (.ref (A_f_checked_row K))))
def e104 : PySem.W.Frag → Bool := fun K => codeB A_f_checked_row "checked_row" K
def d15 : Dn := ⟨A_f_checked_row, "checked_row", "checked_row", s_checked_row⟩
def e105 : PySem.W.Frag → Bool := fun K => PySem.W.keepIn K (.ref (A_f_checked_row K))
def A_f_matrix_and_scale : Ad := glA "matrix_and_scale"
def e106 : PySem.W.Frag → Bool := fun K => decide (PySem.W.nsIn K mainGlobals "matrix_and_scale" = some (some (.ref (A_f_matrix_and_scale K))))
def e107 : PySem.W.Frag → Bool := fun K => codeB A_f_matrix_and_scale "matrix_and_scale" K
def d16 : Dn := ⟨A_f_matrix_and_scale, "matrix_and_scale", "matrix_and_scale", s_matrix_and_scale⟩
def e108 : PySem.W.Frag → Bool := fun K => PySem.W.keepIn K (.ref (A_f_matrix_and_scale K))
def A_f_shown_before : Ad := glA "shown_before"
def e109 : PySem.W.Frag → Bool := fun K => decide (PySem.W.nsIn K mainGlobals "shown_before" = some (some (.ref (A_f_shown_before K))))
def e110 : PySem.W.Frag → Bool := fun K => codeB A_f_shown_before "shown_before" K
def d17 : Dn := ⟨A_f_shown_before, "shown_before", "shown_before", s_shown_before⟩
def e111 : PySem.W.Frag → Bool := fun K => PySem.W.keepIn K (.ref (A_f_shown_before K))
def A_f_piece_text : Ad := glA "piece_text"
def e112 : PySem.W.Frag → Bool := fun K => decide (PySem.W.nsIn K mainGlobals "piece_text" = some (some (.ref (A_f_piece_text K))))
def e113 : PySem.W.Frag → Bool := fun K => codeB A_f_piece_text "piece_text" K
def d18 : Dn := ⟨A_f_piece_text, "piece_text", "piece_text", s_piece_text⟩
def e114 : PySem.W.Frag → Bool := fun K => PySem.W.keepIn K (.ref (A_f_piece_text K))
def A_f_piece_with_text : Ad := glA "piece_with_text"
def e115 : PySem.W.Frag → Bool := fun K => decide (PySem.W.nsIn K mainGlobals "piece_with_text" = some (some (.ref (A_f_piece_with_text K))))
def e116 : PySem.W.Frag → Bool := fun K => codeB A_f_piece_with_text "piece_with_text" K
def d19 : Dn := ⟨A_f_piece_with_text, "piece_with_text", "piece_with_text", s_piece_with_text⟩
def e117 : PySem.W.Frag → Bool := fun K => PySem.W.keepIn K (.ref (A_f_piece_with_text K))
def A_f_law_cup : Ad := glA "_law_cup"
def e118 : PySem.W.Frag → Bool := fun K => decide (PySem.W.nsIn K mainGlobals "_law_cup" = some (some (.ref (A_f_law_cup K))))
def e119 : PySem.W.Frag → Bool := fun K => codeB A_f_law_cup "_law_cup" K
def d20 : Dn := ⟨A_f_law_cup, "_law_cup", "_law_cup", s_law_cup⟩
def e120 : PySem.W.Frag → Bool := fun K => PySem.W.keepIn K (.ref (A_f_law_cup K))
def A_f_law_sip : Ad := glA "_law_sip"
def e121 : PySem.W.Frag → Bool := fun K => decide (PySem.W.nsIn K mainGlobals "_law_sip" = some (some (.ref (A_f_law_sip K))))
def e122 : PySem.W.Frag → Bool := fun K => codeB A_f_law_sip "_law_sip" K
def d21 : Dn := ⟨A_f_law_sip, "_law_sip", "_law_sip", s_law_sip⟩
def e123 : PySem.W.Frag → Bool := fun K => PySem.W.keepIn K (.ref (A_f_law_sip K))
def A_f_law_pick : Ad := glA "_law_pick"
def e124 : PySem.W.Frag → Bool := fun K => decide (PySem.W.nsIn K mainGlobals "_law_pick" = some (some (.ref (A_f_law_pick K))))
def e125 : PySem.W.Frag → Bool := fun K => codeB A_f_law_pick "_law_pick" K
def d22 : Dn := ⟨A_f_law_pick, "_law_pick", "_law_pick", s_law_pick⟩
def e126 : PySem.W.Frag → Bool := fun K => PySem.W.keepIn K (.ref (A_f_law_pick K))
def e127 : PySem.W.Frag → Bool := fun K => decide (PySem.W.findIn K (.ref (A_C K)) "__class__" = some (some (.builtin "object.__class__")))
def e128 : PySem.W.Frag → Bool := fun K => decide (PySem.W.mroIn K (A_C K) (.type "object") = some true)
def e129 : PySem.W.Frag → Bool := fun K => intB "GREATEST_PART" 10000000000000000000000000000000000000000 K
def e130 : PySem.W.Frag → Bool := fun K => intB "MOST_SECTIONS" 100 K
def A_Ce : Ad := glA "Exact"
def e131 : PySem.W.Frag → Bool := fun K => decide (PySem.W.nsIn K mainGlobals "Exact" = some (some (.ref (A_Ce K))))
def e132 : PySem.W.Frag → Bool := fun K => PySem.W.plainGet K (A_Ce K) Str.empty
def e133 : PySem.W.Frag → Bool := fun K => PySem.W.hasDictIn K (A_Ce K)
def e134 : PySem.W.Frag → Bool := fun K => PySem.W.plainOver K (A_Ce K)
def e135 : PySem.W.Frag → Bool := fun K => decide (PySem.W.findIn K (.ref (A_Ce K)) "__setattr__" = some (some (.builtin "object.__setattr__")))
def e136 : PySem.W.Frag → Bool := fun K => PySem.W.makesIn K (A_Ce K)
def e137 : PySem.W.Frag → Bool := fun K => PySem.W.keepIn K (.ref (A_Ce K))
def e138 : PySem.W.Frag → Bool := fun K => decide (PySem.W.findIn K (.ref (A_Ce K)) "parts" = some none)
def e139 : PySem.W.Frag → Bool := fun K => decide (PySem.W.findIn K (.ref (A_Ce K)) "__class__" = some (some (.builtin "object.__class__")))
def e140 : PySem.W.Frag → Bool := fun K => decide (PySem.W.mroIn K (A_Ce K) (.type "object") = some true)
def A_Cl : Ad := glA "Ladder"
def e141 : PySem.W.Frag → Bool := fun K => decide (PySem.W.nsIn K mainGlobals "Ladder" = some (some (.ref (A_Cl K))))
def e142 : PySem.W.Frag → Bool := fun K => PySem.W.plainGet K (A_Cl K) Str.empty
def e143 : PySem.W.Frag → Bool := fun K => PySem.W.hasDictIn K (A_Cl K)
def e144 : PySem.W.Frag → Bool := fun K => PySem.W.plainOver K (A_Cl K)
def e145 : PySem.W.Frag → Bool := fun K => decide (PySem.W.findIn K (.ref (A_Cl K)) "__setattr__" = some (some (.builtin "object.__setattr__")))
def e146 : PySem.W.Frag → Bool := fun K => PySem.W.makesIn K (A_Cl K)
def e147 : PySem.W.Frag → Bool := fun K => PySem.W.keepIn K (.ref (A_Cl K))
def e148 : PySem.W.Frag → Bool := fun K => decide (PySem.W.findIn K (.ref (A_Cl K)) "section" = some none)
def e149 : PySem.W.Frag → Bool := fun K => decide (PySem.W.findIn K (.ref (A_Cl K)) "behind" = some none)
def e150 : PySem.W.Frag → Bool := fun K => decide (PySem.W.findIn K (.ref (A_Cl K)) "far" = some none)
def A_f_is_count : Ad := glA "is_count"
def e151 : PySem.W.Frag → Bool := fun K => decide (PySem.W.nsIn K mainGlobals "is_count" = some (some (.ref (A_f_is_count K))))
def e152 : PySem.W.Frag → Bool := fun K => codeB A_f_is_count "is_count" K
def d23 : Dn := ⟨A_f_is_count, "is_count", "is_count", s_is_count⟩
def e153 : PySem.W.Frag → Bool := fun K => PySem.W.keepIn K (.ref (A_f_is_count K))
def A_f_fraction_text : Ad := glA "fraction_text"
def e154 : PySem.W.Frag → Bool := fun K => decide (PySem.W.nsIn K mainGlobals "fraction_text" = some (some (.ref (A_f_fraction_text K))))
def e155 : PySem.W.Frag → Bool := fun K => codeB A_f_fraction_text "fraction_text" K
def d24 : Dn := ⟨A_f_fraction_text, "fraction_text", "fraction_text", s_fraction_text⟩
def e156 : PySem.W.Frag → Bool := fun K => PySem.W.keepIn K (.ref (A_f_fraction_text K))
def A_f_sign : Ad := glA "sign"
def e157 : PySem.W.Frag → Bool := fun K => decide (PySem.W.nsIn K mainGlobals "sign" = some (some (.ref (A_f_sign K))))
def e158 : PySem.W.Frag → Bool := fun K => codeB A_f_sign "sign" K
def d25 : Dn := ⟨A_f_sign, "sign", "sign", s_sign⟩
def e159 : PySem.W.Frag → Bool := fun K => PySem.W.keepIn K (.ref (A_f_sign K))
def A_f_square_root : Ad := glA "square_root"
def e160 : PySem.W.Frag → Bool := fun K => decide (PySem.W.nsIn K mainGlobals "square_root" = some (some (.ref (A_f_square_root K))))
def e161 : PySem.W.Frag → Bool := fun K => codeB A_f_square_root "square_root" K
def d26 : Dn := ⟨A_f_square_root, "square_root", "square_root", s_square_root⟩
def e162 : PySem.W.Frag → Bool := fun K => PySem.W.keepIn K (.ref (A_f_square_root K))
def A_f_under_root : Ad := glA "under_root"
def e163 : PySem.W.Frag → Bool := fun K => decide (PySem.W.nsIn K mainGlobals "under_root" = some (some (.ref (A_f_under_root K))))
def e164 : PySem.W.Frag → Bool := fun K => codeB A_f_under_root "under_root" K
def d27 : Dn := ⟨A_f_under_root, "under_root", "under_root", s_under_root⟩
def e165 : PySem.W.Frag → Bool := fun K => PySem.W.keepIn K (.ref (A_f_under_root K))
def A_f_equation_of_fraction : Ad := glA "equation_of_fraction"
def e166 : PySem.W.Frag → Bool := fun K => decide (PySem.W.nsIn K mainGlobals "equation_of_fraction" = some (some (.ref (A_f_equation_of_fraction K))))
def e167 : PySem.W.Frag → Bool := fun K => codeB A_f_equation_of_fraction "equation_of_fraction" K
def d28 : Dn := ⟨A_f_equation_of_fraction, "equation_of_fraction", "equation_of_fraction", s_equation_of_fraction⟩
def e168 : PySem.W.Frag → Bool := fun K => PySem.W.keepIn K (.ref (A_f_equation_of_fraction K))
def A_f_simplest_equation : Ad := glA "simplest_equation"
def e169 : PySem.W.Frag → Bool := fun K => decide (PySem.W.nsIn K mainGlobals "simplest_equation" = some (some (.ref (A_f_simplest_equation K))))
def e170 : PySem.W.Frag → Bool := fun K => codeB A_f_simplest_equation "simplest_equation" K
def d29 : Dn := ⟨A_f_simplest_equation, "simplest_equation", "simplest_equation", s_simplest_equation⟩
def e171 : PySem.W.Frag → Bool := fun K => PySem.W.keepIn K (.ref (A_f_simplest_equation K))
def A_f_with_commas : Ad := glA "with_commas"
def e172 : PySem.W.Frag → Bool := fun K => decide (PySem.W.nsIn K mainGlobals "with_commas" = some (some (.ref (A_f_with_commas K))))
def e173 : PySem.W.Frag → Bool := fun K => codeB A_f_with_commas "with_commas" K
def d30 : Dn := ⟨A_f_with_commas, "with_commas", "with_commas", s_with_commas⟩
def e174 : PySem.W.Frag → Bool := fun K => PySem.W.keepIn K (.ref (A_f_with_commas K))
def A_f_pair_order : Ad := glA "pair_order"
def e175 : PySem.W.Frag → Bool := fun K => decide (PySem.W.nsIn K mainGlobals "pair_order" = some (some (.ref (A_f_pair_order K))))
def e176 : PySem.W.Frag → Bool := fun K => codeB A_f_pair_order "pair_order" K
def d31 : Dn := ⟨A_f_pair_order, "pair_order", "pair_order", s_pair_order⟩
def e177 : PySem.W.Frag → Bool := fun K => PySem.W.keepIn K (.ref (A_f_pair_order K))
def A_f_check_resistance : Ad := glA "check_resistance"
def e178 : PySem.W.Frag → Bool := fun K => decide (PySem.W.nsIn K mainGlobals "check_resistance" = some (some (.ref (A_f_check_resistance K))))
def e179 : PySem.W.Frag → Bool := fun K => codeB A_f_check_resistance "check_resistance" K
def d32 : Dn := ⟨A_f_check_resistance, "check_resistance", "check_resistance", s_check_resistance⟩
def e180 : PySem.W.Frag → Bool := fun K => PySem.W.keepIn K (.ref (A_f_check_resistance K))
def A_f_check_count : Ad := glA "check_count"
def e181 : PySem.W.Frag → Bool := fun K => decide (PySem.W.nsIn K mainGlobals "check_count" = some (some (.ref (A_f_check_count K))))
def e182 : PySem.W.Frag → Bool := fun K => codeB A_f_check_count "check_count" K
def d33 : Dn := ⟨A_f_check_count, "check_count", "check_count", s_check_count⟩
def e183 : PySem.W.Frag → Bool := fun K => PySem.W.keepIn K (.ref (A_f_check_count K))
def A_f_Exact_init : Ad := meA A_Ce "__init__"
def e184 : PySem.W.Frag → Bool := fun K => decide (PySem.W.findIn K (.ref (A_Ce K)) "__init__" = some (some (.ref (A_f_Exact_init K))))
def e185 : PySem.W.Frag → Bool := fun K => PySem.W.isFn K (.ref (A_f_Exact_init K))
def e186 : PySem.W.Frag → Bool := fun K => codeB A_f_Exact_init "Exact.__init__" K
def d34 : Dn := ⟨A_f_Exact_init, "__init__", "Exact.__init__", s_Exact_init⟩
def e187 : PySem.W.Frag → Bool := fun K => PySem.W.keepIn K (.ref (A_f_Exact_init K))
def A_f_check_pattern : Ad := glA "check_pattern"
def e188 : PySem.W.Frag → Bool := fun K => decide (PySem.W.nsIn K mainGlobals "check_pattern" = some (some (.ref (A_f_check_pattern K))))
def e189 : PySem.W.Frag → Bool := fun K => codeB A_f_check_pattern "check_pattern" K
def d35 : Dn := ⟨A_f_check_pattern, "check_pattern", "check_pattern", s_check_pattern⟩
def e190 : PySem.W.Frag → Bool := fun K => PySem.W.keepIn K (.ref (A_f_check_pattern K))
def A_f_ladder_limit : Ad := glA "ladder_limit"
def e191 : PySem.W.Frag → Bool := fun K => decide (PySem.W.nsIn K mainGlobals "ladder_limit" = some (some (.ref (A_f_ladder_limit K))))
def e192 : PySem.W.Frag → Bool := fun K => codeB A_f_ladder_limit "ladder_limit" K
def d36 : Dn := ⟨A_f_ladder_limit, "ladder_limit", "ladder_limit", s_ladder_limit⟩
def e193 : PySem.W.Frag → Bool := fun K => PySem.W.keepIn K (.ref (A_f_ladder_limit K))
def A_f_Ladder_init : Ad := meA A_Cl "__init__"
def e194 : PySem.W.Frag → Bool := fun K => decide (PySem.W.findIn K (.ref (A_Cl K)) "__init__" = some (some (.ref (A_f_Ladder_init K))))
def e195 : PySem.W.Frag → Bool := fun K => PySem.W.isFn K (.ref (A_f_Ladder_init K))
def e196 : PySem.W.Frag → Bool := fun K => codeB A_f_Ladder_init "Ladder.__init__" K
def d37 : Dn := ⟨A_f_Ladder_init, "__init__", "Ladder.__init__", s_Ladder_init⟩
def e197 : PySem.W.Frag → Bool := fun K => PySem.W.keepIn K (.ref (A_f_Ladder_init K))
def A_f_Ladder_after : Ad := meA A_Cl "after"
def e198 : PySem.W.Frag → Bool := fun K => decide (PySem.W.findIn K (.ref (A_Cl K)) "after" = some (some (.ref (A_f_Ladder_after K))))
def e199 : PySem.W.Frag → Bool := fun K => PySem.W.isFn K (.ref (A_f_Ladder_after K))
def e200 : PySem.W.Frag → Bool := fun K => codeB A_f_Ladder_after "Ladder.after" K
def d38 : Dn := ⟨A_f_Ladder_after, "after", "Ladder.after", s_Ladder_after⟩
def e201 : PySem.W.Frag → Bool := fun K => PySem.W.keepIn K (.ref (A_f_Ladder_after K))
def A_f_Ladder_call : Ad := meA A_Cl "__call__"
def e202 : PySem.W.Frag → Bool := fun K => decide (PySem.W.findIn K (.ref (A_Cl K)) "__call__" = some (some (.ref (A_f_Ladder_call K))))
def e203 : PySem.W.Frag → Bool := fun K => PySem.W.isFn K (.ref (A_f_Ladder_call K))
def e204 : PySem.W.Frag → Bool := fun K => codeB A_f_Ladder_call "Ladder.__call__" K
def d39 : Dn := ⟨A_f_Ladder_call, "__call__", "Ladder.__call__", s_Ladder_call⟩
def e205 : PySem.W.Frag → Bool := fun K => PySem.W.keepIn K (.ref (A_f_Ladder_call K))
def e206 : PySem.W.Frag → Bool := fun K => PySem.W.fnIn K (A_f_Ladder_call K)
def A_pr_Ladder_goes : Ad := meA A_Cl "goes"
def e207 : PySem.W.Frag → Bool := fun K => decide (PySem.W.findIn K (.ref (A_Cl K)) "goes" = some (some (.ref (A_pr_Ladder_goes K))))
def e208 : PySem.W.Frag → Bool := fun K => decide (PySem.W.specialIn K (.ref (A_pr_Ladder_goes K)) "__get__" = some (some (.builtin "property.__get__")))
def e209 : PySem.W.Frag → Bool := fun K => decide (PySem.W.takesIn K (.ref (A_pr_Ladder_goes K)) = some true)
def A_f_Ladder_goes : Ad := rcA A_pr_Ladder_goes "property"
def e210 : PySem.W.Frag → Bool := fun K => recB A_pr_Ladder_goes A_f_Ladder_goes "property" K
def e211 : PySem.W.Frag → Bool := fun K => codeB A_f_Ladder_goes "Ladder.goes" K
def d40 : Dn := ⟨A_f_Ladder_goes, "goes", "Ladder.goes", s_Ladder_goes⟩
def e212 : PySem.W.Frag → Bool := fun K => PySem.W.keepIn K (.ref (A_f_Ladder_goes K))
def A_pr_Ladder_limit : Ad := meA A_Cl "limit"
def e213 : PySem.W.Frag → Bool := fun K => decide (PySem.W.findIn K (.ref (A_Cl K)) "limit" = some (some (.ref (A_pr_Ladder_limit K))))
def e214 : PySem.W.Frag → Bool := fun K => decide (PySem.W.specialIn K (.ref (A_pr_Ladder_limit K)) "__get__" = some (some (.builtin "property.__get__")))
def e215 : PySem.W.Frag → Bool := fun K => decide (PySem.W.takesIn K (.ref (A_pr_Ladder_limit K)) = some true)
def A_f_Ladder_limit : Ad := rcA A_pr_Ladder_limit "property"
def e216 : PySem.W.Frag → Bool := fun K => recB A_pr_Ladder_limit A_f_Ladder_limit "property" K
def e217 : PySem.W.Frag → Bool := fun K => codeB A_f_Ladder_limit "Ladder.limit" K
def d41 : Dn := ⟨A_f_Ladder_limit, "limit", "Ladder.limit", s_Ladder_limit⟩
def e218 : PySem.W.Frag → Bool := fun K => PySem.W.keepIn K (.ref (A_f_Ladder_limit K))
def A_pr_Exact_equation : Ad := meA A_Ce "equation"
def e219 : PySem.W.Frag → Bool := fun K => decide (PySem.W.findIn K (.ref (A_Ce K)) "equation" = some (some (.ref (A_pr_Exact_equation K))))
def e220 : PySem.W.Frag → Bool := fun K => decide (PySem.W.specialIn K (.ref (A_pr_Exact_equation K)) "__get__" = some (some (.builtin "property.__get__")))
def e221 : PySem.W.Frag → Bool := fun K => decide (PySem.W.takesIn K (.ref (A_pr_Exact_equation K)) = some true)
def A_f_Exact_equation : Ad := rcA A_pr_Exact_equation "property"
def e222 : PySem.W.Frag → Bool := fun K => recB A_pr_Exact_equation A_f_Exact_equation "property" K
def e223 : PySem.W.Frag → Bool := fun K => codeB A_f_Exact_equation "Exact.equation" K
def d42 : Dn := ⟨A_f_Exact_equation, "equation", "Exact.equation", s_Exact_equation⟩
def e224 : PySem.W.Frag → Bool := fun K => PySem.W.keepIn K (.ref (A_f_Exact_equation K))
def A_pr_Exact_fraction : Ad := meA A_Ce "fraction"
def e225 : PySem.W.Frag → Bool := fun K => decide (PySem.W.findIn K (.ref (A_Ce K)) "fraction" = some (some (.ref (A_pr_Exact_fraction K))))
def e226 : PySem.W.Frag → Bool := fun K => decide (PySem.W.specialIn K (.ref (A_pr_Exact_fraction K)) "__get__" = some (some (.builtin "property.__get__")))
def e227 : PySem.W.Frag → Bool := fun K => decide (PySem.W.takesIn K (.ref (A_pr_Exact_fraction K)) = some true)
def A_f_Exact_fraction : Ad := rcA A_pr_Exact_fraction "property"
def e228 : PySem.W.Frag → Bool := fun K => recB A_pr_Exact_fraction A_f_Exact_fraction "property" K
def e229 : PySem.W.Frag → Bool := fun K => codeB A_f_Exact_fraction "Exact.fraction" K
def d43 : Dn := ⟨A_f_Exact_fraction, "fraction", "Exact.fraction", s_Exact_fraction⟩
def e230 : PySem.W.Frag → Bool := fun K => PySem.W.keepIn K (.ref (A_f_Exact_fraction K))
def A_f_law_row : Ad := glA "_law_row"
def e231 : PySem.W.Frag → Bool := fun K => decide (PySem.W.nsIn K mainGlobals "_law_row" = some (some (.ref (A_f_law_row K))))
def e232 : PySem.W.Frag → Bool := fun K => codeB A_f_law_row "_law_row" K
def d44 : Dn := ⟨A_f_law_row, "_law_row", "_law_row", s_law_row⟩
def e233 : PySem.W.Frag → Bool := fun K => PySem.W.keepIn K (.ref (A_f_law_row K))
def A_f_law_words : Ad := glA "_law_words"
def e234 : PySem.W.Frag → Bool := fun K => decide (PySem.W.nsIn K mainGlobals "_law_words" = some (some (.ref (A_f_law_words K))))
def e235 : PySem.W.Frag → Bool := fun K => codeB A_f_law_words "_law_words" K
def d45 : Dn := ⟨A_f_law_words, "_law_words", "_law_words", s_law_words⟩
def e236 : PySem.W.Frag → Bool := fun K => PySem.W.keepIn K (.ref (A_f_law_words K))
def A_f_law_read : Ad := glA "_law_read"
def e237 : PySem.W.Frag → Bool := fun K => decide (PySem.W.nsIn K mainGlobals "_law_read" = some (some (.ref (A_f_law_read K))))
def e238 : PySem.W.Frag → Bool := fun K => codeB A_f_law_read "_law_read" K
def d46 : Dn := ⟨A_f_law_read, "_law_read", "_law_read", s_law_read⟩
def e239 : PySem.W.Frag → Bool := fun K => PySem.W.keepIn K (.ref (A_f_law_read K))
def A_X0 : Ad := glA "NotAPattern"
def e240 : PySem.W.Frag → Bool := fun K => decide (PySem.W.nsIn K mainGlobals "NotAPattern" = some (some (.ref (A_X0 K))))
def A_X1 : Ad := glA "NotARun"
def e241 : PySem.W.Frag → Bool := fun K => decide (PySem.W.nsIn K mainGlobals "NotARun" = some (some (.ref (A_X1 K))))
def A_X2 : Ad := glA "InvalidResistance"
def e242 : PySem.W.Frag → Bool := fun K => decide (PySem.W.nsIn K mainGlobals "InvalidResistance" = some (some (.ref (A_X2 K))))
def A_X3 : Ad := glA "InvalidCount"
def e243 : PySem.W.Frag → Bool := fun K => decide (PySem.W.nsIn K mainGlobals "InvalidCount" = some (some (.ref (A_X3 K))))
def A_X4 : Ad := glA "InvalidNumber"
def e244 : PySem.W.Frag → Bool := fun K => decide (PySem.W.nsIn K mainGlobals "InvalidNumber" = some (some (.ref (A_X4 K))))
def A_X5 : Ad := glA "InvalidText"
def e245 : PySem.W.Frag → Bool := fun K => decide (PySem.W.nsIn K mainGlobals "InvalidText" = some (some (.ref (A_X5 K))))
def A_X6 : Ad := glA "InvalidName"
def e246 : PySem.W.Frag → Bool := fun K => decide (PySem.W.nsIn K mainGlobals "InvalidName" = some (some (.ref (A_X6 K))))
def A_X7 : Ad := glA "InvalidClaim"
def e247 : PySem.W.Frag → Bool := fun K => decide (PySem.W.nsIn K mainGlobals "InvalidClaim" = some (some (.ref (A_X7 K))))
def A_X8 : Ad := glA "InvalidIndex"
def e248 : PySem.W.Frag → Bool := fun K => decide (PySem.W.nsIn K mainGlobals "InvalidIndex" = some (some (.ref (A_X8 K))))
def A_X9 : Ad := glA "InvalidPieces"
def e249 : PySem.W.Frag → Bool := fun K => decide (PySem.W.nsIn K mainGlobals "InvalidPieces" = some (some (.ref (A_X9 K))))
def A_X10 : Ad := glA "InvalidKinds"
def e250 : PySem.W.Frag → Bool := fun K => decide (PySem.W.nsIn K mainGlobals "InvalidKinds" = some (some (.ref (A_X10 K))))
def A_X11 : Ad := glA "InvalidStretches"
def e251 : PySem.W.Frag → Bool := fun K => decide (PySem.W.nsIn K mainGlobals "InvalidStretches" = some (some (.ref (A_X11 K))))
def A_X12 : Ad := glA "InvalidDeeds"
def e252 : PySem.W.Frag → Bool := fun K => decide (PySem.W.nsIn K mainGlobals "InvalidDeeds" = some (some (.ref (A_X12 K))))
def A_X13 : Ad := glA "UnknownName"
def e253 : PySem.W.Frag → Bool := fun K => decide (PySem.W.nsIn K mainGlobals "UnknownName" = some (some (.ref (A_X13 K))))
def A_X14 : Ad := glA "InUse"
def e254 : PySem.W.Frag → Bool := fun K => decide (PySem.W.nsIn K mainGlobals "InUse" = some (some (.ref (A_X14 K))))
def A_X15 : Ad := glA "TooMany"
def e255 : PySem.W.Frag → Bool := fun K => decide (PySem.W.nsIn K mainGlobals "TooMany" = some (some (.ref (A_X15 K))))
def A_X16 : Ad := glA "Broken"
def e256 : PySem.W.Frag → Bool := fun K => decide (PySem.W.nsIn K mainGlobals "Broken" = some (some (.ref (A_X16 K))))
def A_X17 : Ad := glA "NoLimit"
def e257 : PySem.W.Frag → Bool := fun K => decide (PySem.W.nsIn K mainGlobals "NoLimit" = some (some (.ref (A_X17 K))))
def A_X18 : Ad := glA "NothingToUndo"
def e258 : PySem.W.Frag → Bool := fun K => decide (PySem.W.nsIn K mainGlobals "NothingToUndo" = some (some (.ref (A_X18 K))))
def A_X19 : Ad := glA "WrongValue"
def e259 : PySem.W.Frag → Bool := fun K => decide (PySem.W.nsIn K mainGlobals "WrongValue" = some (some (.ref (A_X19 K))))
def A_X20 : Ad := glA "WrongName"
def e260 : PySem.W.Frag → Bool := fun K => decide (PySem.W.nsIn K mainGlobals "WrongName" = some (some (.ref (A_X20 K))))
def A_X21 : Ad := glA "NoAnswer"
def e261 : PySem.W.Frag → Bool := fun K => decide (PySem.W.nsIn K mainGlobals "NoAnswer" = some (some (.ref (A_X21 K))))
def e262 : PySem.W.Frag → Bool := fun K => decide (PySem.W.nsIn K mainGlobals "ValueError" = some none)
def e263 : PySem.W.Frag → Bool := fun K => decide (PySem.W.nsIn K mainGlobals "LookupError" = some none)
def e264 : PySem.W.Frag → Bool := fun K => decide (PySem.W.nsIn K mainGlobals "ArithmeticError" = some none)
def A_f_WrongValue_init : Ad := meA A_X19 "__init__"
def e265 : PySem.W.Frag → Bool := fun K => decide (PySem.W.findIn K (.ref (A_X19 K)) "__init__" = some (some (.ref (A_f_WrongValue_init K))))
def e266 : PySem.W.Frag → Bool := fun K => PySem.W.isFn K (.ref (A_f_WrongValue_init K))
def e267 : PySem.W.Frag → Bool := fun K => codeB A_f_WrongValue_init "WrongValue.__init__" K
def d47 : Dn := ⟨A_f_WrongValue_init, "__init__", "WrongValue.__init__", s_WrongValue_init⟩
def e268 : PySem.W.Frag → Bool := fun K => PySem.W.keepIn K (.ref (A_f_WrongValue_init K))
def e269 : PySem.W.Frag → Bool := fun K => PySem.W.readsIn K (A_X19 K) (.type "type")
def e270 : PySem.W.Frag → Bool := fun K => decide (PySem.W.specialIn K (.ref (A_X19 K)) "__getattribute__" = some (some (.builtin "type.__getattribute__")))
def e271 : PySem.W.Frag → Bool := fun K => clvB A_X19 A_f_WrongValue_init "__init__" K
def A_f_NotAPattern_init : Ad := meA A_X0 "__init__"
def e272 : PySem.W.Frag → Bool := fun K => decide (PySem.W.findIn K (.ref (A_X0 K)) "__init__" = some (some (.ref (A_f_NotAPattern_init K))))
def e273 : PySem.W.Frag → Bool := fun K => PySem.W.isFn K (.ref (A_f_NotAPattern_init K))
def e274 : PySem.W.Frag → Bool := fun K => codeB A_f_NotAPattern_init "NotAPattern.__init__" K
def d48 : Dn := ⟨A_f_NotAPattern_init, "__init__", "NotAPattern.__init__", s_NotAPattern_init⟩
def e275 : PySem.W.Frag → Bool := fun K => PySem.W.keepIn K (.ref (A_f_NotAPattern_init K))
def e276 : PySem.W.Frag → Bool := fun K => xcB K (A_X0 K) [.type "ValueError", .type "Exception", .type "BaseException", .type "object"] "ValueError.__new__"
def e277 : PySem.W.Frag → Bool := fun K => rowB K [(A_X0 K), (A_X1 K), (A_X2 K), (A_X3 K), (A_X4 K), (A_X5 K), (A_X6 K), (A_X7 K), (A_X8 K), (A_X9 K), (A_X10 K), (A_X11 K), (A_X12 K), (A_X13 K), (A_X14 K), (A_X15 K), (A_X16 K), (A_X17 K), (A_X18 K), (A_X19 K), (A_X20 K), (A_X21 K)] 0
def e278 : PySem.W.Frag → Bool := fun K => decide (PySem.W.exmAny K (.ref (A_X0 K)) [.ref (A_X19 K), .ref (A_X20 K), .ref (A_X21 K)] = some true)
def e279 : PySem.W.Frag → Bool := fun K => decide (PySem.W.typeIn K (.ref (A_X0 K)) = some (.type "type"))
def e280 : PySem.W.Frag → Bool := fun K => decide (PySem.W.findIn K (.ref (A_X0 K)) "given" = some none)
def A_f_InvalidResistance_init : Ad := meA A_X2 "__init__"
def e281 : PySem.W.Frag → Bool := fun K => decide (PySem.W.findIn K (.ref (A_X2 K)) "__init__" = some (some (.ref (A_f_InvalidResistance_init K))))
def e282 : PySem.W.Frag → Bool := fun K => PySem.W.isFn K (.ref (A_f_InvalidResistance_init K))
def e283 : PySem.W.Frag → Bool := fun K => codeB A_f_InvalidResistance_init "InvalidResistance.__init__" K
def d49 : Dn := ⟨A_f_InvalidResistance_init, "__init__", "InvalidResistance.__init__", s_InvalidResistance_init⟩
def e284 : PySem.W.Frag → Bool := fun K => PySem.W.keepIn K (.ref (A_f_InvalidResistance_init K))
def e285 : PySem.W.Frag → Bool := fun K => xcB K (A_X2 K) [.type "ValueError", .type "Exception", .type "BaseException", .type "object"] "ValueError.__new__"
def e286 : PySem.W.Frag → Bool := fun K => rowB K [(A_X0 K), (A_X1 K), (A_X2 K), (A_X3 K), (A_X4 K), (A_X5 K), (A_X6 K), (A_X7 K), (A_X8 K), (A_X9 K), (A_X10 K), (A_X11 K), (A_X12 K), (A_X13 K), (A_X14 K), (A_X15 K), (A_X16 K), (A_X17 K), (A_X18 K), (A_X19 K), (A_X20 K), (A_X21 K)] 2
def e287 : PySem.W.Frag → Bool := fun K => decide (PySem.W.exmAny K (.ref (A_X2 K)) [.ref (A_X19 K), .ref (A_X20 K), .ref (A_X21 K)] = some true)
def e288 : PySem.W.Frag → Bool := fun K => decide (PySem.W.typeIn K (.ref (A_X2 K)) = some (.type "type"))
def e289 : PySem.W.Frag → Bool := fun K => decide (PySem.W.findIn K (.ref (A_X2 K)) "given" = some none)
def A_f_InvalidCount_init : Ad := meA A_X3 "__init__"
def e290 : PySem.W.Frag → Bool := fun K => decide (PySem.W.findIn K (.ref (A_X3 K)) "__init__" = some (some (.ref (A_f_InvalidCount_init K))))
def e291 : PySem.W.Frag → Bool := fun K => PySem.W.isFn K (.ref (A_f_InvalidCount_init K))
def e292 : PySem.W.Frag → Bool := fun K => codeB A_f_InvalidCount_init "InvalidCount.__init__" K
def d50 : Dn := ⟨A_f_InvalidCount_init, "__init__", "InvalidCount.__init__", s_InvalidCount_init⟩
def e293 : PySem.W.Frag → Bool := fun K => PySem.W.keepIn K (.ref (A_f_InvalidCount_init K))
def e294 : PySem.W.Frag → Bool := fun K => xcB K (A_X3 K) [.type "ValueError", .type "Exception", .type "BaseException", .type "object"] "ValueError.__new__"
def e295 : PySem.W.Frag → Bool := fun K => rowB K [(A_X0 K), (A_X1 K), (A_X2 K), (A_X3 K), (A_X4 K), (A_X5 K), (A_X6 K), (A_X7 K), (A_X8 K), (A_X9 K), (A_X10 K), (A_X11 K), (A_X12 K), (A_X13 K), (A_X14 K), (A_X15 K), (A_X16 K), (A_X17 K), (A_X18 K), (A_X19 K), (A_X20 K), (A_X21 K)] 3
def e296 : PySem.W.Frag → Bool := fun K => decide (PySem.W.exmAny K (.ref (A_X3 K)) [.ref (A_X19 K), .ref (A_X20 K), .ref (A_X21 K)] = some true)
def e297 : PySem.W.Frag → Bool := fun K => decide (PySem.W.typeIn K (.ref (A_X3 K)) = some (.type "type"))
def e298 : PySem.W.Frag → Bool := fun K => decide (PySem.W.findIn K (.ref (A_X3 K)) "given" = some none)
def A_f_law_classes : Ad := glA "_law_classes"
def e299 : PySem.W.Frag → Bool := fun K => decide (PySem.W.nsIn K mainGlobals "_law_classes" = some (some (.ref (A_f_law_classes K))))
def e300 : PySem.W.Frag → Bool := fun K => codeB A_f_law_classes "_law_classes" K
def d51 : Dn := ⟨A_f_law_classes, "_law_classes", "_law_classes", s_law_classes⟩
def e301 : PySem.W.Frag → Bool := fun K => PySem.W.keepIn K (.ref (A_f_law_classes K))
def A_f_law_caught : Ad := glA "_law_caught"
def e302 : PySem.W.Frag → Bool := fun K => decide (PySem.W.nsIn K mainGlobals "_law_caught" = some (some (.ref (A_f_law_caught K))))
def e303 : PySem.W.Frag → Bool := fun K => codeB A_f_law_caught "_law_caught" K
def d52 : Dn := ⟨A_f_law_caught, "_law_caught", "_law_caught", s_law_caught⟩
def e304 : PySem.W.Frag → Bool := fun K => PySem.W.keepIn K (.ref (A_f_law_caught K))
def e305 : PySem.W.Frag → Bool := fun K => decide (PySem.W.kitOne K (.type "NoneType") (.ref (A_C K)) = some false)
def e306 : PySem.W.Frag → Bool := fun K => decide (PySem.W.kitOne K (.type "bool") (.ref (A_C K)) = some false)
def e307 : PySem.W.Frag → Bool := fun K => decide (PySem.W.kitOne K (.type "int") (.ref (A_C K)) = some false)
def e308 : PySem.W.Frag → Bool := fun K => decide (PySem.W.kitOne K (.type "str") (.ref (A_C K)) = some false)
def e309 : PySem.W.Frag → Bool := fun K => decide (PySem.W.kitOne K (.type "list") (.ref (A_C K)) = some false)
def e310 : PySem.W.Frag → Bool := fun K => decide (PySem.W.kitOne K (.type "dict") (.ref (A_C K)) = some false)
def e311 : PySem.W.Frag → Bool := fun K => decide (PySem.W.kitOne K (.type "tuple") (.ref (A_C K)) = some false)
def e312 : PySem.W.Frag → Bool := fun K => decide (PySem.W.subIn K (.ref (A_X3 K)) (.type "StopIteration") = some false)
def e313 : PySem.W.Frag → Bool := fun K => decide (PySem.W.nsIn K mainGlobals "list" = some none)
def A_pr_Pattern_pieces : Ad := meA A_C "pieces"
def e314 : PySem.W.Frag → Bool := fun K => decide (PySem.W.findIn K (.ref (A_C K)) "pieces" = some (some (.ref (A_pr_Pattern_pieces K))))
def e315 : PySem.W.Frag → Bool := fun K => decide (PySem.W.specialIn K (.ref (A_pr_Pattern_pieces K)) "__get__" = some (some (.builtin "property.__get__")))
def e316 : PySem.W.Frag → Bool := fun K => decide (PySem.W.takesIn K (.ref (A_pr_Pattern_pieces K)) = some true)
def A_f_Pattern_pieces : Ad := rcA A_pr_Pattern_pieces "property"
def e317 : PySem.W.Frag → Bool := fun K => recB A_pr_Pattern_pieces A_f_Pattern_pieces "property" K
def e318 : PySem.W.Frag → Bool := fun K => codeB A_f_Pattern_pieces "Pattern.pieces" K
def d53 : Dn := ⟨A_f_Pattern_pieces, "pieces", "Pattern.pieces", s_Pattern_pieces⟩
def e319 : PySem.W.Frag → Bool := fun K => PySem.W.keepIn K (.ref (A_f_Pattern_pieces K))
def A_pr_Ladder_load : Ad := meA A_Cl "load"
def e320 : PySem.W.Frag → Bool := fun K => decide (PySem.W.findIn K (.ref (A_Cl K)) "load" = some (some (.ref (A_pr_Ladder_load K))))
def e321 : PySem.W.Frag → Bool := fun K => decide (PySem.W.specialIn K (.ref (A_pr_Ladder_load K)) "__get__" = some (some (.builtin "property.__get__")))
def e322 : PySem.W.Frag → Bool := fun K => decide (PySem.W.takesIn K (.ref (A_pr_Ladder_load K)) = some true)
def A_f_Ladder_load : Ad := rcA A_pr_Ladder_load "property"
def e323 : PySem.W.Frag → Bool := fun K => recB A_pr_Ladder_load A_f_Ladder_load "property" K
def e324 : PySem.W.Frag → Bool := fun K => codeB A_f_Ladder_load "Ladder.load" K
def d54 : Dn := ⟨A_f_Ladder_load, "load", "Ladder.load", s_Ladder_load⟩
def e325 : PySem.W.Frag → Bool := fun K => PySem.W.keepIn K (.ref (A_f_Ladder_load K))
def A_f_Ladder_opening : Ad := meA A_Cl "opening"
def e326 : PySem.W.Frag → Bool := fun K => decide (PySem.W.findIn K (.ref (A_Cl K)) "opening" = some (some (.ref (A_f_Ladder_opening K))))
def e327 : PySem.W.Frag → Bool := fun K => PySem.W.isFn K (.ref (A_f_Ladder_opening K))
def e328 : PySem.W.Frag → Bool := fun K => codeB A_f_Ladder_opening "Ladder.opening" K
def d55 : Dn := ⟨A_f_Ladder_opening, "opening", "Ladder.opening", s_Ladder_opening⟩
def e329 : PySem.W.Frag → Bool := fun K => PySem.W.keepIn K (.ref (A_f_Ladder_opening K))
def A_f_law_nothing : Ad := glA "_law_nothing"
def e330 : PySem.W.Frag → Bool := fun K => decide (PySem.W.nsIn K mainGlobals "_law_nothing" = some (some (.ref (A_f_law_nothing K))))
def e331 : PySem.W.Frag → Bool := fun K => codeB A_f_law_nothing "_law_nothing" K
def d56 : Dn := ⟨A_f_law_nothing, "_law_nothing", "_law_nothing", s_law_nothing⟩
def e332 : PySem.W.Frag → Bool := fun K => PySem.W.keepIn K (.ref (A_f_law_nothing K))
def A_f_law_right : Ad := glA "_law_right"
def e333 : PySem.W.Frag → Bool := fun K => decide (PySem.W.nsIn K mainGlobals "_law_right" = some (some (.ref (A_f_law_right K))))
def e334 : PySem.W.Frag → Bool := fun K => codeB A_f_law_right "_law_right" K
def d57 : Dn := ⟨A_f_law_right, "_law_right", "_law_right", s_law_right⟩
def e335 : PySem.W.Frag → Bool := fun K => PySem.W.keepIn K (.ref (A_f_law_right K))
def A_cA_law_right : Ad := cdA A_f_law_right
def A_PA_law_right : Ad := tbA (cdA A_f_law_right)
def A_f_law : Ad := glA "law"
def e336 : PySem.W.Frag → Bool := fun K => decide (PySem.W.nsIn K mainGlobals "law" = some (some (.ref (A_f_law K))))
def e337 : PySem.W.Frag → Bool := fun K => codeB A_f_law "law" K
def d58 : Dn := ⟨A_f_law, "law", "law", s_law⟩
def e338 : PySem.W.Frag → Bool := fun K => PySem.W.keepIn K (.ref (A_f_law K))
def A_cA_law : Ad := cdA A_f_law
def A_PA_law : Ad := tbA (cdA A_f_law)
def e339 : PySem.W.Frag → Bool := fun K => decide ((A_PA_law_right K) ≠ (A_PA_law K))
def e340 : PySem.W.Frag → Bool := fun K => decide ((A_PA_law K) ≠ (A_PA_law_right K))
def exL0 : List (PySem.W.Frag → Bool) := [e0, e1, e2, e3, e4, e5, e6, e7, e8, e9, e10, e11, e12, e13, e14, e15, e16, e17, e18, e19, e20, e21, e22, e23, e24, e25, e26, e27, e28, e29]
def exL1 : List (PySem.W.Frag → Bool) := [e30, e31, e32, e33, e34, e35, e36, e37, e38, e39, e40, e41, e42, e43, e44, e45, e46, e47, e48, e49, e50, e51, e52, e53, e54, e55, e56, e57, e58, e59]
def exL2 : List (PySem.W.Frag → Bool) := [e60, e61, e62, e63, e64, e65, e66, e67, e68, e69, e70, e71, e72, e73, e74, e75, e76, e77, e78, e79, e80, e81, e82, e83, e84, e85, e86, e87, e88, e89]
def exL3 : List (PySem.W.Frag → Bool) := [e90, e91, e92, e93, e94, e95, e96, e97, e98, e99, e100, e101, e102, e103, e104, e105, e106, e107, e108, e109, e110, e111, e112, e113, e114, e115, e116, e117, e118, e119]
def exL4 : List (PySem.W.Frag → Bool) := [e120, e121, e122, e123, e124, e125, e126, e127, e128, e129, e130, e131, e132, e133, e134, e135, e136, e137, e138, e139, e140, e141, e142, e143, e144, e145, e146, e147, e148, e149]
def exL5 : List (PySem.W.Frag → Bool) := [e150, e151, e152, e153, e154, e155, e156, e157, e158, e159, e160, e161, e162, e163, e164, e165, e166, e167, e168, e169, e170, e171, e172, e173, e174, e175, e176, e177, e178, e179]
def exL6 : List (PySem.W.Frag → Bool) := [e180, e181, e182, e183, e184, e185, e186, e187, e188, e189, e190, e191, e192, e193, e194, e195, e196, e197, e198, e199, e200, e201, e202, e203, e204, e205, e206, e207, e208, e209]
def exL7 : List (PySem.W.Frag → Bool) := [e210, e211, e212, e213, e214, e215, e216, e217, e218, e219, e220, e221, e222, e223, e224, e225, e226, e227, e228, e229, e230, e231, e232, e233, e234, e235, e236, e237, e238, e239]
def exL8 : List (PySem.W.Frag → Bool) := [e240, e241, e242, e243, e244, e245, e246, e247, e248, e249, e250, e251, e252, e253, e254, e255, e256, e257, e258, e259, e260, e261, e262, e263, e264, e265, e266, e267, e268, e269]
def exL9 : List (PySem.W.Frag → Bool) := [e270, e271, e272, e273, e274, e275, e276, e277, e278, e279, e280, e281, e282, e283, e284, e285, e286, e287, e288, e289, e290, e291, e292, e293, e294, e295, e296, e297, e298, e299]
def exL10 : List (PySem.W.Frag → Bool) := [e300, e301, e302, e303, e304, e305, e306, e307, e308, e309, e310, e311, e312, e313, e314, e315, e316, e317, e318, e319, e320, e321, e322, e323, e324, e325, e326, e327, e328, e329]
def exL11 : List (PySem.W.Frag → Bool) := [e330, e331, e332, e333, e334, e335, e336, e337, e338, e339, e340]
def exL : List (PySem.W.Frag → Bool) := exL0 ++ (exL1 ++ (exL2 ++ (exL3 ++ (exL4 ++ (exL5 ++ (exL6 ++ (exL7 ++ (exL8 ++ (exL9 ++ (exL10 ++ (exL11)))))))))))
def fnL0 : List Dn := [d0, d1, d2, d3, d4, d5, d6, d7, d8, d9, d10, d11, d12, d13, d14, d15, d16, d17, d18, d19, d20, d21, d22, d23, d24, d25, d26, d27, d28, d29]
def fnL1 : List Dn := [d30, d31, d32, d33, d34, d35, d36, d37, d38, d39, d40, d41, d42, d43, d44, d45, d46, d47, d48, d49, d50, d51, d52, d53, d54, d55, d56, d57, d58]
def fnL : List Dn := fnL0 ++ (fnL1)
def tfL0 : List Ad := [A_f_law_right, A_f_law]
def tfL : List Ad := tfL0
def loL0 : List Str := ["_wall", "MOST_OHMS", "MOST_PIECES", "MOST_JOINED", "MOST_SECTIONS", "GREATEST", "OPEN", "__name__", "is_integer", "is_integer_within", "is_count", "is_pair_of_integers", "is_resistance", "pair_of", "common_divisor", "lowest_terms", "lowest_pair", "pair_order", "fraction_text", "sign", "square_root", "WrongValue", "NotAPattern", "NotARun", "InvalidResistance", "InvalidCount", "InvalidNumber", "InvalidText", "InvalidName", "InvalidClaim"]
def loL1 : List Str := ["InvalidIndex", "InvalidPieces", "InvalidKinds", "InvalidStretches", "InvalidDeeds", "WrongName", "UnknownName", "InUse", "NoAnswer", "TooMany", "Broken", "NoLimit", "NothingToUndo", "WORDS", "JoinedRow", "Pattern", "checked_row", "is_piece", "matrix_and_scale", "shown_before", "row_text", "piece_text", "piece_with_text", "check_pattern", "check_resistance", "check_count", "GREATEST_PART", "Exact", "under_root", "simplest_equation"]
def loL2 : List Str := ["equation_of_fraction", "with_commas", "Ladder", "ladder_limit", "_law_cup", "_law_sip", "_law_pick", "_law_row", "_law_words", "_law_read", "_law_nothing", "_law_classes", "_law_caught", "_law_right"]
def loL : List Str := loL0 ++ (loL1 ++ (loL2))
abbrev rwH : PySem.W.OpenRow := PySem.W.OpenLaw.row PySem.Challenge.rw_rungladders_k14_ladders_refused
def asL0 : List Addr := [2, 3, 22, 29, 36, 43, 50, 57, 64, 71, 78, 85, 92, 99, 106, 113, 130, 150, 169, 188, 207, 226, 245, 264, 283, 302, 321, 340, 359, 378]
def asL1 : List Addr := [397, 417, 436, 455, 475, 494, 506, 518, 521, 538, 630, 641, 648, 655, 662, 674, 681, 688, 695, 702, 777, 788, 795, 802, 807, 884, 895, 902, 909, 916]
def asL2 : List Addr := [923, 928, 935, 942, 947, 954, 961, 966, 28, 35, 42, 49, 56, 63, 70, 77, 84, 91, 98, 105, 112, 129, 149, 187, 206, 537, 629, 640, 647, 654]
def asL3 : List Addr := [661, 673, 680, 687, 694, 701, 776, 787, 794, 801, 806, 883, 894, 901, 908, 915, 922, 927, 934, 941, 946, 953, 960, 965, 127, 147, 185, 204, 535, 554]
def asL4 : List Addr := [561, 569, 577, 584, 626, 716, 724, 732, 821, 828, 835, 842, 857, 865, 873, 126, 146, 184, 203, 534, 553, 560, 568, 576, 583, 624, 715, 723, 731, 820]
def asL5 : List Addr := [827, 834, 841, 856, 864, 872, 567, 575, 623, 722, 730, 855, 863, 871]
def asL : List Addr := asL0 ++ (asL1 ++ (asL2 ++ (asL3 ++ (asL4 ++ (asL5)))))
abbrev hkH : PySem.W.Hook := hookZ asL fnL tfL exL
def obH (s : PySem.W.SharedT) : AlZ := obsZ asL fnL tfL exL (HandSHeadRun.getT s)
theorem obH_eq (s : PySem.W.SharedT) : obH s = hkH.obs s.abs := obsZ_eq (HandSHeadRun.getT_eq s)
theorem runH (w : World) : HandSHeadRun.RunEq rwH (PySem.W.view rwH.prog [80]) hkH obH 30000 loL w := by
  intro os
  kernel_rfl
theorem factsH {w : World} {K : PySem.W.Frag} {h : Heap} {mg : Str → Option Value} {fa : Addr} (X : K.In h) (G : h.Ns mainGlobals mg) (hmg : mg "law" = some (.ref fa)) (c : SaysZ fnL tfL exL h K) : LawT PySem.Challenge.rw_rungladders_k14_ladders_refused w K 14 63 "_law_script" mg fa h := by
  obtain ⟨tG, aG⟩ := intB_ok (x := "GREATEST") (i := 1000000000000) (c.fact 0 (f := e0) rfl)
  obtain ⟨t1, aOh⟩ := intB_ok (x := "MOST_OHMS") (i := 12) (c.fact 1 (f := e1) rfl)
  obtain ⟨t2, aPi⟩ := intB_ok (x := "MOST_PIECES") (i := 4) (c.fact 2 (f := e2) rfl)
  obtain ⟨t3, aJo⟩ := intB_ok (x := "MOST_JOINED") (i := 8) (c.fact 3 (f := e3) rfl)
  have aOp : PySem.W.nsIn K mainGlobals "OPEN" = some (some (.ref (A_aO K))) := of_decide_eq_true (c.fact 4 (f := e4) rfl)
  obtain ⟨od_aO, aO_k0, aO_k1, nn_aO, sl_aO, laOp⟩ := tup2i_ok (a := A_aO) (i := 1) (j := 0) (c.fact 5 (f := e5) rfl)
  have aWo : PySem.W.nsIn K mainGlobals "WORDS" = some (some (.ref (A_aW K))) := of_decide_eq_true (c.fact 6 (f := e6) rfl)
  obtain ⟨od_aW, aW_k0, aW_k1, nn_aW, sl_aW, laWo⟩ := tup2s_ok (a := A_aW) (i := (Str.ofString "rail")) (j := (Str.ofString "rung")) (c.fact 7 (f := e7) rfl)
  have aJ : PySem.W.nsIn K mainGlobals "JoinedRow" = some (some (.ref (A_J K))) := of_decide_eq_true (c.fact 8 (f := e8) rfl)
  have pgJ : PySem.W.plainGet K (A_J K) Str.empty = true := (c.fact 9 (f := e9) rfl)
  have hdJ : PySem.W.hasDictIn K (A_J K) = true := (c.fact 10 (f := e10) rfl)
  have poJ : PySem.W.plainOver K (A_J K) = true := (c.fact 11 (f := e11) rfl)
  have saJ : PySem.W.findIn K (.ref (A_J K)) "__setattr__" = some (some (.builtin "object.__setattr__")) := of_decide_eq_true (c.fact 12 (f := e12) rfl)
  have mkJ : PySem.W.makesIn K (A_J K) = true := (c.fact 13 (f := e13) rfl)
  have kcJ : PySem.W.keepIn K (.ref (A_J K)) = true := (c.fact 14 (f := e14) rfl)
  have nJ_row : PySem.W.findIn K (.ref (A_J K)) "row" = some none := of_decide_eq_true (c.fact 15 (f := e15) rfl)
  have caJ : PySem.W.findIn K (.ref (A_J K)) "__class__" = some (some (.builtin "object.__class__")) := of_decide_eq_true (c.fact 16 (f := e16) rfl)
  have cmJ : PySem.W.mroIn K (A_J K) (.type "object") = some true := of_decide_eq_true (c.fact 17 (f := e17) rfl)
  have cn : PySem.W.specialIn K (.builtin "object.__class__") "__get__" = some (some (.builtin "getset_descriptor.__get__")) := of_decide_eq_true (c.fact 18 (f := e18) rfl)
  have ct : PySem.W.takesIn K (.builtin "object.__class__") = some true := of_decide_eq_true (c.fact 19 (f := e19) rfl)
  have aC : PySem.W.nsIn K mainGlobals "Pattern" = some (some (.ref (A_C K))) := of_decide_eq_true (c.fact 20 (f := e20) rfl)
  have pgC : PySem.W.plainGet K (A_C K) Str.empty = true := (c.fact 21 (f := e21) rfl)
  have hdC : PySem.W.hasDictIn K (A_C K) = true := (c.fact 22 (f := e22) rfl)
  have poC : PySem.W.plainOver K (A_C K) = true := (c.fact 23 (f := e23) rfl)
  have saC : PySem.W.findIn K (.ref (A_C K)) "__setattr__" = some (some (.builtin "object.__setattr__")) := of_decide_eq_true (c.fact 24 (f := e24) rfl)
  have mkC : PySem.W.makesIn K (A_C K) = true := (c.fact 25 (f := e25) rfl)
  have kcC : PySem.W.keepIn K (.ref (A_C K)) = true := (c.fact 26 (f := e26) rfl)
  have nC_row : PySem.W.findIn K (.ref (A_C K)) "row" = some none := of_decide_eq_true (c.fact 27 (f := e27) rfl)
  have nC_matrix : PySem.W.findIn K (.ref (A_C K)) "matrix" = some none := of_decide_eq_true (c.fact 28 (f := e28) rfl)
  have nC_scale : PySem.W.findIn K (.ref (A_C K)) "scale" = some none := of_decide_eq_true (c.fact 29 (f := e29) rfl)
  have nC_four : PySem.W.findIn K (.ref (A_C K)) "four" = some none := of_decide_eq_true (c.fact 30 (f := e30) rfl)
  have kt_J : PySem.W.kitOne K (.type "tuple") (.ref (A_J K)) = some false := of_decide_eq_true (c.fact 31 (f := e31) rfl)
  have sfC : PySem.W.selfFirst K (A_C K) = true := (c.fact 32 (f := e32) rfl)
  have rdC : PySem.W.readsIn K (A_C K) (.type "type") = true := (c.fact 33 (f := e33) rfl)
  have gaC : PySem.W.specialIn K (.ref (A_C K)) "__getattribute__" = some (some (.builtin "type.__getattribute__")) := of_decide_eq_true (c.fact 34 (f := e34) rfl)
  have a_JoinedRow_init : PySem.W.findIn K (.ref (A_J K)) "__init__" = some (some (.ref (A_f_JoinedRow_init K))) := of_decide_eq_true (c.fact 35 (f := e35) rfl)
  have i_JoinedRow_init : PySem.W.isFn K (.ref (A_f_JoinedRow_init K)) = true := (c.fact 36 (f := e36) rfl)
  obtain ⟨oc_JoinedRow_init, od_JoinedRow_init, sl_JoinedRow_init, kV_JoinedRow_init, dc_JoinedRow_init, pm_JoinedRow_init, an_JoinedRow_init, cd_JoinedRow_init, ct_JoinedRow_init, l_JoinedRow_init, c_JoinedRow_init⟩ := fnV_ok (f := A_f_JoinedRow_init) (n := "__init__") (q := "JoinedRow.__init__") (st := s_JoinedRow_init) (c.defn 0 (d := d0) rfl) (c.fact 37 (f := e37) rfl)
  have k_JoinedRow_init : PySem.W.keepIn K (.ref (A_f_JoinedRow_init K)) = true := (c.fact 38 (f := e38) rfl)
  have a_Pattern_init : PySem.W.findIn K (.ref (A_C K)) "__init__" = some (some (.ref (A_f_Pattern_init K))) := of_decide_eq_true (c.fact 39 (f := e39) rfl)
  have i_Pattern_init : PySem.W.isFn K (.ref (A_f_Pattern_init K)) = true := (c.fact 40 (f := e40) rfl)
  obtain ⟨oc_Pattern_init, od_Pattern_init, sl_Pattern_init, kV_Pattern_init, dc_Pattern_init, pm_Pattern_init, an_Pattern_init, cd_Pattern_init, ct_Pattern_init, l_Pattern_init, c_Pattern_init⟩ := fnV_ok (f := A_f_Pattern_init) (n := "__init__") (q := "Pattern.__init__") (st := s_Pattern_init) (c.defn 1 (d := d1) rfl) (c.fact 41 (f := e41) rfl)
  have k_Pattern_init : PySem.W.keepIn K (.ref (A_f_Pattern_init K)) = true := (c.fact 42 (f := e42) rfl)
  have a_Pattern_call : PySem.W.findIn K (.ref (A_C K)) "__call__" = some (some (.ref (A_f_Pattern_call K))) := of_decide_eq_true (c.fact 43 (f := e43) rfl)
  have i_Pattern_call : PySem.W.isFn K (.ref (A_f_Pattern_call K)) = true := (c.fact 44 (f := e44) rfl)
  obtain ⟨oc_Pattern_call, od_Pattern_call, sl_Pattern_call, kV_Pattern_call, dc_Pattern_call, pm_Pattern_call, an_Pattern_call, cd_Pattern_call, ct_Pattern_call, l_Pattern_call, c_Pattern_call⟩ := fnV_ok (f := A_f_Pattern_call) (n := "__call__") (q := "Pattern.__call__") (st := s_Pattern_call) (c.defn 2 (d := d2) rfl) (c.fact 45 (f := e45) rfl)
  have k_Pattern_call : PySem.W.keepIn K (.ref (A_f_Pattern_call K)) = true := (c.fact 46 (f := e46) rfl)
  have fi_call : PySem.W.fnIn K (A_f_Pattern_call K) = true := (c.fact 47 (f := e47) rfl)
  have a_Pattern_add : PySem.W.findIn K (.ref (A_C K)) "__add__" = some (some (.ref (A_f_Pattern_add K))) := of_decide_eq_true (c.fact 48 (f := e48) rfl)
  have i_Pattern_add : PySem.W.isFn K (.ref (A_f_Pattern_add K)) = true := (c.fact 49 (f := e49) rfl)
  obtain ⟨oc_Pattern_add, od_Pattern_add, sl_Pattern_add, kV_Pattern_add, dc_Pattern_add, pm_Pattern_add, an_Pattern_add, cd_Pattern_add, ct_Pattern_add, l_Pattern_add, c_Pattern_add⟩ := fnV_ok (f := A_f_Pattern_add) (n := "__add__") (q := "Pattern.__add__") (st := s_Pattern_add) (c.defn 3 (d := d3) rfl) (c.fact 50 (f := e50) rfl)
  have k_Pattern_add : PySem.W.keepIn K (.ref (A_f_Pattern_add K)) = true := (c.fact 51 (f := e51) rfl)
  have pa_Pattern_numbers : PySem.W.findIn K (.ref (A_C K)) "numbers" = some (some (.ref (A_pr_Pattern_numbers K))) := of_decide_eq_true (c.fact 52 (f := e52) rfl)
  have pg_Pattern_numbers : PySem.W.specialIn K (.ref (A_pr_Pattern_numbers K)) "__get__" = some (some (.builtin "property.__get__")) := of_decide_eq_true (c.fact 53 (f := e53) rfl)
  have pt_Pattern_numbers : PySem.W.takesIn K (.ref (A_pr_Pattern_numbers K)) = some true := of_decide_eq_true (c.fact 54 (f := e54) rfl)
  obtain ⟨rest_Pattern_numbers, pc_Pattern_numbers⟩ := recB_ok (a := A_pr_Pattern_numbers) (f := A_f_Pattern_numbers) (s := "property") (c.fact 55 (f := e55) rfl)
  obtain ⟨oc_Pattern_numbers, od_Pattern_numbers, sl_Pattern_numbers, kV_Pattern_numbers, dc_Pattern_numbers, pm_Pattern_numbers, an_Pattern_numbers, cd_Pattern_numbers, ct_Pattern_numbers, l_Pattern_numbers, c_Pattern_numbers⟩ := fnV_ok (f := A_f_Pattern_numbers) (n := "numbers") (q := "Pattern.numbers") (st := s_Pattern_numbers) (c.defn 4 (d := d4) rfl) (c.fact 56 (f := e56) rfl)
  have k_Pattern_numbers : PySem.W.keepIn K (.ref (A_f_Pattern_numbers K)) = true := (c.fact 57 (f := e57) rfl)
  have sa_Pattern_read := smB_ok (a := A_C) (p := A_pr_Pattern_read) (m := "read") (c.fact 58 (f := e58) rfl)
  obtain ⟨rest_Pattern_read, sc_Pattern_read⟩ := recB_ok (a := A_pr_Pattern_read) (f := A_f_Pattern_read) (s := "staticmethod") (c.fact 59 (f := e59) rfl)
  obtain ⟨oc_Pattern_read, od_Pattern_read, sl_Pattern_read, kV_Pattern_read, dc_Pattern_read, pm_Pattern_read, an_Pattern_read, cd_Pattern_read, ct_Pattern_read, l_Pattern_read, c_Pattern_read⟩ := fnV_ok (f := A_f_Pattern_read) (n := "read") (q := "Pattern.read") (st := s_Pattern_read) (c.defn 5 (d := d5) rfl) (c.fact 60 (f := e60) rfl)
  have k_Pattern_read : PySem.W.keepIn K (.ref (A_f_Pattern_read K)) = true := (c.fact 61 (f := e61) rfl)
  have z_len : PySem.W.nsIn K mainGlobals "len" = some none := of_decide_eq_true (c.fact 62 (f := e62) rfl)
  have z_abs : PySem.W.nsIn K mainGlobals "abs" = some none := of_decide_eq_true (c.fact 63 (f := e63) rfl)
  have z_int : PySem.W.nsIn K mainGlobals "int" = some none := of_decide_eq_true (c.fact 64 (f := e64) rfl)
  have z_bool : PySem.W.nsIn K mainGlobals "bool" = some none := of_decide_eq_true (c.fact 65 (f := e65) rfl)
  have z_tuple : PySem.W.nsIn K mainGlobals "tuple" = some none := of_decide_eq_true (c.fact 66 (f := e66) rfl)
  have z_isinstance : PySem.W.nsIn K mainGlobals "isinstance" = some none := of_decide_eq_true (c.fact 67 (f := e67) rfl)
  have z_divmod : PySem.W.nsIn K mainGlobals "divmod" = some none := of_decide_eq_true (c.fact 68 (f := e68) rfl)
  have z_max : PySem.W.nsIn K mainGlobals "max" = some none := of_decide_eq_true (c.fact 69 (f := e69) rfl)
  have z_min : PySem.W.nsIn K mainGlobals "min" = some none := of_decide_eq_true (c.fact 70 (f := e70) rfl)
  have z_range : PySem.W.nsIn K mainGlobals "range" = some none := of_decide_eq_true (c.fact 71 (f := e71) rfl)
  have z_all : PySem.W.nsIn K mainGlobals "all" = some none := of_decide_eq_true (c.fact 72 (f := e72) rfl)
  have z_repr : PySem.W.nsIn K mainGlobals "repr" = some none := of_decide_eq_true (c.fact 73 (f := e73) rfl)
  have z_str : PySem.W.nsIn K mainGlobals "str" = some none := of_decide_eq_true (c.fact 74 (f := e74) rfl)
  have z_enumerate : PySem.W.nsIn K mainGlobals "enumerate" = some none := of_decide_eq_true (c.fact 75 (f := e75) rfl)
  have a_is_integer : PySem.W.nsIn K mainGlobals "is_integer" = some (some (.ref (A_f_is_integer K))) := of_decide_eq_true (c.fact 76 (f := e76) rfl)
  obtain ⟨oc_is_integer, od_is_integer, sl_is_integer, kV_is_integer, dc_is_integer, pm_is_integer, an_is_integer, cd_is_integer, ct_is_integer, l_is_integer, c_is_integer⟩ := fnV_ok (f := A_f_is_integer) (n := "is_integer") (q := "is_integer") (st := s_is_integer) (c.defn 6 (d := d6) rfl) (c.fact 77 (f := e77) rfl)
  have k_is_integer : PySem.W.keepIn K (.ref (A_f_is_integer K)) = true := (c.fact 78 (f := e78) rfl)
  have a_is_integer_within : PySem.W.nsIn K mainGlobals "is_integer_within" = some (some (.ref (A_f_is_integer_within K))) := of_decide_eq_true (c.fact 79 (f := e79) rfl)
  obtain ⟨oc_is_integer_within, od_is_integer_within, sl_is_integer_within, kV_is_integer_within, dc_is_integer_within, pm_is_integer_within, an_is_integer_within, cd_is_integer_within, ct_is_integer_within, l_is_integer_within, c_is_integer_within⟩ := fnV_ok (f := A_f_is_integer_within) (n := "is_integer_within") (q := "is_integer_within") (st := s_is_integer_within) (c.defn 7 (d := d7) rfl) (c.fact 80 (f := e80) rfl)
  have k_is_integer_within : PySem.W.keepIn K (.ref (A_f_is_integer_within K)) = true := (c.fact 81 (f := e81) rfl)
  have a_is_pair_of_integers : PySem.W.nsIn K mainGlobals "is_pair_of_integers" = some (some (.ref (A_f_is_pair_of_integers K))) := of_decide_eq_true (c.fact 82 (f := e82) rfl)
  obtain ⟨oc_is_pair_of_integers, od_is_pair_of_integers, sl_is_pair_of_integers, kV_is_pair_of_integers, dc_is_pair_of_integers, pm_is_pair_of_integers, an_is_pair_of_integers, cd_is_pair_of_integers, ct_is_pair_of_integers, l_is_pair_of_integers, c_is_pair_of_integers⟩ := fnV_ok (f := A_f_is_pair_of_integers) (n := "is_pair_of_integers") (q := "is_pair_of_integers") (st := s_is_pair_of_integers) (c.defn 8 (d := d8) rfl) (c.fact 83 (f := e83) rfl)
  have k_is_pair_of_integers : PySem.W.keepIn K (.ref (A_f_is_pair_of_integers K)) = true := (c.fact 84 (f := e84) rfl)
  have a_is_resistance : PySem.W.nsIn K mainGlobals "is_resistance" = some (some (.ref (A_f_is_resistance K))) := of_decide_eq_true (c.fact 85 (f := e85) rfl)
  obtain ⟨oc_is_resistance, od_is_resistance, sl_is_resistance, kV_is_resistance, dc_is_resistance, pm_is_resistance, an_is_resistance, cd_is_resistance, ct_is_resistance, l_is_resistance, c_is_resistance⟩ := fnV_ok (f := A_f_is_resistance) (n := "is_resistance") (q := "is_resistance") (st := s_is_resistance) (c.defn 9 (d := d9) rfl) (c.fact 86 (f := e86) rfl)
  have k_is_resistance : PySem.W.keepIn K (.ref (A_f_is_resistance K)) = true := (c.fact 87 (f := e87) rfl)
  have a_pair_of : PySem.W.nsIn K mainGlobals "pair_of" = some (some (.ref (A_f_pair_of K))) := of_decide_eq_true (c.fact 88 (f := e88) rfl)
  obtain ⟨oc_pair_of, od_pair_of, sl_pair_of, kV_pair_of, dc_pair_of, pm_pair_of, an_pair_of, cd_pair_of, ct_pair_of, l_pair_of, c_pair_of⟩ := fnV_ok (f := A_f_pair_of) (n := "pair_of") (q := "pair_of") (st := s_pair_of) (c.defn 10 (d := d10) rfl) (c.fact 89 (f := e89) rfl)
  have k_pair_of : PySem.W.keepIn K (.ref (A_f_pair_of K)) = true := (c.fact 90 (f := e90) rfl)
  have a_common_divisor : PySem.W.nsIn K mainGlobals "common_divisor" = some (some (.ref (A_f_common_divisor K))) := of_decide_eq_true (c.fact 91 (f := e91) rfl)
  obtain ⟨oc_common_divisor, od_common_divisor, sl_common_divisor, kV_common_divisor, dc_common_divisor, pm_common_divisor, an_common_divisor, cd_common_divisor, ct_common_divisor, l_common_divisor, c_common_divisor⟩ := fnV_ok (f := A_f_common_divisor) (n := "common_divisor") (q := "common_divisor") (st := s_common_divisor) (c.defn 11 (d := d11) rfl) (c.fact 92 (f := e92) rfl)
  have k_common_divisor : PySem.W.keepIn K (.ref (A_f_common_divisor K)) = true := (c.fact 93 (f := e93) rfl)
  have a_lowest_terms : PySem.W.nsIn K mainGlobals "lowest_terms" = some (some (.ref (A_f_lowest_terms K))) := of_decide_eq_true (c.fact 94 (f := e94) rfl)
  obtain ⟨oc_lowest_terms, od_lowest_terms, sl_lowest_terms, kV_lowest_terms, dc_lowest_terms, pm_lowest_terms, an_lowest_terms, cd_lowest_terms, ct_lowest_terms, l_lowest_terms, c_lowest_terms⟩ := fnV_ok (f := A_f_lowest_terms) (n := "lowest_terms") (q := "lowest_terms") (st := s_lowest_terms) (c.defn 12 (d := d12) rfl) (c.fact 95 (f := e95) rfl)
  have k_lowest_terms : PySem.W.keepIn K (.ref (A_f_lowest_terms K)) = true := (c.fact 96 (f := e96) rfl)
  have a_lowest_pair : PySem.W.nsIn K mainGlobals "lowest_pair" = some (some (.ref (A_f_lowest_pair K))) := of_decide_eq_true (c.fact 97 (f := e97) rfl)
  obtain ⟨oc_lowest_pair, od_lowest_pair, sl_lowest_pair, kV_lowest_pair, dc_lowest_pair, pm_lowest_pair, an_lowest_pair, cd_lowest_pair, ct_lowest_pair, l_lowest_pair, c_lowest_pair⟩ := fnV_ok (f := A_f_lowest_pair) (n := "lowest_pair") (q := "lowest_pair") (st := s_lowest_pair) (c.defn 13 (d := d13) rfl) (c.fact 98 (f := e98) rfl)
  have k_lowest_pair : PySem.W.keepIn K (.ref (A_f_lowest_pair K)) = true := (c.fact 99 (f := e99) rfl)
  have a_is_piece : PySem.W.nsIn K mainGlobals "is_piece" = some (some (.ref (A_f_is_piece K))) := of_decide_eq_true (c.fact 100 (f := e100) rfl)
  obtain ⟨oc_is_piece, od_is_piece, sl_is_piece, kV_is_piece, dc_is_piece, pm_is_piece, an_is_piece, cd_is_piece, ct_is_piece, l_is_piece, c_is_piece⟩ := fnV_ok (f := A_f_is_piece) (n := "is_piece") (q := "is_piece") (st := s_is_piece) (c.defn 14 (d := d14) rfl) (c.fact 101 (f := e101) rfl)
  have k_is_piece : PySem.W.keepIn K (.ref (A_f_is_piece K)) = true := (c.fact 102 (f := e102) rfl)
  have a_checked_row : PySem.W.nsIn K mainGlobals "checked_row" = some (some (.ref (A_f_checked_row K))) := of_decide_eq_true (c.fact 103 (f := e103) rfl)
  obtain ⟨oc_checked_row, od_checked_row, sl_checked_row, kV_checked_row, dc_checked_row, pm_checked_row, an_checked_row, cd_checked_row, ct_checked_row, l_checked_row, c_checked_row⟩ := fnV_ok (f := A_f_checked_row) (n := "checked_row") (q := "checked_row") (st := s_checked_row) (c.defn 15 (d := d15) rfl) (c.fact 104 (f := e104) rfl)
  have k_checked_row : PySem.W.keepIn K (.ref (A_f_checked_row K)) = true := (c.fact 105 (f := e105) rfl)
  have a_matrix_and_scale : PySem.W.nsIn K mainGlobals "matrix_and_scale" = some (some (.ref (A_f_matrix_and_scale K))) := of_decide_eq_true (c.fact 106 (f := e106) rfl)
  obtain ⟨oc_matrix_and_scale, od_matrix_and_scale, sl_matrix_and_scale, kV_matrix_and_scale, dc_matrix_and_scale, pm_matrix_and_scale, an_matrix_and_scale, cd_matrix_and_scale, ct_matrix_and_scale, l_matrix_and_scale, c_matrix_and_scale⟩ := fnV_ok (f := A_f_matrix_and_scale) (n := "matrix_and_scale") (q := "matrix_and_scale") (st := s_matrix_and_scale) (c.defn 16 (d := d16) rfl) (c.fact 107 (f := e107) rfl)
  have k_matrix_and_scale : PySem.W.keepIn K (.ref (A_f_matrix_and_scale K)) = true := (c.fact 108 (f := e108) rfl)
  have a_shown_before : PySem.W.nsIn K mainGlobals "shown_before" = some (some (.ref (A_f_shown_before K))) := of_decide_eq_true (c.fact 109 (f := e109) rfl)
  obtain ⟨oc_shown_before, od_shown_before, sl_shown_before, kV_shown_before, dc_shown_before, pm_shown_before, an_shown_before, cd_shown_before, ct_shown_before, l_shown_before, c_shown_before⟩ := fnV_ok (f := A_f_shown_before) (n := "shown_before") (q := "shown_before") (st := s_shown_before) (c.defn 17 (d := d17) rfl) (c.fact 110 (f := e110) rfl)
  have k_shown_before : PySem.W.keepIn K (.ref (A_f_shown_before K)) = true := (c.fact 111 (f := e111) rfl)
  have a_piece_text : PySem.W.nsIn K mainGlobals "piece_text" = some (some (.ref (A_f_piece_text K))) := of_decide_eq_true (c.fact 112 (f := e112) rfl)
  obtain ⟨oc_piece_text, od_piece_text, sl_piece_text, kV_piece_text, dc_piece_text, pm_piece_text, an_piece_text, cd_piece_text, ct_piece_text, l_piece_text, c_piece_text⟩ := fnV_ok (f := A_f_piece_text) (n := "piece_text") (q := "piece_text") (st := s_piece_text) (c.defn 18 (d := d18) rfl) (c.fact 113 (f := e113) rfl)
  have k_piece_text : PySem.W.keepIn K (.ref (A_f_piece_text K)) = true := (c.fact 114 (f := e114) rfl)
  have a_piece_with_text : PySem.W.nsIn K mainGlobals "piece_with_text" = some (some (.ref (A_f_piece_with_text K))) := of_decide_eq_true (c.fact 115 (f := e115) rfl)
  obtain ⟨oc_piece_with_text, od_piece_with_text, sl_piece_with_text, kV_piece_with_text, dc_piece_with_text, pm_piece_with_text, an_piece_with_text, cd_piece_with_text, ct_piece_with_text, l_piece_with_text, c_piece_with_text⟩ := fnV_ok (f := A_f_piece_with_text) (n := "piece_with_text") (q := "piece_with_text") (st := s_piece_with_text) (c.defn 19 (d := d19) rfl) (c.fact 116 (f := e116) rfl)
  have k_piece_with_text : PySem.W.keepIn K (.ref (A_f_piece_with_text K)) = true := (c.fact 117 (f := e117) rfl)
  have a_law_cup : PySem.W.nsIn K mainGlobals "_law_cup" = some (some (.ref (A_f_law_cup K))) := of_decide_eq_true (c.fact 118 (f := e118) rfl)
  obtain ⟨oc_law_cup, od_law_cup, sl_law_cup, kV_law_cup, dc_law_cup, pm_law_cup, an_law_cup, cd_law_cup, ct_law_cup, l_law_cup, c_law_cup⟩ := fnV_ok (f := A_f_law_cup) (n := "_law_cup") (q := "_law_cup") (st := s_law_cup) (c.defn 20 (d := d20) rfl) (c.fact 119 (f := e119) rfl)
  have k_law_cup : PySem.W.keepIn K (.ref (A_f_law_cup K)) = true := (c.fact 120 (f := e120) rfl)
  have a_law_sip : PySem.W.nsIn K mainGlobals "_law_sip" = some (some (.ref (A_f_law_sip K))) := of_decide_eq_true (c.fact 121 (f := e121) rfl)
  obtain ⟨oc_law_sip, od_law_sip, sl_law_sip, kV_law_sip, dc_law_sip, pm_law_sip, an_law_sip, cd_law_sip, ct_law_sip, l_law_sip, c_law_sip⟩ := fnV_ok (f := A_f_law_sip) (n := "_law_sip") (q := "_law_sip") (st := s_law_sip) (c.defn 21 (d := d21) rfl) (c.fact 122 (f := e122) rfl)
  have k_law_sip : PySem.W.keepIn K (.ref (A_f_law_sip K)) = true := (c.fact 123 (f := e123) rfl)
  have a_law_pick : PySem.W.nsIn K mainGlobals "_law_pick" = some (some (.ref (A_f_law_pick K))) := of_decide_eq_true (c.fact 124 (f := e124) rfl)
  obtain ⟨oc_law_pick, od_law_pick, sl_law_pick, kV_law_pick, dc_law_pick, pm_law_pick, an_law_pick, cd_law_pick, ct_law_pick, l_law_pick, c_law_pick⟩ := fnV_ok (f := A_f_law_pick) (n := "_law_pick") (q := "_law_pick") (st := s_law_pick) (c.defn 22 (d := d22) rfl) (c.fact 125 (f := e125) rfl)
  have k_law_pick : PySem.W.keepIn K (.ref (A_f_law_pick K)) = true := (c.fact 126 (f := e126) rfl)
  have caC : PySem.W.findIn K (.ref (A_C K)) "__class__" = some (some (.builtin "object.__class__")) := of_decide_eq_true (c.fact 127 (f := e127) rfl)
  have cmC : PySem.W.mroIn K (A_C K) (.type "object") = some true := of_decide_eq_true (c.fact 128 (f := e128) rfl)
  obtain ⟨tP, aGP⟩ := intB_ok (x := "GREATEST_PART") (i := 10000000000000000000000000000000000000000) (c.fact 129 (f := e129) rfl)
  obtain ⟨tC, aMS⟩ := intB_ok (x := "MOST_SECTIONS") (i := 100) (c.fact 130 (f := e130) rfl)
  have aCe : PySem.W.nsIn K mainGlobals "Exact" = some (some (.ref (A_Ce K))) := of_decide_eq_true (c.fact 131 (f := e131) rfl)
  have pgCe : PySem.W.plainGet K (A_Ce K) Str.empty = true := (c.fact 132 (f := e132) rfl)
  have hdCe : PySem.W.hasDictIn K (A_Ce K) = true := (c.fact 133 (f := e133) rfl)
  have poCe : PySem.W.plainOver K (A_Ce K) = true := (c.fact 134 (f := e134) rfl)
  have saCe : PySem.W.findIn K (.ref (A_Ce K)) "__setattr__" = some (some (.builtin "object.__setattr__")) := of_decide_eq_true (c.fact 135 (f := e135) rfl)
  have mkCe : PySem.W.makesIn K (A_Ce K) = true := (c.fact 136 (f := e136) rfl)
  have kcCe : PySem.W.keepIn K (.ref (A_Ce K)) = true := (c.fact 137 (f := e137) rfl)
  have nCe_parts : PySem.W.findIn K (.ref (A_Ce K)) "parts" = some none := of_decide_eq_true (c.fact 138 (f := e138) rfl)
  have caCe : PySem.W.findIn K (.ref (A_Ce K)) "__class__" = some (some (.builtin "object.__class__")) := of_decide_eq_true (c.fact 139 (f := e139) rfl)
  have cmCe : PySem.W.mroIn K (A_Ce K) (.type "object") = some true := of_decide_eq_true (c.fact 140 (f := e140) rfl)
  have aCl : PySem.W.nsIn K mainGlobals "Ladder" = some (some (.ref (A_Cl K))) := of_decide_eq_true (c.fact 141 (f := e141) rfl)
  have pgCl : PySem.W.plainGet K (A_Cl K) Str.empty = true := (c.fact 142 (f := e142) rfl)
  have hdCl : PySem.W.hasDictIn K (A_Cl K) = true := (c.fact 143 (f := e143) rfl)
  have poCl : PySem.W.plainOver K (A_Cl K) = true := (c.fact 144 (f := e144) rfl)
  have saCl : PySem.W.findIn K (.ref (A_Cl K)) "__setattr__" = some (some (.builtin "object.__setattr__")) := of_decide_eq_true (c.fact 145 (f := e145) rfl)
  have mkCl : PySem.W.makesIn K (A_Cl K) = true := (c.fact 146 (f := e146) rfl)
  have kcCl : PySem.W.keepIn K (.ref (A_Cl K)) = true := (c.fact 147 (f := e147) rfl)
  have nCl_section : PySem.W.findIn K (.ref (A_Cl K)) "section" = some none := of_decide_eq_true (c.fact 148 (f := e148) rfl)
  have nCl_behind : PySem.W.findIn K (.ref (A_Cl K)) "behind" = some none := of_decide_eq_true (c.fact 149 (f := e149) rfl)
  have nCl_far : PySem.W.findIn K (.ref (A_Cl K)) "far" = some none := of_decide_eq_true (c.fact 150 (f := e150) rfl)
  have a_is_count : PySem.W.nsIn K mainGlobals "is_count" = some (some (.ref (A_f_is_count K))) := of_decide_eq_true (c.fact 151 (f := e151) rfl)
  obtain ⟨oc_is_count, od_is_count, sl_is_count, kV_is_count, dc_is_count, pm_is_count, an_is_count, cd_is_count, ct_is_count, l_is_count, c_is_count⟩ := fnV_ok (f := A_f_is_count) (n := "is_count") (q := "is_count") (st := s_is_count) (c.defn 23 (d := d23) rfl) (c.fact 152 (f := e152) rfl)
  have k_is_count : PySem.W.keepIn K (.ref (A_f_is_count K)) = true := (c.fact 153 (f := e153) rfl)
  have a_fraction_text : PySem.W.nsIn K mainGlobals "fraction_text" = some (some (.ref (A_f_fraction_text K))) := of_decide_eq_true (c.fact 154 (f := e154) rfl)
  obtain ⟨oc_fraction_text, od_fraction_text, sl_fraction_text, kV_fraction_text, dc_fraction_text, pm_fraction_text, an_fraction_text, cd_fraction_text, ct_fraction_text, l_fraction_text, c_fraction_text⟩ := fnV_ok (f := A_f_fraction_text) (n := "fraction_text") (q := "fraction_text") (st := s_fraction_text) (c.defn 24 (d := d24) rfl) (c.fact 155 (f := e155) rfl)
  have k_fraction_text : PySem.W.keepIn K (.ref (A_f_fraction_text K)) = true := (c.fact 156 (f := e156) rfl)
  have a_sign : PySem.W.nsIn K mainGlobals "sign" = some (some (.ref (A_f_sign K))) := of_decide_eq_true (c.fact 157 (f := e157) rfl)
  obtain ⟨oc_sign, od_sign, sl_sign, kV_sign, dc_sign, pm_sign, an_sign, cd_sign, ct_sign, l_sign, c_sign⟩ := fnV_ok (f := A_f_sign) (n := "sign") (q := "sign") (st := s_sign) (c.defn 25 (d := d25) rfl) (c.fact 158 (f := e158) rfl)
  have k_sign : PySem.W.keepIn K (.ref (A_f_sign K)) = true := (c.fact 159 (f := e159) rfl)
  have a_square_root : PySem.W.nsIn K mainGlobals "square_root" = some (some (.ref (A_f_square_root K))) := of_decide_eq_true (c.fact 160 (f := e160) rfl)
  obtain ⟨oc_square_root, od_square_root, sl_square_root, kV_square_root, dc_square_root, pm_square_root, an_square_root, cd_square_root, ct_square_root, l_square_root, c_square_root⟩ := fnV_ok (f := A_f_square_root) (n := "square_root") (q := "square_root") (st := s_square_root) (c.defn 26 (d := d26) rfl) (c.fact 161 (f := e161) rfl)
  have k_square_root : PySem.W.keepIn K (.ref (A_f_square_root K)) = true := (c.fact 162 (f := e162) rfl)
  have a_under_root : PySem.W.nsIn K mainGlobals "under_root" = some (some (.ref (A_f_under_root K))) := of_decide_eq_true (c.fact 163 (f := e163) rfl)
  obtain ⟨oc_under_root, od_under_root, sl_under_root, kV_under_root, dc_under_root, pm_under_root, an_under_root, cd_under_root, ct_under_root, l_under_root, c_under_root⟩ := fnV_ok (f := A_f_under_root) (n := "under_root") (q := "under_root") (st := s_under_root) (c.defn 27 (d := d27) rfl) (c.fact 164 (f := e164) rfl)
  have k_under_root : PySem.W.keepIn K (.ref (A_f_under_root K)) = true := (c.fact 165 (f := e165) rfl)
  have a_equation_of_fraction : PySem.W.nsIn K mainGlobals "equation_of_fraction" = some (some (.ref (A_f_equation_of_fraction K))) := of_decide_eq_true (c.fact 166 (f := e166) rfl)
  obtain ⟨oc_equation_of_fraction, od_equation_of_fraction, sl_equation_of_fraction, kV_equation_of_fraction, dc_equation_of_fraction, pm_equation_of_fraction, an_equation_of_fraction, cd_equation_of_fraction, ct_equation_of_fraction, l_equation_of_fraction, c_equation_of_fraction⟩ := fnV_ok (f := A_f_equation_of_fraction) (n := "equation_of_fraction") (q := "equation_of_fraction") (st := s_equation_of_fraction) (c.defn 28 (d := d28) rfl) (c.fact 167 (f := e167) rfl)
  have k_equation_of_fraction : PySem.W.keepIn K (.ref (A_f_equation_of_fraction K)) = true := (c.fact 168 (f := e168) rfl)
  have a_simplest_equation : PySem.W.nsIn K mainGlobals "simplest_equation" = some (some (.ref (A_f_simplest_equation K))) := of_decide_eq_true (c.fact 169 (f := e169) rfl)
  obtain ⟨oc_simplest_equation, od_simplest_equation, sl_simplest_equation, kV_simplest_equation, dc_simplest_equation, pm_simplest_equation, an_simplest_equation, cd_simplest_equation, ct_simplest_equation, l_simplest_equation, c_simplest_equation⟩ := fnV_ok (f := A_f_simplest_equation) (n := "simplest_equation") (q := "simplest_equation") (st := s_simplest_equation) (c.defn 29 (d := d29) rfl) (c.fact 170 (f := e170) rfl)
  have k_simplest_equation : PySem.W.keepIn K (.ref (A_f_simplest_equation K)) = true := (c.fact 171 (f := e171) rfl)
  have a_with_commas : PySem.W.nsIn K mainGlobals "with_commas" = some (some (.ref (A_f_with_commas K))) := of_decide_eq_true (c.fact 172 (f := e172) rfl)
  obtain ⟨oc_with_commas, od_with_commas, sl_with_commas, kV_with_commas, dc_with_commas, pm_with_commas, an_with_commas, cd_with_commas, ct_with_commas, l_with_commas, c_with_commas⟩ := fnV_ok (f := A_f_with_commas) (n := "with_commas") (q := "with_commas") (st := s_with_commas) (c.defn 30 (d := d30) rfl) (c.fact 173 (f := e173) rfl)
  have k_with_commas : PySem.W.keepIn K (.ref (A_f_with_commas K)) = true := (c.fact 174 (f := e174) rfl)
  have a_pair_order : PySem.W.nsIn K mainGlobals "pair_order" = some (some (.ref (A_f_pair_order K))) := of_decide_eq_true (c.fact 175 (f := e175) rfl)
  obtain ⟨oc_pair_order, od_pair_order, sl_pair_order, kV_pair_order, dc_pair_order, pm_pair_order, an_pair_order, cd_pair_order, ct_pair_order, l_pair_order, c_pair_order⟩ := fnV_ok (f := A_f_pair_order) (n := "pair_order") (q := "pair_order") (st := s_pair_order) (c.defn 31 (d := d31) rfl) (c.fact 176 (f := e176) rfl)
  have k_pair_order : PySem.W.keepIn K (.ref (A_f_pair_order K)) = true := (c.fact 177 (f := e177) rfl)
  have a_check_resistance : PySem.W.nsIn K mainGlobals "check_resistance" = some (some (.ref (A_f_check_resistance K))) := of_decide_eq_true (c.fact 178 (f := e178) rfl)
  obtain ⟨oc_check_resistance, od_check_resistance, sl_check_resistance, kV_check_resistance, dc_check_resistance, pm_check_resistance, an_check_resistance, cd_check_resistance, ct_check_resistance, l_check_resistance, c_check_resistance⟩ := fnV_ok (f := A_f_check_resistance) (n := "check_resistance") (q := "check_resistance") (st := s_check_resistance) (c.defn 32 (d := d32) rfl) (c.fact 179 (f := e179) rfl)
  have k_check_resistance : PySem.W.keepIn K (.ref (A_f_check_resistance K)) = true := (c.fact 180 (f := e180) rfl)
  have a_check_count : PySem.W.nsIn K mainGlobals "check_count" = some (some (.ref (A_f_check_count K))) := of_decide_eq_true (c.fact 181 (f := e181) rfl)
  obtain ⟨oc_check_count, od_check_count, sl_check_count, kV_check_count, dc_check_count, pm_check_count, an_check_count, cd_check_count, ct_check_count, l_check_count, c_check_count⟩ := fnV_ok (f := A_f_check_count) (n := "check_count") (q := "check_count") (st := s_check_count) (c.defn 33 (d := d33) rfl) (c.fact 182 (f := e182) rfl)
  have k_check_count : PySem.W.keepIn K (.ref (A_f_check_count K)) = true := (c.fact 183 (f := e183) rfl)
  have a_Exact_init : PySem.W.findIn K (.ref (A_Ce K)) "__init__" = some (some (.ref (A_f_Exact_init K))) := of_decide_eq_true (c.fact 184 (f := e184) rfl)
  have i_Exact_init : PySem.W.isFn K (.ref (A_f_Exact_init K)) = true := (c.fact 185 (f := e185) rfl)
  obtain ⟨oc_Exact_init, od_Exact_init, sl_Exact_init, kV_Exact_init, dc_Exact_init, pm_Exact_init, an_Exact_init, cd_Exact_init, ct_Exact_init, l_Exact_init, c_Exact_init⟩ := fnV_ok (f := A_f_Exact_init) (n := "__init__") (q := "Exact.__init__") (st := s_Exact_init) (c.defn 34 (d := d34) rfl) (c.fact 186 (f := e186) rfl)
  have k_Exact_init : PySem.W.keepIn K (.ref (A_f_Exact_init K)) = true := (c.fact 187 (f := e187) rfl)
  have a_check_pattern : PySem.W.nsIn K mainGlobals "check_pattern" = some (some (.ref (A_f_check_pattern K))) := of_decide_eq_true (c.fact 188 (f := e188) rfl)
  obtain ⟨oc_check_pattern, od_check_pattern, sl_check_pattern, kV_check_pattern, dc_check_pattern, pm_check_pattern, an_check_pattern, cd_check_pattern, ct_check_pattern, l_check_pattern, c_check_pattern⟩ := fnV_ok (f := A_f_check_pattern) (n := "check_pattern") (q := "check_pattern") (st := s_check_pattern) (c.defn 35 (d := d35) rfl) (c.fact 189 (f := e189) rfl)
  have k_check_pattern : PySem.W.keepIn K (.ref (A_f_check_pattern K)) = true := (c.fact 190 (f := e190) rfl)
  have a_ladder_limit : PySem.W.nsIn K mainGlobals "ladder_limit" = some (some (.ref (A_f_ladder_limit K))) := of_decide_eq_true (c.fact 191 (f := e191) rfl)
  obtain ⟨oc_ladder_limit, od_ladder_limit, sl_ladder_limit, kV_ladder_limit, dc_ladder_limit, pm_ladder_limit, an_ladder_limit, cd_ladder_limit, ct_ladder_limit, l_ladder_limit, c_ladder_limit⟩ := fnV_ok (f := A_f_ladder_limit) (n := "ladder_limit") (q := "ladder_limit") (st := s_ladder_limit) (c.defn 36 (d := d36) rfl) (c.fact 192 (f := e192) rfl)
  have k_ladder_limit : PySem.W.keepIn K (.ref (A_f_ladder_limit K)) = true := (c.fact 193 (f := e193) rfl)
  have a_Ladder_init : PySem.W.findIn K (.ref (A_Cl K)) "__init__" = some (some (.ref (A_f_Ladder_init K))) := of_decide_eq_true (c.fact 194 (f := e194) rfl)
  have i_Ladder_init : PySem.W.isFn K (.ref (A_f_Ladder_init K)) = true := (c.fact 195 (f := e195) rfl)
  obtain ⟨oc_Ladder_init, od_Ladder_init, sl_Ladder_init, kV_Ladder_init, dc_Ladder_init, pm_Ladder_init, an_Ladder_init, cd_Ladder_init, ct_Ladder_init, l_Ladder_init, c_Ladder_init⟩ := fnV_ok (f := A_f_Ladder_init) (n := "__init__") (q := "Ladder.__init__") (st := s_Ladder_init) (c.defn 37 (d := d37) rfl) (c.fact 196 (f := e196) rfl)
  have k_Ladder_init : PySem.W.keepIn K (.ref (A_f_Ladder_init K)) = true := (c.fact 197 (f := e197) rfl)
  have a_Ladder_after : PySem.W.findIn K (.ref (A_Cl K)) "after" = some (some (.ref (A_f_Ladder_after K))) := of_decide_eq_true (c.fact 198 (f := e198) rfl)
  have i_Ladder_after : PySem.W.isFn K (.ref (A_f_Ladder_after K)) = true := (c.fact 199 (f := e199) rfl)
  obtain ⟨oc_Ladder_after, od_Ladder_after, sl_Ladder_after, kV_Ladder_after, dc_Ladder_after, pm_Ladder_after, an_Ladder_after, cd_Ladder_after, ct_Ladder_after, l_Ladder_after, c_Ladder_after⟩ := fnV_ok (f := A_f_Ladder_after) (n := "after") (q := "Ladder.after") (st := s_Ladder_after) (c.defn 38 (d := d38) rfl) (c.fact 200 (f := e200) rfl)
  have k_Ladder_after : PySem.W.keepIn K (.ref (A_f_Ladder_after K)) = true := (c.fact 201 (f := e201) rfl)
  have a_Ladder_call : PySem.W.findIn K (.ref (A_Cl K)) "__call__" = some (some (.ref (A_f_Ladder_call K))) := of_decide_eq_true (c.fact 202 (f := e202) rfl)
  have i_Ladder_call : PySem.W.isFn K (.ref (A_f_Ladder_call K)) = true := (c.fact 203 (f := e203) rfl)
  obtain ⟨oc_Ladder_call, od_Ladder_call, sl_Ladder_call, kV_Ladder_call, dc_Ladder_call, pm_Ladder_call, an_Ladder_call, cd_Ladder_call, ct_Ladder_call, l_Ladder_call, c_Ladder_call⟩ := fnV_ok (f := A_f_Ladder_call) (n := "__call__") (q := "Ladder.__call__") (st := s_Ladder_call) (c.defn 39 (d := d39) rfl) (c.fact 204 (f := e204) rfl)
  have k_Ladder_call : PySem.W.keepIn K (.ref (A_f_Ladder_call K)) = true := (c.fact 205 (f := e205) rfl)
  have fi_lcall : PySem.W.fnIn K (A_f_Ladder_call K) = true := (c.fact 206 (f := e206) rfl)
  have pa_Ladder_goes : PySem.W.findIn K (.ref (A_Cl K)) "goes" = some (some (.ref (A_pr_Ladder_goes K))) := of_decide_eq_true (c.fact 207 (f := e207) rfl)
  have pg_Ladder_goes : PySem.W.specialIn K (.ref (A_pr_Ladder_goes K)) "__get__" = some (some (.builtin "property.__get__")) := of_decide_eq_true (c.fact 208 (f := e208) rfl)
  have pt_Ladder_goes : PySem.W.takesIn K (.ref (A_pr_Ladder_goes K)) = some true := of_decide_eq_true (c.fact 209 (f := e209) rfl)
  obtain ⟨rest_Ladder_goes, pc_Ladder_goes⟩ := recB_ok (a := A_pr_Ladder_goes) (f := A_f_Ladder_goes) (s := "property") (c.fact 210 (f := e210) rfl)
  obtain ⟨oc_Ladder_goes, od_Ladder_goes, sl_Ladder_goes, kV_Ladder_goes, dc_Ladder_goes, pm_Ladder_goes, an_Ladder_goes, cd_Ladder_goes, ct_Ladder_goes, l_Ladder_goes, c_Ladder_goes⟩ := fnV_ok (f := A_f_Ladder_goes) (n := "goes") (q := "Ladder.goes") (st := s_Ladder_goes) (c.defn 40 (d := d40) rfl) (c.fact 211 (f := e211) rfl)
  have k_Ladder_goes : PySem.W.keepIn K (.ref (A_f_Ladder_goes K)) = true := (c.fact 212 (f := e212) rfl)
  have pa_Ladder_limit : PySem.W.findIn K (.ref (A_Cl K)) "limit" = some (some (.ref (A_pr_Ladder_limit K))) := of_decide_eq_true (c.fact 213 (f := e213) rfl)
  have pg_Ladder_limit : PySem.W.specialIn K (.ref (A_pr_Ladder_limit K)) "__get__" = some (some (.builtin "property.__get__")) := of_decide_eq_true (c.fact 214 (f := e214) rfl)
  have pt_Ladder_limit : PySem.W.takesIn K (.ref (A_pr_Ladder_limit K)) = some true := of_decide_eq_true (c.fact 215 (f := e215) rfl)
  obtain ⟨rest_Ladder_limit, pc_Ladder_limit⟩ := recB_ok (a := A_pr_Ladder_limit) (f := A_f_Ladder_limit) (s := "property") (c.fact 216 (f := e216) rfl)
  obtain ⟨oc_Ladder_limit, od_Ladder_limit, sl_Ladder_limit, kV_Ladder_limit, dc_Ladder_limit, pm_Ladder_limit, an_Ladder_limit, cd_Ladder_limit, ct_Ladder_limit, l_Ladder_limit, c_Ladder_limit⟩ := fnV_ok (f := A_f_Ladder_limit) (n := "limit") (q := "Ladder.limit") (st := s_Ladder_limit) (c.defn 41 (d := d41) rfl) (c.fact 217 (f := e217) rfl)
  have k_Ladder_limit : PySem.W.keepIn K (.ref (A_f_Ladder_limit K)) = true := (c.fact 218 (f := e218) rfl)
  have pa_Exact_equation : PySem.W.findIn K (.ref (A_Ce K)) "equation" = some (some (.ref (A_pr_Exact_equation K))) := of_decide_eq_true (c.fact 219 (f := e219) rfl)
  have pg_Exact_equation : PySem.W.specialIn K (.ref (A_pr_Exact_equation K)) "__get__" = some (some (.builtin "property.__get__")) := of_decide_eq_true (c.fact 220 (f := e220) rfl)
  have pt_Exact_equation : PySem.W.takesIn K (.ref (A_pr_Exact_equation K)) = some true := of_decide_eq_true (c.fact 221 (f := e221) rfl)
  obtain ⟨rest_Exact_equation, pc_Exact_equation⟩ := recB_ok (a := A_pr_Exact_equation) (f := A_f_Exact_equation) (s := "property") (c.fact 222 (f := e222) rfl)
  obtain ⟨oc_Exact_equation, od_Exact_equation, sl_Exact_equation, kV_Exact_equation, dc_Exact_equation, pm_Exact_equation, an_Exact_equation, cd_Exact_equation, ct_Exact_equation, l_Exact_equation, c_Exact_equation⟩ := fnV_ok (f := A_f_Exact_equation) (n := "equation") (q := "Exact.equation") (st := s_Exact_equation) (c.defn 42 (d := d42) rfl) (c.fact 223 (f := e223) rfl)
  have k_Exact_equation : PySem.W.keepIn K (.ref (A_f_Exact_equation K)) = true := (c.fact 224 (f := e224) rfl)
  have pa_Exact_fraction : PySem.W.findIn K (.ref (A_Ce K)) "fraction" = some (some (.ref (A_pr_Exact_fraction K))) := of_decide_eq_true (c.fact 225 (f := e225) rfl)
  have pg_Exact_fraction : PySem.W.specialIn K (.ref (A_pr_Exact_fraction K)) "__get__" = some (some (.builtin "property.__get__")) := of_decide_eq_true (c.fact 226 (f := e226) rfl)
  have pt_Exact_fraction : PySem.W.takesIn K (.ref (A_pr_Exact_fraction K)) = some true := of_decide_eq_true (c.fact 227 (f := e227) rfl)
  obtain ⟨rest_Exact_fraction, pc_Exact_fraction⟩ := recB_ok (a := A_pr_Exact_fraction) (f := A_f_Exact_fraction) (s := "property") (c.fact 228 (f := e228) rfl)
  obtain ⟨oc_Exact_fraction, od_Exact_fraction, sl_Exact_fraction, kV_Exact_fraction, dc_Exact_fraction, pm_Exact_fraction, an_Exact_fraction, cd_Exact_fraction, ct_Exact_fraction, l_Exact_fraction, c_Exact_fraction⟩ := fnV_ok (f := A_f_Exact_fraction) (n := "fraction") (q := "Exact.fraction") (st := s_Exact_fraction) (c.defn 43 (d := d43) rfl) (c.fact 229 (f := e229) rfl)
  have k_Exact_fraction : PySem.W.keepIn K (.ref (A_f_Exact_fraction K)) = true := (c.fact 230 (f := e230) rfl)
  have a_law_row : PySem.W.nsIn K mainGlobals "_law_row" = some (some (.ref (A_f_law_row K))) := of_decide_eq_true (c.fact 231 (f := e231) rfl)
  obtain ⟨oc_law_row, od_law_row, sl_law_row, kV_law_row, dc_law_row, pm_law_row, an_law_row, cd_law_row, ct_law_row, l_law_row, c_law_row⟩ := fnV_ok (f := A_f_law_row) (n := "_law_row") (q := "_law_row") (st := s_law_row) (c.defn 44 (d := d44) rfl) (c.fact 232 (f := e232) rfl)
  have k_law_row : PySem.W.keepIn K (.ref (A_f_law_row K)) = true := (c.fact 233 (f := e233) rfl)
  have a_law_words : PySem.W.nsIn K mainGlobals "_law_words" = some (some (.ref (A_f_law_words K))) := of_decide_eq_true (c.fact 234 (f := e234) rfl)
  obtain ⟨oc_law_words, od_law_words, sl_law_words, kV_law_words, dc_law_words, pm_law_words, an_law_words, cd_law_words, ct_law_words, l_law_words, c_law_words⟩ := fnV_ok (f := A_f_law_words) (n := "_law_words") (q := "_law_words") (st := s_law_words) (c.defn 45 (d := d45) rfl) (c.fact 235 (f := e235) rfl)
  have k_law_words : PySem.W.keepIn K (.ref (A_f_law_words K)) = true := (c.fact 236 (f := e236) rfl)
  have a_law_read : PySem.W.nsIn K mainGlobals "_law_read" = some (some (.ref (A_f_law_read K))) := of_decide_eq_true (c.fact 237 (f := e237) rfl)
  obtain ⟨oc_law_read, od_law_read, sl_law_read, kV_law_read, dc_law_read, pm_law_read, an_law_read, cd_law_read, ct_law_read, l_law_read, c_law_read⟩ := fnV_ok (f := A_f_law_read) (n := "_law_read") (q := "_law_read") (st := s_law_read) (c.defn 46 (d := d46) rfl) (c.fact 238 (f := e238) rfl)
  have k_law_read : PySem.W.keepIn K (.ref (A_f_law_read K)) = true := (c.fact 239 (f := e239) rfl)
  have aX0 : PySem.W.nsIn K mainGlobals "NotAPattern" = some (some (.ref (A_X0 K))) := of_decide_eq_true (c.fact 240 (f := e240) rfl)
  have aX1 : PySem.W.nsIn K mainGlobals "NotARun" = some (some (.ref (A_X1 K))) := of_decide_eq_true (c.fact 241 (f := e241) rfl)
  have aX2 : PySem.W.nsIn K mainGlobals "InvalidResistance" = some (some (.ref (A_X2 K))) := of_decide_eq_true (c.fact 242 (f := e242) rfl)
  have aX3 : PySem.W.nsIn K mainGlobals "InvalidCount" = some (some (.ref (A_X3 K))) := of_decide_eq_true (c.fact 243 (f := e243) rfl)
  have aX4 : PySem.W.nsIn K mainGlobals "InvalidNumber" = some (some (.ref (A_X4 K))) := of_decide_eq_true (c.fact 244 (f := e244) rfl)
  have aX5 : PySem.W.nsIn K mainGlobals "InvalidText" = some (some (.ref (A_X5 K))) := of_decide_eq_true (c.fact 245 (f := e245) rfl)
  have aX6 : PySem.W.nsIn K mainGlobals "InvalidName" = some (some (.ref (A_X6 K))) := of_decide_eq_true (c.fact 246 (f := e246) rfl)
  have aX7 : PySem.W.nsIn K mainGlobals "InvalidClaim" = some (some (.ref (A_X7 K))) := of_decide_eq_true (c.fact 247 (f := e247) rfl)
  have aX8 : PySem.W.nsIn K mainGlobals "InvalidIndex" = some (some (.ref (A_X8 K))) := of_decide_eq_true (c.fact 248 (f := e248) rfl)
  have aX9 : PySem.W.nsIn K mainGlobals "InvalidPieces" = some (some (.ref (A_X9 K))) := of_decide_eq_true (c.fact 249 (f := e249) rfl)
  have aX10 : PySem.W.nsIn K mainGlobals "InvalidKinds" = some (some (.ref (A_X10 K))) := of_decide_eq_true (c.fact 250 (f := e250) rfl)
  have aX11 : PySem.W.nsIn K mainGlobals "InvalidStretches" = some (some (.ref (A_X11 K))) := of_decide_eq_true (c.fact 251 (f := e251) rfl)
  have aX12 : PySem.W.nsIn K mainGlobals "InvalidDeeds" = some (some (.ref (A_X12 K))) := of_decide_eq_true (c.fact 252 (f := e252) rfl)
  have aX13 : PySem.W.nsIn K mainGlobals "UnknownName" = some (some (.ref (A_X13 K))) := of_decide_eq_true (c.fact 253 (f := e253) rfl)
  have aX14 : PySem.W.nsIn K mainGlobals "InUse" = some (some (.ref (A_X14 K))) := of_decide_eq_true (c.fact 254 (f := e254) rfl)
  have aX15 : PySem.W.nsIn K mainGlobals "TooMany" = some (some (.ref (A_X15 K))) := of_decide_eq_true (c.fact 255 (f := e255) rfl)
  have aX16 : PySem.W.nsIn K mainGlobals "Broken" = some (some (.ref (A_X16 K))) := of_decide_eq_true (c.fact 256 (f := e256) rfl)
  have aX17 : PySem.W.nsIn K mainGlobals "NoLimit" = some (some (.ref (A_X17 K))) := of_decide_eq_true (c.fact 257 (f := e257) rfl)
  have aX18 : PySem.W.nsIn K mainGlobals "NothingToUndo" = some (some (.ref (A_X18 K))) := of_decide_eq_true (c.fact 258 (f := e258) rfl)
  have aX19 : PySem.W.nsIn K mainGlobals "WrongValue" = some (some (.ref (A_X19 K))) := of_decide_eq_true (c.fact 259 (f := e259) rfl)
  have aX20 : PySem.W.nsIn K mainGlobals "WrongName" = some (some (.ref (A_X20 K))) := of_decide_eq_true (c.fact 260 (f := e260) rfl)
  have aX21 : PySem.W.nsIn K mainGlobals "NoAnswer" = some (some (.ref (A_X21 K))) := of_decide_eq_true (c.fact 261 (f := e261) rfl)
  have z_ValueError : PySem.W.nsIn K mainGlobals "ValueError" = some none := of_decide_eq_true (c.fact 262 (f := e262) rfl)
  have z_LookupError : PySem.W.nsIn K mainGlobals "LookupError" = some none := of_decide_eq_true (c.fact 263 (f := e263) rfl)
  have z_ArithmeticError : PySem.W.nsIn K mainGlobals "ArithmeticError" = some none := of_decide_eq_true (c.fact 264 (f := e264) rfl)
  have a_WrongValue_init : PySem.W.findIn K (.ref (A_X19 K)) "__init__" = some (some (.ref (A_f_WrongValue_init K))) := of_decide_eq_true (c.fact 265 (f := e265) rfl)
  have i_WrongValue_init : PySem.W.isFn K (.ref (A_f_WrongValue_init K)) = true := (c.fact 266 (f := e266) rfl)
  obtain ⟨oc_WrongValue_init, od_WrongValue_init, sl_WrongValue_init, kV_WrongValue_init, dc_WrongValue_init, pm_WrongValue_init, an_WrongValue_init, cd_WrongValue_init, ct_WrongValue_init, l_WrongValue_init, c_WrongValue_init⟩ := fnV_ok (f := A_f_WrongValue_init) (n := "__init__") (q := "WrongValue.__init__") (st := s_WrongValue_init) (c.defn 47 (d := d47) rfl) (c.fact 267 (f := e267) rfl)
  have k_WrongValue_init : PySem.W.keepIn K (.ref (A_f_WrongValue_init K)) = true := (c.fact 268 (f := e268) rfl)
  have rd_19 : PySem.W.readsIn K (A_X19 K) (.type "type") = true := (c.fact 269 (f := e269) rfl)
  have ga_19 : PySem.W.specialIn K (.ref (A_X19 K)) "__getattribute__" = some (some (.builtin "type.__getattribute__")) := of_decide_eq_true (c.fact 270 (f := e270) rfl)
  have fc_19 := clvB_ok (a := A_X19) (f := A_f_WrongValue_init) (m := "__init__") (c.fact 271 (f := e271) rfl)
  have a_NotAPattern_init : PySem.W.findIn K (.ref (A_X0 K)) "__init__" = some (some (.ref (A_f_NotAPattern_init K))) := of_decide_eq_true (c.fact 272 (f := e272) rfl)
  have i_NotAPattern_init : PySem.W.isFn K (.ref (A_f_NotAPattern_init K)) = true := (c.fact 273 (f := e273) rfl)
  obtain ⟨oc_NotAPattern_init, od_NotAPattern_init, sl_NotAPattern_init, kV_NotAPattern_init, dc_NotAPattern_init, pm_NotAPattern_init, an_NotAPattern_init, cd_NotAPattern_init, ct_NotAPattern_init, l_NotAPattern_init, c_NotAPattern_init⟩ := fnV_ok (f := A_f_NotAPattern_init) (n := "__init__") (q := "NotAPattern.__init__") (st := s_NotAPattern_init) (c.defn 48 (d := d48) rfl) (c.fact 274 (f := e274) rfl)
  have k_NotAPattern_init : PySem.W.keepIn K (.ref (A_f_NotAPattern_init K)) = true := (c.fact 275 (f := e275) rfl)
  have xb_0 : xcB K (A_X0 K) [.type "ValueError", .type "Exception", .type "BaseException", .type "object"] "ValueError.__new__" = true := (c.fact 276 (f := e276) rfl)
  have ro_0 : rowB K [(A_X0 K), (A_X1 K), (A_X2 K), (A_X3 K), (A_X4 K), (A_X5 K), (A_X6 K), (A_X7 K), (A_X8 K), (A_X9 K), (A_X10 K), (A_X11 K), (A_X12 K), (A_X13 K), (A_X14 K), (A_X15 K), (A_X16 K), (A_X17 K), (A_X18 K), (A_X19 K), (A_X20 K), (A_X21 K)] 0 = true := (c.fact 277 (f := e277) rfl)
  have any_0 : PySem.W.exmAny K (.ref (A_X0 K)) [.ref (A_X19 K), .ref (A_X20 K), .ref (A_X21 K)] = some true := of_decide_eq_true (c.fact 278 (f := e278) rfl)
  have ty_0 : PySem.W.typeIn K (.ref (A_X0 K)) = some (.type "type") := of_decide_eq_true (c.fact 279 (f := e279) rfl)
  have no_0 : PySem.W.findIn K (.ref (A_X0 K)) "given" = some none := of_decide_eq_true (c.fact 280 (f := e280) rfl)
  have a_InvalidResistance_init : PySem.W.findIn K (.ref (A_X2 K)) "__init__" = some (some (.ref (A_f_InvalidResistance_init K))) := of_decide_eq_true (c.fact 281 (f := e281) rfl)
  have i_InvalidResistance_init : PySem.W.isFn K (.ref (A_f_InvalidResistance_init K)) = true := (c.fact 282 (f := e282) rfl)
  obtain ⟨oc_InvalidResistance_init, od_InvalidResistance_init, sl_InvalidResistance_init, kV_InvalidResistance_init, dc_InvalidResistance_init, pm_InvalidResistance_init, an_InvalidResistance_init, cd_InvalidResistance_init, ct_InvalidResistance_init, l_InvalidResistance_init, c_InvalidResistance_init⟩ := fnV_ok (f := A_f_InvalidResistance_init) (n := "__init__") (q := "InvalidResistance.__init__") (st := s_InvalidResistance_init) (c.defn 49 (d := d49) rfl) (c.fact 283 (f := e283) rfl)
  have k_InvalidResistance_init : PySem.W.keepIn K (.ref (A_f_InvalidResistance_init K)) = true := (c.fact 284 (f := e284) rfl)
  have xb_2 : xcB K (A_X2 K) [.type "ValueError", .type "Exception", .type "BaseException", .type "object"] "ValueError.__new__" = true := (c.fact 285 (f := e285) rfl)
  have ro_2 : rowB K [(A_X0 K), (A_X1 K), (A_X2 K), (A_X3 K), (A_X4 K), (A_X5 K), (A_X6 K), (A_X7 K), (A_X8 K), (A_X9 K), (A_X10 K), (A_X11 K), (A_X12 K), (A_X13 K), (A_X14 K), (A_X15 K), (A_X16 K), (A_X17 K), (A_X18 K), (A_X19 K), (A_X20 K), (A_X21 K)] 2 = true := (c.fact 286 (f := e286) rfl)
  have any_2 : PySem.W.exmAny K (.ref (A_X2 K)) [.ref (A_X19 K), .ref (A_X20 K), .ref (A_X21 K)] = some true := of_decide_eq_true (c.fact 287 (f := e287) rfl)
  have ty_2 : PySem.W.typeIn K (.ref (A_X2 K)) = some (.type "type") := of_decide_eq_true (c.fact 288 (f := e288) rfl)
  have no_2 : PySem.W.findIn K (.ref (A_X2 K)) "given" = some none := of_decide_eq_true (c.fact 289 (f := e289) rfl)
  have a_InvalidCount_init : PySem.W.findIn K (.ref (A_X3 K)) "__init__" = some (some (.ref (A_f_InvalidCount_init K))) := of_decide_eq_true (c.fact 290 (f := e290) rfl)
  have i_InvalidCount_init : PySem.W.isFn K (.ref (A_f_InvalidCount_init K)) = true := (c.fact 291 (f := e291) rfl)
  obtain ⟨oc_InvalidCount_init, od_InvalidCount_init, sl_InvalidCount_init, kV_InvalidCount_init, dc_InvalidCount_init, pm_InvalidCount_init, an_InvalidCount_init, cd_InvalidCount_init, ct_InvalidCount_init, l_InvalidCount_init, c_InvalidCount_init⟩ := fnV_ok (f := A_f_InvalidCount_init) (n := "__init__") (q := "InvalidCount.__init__") (st := s_InvalidCount_init) (c.defn 50 (d := d50) rfl) (c.fact 292 (f := e292) rfl)
  have k_InvalidCount_init : PySem.W.keepIn K (.ref (A_f_InvalidCount_init K)) = true := (c.fact 293 (f := e293) rfl)
  have xb_3 : xcB K (A_X3 K) [.type "ValueError", .type "Exception", .type "BaseException", .type "object"] "ValueError.__new__" = true := (c.fact 294 (f := e294) rfl)
  have ro_3 : rowB K [(A_X0 K), (A_X1 K), (A_X2 K), (A_X3 K), (A_X4 K), (A_X5 K), (A_X6 K), (A_X7 K), (A_X8 K), (A_X9 K), (A_X10 K), (A_X11 K), (A_X12 K), (A_X13 K), (A_X14 K), (A_X15 K), (A_X16 K), (A_X17 K), (A_X18 K), (A_X19 K), (A_X20 K), (A_X21 K)] 3 = true := (c.fact 295 (f := e295) rfl)
  have any_3 : PySem.W.exmAny K (.ref (A_X3 K)) [.ref (A_X19 K), .ref (A_X20 K), .ref (A_X21 K)] = some true := of_decide_eq_true (c.fact 296 (f := e296) rfl)
  have ty_3 : PySem.W.typeIn K (.ref (A_X3 K)) = some (.type "type") := of_decide_eq_true (c.fact 297 (f := e297) rfl)
  have no_3 : PySem.W.findIn K (.ref (A_X3 K)) "given" = some none := of_decide_eq_true (c.fact 298 (f := e298) rfl)
  have a_law_classes : PySem.W.nsIn K mainGlobals "_law_classes" = some (some (.ref (A_f_law_classes K))) := of_decide_eq_true (c.fact 299 (f := e299) rfl)
  obtain ⟨oc_law_classes, od_law_classes, sl_law_classes, kV_law_classes, dc_law_classes, pm_law_classes, an_law_classes, cd_law_classes, ct_law_classes, l_law_classes, c_law_classes⟩ := fnV_ok (f := A_f_law_classes) (n := "_law_classes") (q := "_law_classes") (st := s_law_classes) (c.defn 51 (d := d51) rfl) (c.fact 300 (f := e300) rfl)
  have k_law_classes : PySem.W.keepIn K (.ref (A_f_law_classes K)) = true := (c.fact 301 (f := e301) rfl)
  have a_law_caught : PySem.W.nsIn K mainGlobals "_law_caught" = some (some (.ref (A_f_law_caught K))) := of_decide_eq_true (c.fact 302 (f := e302) rfl)
  obtain ⟨oc_law_caught, od_law_caught, sl_law_caught, kV_law_caught, dc_law_caught, pm_law_caught, an_law_caught, cd_law_caught, ct_law_caught, l_law_caught, c_law_caught⟩ := fnV_ok (f := A_f_law_caught) (n := "_law_caught") (q := "_law_caught") (st := s_law_caught) (c.defn 52 (d := d52) rfl) (c.fact 303 (f := e303) rfl)
  have k_law_caught : PySem.W.keepIn K (.ref (A_f_law_caught K)) = true := (c.fact 304 (f := e304) rfl)
  have kt_CNoneType : PySem.W.kitOne K (.type "NoneType") (.ref (A_C K)) = some false := of_decide_eq_true (c.fact 305 (f := e305) rfl)
  have kt_Cbool : PySem.W.kitOne K (.type "bool") (.ref (A_C K)) = some false := of_decide_eq_true (c.fact 306 (f := e306) rfl)
  have kt_Cint : PySem.W.kitOne K (.type "int") (.ref (A_C K)) = some false := of_decide_eq_true (c.fact 307 (f := e307) rfl)
  have kt_Cstr : PySem.W.kitOne K (.type "str") (.ref (A_C K)) = some false := of_decide_eq_true (c.fact 308 (f := e308) rfl)
  have kt_Clist : PySem.W.kitOne K (.type "list") (.ref (A_C K)) = some false := of_decide_eq_true (c.fact 309 (f := e309) rfl)
  have kt_Cdict : PySem.W.kitOne K (.type "dict") (.ref (A_C K)) = some false := of_decide_eq_true (c.fact 310 (f := e310) rfl)
  have kt_Ctuple : PySem.W.kitOne K (.type "tuple") (.ref (A_C K)) = some false := of_decide_eq_true (c.fact 311 (f := e311) rfl)
  have ns3 : PySem.W.subIn K (.ref (A_X3 K)) (.type "StopIteration") = some false := of_decide_eq_true (c.fact 312 (f := e312) rfl)
  have z_list : PySem.W.nsIn K mainGlobals "list" = some none := of_decide_eq_true (c.fact 313 (f := e313) rfl)
  have pa_Pattern_pieces : PySem.W.findIn K (.ref (A_C K)) "pieces" = some (some (.ref (A_pr_Pattern_pieces K))) := of_decide_eq_true (c.fact 314 (f := e314) rfl)
  have pg_Pattern_pieces : PySem.W.specialIn K (.ref (A_pr_Pattern_pieces K)) "__get__" = some (some (.builtin "property.__get__")) := of_decide_eq_true (c.fact 315 (f := e315) rfl)
  have pt_Pattern_pieces : PySem.W.takesIn K (.ref (A_pr_Pattern_pieces K)) = some true := of_decide_eq_true (c.fact 316 (f := e316) rfl)
  obtain ⟨rest_Pattern_pieces, pc_Pattern_pieces⟩ := recB_ok (a := A_pr_Pattern_pieces) (f := A_f_Pattern_pieces) (s := "property") (c.fact 317 (f := e317) rfl)
  obtain ⟨oc_Pattern_pieces, od_Pattern_pieces, sl_Pattern_pieces, kV_Pattern_pieces, dc_Pattern_pieces, pm_Pattern_pieces, an_Pattern_pieces, cd_Pattern_pieces, ct_Pattern_pieces, l_Pattern_pieces, c_Pattern_pieces⟩ := fnV_ok (f := A_f_Pattern_pieces) (n := "pieces") (q := "Pattern.pieces") (st := s_Pattern_pieces) (c.defn 53 (d := d53) rfl) (c.fact 318 (f := e318) rfl)
  have k_Pattern_pieces : PySem.W.keepIn K (.ref (A_f_Pattern_pieces K)) = true := (c.fact 319 (f := e319) rfl)
  have pa_Ladder_load : PySem.W.findIn K (.ref (A_Cl K)) "load" = some (some (.ref (A_pr_Ladder_load K))) := of_decide_eq_true (c.fact 320 (f := e320) rfl)
  have pg_Ladder_load : PySem.W.specialIn K (.ref (A_pr_Ladder_load K)) "__get__" = some (some (.builtin "property.__get__")) := of_decide_eq_true (c.fact 321 (f := e321) rfl)
  have pt_Ladder_load : PySem.W.takesIn K (.ref (A_pr_Ladder_load K)) = some true := of_decide_eq_true (c.fact 322 (f := e322) rfl)
  obtain ⟨rest_Ladder_load, pc_Ladder_load⟩ := recB_ok (a := A_pr_Ladder_load) (f := A_f_Ladder_load) (s := "property") (c.fact 323 (f := e323) rfl)
  obtain ⟨oc_Ladder_load, od_Ladder_load, sl_Ladder_load, kV_Ladder_load, dc_Ladder_load, pm_Ladder_load, an_Ladder_load, cd_Ladder_load, ct_Ladder_load, l_Ladder_load, c_Ladder_load⟩ := fnV_ok (f := A_f_Ladder_load) (n := "load") (q := "Ladder.load") (st := s_Ladder_load) (c.defn 54 (d := d54) rfl) (c.fact 324 (f := e324) rfl)
  have k_Ladder_load : PySem.W.keepIn K (.ref (A_f_Ladder_load K)) = true := (c.fact 325 (f := e325) rfl)
  have a_Ladder_opening : PySem.W.findIn K (.ref (A_Cl K)) "opening" = some (some (.ref (A_f_Ladder_opening K))) := of_decide_eq_true (c.fact 326 (f := e326) rfl)
  have i_Ladder_opening : PySem.W.isFn K (.ref (A_f_Ladder_opening K)) = true := (c.fact 327 (f := e327) rfl)
  obtain ⟨oc_Ladder_opening, od_Ladder_opening, sl_Ladder_opening, kV_Ladder_opening, dc_Ladder_opening, pm_Ladder_opening, an_Ladder_opening, cd_Ladder_opening, ct_Ladder_opening, l_Ladder_opening, c_Ladder_opening⟩ := fnV_ok (f := A_f_Ladder_opening) (n := "opening") (q := "Ladder.opening") (st := s_Ladder_opening) (c.defn 55 (d := d55) rfl) (c.fact 328 (f := e328) rfl)
  have k_Ladder_opening : PySem.W.keepIn K (.ref (A_f_Ladder_opening K)) = true := (c.fact 329 (f := e329) rfl)
  have a_law_nothing : PySem.W.nsIn K mainGlobals "_law_nothing" = some (some (.ref (A_f_law_nothing K))) := of_decide_eq_true (c.fact 330 (f := e330) rfl)
  obtain ⟨oc_law_nothing, od_law_nothing, sl_law_nothing, kV_law_nothing, dc_law_nothing, pm_law_nothing, an_law_nothing, cd_law_nothing, ct_law_nothing, l_law_nothing, c_law_nothing⟩ := fnV_ok (f := A_f_law_nothing) (n := "_law_nothing") (q := "_law_nothing") (st := s_law_nothing) (c.defn 56 (d := d56) rfl) (c.fact 331 (f := e331) rfl)
  have k_law_nothing : PySem.W.keepIn K (.ref (A_f_law_nothing K)) = true := (c.fact 332 (f := e332) rfl)
  have a_law_right : PySem.W.nsIn K mainGlobals "_law_right" = some (some (.ref (A_f_law_right K))) := of_decide_eq_true (c.fact 333 (f := e333) rfl)
  obtain ⟨oc_law_right, od_law_right, sl_law_right, kV_law_right, dc_law_right, pm_law_right, an_law_right, cd_law_right, ct_law_right, l_law_right, c_law_right⟩ := fnV_ok (f := A_f_law_right) (n := "_law_right") (q := "_law_right") (st := s_law_right) (c.defn 57 (d := d57) rfl) (c.fact 334 (f := e334) rfl)
  have k_law_right : PySem.W.keepIn K (.ref (A_f_law_right K)) = true := (c.fact 335 (f := e335) rfl)
  have e_law_right := cd_ok (f := A_f_law_right) l_law_right c_law_right
  obtain ⟨ch_law_right, kn_law_right, tt_law_right⟩ := c.tab 0 (p := A_f_law_right) rfl
  obtain ⟨dC_law_right, vC_law_right, sC_law_right, lc_law_right, pl_law_right⟩ := hd_ok ch_law_right
  have a_law : PySem.W.nsIn K mainGlobals "law" = some (some (.ref (A_f_law K))) := of_decide_eq_true (c.fact 336 (f := e336) rfl)
  obtain ⟨oc_law, od_law, sl_law, kV_law, dc_law, pm_law, an_law, cd_law, ct_law, l_law, c_law⟩ := fnV_ok (f := A_f_law) (n := "law") (q := "law") (st := s_law) (c.defn 58 (d := d58) rfl) (c.fact 337 (f := e337) rfl)
  have k_law : PySem.W.keepIn K (.ref (A_f_law K)) = true := (c.fact 338 (f := e338) rfl)
  have e_law := cd_ok (f := A_f_law) l_law c_law
  obtain ⟨ch_law, kn_law, tt_law⟩ := c.tab 1 (p := A_f_law) rfl
  obtain ⟨dC_law, vC_law, sC_law, lc_law, pl_law⟩ := hd_ok ch_law
  have ne_law_right_law : (A_PA_law_right K) ≠ (A_PA_law K) := of_decide_eq_true (c.fact 339 (f := e339) rfl)
  have ne_law_law_right : (A_PA_law K) ≠ (A_PA_law_right K) := of_decide_eq_true (c.fact 340 (f := e340) rfl)
  exact all_mk X G hmg aG aOh aPi aJo aOp laOp aWo laWo aJ pgJ hdJ poJ saJ mkJ kcJ nJ_row caJ cmJ cn ct aC pgC hdC poC saC mkC kcC nC_row nC_matrix nC_scale nC_four kt_J sfC rdC gaC a_JoinedRow_init i_JoinedRow_init l_JoinedRow_init c_JoinedRow_init k_JoinedRow_init a_Pattern_init i_Pattern_init l_Pattern_init c_Pattern_init k_Pattern_init a_Pattern_call i_Pattern_call l_Pattern_call c_Pattern_call k_Pattern_call fi_call a_Pattern_add i_Pattern_add l_Pattern_add c_Pattern_add k_Pattern_add pa_Pattern_numbers pg_Pattern_numbers pt_Pattern_numbers pc_Pattern_numbers l_Pattern_numbers c_Pattern_numbers k_Pattern_numbers sa_Pattern_read sc_Pattern_read l_Pattern_read c_Pattern_read k_Pattern_read z_len z_abs z_int z_bool z_tuple z_isinstance z_divmod z_max z_min z_range z_all z_repr z_str z_enumerate a_is_integer l_is_integer c_is_integer k_is_integer a_is_integer_within l_is_integer_within c_is_integer_within k_is_integer_within a_is_pair_of_integers l_is_pair_of_integers c_is_pair_of_integers k_is_pair_of_integers a_is_resistance l_is_resistance c_is_resistance k_is_resistance a_pair_of l_pair_of c_pair_of k_pair_of a_common_divisor l_common_divisor c_common_divisor k_common_divisor a_lowest_terms l_lowest_terms c_lowest_terms k_lowest_terms a_lowest_pair l_lowest_pair c_lowest_pair k_lowest_pair a_is_piece l_is_piece c_is_piece k_is_piece a_checked_row l_checked_row c_checked_row k_checked_row a_matrix_and_scale l_matrix_and_scale c_matrix_and_scale k_matrix_and_scale a_shown_before l_shown_before c_shown_before k_shown_before a_piece_text l_piece_text c_piece_text k_piece_text a_piece_with_text l_piece_with_text c_piece_with_text k_piece_with_text a_law_cup l_law_cup c_law_cup k_law_cup a_law_sip l_law_sip c_law_sip k_law_sip a_law_pick l_law_pick c_law_pick k_law_pick caC cmC aGP aMS aCe pgCe hdCe poCe saCe mkCe kcCe nCe_parts caCe cmCe aCl pgCl hdCl poCl saCl mkCl kcCl nCl_section nCl_behind nCl_far a_is_count l_is_count c_is_count k_is_count a_fraction_text l_fraction_text c_fraction_text k_fraction_text a_sign l_sign c_sign k_sign a_square_root l_square_root c_square_root k_square_root a_under_root l_under_root c_under_root k_under_root a_equation_of_fraction l_equation_of_fraction c_equation_of_fraction k_equation_of_fraction a_simplest_equation l_simplest_equation c_simplest_equation k_simplest_equation a_with_commas l_with_commas c_with_commas k_with_commas a_pair_order l_pair_order c_pair_order k_pair_order a_check_resistance l_check_resistance c_check_resistance k_check_resistance a_check_count l_check_count c_check_count k_check_count a_Exact_init i_Exact_init l_Exact_init c_Exact_init k_Exact_init a_check_pattern l_check_pattern c_check_pattern k_check_pattern a_ladder_limit l_ladder_limit c_ladder_limit k_ladder_limit a_Ladder_init i_Ladder_init l_Ladder_init c_Ladder_init k_Ladder_init a_Ladder_after i_Ladder_after l_Ladder_after c_Ladder_after k_Ladder_after a_Ladder_call i_Ladder_call l_Ladder_call c_Ladder_call k_Ladder_call fi_lcall pa_Ladder_goes pg_Ladder_goes pt_Ladder_goes pc_Ladder_goes l_Ladder_goes c_Ladder_goes k_Ladder_goes pa_Ladder_limit pg_Ladder_limit pt_Ladder_limit pc_Ladder_limit l_Ladder_limit c_Ladder_limit k_Ladder_limit pa_Exact_equation pg_Exact_equation pt_Exact_equation pc_Exact_equation l_Exact_equation c_Exact_equation k_Exact_equation pa_Exact_fraction pg_Exact_fraction pt_Exact_fraction pc_Exact_fraction l_Exact_fraction c_Exact_fraction k_Exact_fraction a_law_row l_law_row c_law_row k_law_row a_law_words l_law_words c_law_words k_law_words a_law_read l_law_read c_law_read k_law_read aX0 aX1 aX2 aX3 aX4 aX5 aX6 aX7 aX8 aX9 aX10 aX11 aX12 aX13 aX14 aX15 aX16 aX17 aX18 aX19 aX20 aX21 z_ValueError z_LookupError z_ArithmeticError a_WrongValue_init i_WrongValue_init l_WrongValue_init c_WrongValue_init k_WrongValue_init rd_19 ga_19 fc_19 a_NotAPattern_init i_NotAPattern_init l_NotAPattern_init c_NotAPattern_init k_NotAPattern_init xb_0 ro_0 any_0 ty_0 no_0 a_InvalidResistance_init i_InvalidResistance_init l_InvalidResistance_init c_InvalidResistance_init k_InvalidResistance_init xb_2 ro_2 any_2 ty_2 no_2 a_InvalidCount_init i_InvalidCount_init l_InvalidCount_init c_InvalidCount_init k_InvalidCount_init xb_3 ro_3 any_3 ty_3 no_3 a_law_classes l_law_classes c_law_classes k_law_classes a_law_caught l_law_caught c_law_caught k_law_caught kt_CNoneType kt_Cbool kt_Cint kt_Cstr kt_Clist kt_Cdict kt_Ctuple ns3 z_list pa_Pattern_pieces pg_Pattern_pieces pt_Pattern_pieces pc_Pattern_pieces l_Pattern_pieces c_Pattern_pieces k_Pattern_pieces pa_Ladder_load pg_Ladder_load pt_Ladder_load pc_Ladder_load l_Ladder_load c_Ladder_load k_Ladder_load a_Ladder_opening i_Ladder_opening l_Ladder_opening c_Ladder_opening k_Ladder_opening a_law_nothing l_law_nothing c_law_nothing k_law_nothing a_law_right l_law_right c_law_right k_law_right e_law_right lc_law_right pl_law_right ch_law_right tt_law_right kn_law_right a_law l_law c_law k_law e_law lc_law pl_law ch_law tt_law kn_law ne_law_right_law ne_law_law_right
end RL
open PySem PySem.W PySem.Calls PyProof.Rows
set_option maxHeartbeats 0 in
theorem PySem.Challenge.cw_rungladders_k14_ladders_refused_holds : PySem.Challenge.rw_rungladders_k14_ladders_refused.Holds := by
  w_on; o_law
  refine HandSHeadRun.head_any (r := OpenLaw.row PySem.Challenge.rw_rungladders_k14_ladders_refused) (q := view (OpenLaw.row PySem.Challenge.rw_rungladders_k14_ladders_refused).prog [80]) (H := RL.hkH) (ob := RL.obH) (M := 30000) (loose := RL.loL) (d := HandSHeadRun.topDef (OpenLaw.row PySem.Challenge.rw_rungladders_k14_ladders_refused).prog 80) (kwd := []) RL.obH_eq
    (by kernel_rfl) (fun s => by kernel_rfl) RL.runH (by kernel_rfl) (by kernel_rfl) (by kernel_rfl) (by rfl) (by first | assumption | decide +kernel) (by decide +kernel) ⟨rfl, rfl, rfl, rfl, rfl, by decide +kernel⟩ ?hw ?hc
  case hw => w_witness2
  case hc =>
    refine RL.walk_ofZ (l := PySem.Challenge.rw_rungladders_k14_ladders_refused) (n := 63) (k := 14) (x := "_law_script") rfl (by decide) (by kernel_rfl) ⟨rfl, by decide, by decide⟩ ?F
    intro w mg fa h Y G hmg0
    obtain ⟨K, KX, c⟩ := Y
    have hmg : mg ("law" : PySem.Str) = some (.ref fa) := by
      have e : (HandSHeadRun.topDef (OpenLaw.row PySem.Challenge.rw_rungladders_k14_ladders_refused).prog 80).name = ("law" : PySem.Str) := by kernel_rfl
      rw [← e]
      exact hmg0
    exact ⟨K, KX, RL.factsH KX G hmg c⟩

