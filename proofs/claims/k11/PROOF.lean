import PyProof.Rows.All
import Wide.All
import OpenK.AllK
import Wide.FinOn
import HandS.ForMost
import HandS.IsInst
import HandS.Wide
import HandS.WideBits
import HandS.MakeKwOnly
import HandS.SlotsOwn
import PyProof.ReprRoads
import HandS.Property
import HandS.FStr
import HandS.RaiseMore
import KE.KCallOwn
import PyProof.InstNe
import PyProof.ReprLen
import PyProof.Rows.ReprOcc
import HandS.Star
import HandS.ClsMeth
import HandS.Style
import HandS.TupAny
import HandS.Deep
import KE.KRevSl
import KE.GoesMore
import HandS.Iter
import HandS.Codes
import HandS.Exc
import KE.KExcInit
import HandS.ExcInit
import KE.KExcIs
import PyProof.CallFns
import HandS.Dict
import HandS.HotCalls
import HandS.ExcInitHot
import HandS.Lambda
import HandS.Comp
import KE.KLam
import OpenK.KOps
import HandS.EndTab
import KE.KNestM
import PyProof.ExcBaseAll.LookupError
import PyProof.ExcBaseAll.ArithmeticError
import PyProof.ExcBaseAll.ValueError
import PyProof.InstStoreFacts
import PyProof.StrLawsRepr
import PyProof.EqLayable
import HandS.ReplaceLit
import KE.KOpsOwn
import KE.RegKIsAll
import PySem.Challenge.RW_rungladders_k11_whole_texts_of_patterns
set_option Elab.async false
set_option linter.all false
set_option maxRecDepth 100000
/-! Defs that are called where no repr is under way: repr of lists and tuples within them; == by an own __eq__. -/
namespace RL
open PySem L2 PySem.Spec PyProof.Rows
structure FnG (P : Program) (w : World) (K : PySem.W.Frag) (mg : Str → Option Value) (base : Heap) (k : Nat) (f : Addr) (fd : FuncData) (ps : List Str) (sp : Sp) : Prop where
  len : ∀ vs H Q E, sp vs H Q E → vs.length = ps.length
  run : ∀ (A : Around) (outer : List Env) (s : Shared) (H : Hp) (args : Args) (us : List Value) (vs : List V) (Q : VK) (E : XK), A.guards = some [] → Room k A → Env0 P w K mg base A outer s H → BindsTo s fd args (ps.zip us) → Vals vs us → sp vs H Q E →
    codeAny (model P w) A (.call (.ref f) args) (CR CX0 outer P w H s Q E) s
section
variable {P : Program} {w : World} {K : PySem.W.Frag} {mg : Str → Option Value} {base : Heap}
theorem okG {x qual : Str} {st : Stmt} {f : Addr} {fd : FuncData} {N ps : List Str} {k : Nat} {sp : Sp} (F : Fun K x qual st f fd) (S : FnScope N ps (defScope st)) (len : ∀ vs H Q E, sp vs H Q E → vs.length = ps.length)
    (bd : ∀ (cdv : Value) (A : Around) (outer : List Env) (s : Shared) (H : Hp) (vs : List V) (Q : VK) (E : XK), A.guards = some [] → Room k (A.deeper (envOfC qual (defScope st) s.heap.objs.size f cdv)) → sp vs H Q E →
      ∃ t, PSs (cxOf CX0 P w K mg base N qual (defScope st) f cdv A outer s H E).nox (defBody st) t ∧ t { nx := fun _ H' => Q .non H', rt := Q } (start N vs) H) : FnG P w K mg base (k + 1) f fd ps sp := by
  obtain ⟨oc, od, kV, doc, pm, an, cdv, ct, osl, rfl, lk, hcd⟩ := F.ex
  refine ⟨len, fun A outer s H args us vs Q E hg hr e0 hb r hsp => ?_⟩
  have KX : K.In s.heap := e0.mod.kin.keeps fun b o e => (e0.bs b o e).1
  have lim := e0.mod.nolimit.keeps fun b o e => (e0.bs b o e).1
  refine codeAny_call_function hr.depth (KX _ _ lk) rfl S.co S.gen rfl (PySem.W.codeRec_of KX hcd) (hb _ _ _ _ (wpAny_newFunctionEnv_cells S.kind (fun ⟨n, v⟩ hy => ?_) fun env he s1 x => ?_))
  · exact (S.par n (List.of_mem_zip hy).1).imp id fun q => ⟨q, PySem.W.cellsFrom_some _ _ _ (.inl q)⟩
  · subst he
    obtain ⟨t, ht, hq⟩ := bd cdv A outer s H vs Q E hg (hr.deeper _) hsp
    have I : Inv (cxOf CX0 P w K mg base N qual (defScope st) f cdv A outer s H E) [] (start N vs) H s1 := inv_start S hr.hd e0 (len _ _ _ _ hsp) r x
    refine ⟨lim.keeps x.toInCall.keep, codeAny_func (wpAny_mono (ht.nox.run [] s1 _ H _ I hq) (fun fl s' hs => ?_) fun _ _ z => z)⟩
    cases fl with
    | ret u =>
      obtain ⟨v, σ', H', J, rv, q⟩ := hs
      exact ⟨v, H', J.os, J.bare, J.base, J.hok, rv, q⟩
    | next =>
      obtain ⟨σ', H', J, q⟩ := hs
      exact ⟨V.non, H', J.os, J.bare, J.base, J.hok, rfl, q⟩
    | brk => exact hs.elim fun _ z => z.elim fun _ y => False.elim y.2
    | cont => exact hs.elim fun _ z => z.elim fun _ y => False.elim y.2
end
structure DfG (P : Program) (w : World) (K : PySem.W.Frag) (mg : Str → Option Value) (base : Heap) (k : Nat) (x : Str) (ps : List Str) (sp : Sp) : Prop where
  ex : ∃ (f : Addr) (fd : FuncData), FnG P w K mg base k f fd ps sp ∧ mg x = some (.ref f) ∧ PySem.W.keepIn K (.ref f) = true ∧ Binds K fd ps []
section
variable {X : Cx} {k : Nat} {ps : List Str} {sp : Sp} {x : Str} {p pos : Pos} {e : Expr} {es : List Expr} {t : TA}
theorem pe_dfG (D : DfG X.prog X.w X.K X.mg X.base k x ps sp) (hG : X.A.guards = some []) (hr : Room k X.A) (hg : Gl X x)
    (ha : PA X (e :: es) t) (hdb : (x == ("__debug__" : Str)) = false := by decide) (he : starEach (e :: es) X.env = (false, eval e X.env) :: starEach es X.env := by rfl) (hpl : (backTo pos (starEach es X.env)).any (·.1) = false := by rfl) :
    PE X (.Call (.Name x p) (e :: es) [] pos) (tCall sp [] E0 t) := by
  obtain ⟨f, fd, F, hm, hk, hb⟩ := D.ex
  refine ⟨fun pins s σ H Q I h => wpAny_Call_Name_kw (ld_glob I hg hm (PySem.W.callWith_K (h₀ := X.base) I.ok.mod.kin hk (thn (ha.run pos pins s σ H _ I h) fun us s1 ⟨vs, H1, I1, r, q⟩ => ⟨I1.kIn, ?_⟩) he hpl) hdb)⟩
  have q0 : sp vs H1 Q E0 := by
    have q1 : sp (vs ++ []) H1 Q E0 := q
    rw [List.append_nil] at q1
    exact q1
  have hl : (us ++ []).length = ps.length := by
    rw [List.append_nil, ← r.length]
    exact F.len _ _ _ _ q0
  have hbb := hb s1 us I1.kIn hl
  rw [List.append_nil] at hbb
  refine wpAny_call (codeAny_mono (F.run X.A X.stack s1 H1 ⟨us, []⟩ us vs Q E0 hG hr I1.env0 hbb r q0) fun z s' hq => ?_)
  cases z with
  | error e => exact hq.elim
  | ok fl =>
    cases fl with
    | ret u => exact I1.after hq
    | next => exact hq.elim
    | brk => exact hq.elim
    | cont => exact hq.elim
/-! ### repr of a list or tuple of plain things -/
def rRepr (K : PySem.W.Frag) : List V → Hp → VK → Prop := fun vs H Q => ∃ (a : Addr) (d : PyData), vs = [.ref a] ∧ Dp K H (.ref a) d ∧ d.showable = true ∧ d.hasDict = false ∧ d.depth ≤ 40 ∧ d.shown.length ≤ sizeLine ∧ Q (.str d.shown) H
theorem cr_repr (hG : X.A.guards = some []) (hu : X.A.units + 64 < cLine) : CallR X (.builtin "repr") (rRepr X.K) := by
  intro pins s σ H vs us Q I r h
  obtain ⟨a, d, rfl, hd, h1, h2, h3, h4, q⟩ := h
  obtain ⟨as, rd⟩ := Dp.reads I d _ (.ref a) hd rfl
  rw [Vals.ref1 r]
  refine repr_of_reads' (h₀ := s.heap) rd h1 (fun z => by rw [h2] at z; cases z) hG (by omega) (fun _ _ z => z) (fun h' u tk hk => ?_) h4
  exact ⟨.str d.shown, H, I.kept hk, ⟨_, rfl⟩, q⟩
/-! ### == by an own __eq__ -/
def rEqOwn (K : PySem.W.Frag) (C : Addr) (sp : Sp) : R2 := fun x y H Q => ∃ a dx fs ty, x = .ref a ∧ H a = some (.ins C dx fs) ∧ TyX K H y ty ∧ PySem.W.notFirst K C ty = true ∧ sp [x, y] H Q E0
theorem op_eqOwn {C g : Addr} {fd : FuncData} (hs : PySem.W.findIn X.K (.ref C) "__eq__" = some (some (.ref g))) (hf : PySem.W.isFn X.K (.ref g) = true) (F : FnOk X.prog X.w X.K X.mg X.base CX0 k g fd ps sp) (hb : Binds X.K fd ps []) (hr : Room k X.A) :
    OpR X (compareOp .Eq) (rEqOwn X.K C sp) := by
  intro pins s σ H x y v u Q I rx ry h
  obtain ⟨a, dx, fs, ty, rfl, ha, hy, hn, q⟩ := h
  cases (show v = Value.ref a from rx)
  obtain ⟨mA, O, _⟩ := ins_get I.hok ha
  obtain ⟨od, J, _⟩ := O.look
  obtain ⟨PH, Z, ph, _⟩ := kit_of I ry hy
  obtain ⟨m, hF⟩ := I.fr
  show wpAny _ _ (richCompare .Eq (.ref a) u) _ _ _
  refine PySem.W.cmp_K (op := .Eq) hr.units0 hF I.ok.mod.kin J (Z.ty _ _ I.kIn ph) hn hs hf ?_
  have q0 : sp ([.ref a, y] ++ []) H Q E0 := q
  refine wpAny_mono (run_fn (us := [.ref a, u]) (vs := [.ref a, y]) F hr hb .nil pass0 I (.cons rfl (.cons ry .nil)) q0) (fun w s' z => ?_) fun _ _ z => z
  obtain ⟨z', H', I', rz, qz⟩ := z
  exact SlX.cmpback rz ⟨z', H', I', rz, qz⟩
end
end RL

/-! The end of a law whose own def is promised where no repr is under way. -/
namespace RL
open PySem L2 PySem.Spec PyProof.Rows
/-- the call, once the abstract heap is chosen -/
theorem law_runG {P : Program} {w : World} {K : PySem.W.Frag} {mg mb : Str → Option Value} {k : Nat} {fa a : Addr} {fd : FuncData} {x : Str} {sp : Sp} {s1 : Shared} {vs : List Value} {H : Hp}
    (KX : K.In s1.heap) (hns : s1.heap.Ns mainGlobals mg) (hb : s1.heap.Ns builtinsNs mb) (hbb : ∀ x : Str, x ≠ "__name__" → mb x = bootBuiltins x) (hlim : s1.heap.NoLimit) (hgen : s1.gens = #[])
    (ha : s1.heap.get? a = some { cls := .type "list", data := .seq vs.toArray }) (hr : Room k callerA)
    (F : ∀ base : Heap, K.In base → base.Ns mainGlobals mg → FnG P w K mg base k fa fd [x] sp) (hbind : ∀ (s : Shared) (u : Value), BindsTo s fd ⟨[u], []⟩ [(x, u)])
    (hO : Only H) (hsp : sp [.ref a] H (fun v _ => v = .bl true) fun _ _ _ => False) (hok : HOk P w H s1.heap) (hA : ∀ b u, H b = some u → b = a ∧ K.lookup a = none) :
    codeAny (model P w) callerA (.call (.ref fa) ⟨[.ref a], []⟩) (fun r s' => r = .ok (.ret (.bool true)) ∧ OldK s1.heap s'.heap ∧ s'.os = s1.os ∧ AllBare s'.gens) s1 := by
  have free : ∀ {b : Addr} {o : Obj}, s1.heap.get? b = some o → (b = a → o.data ≠ .seq vs.toArray) → H b = none := fun {b o} e n => by
    cases q : H b with
    | none => rfl
    | some u =>
      obtain ⟨rfl, _⟩ := hA b u q
      rw [ha] at e
      cases e
      exact absurd rfl (n rfl)
  have ns1 : ∀ {b : Addr} {m : Str → Option Value}, s1.heap.Ns b m → (hidT s1.heap H).Ns b m := fun {b m} ⟨o, es, ep, e, d, r⟩ => ⟨o, es, ep, hidT_get e (free e fun _ z => by rw [d] at z; cases z), d, r⟩
  have kin : K.In (hidT s1.heap H) := fun b o e => hidT_get (KX b o e) (by
    cases q : H b with
    | none => rfl
    | some u =>
      obtain ⟨rfl, z⟩ := hA b u q
      rw [z] at e
      cases e)
  obtain ⟨mc, c1, c2⟩ := hlim
  have e0 : Env0 P w K mg (hidT s1.heap H) callerA [] s1 H :=
    { frames := rfl, mod := ⟨kin, ns1 hns, ⟨mb, ns1 hb, hbb⟩, ⟨mc, ns1 c1, c2⟩⟩, bs := fun b o e => of_hidT e, bsz := Nat.le_of_eq (hidT_size _ _), funs := trivial, frf := fun b z => absurd (show b ∈ ([] : List Addr) from z) (by simp), hok := hok, bare := .of_eq hgen }
  refine codeAny_mono ((F _ kin (ns1 hns)).run callerA [] s1 H ⟨[.ref a], []⟩ [.ref a] [.ref a] _ _ rfl hr e0 (hbind s1 (.ref a)) (.cons rfl .nil) hsp) fun r s' h => ?_
  match r, h with
  | .ok (.ret u), ⟨v, H', os, bare, un, hok', r', q⟩ =>
    cases (show v = V.bl true from q)
    cases (show u = Value.bool true from r')
    refine ⟨rfl, OldK.of_keep fun b o e => ?_, os, bare⟩
    cases q2 : H b with
    | none => exact un.keep b o e q2 (fun z => absurd (show b ∈ ([] : List Addr) from z) (by simp)) (by simp)
    | some u =>
      rcases hO b with z | ⟨ob, xs, z⟩
      · rw [q2] at z
        cases z
      · obtain ⟨e1, _⟩ := hok b _ z
        obtain ⟨e2, _⟩ := hok' b _ (un.frzs b ob _ z)
        rw [e] at e1
        cases e1
        exact e2
theorem walk_ofG {l : PySem.W.OpenLaw} {n k : Nat} {q : Program} {loose : List Str} {XP : (Str → Option Value) → Heap → Prop} {YP : World → Heap → Prop} {d : DefRec} {K : Params → PySem.W.Frag} {sp : World → Sp} {x : Str}
    (hn : l.most = some n) (hn2 : n ≤ sizeLine) (hdf : d.params.defaults = []) (hr : Room k callerA) (hY : ∀ (w : World) (h : Heap), YP w h → (K w.params).In h)
    (F : ∀ (w : World) (mg : Str → Option Value) (fa : Addr) (h : Heap), (K w.params).In h → h.Ns mainGlobals mg → mg d.name = some (.ref fa) →
      ∃ fd : FuncData, (∀ (s : Shared) (u : Value), BindsTo s fd ⟨[u], []⟩ [(x, u)]) ∧ ∀ base : Heap, (K w.params).In base → base.Ns mainGlobals mg → FnG l.prog w (K w.params) mg base k fa fd [x] (sp w))
    (hsp : ∀ (w : World) (H : Hp) (a : Addr) (ns : List Int), ns.length ≤ n → Only H → SqL (K w.params) H a (ns.map V.int) → sp w [.ref a] H (fun v _ => v = .bl true) fun _ _ _ => False) :
    PySem.W.WalkO q loose XP YP l.row.toRowW d [] (fun f vs => PySem.call f vs) := by
  refine Att.attach_call hn hdf fun w s0 s1 mg mb fa o pm cd doc a vs ns G Y ho hd hcd hmg hobj hints hlen hgen => ?_
  have KX := hY w _ Y
  obtain ⟨fd, hb, hF⟩ := F w mg fa _ KX G.T.g hmg
  have rv := vals_ints hints
  have hl : ns.length ≤ sizeLine := Nat.le_trans hlen hn2
  have lenV := hints.length
  cases hk : (K w.params).lookup a with
  | some ob =>
    have e := KX a ob hk
    rw [hobj] at e
    cases e
    refine law_runG (H := fun _ => none) KX G.T.g G.T.b G.T.builtins G.T.nolimit hgen hobj hr hF hb (fun _ => .inl rfl) (hsp w _ a ns hlen (fun _ => .inl rfl) (.inr ⟨_, vs.toArray, _, hk, rfl, rfl, rfl, by rw [List.size_toArray, lenV]; exact hl, by simpa using rv⟩)) (fun b u z => ?_) fun b u z => ?_
    · cases (show (none : Option HO) = some u from z)
    · cases (show (none : Option HO) = some u from z)
  | none =>
    have only : Only (fun b => if b = a then some (HO.frz { cls := .type "list", data := .seq vs.toArray } (.lst (ns.map V.int))) else none) := fun b => by
      by_cases z : b = a
      · exact .inr ⟨_, _, if_pos z⟩
      · exact .inl (if_neg z)
    have at_ : ∀ {b : Addr} {u : HO}, (if b = a then some (HO.frz { cls := .type "list", data := .seq vs.toArray } (.lst (ns.map V.int))) else none) = some u → b = a ∧ u = HO.frz { cls := .type "list", data := .seq vs.toArray } (.lst (ns.map V.int)) := fun {b u} z => by
      by_cases y : b = a
      · rw [if_pos y] at z
        exact ⟨y, (Option.some.inj z).symm⟩
      · rw [if_neg y] at z
        cases z
    refine law_runG (H := fun b => if b = a then some (HO.frz { cls := .type "list", data := .seq vs.toArray } (.lst (ns.map V.int))) else none) KX G.T.g G.T.b G.T.builtins G.T.nolimit hgen hobj hr hF hb only (hsp w _ a ns hlen only (.inl (.inr ⟨_, if_pos rfl⟩))) (fun b u z => ?_) fun b u z => ⟨(at_ z).1, hk⟩
    obtain ⟨rfl, rfl⟩ := at_ z
    exact ⟨hobj, by rw [List.length_map]; exact hl, vs, _, rv, hobj⟩
end RL

/-! != of an own class with __eq__ alone; str and repr of its instances; a new one by keywords. -/
namespace RL
open PySem L2 PySem.Spec PyProof.Rows PySem.W Builtin
section
variable {prog : Program} {w : World} {A : Around} {E : Value → Shared → Prop} {s : Shared} {K : Frag} {x C L f : Addr} {h₀ : Heap} {m : Str → Option Value} {ox : Obj} {od : Option Obj} {b tb : Value}
/-- object.__ne__ asks the own __eq__ -/
theorem ne_entry {Q : Fin → Shared → Prop} (X : K.In s.heap) (I : InstAt s.heap x ox C od) (hs : findIn K (.ref C) "__eq__" = some (some (.ref f))) (hf : isFn K (.ref f) = true) (hu : A.units < cLine)
    (hc : wpAny (model prog w) A (call (.ref f) [.ref x, b]) (fun v s' => ∃ t, v = .bool t ∧ Q (.done (.ret (.bool (!t)))) s') E s) : wpAny (model prog w) A (Builtin.«object.__ne__» ⟨[.ref x, b], []⟩) Q E s := by
  unfold Builtin.«object.__ne__»
  repeat (first
    | with_reducible refine wpAny_cRoomFor hu ?_
    | (refine wpAny_bind (m := callSpecialIfBound? (.ref x) (Str.ofString "__eq__") [b])
        (ifBound_K X I hs hf (wpAny_mono hc (fun r s' hr => by
          obtain ⟨t, rfl, hq⟩ := hr
          repeat (first | exact hq | exact wpAny_pure hq | exact wpAny_truthy_bool hq | (refine wpAny_bind (m := truthy (.bool _)) (wpAny_truthy_bool ?_)) | wp_step)) fun _ _ z => z)))
    | wp_step)
theorem ne_try {Q : Value → Shared → Prop} (X : K.In s.heap) (I : InstAt s.heap x ox C od) (hne : findIn K (.ref C) "__ne__" = some (some (.builtin "object.__ne__"))) (hsub : subIn K (.ref C) (.type "object") = some true) (hs : findIn K (.ref C) "__eq__" = some (some (.ref f))) (hf : isFn K (.ref f) = true) (hu : A.units + 1 < cLine)
    (hc : wpAny (model prog w) A.in1 (call (.ref f) [.ref x, b]) (fun v s' => ∃ t, v = .bool t ∧ Q (.bool (!t)) s') E s) : wpAny (model prog w) A (tryCompare (.ref x) "__ne__" b) (fun r s' => ∃ v, r = some v ∧ Q v s') E s := by
  unfold tryCompare
  have go : wpAny (model prog w) A (call (.builtin "object.__ne__") [.ref x, b]) (fun v s' => ∃ t, v = .bool t ∧ Q v s') E s := by
    refine wpAny_call (codeAny_call_builtin PySem.F.cmp_object.ne.plain PySem.F.cmpEntry_ne (@check_slot (model prog w) _ _ s "object.__ne__" "object" "__ne__" (.ref x) [b] [] _ PySem.F.cmpKind_ne PySem.F.cmpSplit_ne (I.type.andThen (looks_subIn X hsub)) (PySem.F.cmpArgs_ne _ _) ?_))
    exact ne_entry (A := A.in1) X I hs hf hu (wpAny_mono hc (fun v s' hv => by obtain ⟨t, rfl, q⟩ := hv; exact ⟨t, rfl, ⟨_, rfl, q⟩⟩) fun _ _ z => z)
  have bd : wpAny (model prog w) A (callSpecialIfBound? (.ref x) "__ne__" [b]) (fun r s' => ∃ t, r = some (.bool t) ∧ Q (.bool t) s') E s := by
    simp only [callSpecialIfBound?, bindSpecialIfBound?]
    refine wpAny_holding (wpAny_bind (wpAny_bind (wpAny_bind (I.type.here ((looks_findIn X hne).here ?_)))))
    refine wpAny_bind (wpAny_askSetting (wpAny_ite ?_))
    have fin : wpAny (model prog w) A (call (.builtin "object.__ne__") ([.ref x] ++ [b]) >>= fun v => pure (some v)) (fun r s' => ∃ t, r = some (.bool t) ∧ Q (.bool t) s') E s := wpAny_bind (wpAny_mono go (fun v s' ⟨t, e, q⟩ => wpAny_pure ⟨t, by rw [e], e ▸ q⟩) fun _ _ z => z)
    have e := PySem.F.cmp_object.ne.bind (.ref x)
    split
    · exact wpAny_bind (wpAny_of_eq e (wpAny_pure (by exact fin)))
    · exact wpAny_tryCatch (wpAny_bind (wpAny_of_eq e (wpAny_pure (by exact fin))))
  refine wpAny_bind (wpAny_mono bd (fun r s' hr => ?_) fun _ _ z => z)
  obtain ⟨t, rfl, q⟩ := hr
  exact wpAny_pure ⟨_, rfl, q⟩
theorem ne_K {Q : Value → Shared → Prop} (hu : A.units + 1 < cLine) (F : Fr h₀ L s.heap m) (X₀ : K.In h₀) (I : InstAt s.heap x ox C od) (hb : Looks (model prog w) s.heap (typeOf b) tb) (hn : notFirst K C tb = true)
    (hne : findIn K (.ref C) "__ne__" = some (some (.builtin "object.__ne__"))) (hsub : subIn K (.ref C) (.type "object") = some true) (hs : findIn K (.ref C) "__eq__" = some (some (.ref f))) (hf : isFn K (.ref f) = true)
    (h : wpAny (model prog w) A.in1 (call (.ref f) [.ref x, b]) (fun v s' => ∃ t, v = .bool t ∧ Q (.bool (!t)) s') E s) : wpAny (model prog w) A (richCompare .NotEq (.ref x) b) Q E s := by
  have X := X₀.keeps F.keep
  have one := ne_try (A := A) (b := b) (Q := Q) X I hne hsub hs hf hu h
  have last : ∀ (r : Option Value) (s' : Shared), (∃ v, r = some v ∧ Q v s') → ∃ v, r = some v ∧ Q v s' := fun _ _ z => z
  unfold richCompare
  simp only [oneThing_ref]
  refine wpAny_holding (wpAny_bind (wpAny_cRoomFor (Nat.lt_of_succ_lt hu) (wpAny_bind (I.type.here (wpAny_bind (hb.here ?_))))))
  split
  · rename_i q
    have e : subIn K tb (.ref C) = some false := (Bool.or_eq_true_iff.mp hn).elim (fun z => by rw [beq_iff_eq.mp z] at q; simp at q) beq_iff_eq.mp
    refine wpAny_bind ((looks_subIn X e).here ?_)
    simp only [Bool.false_eq_true, if_false]
    exact wpAny_bind (wpAny_mono one (fun r s' ⟨v, e, hq⟩ => by subst e; exact wpAny_pure hq) fun _ _ z => z)
  · refine wpAny_bind (wpAny_pure ?_)
    simp only [Bool.false_eq_true, if_false]
    exact wpAny_bind (wpAny_mono one (fun r s' ⟨v, e, hq⟩ => by subst e; exact wpAny_pure hq) fun _ _ z => z)
end
section
variable {X : Cx} {k : Nat} {ps : List Str} {sp : Sp} {C g : Addr} {fd : FuncData}
def rNeOwn (K : PySem.W.Frag) (C : Addr) (sp : Sp) : R2 := fun x y H Q => ∃ a dx fs ty, x = .ref a ∧ H a = some (.ins C dx fs) ∧ TyX K H y ty ∧ PySem.W.notFirst K C ty = true ∧ sp [x, y] H (fun v H' => ∃ t, v = .bl t ∧ Q (.bl (!t)) H') E0
theorem op_neOwn (hne : PySem.W.findIn X.K (.ref C) "__ne__" = some (some (.builtin "object.__ne__"))) (hsub : PySem.W.subIn X.K (.ref C) (.type "object") = some true) (hs : PySem.W.findIn X.K (.ref C) "__eq__" = some (some (.ref g))) (hf : PySem.W.isFn X.K (.ref g) = true)
    (F : FnOk X.prog X.w X.K X.mg X.base CX0 k g fd ps sp) (hb : Binds X.K fd ps []) (hr : Room (k + 1) X.A) : OpR X (compareOp .NotEq) (rNeOwn X.K C sp) := by
  intro pins s σ H x y v u Q I rx ry h
  obtain ⟨a, dx, fs, ty, rfl, ha, hy, hn, q⟩ := h
  cases (show v = Value.ref a from rx)
  obtain ⟨mA, O, _⟩ := ins_get I.hok ha
  obtain ⟨od, J, _⟩ := O.look
  obtain ⟨PH, Z, ph, _⟩ := kit_of I ry hy
  obtain ⟨m, hF⟩ := I.fr
  show wpAny _ _ (richCompare .NotEq (.ref a) u) _ _ _
  refine ne_K (hu_of hr) hF I.ok.mod.kin J (Z.ty _ _ I.kIn ph) hn hne hsub hs hf ?_
  have hl : ([Value.ref a, u] ++ []).length = ps.length := F.len _ _ _ _ q
  have hbb := hb s [.ref a, u] I.kIn hl
  refine wpAny_call (codeAny_mono (F.run X.A.in1 X.stack s H ⟨[.ref a, u], []⟩ [.ref a, u] [.ref a, y] _ E0 hr.in1 I.env0.in1 hbb (.cons rfl (.cons ry .nil)) q) fun z s' hq => ?_)
  match z, hq with
  | .ok (.ret w'), hq =>
    obtain ⟨v', H', I', rv, t, e, qz⟩ := I.after hq
    subst e
    cases (show w' = Value.bool t from rv)
    exact ⟨t, rfl, .bl (!t), H', I', rfl, qz⟩
/-! ### str and repr of an instance -/
def rTextOwn (C : Addr) (sp : Sp) : List V → Hp → VK → Prop := fun vs H Q => ∃ a dx fs, vs = [.ref a] ∧ H a = some (.ins C dx fs) ∧ sp [.ref a] H (fun z H' => ∃ y : Str, z = .str y ∧ Q z H') E0
theorem cr_reprOwn (hs : PySem.W.findIn X.K (.ref C) "__repr__" = some (some (.ref g))) (hf : PySem.W.isFn X.K (.ref g) = true) (F : FnOk X.prog X.w X.K X.mg X.base CX0 k g fd ps sp) (hb : Binds X.K fd ps []) (hr : Room (k + 1) X.A) : CallR X (.builtin "repr") (rTextOwn C sp) := by
  intro pins s σ H vs us Q I r h
  obtain ⟨a, dx, fs, rfl, ha, q⟩ := h
  rw [Vals.ref1 r]
  obtain ⟨mA, O, _⟩ := ins_get I.hok ha
  obtain ⟨od, J, _⟩ := O.look
  obtain ⟨m, hF⟩ := I.fr
  refine PySem.W.repr_K (hu_of hr) hF I.ok.mod.kin J hs hf ?_
  have hl : ([Value.ref a] ++ []).length = ps.length := F.len _ _ _ _ q
  refine wpAny_call (codeAny_mono (F.run X.A.in1 X.stack s H ⟨[.ref a], []⟩ [.ref a] [.ref a] _ E0 hr.in1 I.env0.in1 (hb s [.ref a] I.kIn hl) (.cons rfl .nil) q) fun z s' hq => ?_)
  match z, hq with
  | .ok (.ret w'), hq =>
    obtain ⟨v', H', I', rv, y, e, qz⟩ := I.after hq
    subst e
    obtain ⟨t, e2⟩ := (show ∃ t, w' = Value.str y t from rv)
    subst e2
    exact ⟨.str y, H', I', ⟨t, rfl⟩, qz⟩
theorem cr_strOwn (hs : PySem.W.findIn X.K (.ref C) "__str__" = some (some (.ref g))) (hf : PySem.W.isFn X.K (.ref g) = true) (F : FnOk X.prog X.w X.K X.mg X.base CX0 k g fd ps sp) (hb : Binds X.K fd ps []) (hr : Room (k + 2) X.A) : CallR X (.type "str") (rTextOwn C sp) := by
  intro pins s σ H vs us Q I r h
  obtain ⟨a, dx, fs, rfl, ha, q⟩ := h
  rw [Vals.ref1 r]
  obtain ⟨mA, O, _⟩ := ins_get I.hok ha
  obtain ⟨od, J, _⟩ := O.look
  have hr2 : Room k X.A.in1.in1 := (show Room (k + 1) X.A.in1 from Room.in1 hr).in1
  refine PySem.W.kso_call (by have := hr2.units0; exact this) I.kIn J hs hf ?_
  have hl : ([Value.ref a] ++ []).length = ps.length := F.len _ _ _ _ q
  refine wpAny_call (codeAny_mono (F.run X.A.in1.in1 X.stack s H ⟨[.ref a], []⟩ [.ref a] [.ref a] _ E0 hr2 I.env0.in1.in1 (hb s [.ref a] I.kIn hl) (.cons rfl .nil) q) fun z s' hq => ?_)
  match z, hq with
  | .ok (.ret w'), hq =>
    obtain ⟨v', H', I', rv, y, e, qz⟩ := I.after hq
    subst e
    obtain ⟨t, e2⟩ := (show ∃ t, w' = Value.str y t from rv)
    subst e2
    exact ⟨.str y, H', I', ⟨t, rfl⟩, qz⟩
end
end RL

/-! The mathematics: whole roots, common divisors, the one equation of a number, its sign beside a fraction. -/
namespace RL
/-- small: fewer than 2 ^ n -/
def Sm (n : Nat) (x : Int) : Prop := x.natAbs < 2 ^ n
theorem Sm.mono {m n : Nat} {x : Int} (h : Sm m x) (l : m ≤ n) : Sm n x := Nat.lt_of_lt_of_le h (Nat.pow_le_pow_right (by decide) l)
theorem Sm.mul {m n : Nat} {x y : Int} (h : Sm m x) (k : Sm n y) : Sm (m + n) (x * y) := by
  unfold Sm at *
  rw [Int.natAbs_mul, Nat.pow_add]
  exact Nat.mul_lt_mul'' h k
theorem Sm.add {n : Nat} {x y : Int} (h : Sm n x) (k : Sm n y) : Sm (n + 1) (x + y) := by
  unfold Sm at *
  rw [Nat.pow_succ]
  omega
theorem Sm.sub {n : Nat} {x y : Int} (h : Sm n x) (k : Sm n y) : Sm (n + 1) (x - y) := by
  unfold Sm at *
  rw [Nat.pow_succ]
  omega
theorem Sm.neg {n : Nat} {x : Int} (h : Sm n x) : Sm n (-x) := by
  unfold Sm at *
  omega
theorem Sm.of {n : Nat} {x y : Int} (h : Sm n y) (a : -y ≤ x) (b : x ≤ y) : Sm n x := by
  unfold Sm at *
  omega
theorem Sm.div {n : Nat} {x y : Int} (h : Sm n x) (hy : 0 < y) : Sm n (x / y) := by
  unfold Sm at *
  have h1 : (x / y).natAbs ≤ x.natAbs := by
    rcases Int.le_total 0 x with hx | hx
    · have := Int.ediv_le_self y hx
      have := Int.ediv_nonneg hx (Int.le_of_lt hy)
      omega
    · have h3 : x / y ≤ 0 := by
        have := Int.ediv_le_ediv hy hx
        simpa using this
      have h2 : x ≤ x / y := by
        have h4 : x * y ≤ x := by
          have q := Int.mul_nonneg (a := -x) (b := y - 1) (by omega) (by omega)
          have e : -x * (y - 1) = x - x * y := by grind
          omega
        exact (Int.le_ediv_iff_mul_le hy).mpr h4
      omega
  omega
theorem sm40 {x : Int} (a : -(10 ^ 40) ≤ x) (b : x ≤ 10 ^ 40) : Sm 133 x := by
  unfold Sm
  have : (10 : Int) ^ 40 < 2 ^ 133 := by decide
  have e : ((2 ^ 133 : Nat) : Int) = 2 ^ 133 := by decide
  omega
/-! ### whole roots -/
def IsRt (w r : Int) : Prop := 0 ≤ r ∧ r * r ≤ w ∧ w < (r + 1) * (r + 1)
theorem IsRt.le {w r s : Int} (h : IsRt w r) (k : IsRt w s) : r ≤ s := by
  obtain ⟨h0, h1, h2⟩ := h
  obtain ⟨k0, k1, k2⟩ := k
  rcases Int.lt_or_le s r with l | l
  · have : (s + 1) * (s + 1) ≤ r * r := Int.mul_le_mul (by omega) (by omega) (by omega) (by omega)
    omega
  · exact l
theorem IsRt.eq {w r s : Int} (h : IsRt w r) (k : IsRt w s) : r = s := Int.le_antisymm (h.le k) (k.le h)
def rtN : Nat → Nat
  | 0 => 0
  | n + 1 => if (rtN n + 1) * (rtN n + 1) ≤ n + 1 then rtN n + 1 else rtN n
theorem rtN_is : ∀ n, rtN n * rtN n ≤ n ∧ n < (rtN n + 1) * (rtN n + 1)
  | 0 => ⟨Nat.le_refl _, by decide⟩
  | n + 1 => by
    have ih := rtN_is n
    unfold rtN
    split
    · rename_i h
      refine ⟨h, ?_⟩
      have : (rtN n + 1 + 1) * (rtN n + 1 + 1) = (rtN n + 1) * (rtN n + 1) + 2 * (rtN n + 1) + 1 := by grind
      omega
    · rename_i h
      omega
def rt (w : Int) : Int := (rtN w.toNat : Int)
theorem rt_is {w : Int} (h : 0 ≤ w) : IsRt w (rt w) := by
  have k := rtN_is w.toNat
  have e : (w.toNat : Int) = w := Int.toNat_of_nonneg h
  refine ⟨Int.natCast_nonneg _, ?_, ?_⟩
  · have := Int.ofNat_le.mpr k.1
    rw [Int.natCast_mul, e] at this
    exact this
  · have := Int.ofNat_lt.mpr k.2
    rw [Int.natCast_mul, e, Int.natCast_add] at this
    exact this
theorem rt_of {w r : Int} (h : IsRt w r) : r = rt w := h.eq (rt_is (Int.le_trans (Int.mul_nonneg h.1 h.1) h.2.1))
theorem rt_sm {n : Nat} {w : Int} (h0 : 0 ≤ w) (h : Sm (2 * n) w) : Sm n (rt w) := by
  obtain ⟨a, b, _⟩ := rt_is h0
  unfold Sm at *
  refine Nat.lt_of_not_le fun q => ?_
  have e : (2 : Nat) ^ (2 * n) = 2 ^ n * 2 ^ n := by rw [← Nat.pow_add]; congr 1; omega
  have : 2 ^ n * 2 ^ n ≤ (rt w).natAbs * (rt w).natAbs := Nat.mul_le_mul q q
  have e2 : (rt w * rt w).natAbs = (rt w).natAbs * (rt w).natAbs := Int.natAbs_mul _ _
  have : (rt w * rt w).natAbs ≤ w.natAbs := by
    have := Int.mul_nonneg a a
    omega
  omega
/-- a step of Newton's -/
theorem newton {n g : Int} (hn : 0 ≤ n) (hg : 0 ≤ g) (h : n < (g + 1) * (g + 1)) (l : n < g * g) :
    0 < g ∧ 0 ≤ (g + n / g) / 2 ∧ (g + n / g) / 2 < g ∧ n < ((g + n / g) / 2 + 1) * ((g + n / g) / 2 + 1) := by
  have g0 : 0 < g := by
    rcases Int.lt_or_le 0 g with q | q
    · exact q
    · have : g = 0 := by omega
      subst this
      omega
  have q0 : 0 ≤ n / g := Int.ediv_nonneg hn hg
  have q1 : n < g * (n / g + 1) := by
    have := Int.lt_mul_ediv_self_add (x := n) (k := g) g0
    rw [Int.mul_add, Int.mul_one]
    exact this
  have q2 : n / g < g := Int.ediv_lt_of_lt_mul g0 l
  generalize n / g = q at *
  have hm : g + q ≤ 2 * ((g + q) / 2) + 1 := by omega
  have h0 : 0 ≤ (g + q) / 2 := by omega
  have h1 : (g + q) / 2 < g := by omega
  generalize (g + q) / 2 = m at *
  refine ⟨g0, h0, h1, ?_⟩
  have a1 : (g + q + 1) * (g + q + 1) ≤ (2 * (m + 1)) * (2 * (m + 1)) := Int.mul_le_mul (by omega) (by omega) (by omega) (by omega)
  have a2 : 0 ≤ (g - q - 1) * (g - q - 1) := by
    rcases Int.le_total 0 (g - q - 1) with z | z
    · exact Int.mul_nonneg z z
    · exact Int.mul_nonneg_of_nonpos_of_nonpos z z
  have a3 : (g + q + 1) * (g + q + 1) = 4 * (g * (q + 1)) + (g - q - 1) * (g - q - 1) := by grind
  have a4 : (2 * (m + 1)) * (2 * (m + 1)) = 4 * ((m + 1) * (m + 1)) := by grind
  omega
/-! ### common divisors -/
def gc (a b : Int) : Int := (Int.gcd a b : Int)
theorem gc_nonneg (a b : Int) : 0 ≤ gc a b := Int.natCast_nonneg _
theorem gc_pos {a b : Int} (h : a ≠ 0 ∨ b ≠ 0) : 0 < gc a b := by
  unfold gc
  have : 0 < Int.gcd a b := by
    rcases Nat.eq_zero_or_pos (Int.gcd a b) with z | z
    · rw [Int.gcd_eq_zero_iff] at z
      omega
    · exact z
  omega
theorem gc_dvd1 (a b : Int) : gc a b ∣ a := Int.gcd_dvd_left ..
theorem gc_dvd2 (a b : Int) : gc a b ∣ b := Int.gcd_dvd_right ..
theorem gc_zero {a : Int} (h : 0 ≤ a) : gc a 0 = a := by
  unfold gc
  rw [Int.gcd_zero_right]
  omega
theorem gc_step {a b : Int} (ha : 0 ≤ a) (hb : 0 < b) : gc b (a % b) = gc a b := by
  obtain ⟨n, rfl⟩ := Int.eq_ofNat_of_zero_le ha
  obtain ⟨m, rfl⟩ := Int.eq_ofNat_of_zero_le (Int.le_of_lt hb)
  unfold gc
  congr 1
  rw [← Int.natCast_emod, Int.gcd_natCast_natCast, Int.gcd_natCast_natCast, Nat.gcd_comm, ← Nat.gcd_rec, Nat.gcd_comm]
theorem gc_abs (a b : Int) : gc (if a < 0 then -a else a) (if b < 0 then -b else b) = gc a b := by
  unfold gc
  congr 1
  split <;> split <;> simp
theorem gc_abs2 (a b : Int) : gc a (if b < 0 then -b else b) = gc a b := by
  unfold gc
  congr 1
  split <;> simp
theorem ex_mul {g a : Int} (h : g ∣ a) (hg : 0 < g) : a = g * (a / g) := (Int.mul_ediv_cancel' h).symm
/-! ### the one equation of a number -/
/-- the parts of an equation that is accepted -/
def Good (a b c : Int) : Prop := (a = 0 ∧ 1 ≤ b ∧ 0 ≤ c) ∨ (1 ≤ a ∧ 1 ≤ c)
structure Nrm (a b c s l w : Int) : Prop where
  good : Good s l w
  /-- the sign beside x / y -/
  sgn : ∀ x y : Int, 0 ≤ x → 1 ≤ y → (0 < w * y * y - l * x * y - s * x * x ↔ a * x * x + b * x * y - c * y * y < 0) ∧ (w * y * y - l * x * y - s * x * x = 0 ↔ a * x * x + b * x * y - c * y * y = 0)
/-- multiplied by a number above 0 -/
theorem pos_iff {k u : Int} (hk : 0 < k) : (0 < k * u ↔ 0 < u) ∧ (k * u = 0 ↔ u = 0) := by
  refine ⟨⟨fun h => ?_, fun h => Int.mul_pos hk h⟩, ⟨fun h => ?_, fun h => by rw [h, Int.mul_zero]⟩⟩
  · rcases Int.lt_or_le 0 u with z | z
    · exact z
    · have := Int.mul_nonpos_of_nonneg_of_nonpos (Int.le_of_lt hk) z
      omega
  · rcases Int.mul_eq_zero.mp h with z | z
    · omega
    · exact z
theorem nrm_div {a b c g : Int} (h : Good a b c) (hg : 0 < g) (da : g ∣ a) (db : g ∣ b) (dc : g ∣ c) : Nrm a b c (a / g) (b / g) (c / g) := by
  have ea := ex_mul da hg
  have eb := ex_mul db hg
  have ec := ex_mul dc hg
  generalize a / g = s at *
  generalize b / g = l at *
  generalize c / g = w at *
  subst ea eb ec
  refine ⟨?_, fun x y hx hy => ?_⟩
  · rcases h with ⟨h1, h2, h3⟩ | ⟨h1, h2⟩
    · refine .inl ⟨((pos_iff hg).2.mp h1), ?_, ?_⟩
      · have := (pos_iff (u := l) hg).1.mp (by omega)
        omega
      · rcases Int.lt_or_le w 0 with z | z
        · have := Int.mul_neg_of_pos_of_neg hg z
          omega
        · exact z
    · refine .inr ⟨?_, ?_⟩
      · have := (pos_iff (u := s) hg).1.mp (by omega)
        omega
      · have := (pos_iff (u := w) hg).1.mp (by omega)
        omega
  · have e : g * s * x * x + g * l * x * y - g * w * y * y = -(g * (w * y * y - l * x * y - s * x * x)) := by grind
    rw [e]
    have := pos_iff (k := g) (u := w * y * y - l * x * y - s * x * x) hg
    refine ⟨?_, ?_⟩
    · rw [← this.1]; omega
    · rw [← this.2]; omega
theorem rt_gt {b t r : Int} (ht : 0 < t) (hr : 0 ≤ r) (e : b * b + t = r * r) : 0 < r + b ∧ 0 < r - b := by
  refine ⟨?_, ?_⟩
  · rcases Int.lt_or_le 0 (r + b) with z | z
    · exact z
    · have h1 : 0 ≤ (-b - r) * (-b + r) := Int.mul_nonneg (by omega) (by omega)
      have h2 : (-b - r) * (-b + r) = b * b - r * r := by grind
      omega
  · rcases Int.lt_or_le 0 (r - b) with z | z
    · exact z
    · have h1 : 0 ≤ (b - r) * (b + r) := Int.mul_nonneg (by omega) (by omega)
      have h2 : (b - r) * (b + r) = b * b - r * r := by grind
      omega
theorem nrm_root {a b c r g : Int} (ha : 1 ≤ a) (hc : 1 ≤ c) (hr : 0 ≤ r) (e : b * b + 4 * a * c = r * r) (hg : 0 < g) (d1 : g ∣ r - b) (d2 : g ∣ 2 * a) : Nrm a b c 0 (2 * a / g) ((r - b) / g) := by
  have hac : 0 < 4 * a * c := Int.mul_pos (by omega) (by omega)
  obtain ⟨p1, p2⟩ := rt_gt hac hr e
  have e1 := ex_mul d1 hg
  have e2 := ex_mul d2 hg
  have l0 : 1 ≤ 2 * a / g := by
    have := (pos_iff (u := 2 * a / g) hg).1.mp (by omega)
    omega
  have w0 : 1 ≤ (r - b) / g := by
    have := (pos_iff (u := (r - b) / g) hg).1.mp (by omega)
    omega
  generalize 2 * a / g = l at *
  generalize (r - b) / g = w at *
  refine ⟨.inl ⟨rfl, l0, by omega⟩, fun x y hx hy => ?_⟩
  have k : 0 < r * y + b * y + 2 * a * x := by
    have h1 : 0 < (r + b) * y := Int.mul_pos p1 (by omega)
    have h2 : 0 ≤ 2 * a * x := Int.mul_nonneg (by omega) hx
    have h3 : (r + b) * y = r * y + b * y := by grind
    omega
  have y0 : 0 < y := by omega
  -- y * g * (w y - l x) = y * ((r - b) y - 2 a x)
  have f1 : g * (w * y * y - l * x * y - 0 * x * x) = y * ((r - b) * y - 2 * a * x) := by
    rw [e1, e2]; grind
  have f2 : 4 * a * (c * y * y - a * x * x - b * x * y) = (r * y + b * y + 2 * a * x) * ((r - b) * y - 2 * a * x) := by grind
  have q1 := pos_iff (u := w * y * y - l * x * y - 0 * x * x) hg
  have q2 := pos_iff (u := (r - b) * y - 2 * a * x) y0
  have q3 := pos_iff (k := 4 * a) (u := c * y * y - a * x * x - b * x * y) (by omega)
  have q4 := pos_iff (u := (r - b) * y - 2 * a * x) k
  rw [f1] at q1
  rw [f2] at q3
  refine ⟨?_, ?_⟩
  · rw [← q1.1, q2.1, ← q4.1, q3.1]; omega
  · rw [← q1.2, q2.2, ← q4.2, q3.2]; omega
/-- what the program keeps of an equation -/
def parts (a b c : Int) : Int × Int × Int :=
  if a = 0 then (0, b / gc c b, c / gc c b)
  else if rt (b * b + 4 * a * c) * rt (b * b + 4 * a * c) = b * b + 4 * a * c then
    (0, 2 * a / gc (rt (b * b + 4 * a * c) - b) (2 * a), (rt (b * b + 4 * a * c) - b) / gc (rt (b * b + 4 * a * c) - b) (2 * a))
  else (a / gc (gc a b) c, b / gc (gc a b) c, c / gc (gc a b) c)
theorem inside_pos {a b c : Int} (h : 1 ≤ a ∧ 1 ≤ c) : 0 < 4 * a * c ∧ 0 ≤ b * b + 4 * a * c := by
  have hac : 0 < 4 * a * c := Int.mul_pos (by omega) (by omega)
  have hb : 0 ≤ b * b := by
    rcases Int.le_total 0 b with z | z
    · exact Int.mul_nonneg z z
    · exact Int.mul_nonneg_of_nonpos_of_nonpos z z
  omega
theorem parts_nrm {a b c : Int} (h : Good a b c) : Nrm a b c (parts a b c).1 (parts a b c).2.1 (parts a b c).2.2 := by
  unfold parts
  rcases h with ⟨rfl, h2, h3⟩ | h
  · rw [if_pos rfl]
    have g0 : 0 < gc c b := gc_pos (.inr (by omega))
    have := nrm_div (a := 0) (b := b) (c := c) (.inl ⟨rfl, h2, h3⟩) g0 (Int.dvd_zero _) (gc_dvd2 _ _) (gc_dvd1 _ _)
    rw [Int.zero_ediv] at this
    exact this
  · rw [if_neg (by omega)]
    have k := inside_pos (b := b) h
    split
    · rename_i e
      exact nrm_root h.1 h.2 (rt_is k.2).1 e.symm (gc_pos (.inr (by omega))) (gc_dvd1 _ _) (gc_dvd2 _ _)
    · exact nrm_div (.inr h) (gc_pos (.inr (by omega))) (Int.dvd_trans (gc_dvd1 _ _) (gc_dvd1 _ _)) (Int.dvd_trans (gc_dvd1 _ _) (gc_dvd2 _ _)) (gc_dvd2 _ _)
theorem parts_sm {a b c : Int} (h : Good a b c) (ha : Sm 133 a) (hb : Sm 133 b) (hc : Sm 133 c) : Sm 150 (parts a b c).1 ∧ Sm 150 (parts a b c).2.1 ∧ Sm 150 (parts a b c).2.2 := by
  unfold parts
  rcases h with ⟨rfl, h2, h3⟩ | h
  · rw [if_pos rfl]
    have g0 : 0 < gc c b := gc_pos (.inr (by omega))
    exact ⟨show Sm 150 0 by unfold Sm; decide, (hb.div g0).mono (by decide), (hc.div g0).mono (by decide)⟩
  · rw [if_neg (by omega)]
    have k := inside_pos (b := b) h
    have hd : Sm 270 (b * b + 4 * a * c) := by
      have h4 : Sm 3 4 := by unfold Sm; decide
      have e1 : Sm (133 + 133) (b * b) := hb.mul hb
      have e2 : Sm (3 + 133 + 133) (4 * a * c) := (h4.mul ha).mul hc
      exact (Sm.add (n := 269) (e1.mono (by decide)) (e2.mono (by decide)))
    have hr : Sm 135 (rt (b * b + 4 * a * c)) := rt_sm (n := 135) k.2 hd
    have h2 : Sm 2 2 := by unfold Sm; decide
    split
    · have g0 : 0 < gc (rt (b * b + 4 * a * c) - b) (2 * a) := gc_pos (.inr (by omega))
      refine ⟨show Sm 150 0 by unfold Sm; decide, ?_, ?_⟩
      · exact ((h2.mul ha).div g0).mono (by decide)
      · exact ((hr.sub (hb.mono (by decide))).div g0).mono (by decide)
    · have g0 : 0 < gc (gc a b) c := gc_pos (.inr (by omega))
      exact ⟨(ha.div g0).mono (by decide), (hb.div g0).mono (by decide), (hc.div g0).mono (by decide)⟩
/-! ### beside a fraction -/
def sg (n : Int) : Int := if 0 < n then 1 else if n < 0 then -1 else 0
/-- the law's side -/
def side (a b c x y : Int) : Int := if y = 0 then -1 else sg (-(a * x * x + b * x * y - c * y * y))
def beside (s l w x y : Int) : Int := sg (w * y * y - l * x * y - s * x * x)
theorem Nrm.side {a b c s l w x y : Int} (h : Nrm a b c s l w) (hx : 0 ≤ x) (hy : 1 ≤ y) : beside s l w x y = RL.side a b c x y := by
  obtain ⟨k1, k2⟩ := h.sgn x y hx hy
  unfold beside RL.side sg
  rw [if_neg (show ¬ y = 0 by omega)]
  generalize w * y * y - l * x * y - s * x * x = u at *
  generalize a * x * x + b * x * y - c * y * y = v at *
  by_cases p : 0 < u
  · have := k1.mp p
    rw [if_pos p, if_pos (by omega)]
  · by_cases q : u = 0
    · have := k2.mp q
      rw [if_neg p, if_neg (by omega), if_neg (by omega), if_neg (by omega)]
    · have : ¬ v < 0 := fun z => p (k1.mpr z)
      have : ¬ v = 0 := fun z => q (k2.mpr z)
      rw [if_neg p, if_pos (by omega), if_neg (by omega), if_pos (by omega)]
/-- the same fraction written otherwise -/
theorem side_same {a b c x y k : Int} (hk : 1 ≤ k) (hy : 1 ≤ y) : RL.side a b c (k * x) (k * y) = RL.side a b c x y := by
  unfold RL.side
  have h0 : ¬ k * y = 0 := by
    have := Int.mul_pos (a := k) (b := y) (by omega) (by omega)
    omega
  rw [if_neg h0, if_neg (show ¬ y = 0 by omega)]
  have kk : 0 < k * k := Int.mul_pos (by omega) (by omega)
  have e : -(a * (k * x) * (k * x) + b * (k * x) * (k * y) - c * (k * y) * (k * y)) = k * k * (-(a * x * x + b * x * y - c * y * y)) := by grind
  rw [e]
  generalize -(a * x * x + b * x * y - c * y * y) = u
  have q := pos_iff (u := u) kk
  unfold sg
  by_cases p : 0 < u
  · rw [if_pos p, if_pos (q.1.mpr p)]
  · by_cases z : u = 0
    · subst z
      rw [Int.mul_zero]
    · have h1 : ¬ 0 < k * k * u := fun t => p (q.1.mp t)
      have h2 : ¬ k * k * u = 0 := fun t => z (q.2.mp t)
      rw [if_neg p, if_pos (show u < 0 by omega), if_neg h1, if_pos (show k * k * u < 0 by omega)]
/-! ### floors -/
def flo (s l w t : Int) : Int := if s = 0 then t * w / l else (rt (t * t * (l * l + 4 * s * w)) - t * l) / (2 * s)
theorem flo_is {s l w t : Int} (h : Good s l w) (ht : 1 ≤ t) : 0 ≤ flo s l w t ∧ 0 ≤ beside s l w (flo s l w t) t ∧ beside s l w (flo s l w t + 1) t = -1 := by
  have sgp : ∀ n : Int, 0 ≤ n → 0 ≤ sg n := fun n hn => by
    unfold sg
    split
    · decide
    · split
      · omega
      · decide
  have sgn : ∀ n : Int, n < 0 → sg n = -1 := fun n hn => by
    unfold sg
    rw [if_neg (by omega), if_pos hn]
  unfold flo
  rcases h with ⟨rfl, h2, h3⟩ | h
  · rw [if_pos rfl]
    have l0 : 0 < l := by omega
    have d1 := Int.mul_ediv_self_le (x := t * w) (k := l) (by omega)
    have d2 := Int.lt_mul_ediv_self_add (x := t * w) (k := l) l0
    have d0 : 0 ≤ t * w / l := Int.ediv_nonneg (Int.mul_nonneg (by omega) h3) (by omega)
    generalize t * w / l = q at *
    refine ⟨d0, sgp _ ?_, sgn _ ?_⟩
    · have : w * t * t - l * q * t - 0 * q * q = t * (t * w - l * q) := by grind
      rw [this]
      exact Int.mul_nonneg (by omega) (by omega)
    · have : w * t * t - l * (q + 1) * t - 0 * (q + 1) * (q + 1) = -(t * (l * q + l - t * w)) := by grind
      rw [this]
      have := Int.mul_pos (a := t) (b := l * q + l - t * w) (by omega) (by omega)
      omega
  · rw [if_neg (by omega)]
    have hsw : 0 < 4 * s * w := Int.mul_pos (by omega) (by omega)
    have ll : 0 ≤ l * l := by
      rcases Int.le_total 0 l with z | z
      · exact Int.mul_nonneg z z
      · exact Int.mul_nonneg_of_nonpos_of_nonpos z z
    have w0 : 0 ≤ t * t * (l * l + 4 * s * w) := Int.mul_nonneg (Int.mul_nonneg (by omega) (by omega)) (by omega)
    obtain ⟨r0, r1, r2⟩ := rt_is w0
    generalize er : rt (t * t * (l * l + 4 * s * w)) = r at *
    -- r is at least t * l either way
    have rl : -r ≤ t * l ∧ t * l ≤ r := by
      have h0 : t * l * (t * l) ≤ t * t * (l * l + 4 * s * w) := by
        have e : t * t * (l * l + 4 * s * w) = t * l * (t * l) + t * t * (4 * s * w) := by grind
        have := Int.mul_nonneg (a := t * t) (b := 4 * s * w) (Int.mul_nonneg (by omega) (by omega)) (by omega)
        omega
      refine ⟨?_, ?_⟩
      · rcases Int.lt_or_le (t * l) (-r) with z | z
        · have : (r + 1) * (r + 1) ≤ (-(t * l)) * (-(t * l)) := Int.mul_le_mul (by omega) (by omega) (by omega) (by omega)
          have e : (-(t * l)) * (-(t * l)) = t * l * (t * l) := by grind
          omega
        · exact z
      · rcases Int.lt_or_le r (t * l) with z | z
        · have : (r + 1) * (r + 1) ≤ (t * l) * (t * l) := Int.mul_le_mul (by omega) (by omega) (by omega) (by omega)
          omega
        · exact z
    have s0 : 0 < 2 * s := by omega
    have d1 := Int.mul_ediv_self_le (x := r - t * l) (k := 2 * s) (by omega)
    have d2 := Int.lt_mul_ediv_self_add (x := r - t * l) (k := 2 * s) s0
    have d0 : 0 ≤ (r - t * l) / (2 * s) := Int.ediv_nonneg (by omega) (by omega)
    generalize (r - t * l) / (2 * s) = q at *
    have f : ∀ z : Int, 4 * s * (w * t * t - l * z * t - s * z * z) = t * t * (l * l + 4 * s * w) - (2 * s * z + t * l) * (2 * s * z + t * l) := fun z => by grind
    have sp : 0 < 4 * s := by omega
    refine ⟨d0, sgp _ ?_, sgn _ ?_⟩
    · have u1 : 0 ≤ 2 * s * q := Int.mul_nonneg (by omega) d0
      have u2 : (2 * s * q + t * l) * (2 * s * q + t * l) ≤ r * r := by
        rcases Int.le_total 0 (2 * s * q + t * l) with z | z
        · exact Int.mul_le_mul (by omega) (by omega) (by omega) (by omega)
        · have := Int.mul_le_mul (a := -(2 * s * q + t * l)) (b := -(2 * s * q + t * l)) (c := r) (d := r) (by omega) (by omega) (by omega) (by omega)
          have e : (-(2 * s * q + t * l)) * (-(2 * s * q + t * l)) = (2 * s * q + t * l) * (2 * s * q + t * l) := by grind
          omega
      have u3 := f q
      have u4 := pos_iff (u := w * t * t - l * q * t - s * q * q) sp
      rcases Int.lt_or_le (w * t * t - l * q * t - s * q * q) 0 with z | z
      · have := Int.mul_neg_of_pos_of_neg sp z
        omega
      · exact z
    · have u0 : 2 * s * (q + 1) = 2 * s * q + 2 * s := by grind
      have u2 : (r + 1) * (r + 1) ≤ (2 * s * (q + 1) + t * l) * (2 * s * (q + 1) + t * l) := Int.mul_le_mul (by omega) (by omega) (by omega) (by omega)
      have u3 := f (q + 1)
      rcases Int.lt_or_le (w * t * t - l * (q + 1) * t - s * (q + 1) * (q + 1)) 0 with z | z
      · exact z
      · have := Int.mul_nonneg (Int.le_of_lt sp) z
        omega
end RL

/-! The order of two numbers: by the program's signs, and that unlike small ones differ within thirty figures. -/
namespace RL
theorem sq_nn (x : Int) : 0 ≤ x * x := by
  rcases Int.le_total 0 x with z | z
  · exact Int.mul_nonneg z z
  · exact Int.mul_nonneg_of_nonpos_of_nonpos z z
/-- above 0 just if the number is greater than x / y -/
def Fv (s l w x y : Int) : Int := w * y * y - l * x * y - s * x * x
/-- further right it stays less -/
theorem fv_down {s l w x y x' y' : Int} (g : Good s l w) (hx : 0 ≤ x) (hy : 1 ≤ y) (hx' : 0 ≤ x') (hy' : 1 ≤ y') (h : Fv s l w x y < 0) (c : x * y' ≤ x' * y) : Fv s l w x' y' < 0 := by
  refine Classical.byContradiction fun q => ?_
  have yy : 0 < y * y' := Int.mul_pos (by omega) (by omega)
  have h1 : y' * y' * Fv s l w x y = w * (y * y') * (y * y') - l * (x * y') * (y * y') - s * (x * y') * (x * y') := by unfold Fv; grind
  have h2 : y * y * Fv s l w x' y' = w * (y * y') * (y * y') - l * (x' * y) * (y * y') - s * (x' * y) * (x' * y) := by unfold Fv; grind
  have k1 : y' * y' * Fv s l w x y < 0 := Int.mul_neg_of_pos_of_neg (Int.mul_pos (by omega) (by omega)) h
  have k2 : 0 ≤ y * y * Fv s l w x' y' := Int.mul_nonneg (sq_nn y) (by omega)
  have u0 : 0 ≤ x * y' := Int.mul_nonneg hx (by omega)
  generalize x * y' = u at *
  generalize x' * y = v at *
  generalize y * y' = Y at *
  have d : (v - u) * (l * Y + s * (u + v)) = l * v * Y + s * v * v - (l * u * Y + s * u * u) := by grind
  have k3 : (v - u) * (l * Y + s * (u + v)) < 0 := by omega
  have k4 : 0 < v - u := by
    rcases Int.lt_or_le 0 (v - u) with z | z
    · exact z
    · have : v - u = 0 := by omega
      rw [this, Int.zero_mul] at k3
      omega
  have k5 : l * Y + s * (u + v) < 0 := by
    refine Classical.byContradiction fun z => ?_
    have := Int.mul_nonneg (Int.le_of_lt k4) (Int.not_lt.mp z)
    omega
  rcases g with ⟨rfl, l0, w0⟩ | ⟨s0, w0⟩
  · have := Int.mul_pos (a := l) (b := Y) (by omega) yy
    omega
  · have e : u * (l * Y + s * u) = l * u * Y + s * u * u := by grind
    have p : 0 < w * Y * Y := Int.mul_pos (Int.mul_pos (by omega) yy) yy
    have k6 : 0 < u * (l * Y + s * u) := by omega
    have k7 : 0 < l * Y + s * u := by
      refine Classical.byContradiction fun z => ?_
      have := Int.mul_nonpos_of_nonneg_of_nonpos u0 (Int.not_lt.mp z)
      omega
    have k8 : 0 ≤ s * v := Int.mul_nonneg (by omega) (by omega)
    have e2 : s * (u + v) = s * u + s * v := by grind
    omega
theorem fv_down' {s l w x y x' y' : Int} (g : Good s l w) (hx : 0 ≤ x) (hy : 1 ≤ y) (hx' : 0 ≤ x') (hy' : 1 ≤ y') (h : Fv s l w x y ≤ 0) (c : x * y' < x' * y) : Fv s l w x' y' < 0 := by
  refine Classical.byContradiction fun q => ?_
  have yy : 0 < y * y' := Int.mul_pos (by omega) (by omega)
  have h1 : y' * y' * Fv s l w x y = w * (y * y') * (y * y') - l * (x * y') * (y * y') - s * (x * y') * (x * y') := by unfold Fv; grind
  have h2 : y * y * Fv s l w x' y' = w * (y * y') * (y * y') - l * (x' * y) * (y * y') - s * (x' * y) * (x' * y) := by unfold Fv; grind
  have k1 : y' * y' * Fv s l w x y ≤ 0 := Int.mul_nonpos_of_nonneg_of_nonpos (sq_nn y') h
  have k2 : 0 ≤ y * y * Fv s l w x' y' := Int.mul_nonneg (sq_nn y) (by omega)
  have u0 : 0 ≤ x * y' := Int.mul_nonneg hx (by omega)
  generalize x * y' = u at *
  generalize x' * y = v at *
  generalize y * y' = Y at *
  have d : (v - u) * (l * Y + s * (u + v)) = l * v * Y + s * v * v - (l * u * Y + s * u * u) := by grind
  have k3 : (v - u) * (l * Y + s * (u + v)) ≤ 0 := by omega
  have k4 : 0 < v - u := by omega
  have k5 : l * Y + s * (u + v) ≤ 0 := by
    refine Classical.byContradiction fun z => ?_
    have := Int.mul_pos k4 (Int.not_le.mp z)
    omega
  rcases g with ⟨rfl, l0, w0⟩ | ⟨s0, w0⟩
  · have := Int.mul_pos (a := l) (b := Y) (by omega) yy
    omega
  · have e : u * (l * Y + s * u) = l * u * Y + s * u * u := by grind
    have p : 0 < w * Y * Y := Int.mul_pos (Int.mul_pos (by omega) yy) yy
    have k6 : 0 < u * (l * Y + s * u) := by omega
    have k7 : 0 < l * Y + s * u := by
      refine Classical.byContradiction fun z => ?_
      have := Int.mul_nonpos_of_nonneg_of_nonpos u0 (Int.not_lt.mp z)
      omega
    have k8 : 0 ≤ s * v := Int.mul_nonneg (by omega) (by omega)
    have e2 : s * (u + v) = s * u + s * v := by grind
    omega
/-- further left it stays greater -/
theorem fv_up {s l w x y x' y' : Int} (g : Good s l w) (hx : 0 ≤ x) (hy : 1 ≤ y) (hx' : 0 ≤ x') (hy' : 1 ≤ y') (h : 0 ≤ Fv s l w x y) (c : x' * y < x * y') : 0 < Fv s l w x' y' := by
  refine Classical.byContradiction fun q => ?_
  have := fv_down' g hx' hy' hx hy (Int.not_lt.mp q) c
  omega
/-! ### the program's order -/
def sal0 (s l w sl h : Int) : Int := if sl = 0 ∨ h < 0 then sg (-h) else beside s l w h sl
def sal (s l w sl h : Int) : Int := if sl < 0 then -(sal0 s l w (-sl) (-h)) else sal0 s l w sl h
def ord (s l w s' l' w' : Int) : Int := if s' = 0 then beside s l w w' l' else -(sal s' l' w' (l * s' - l' * s) (w * s' - w' * s))
theorem sg_neg {n : Int} (h : n < 0) : sg n = -1 := by unfold sg; rw [if_neg (by omega), if_pos h]
theorem sg_pos {n : Int} (h : 0 < n) : sg n = 1 := by unfold sg; rw [if_pos h]
theorem sg_zero : sg 0 = 0 := by decide
theorem lin {s l w s' l' w' x y : Int} : s * Fv s' l' w' x y - s' * Fv s l w x y = y * ((l * s' - l' * s) * x - (w * s' - w' * s) * y) := by unfold Fv; grind
theorem lin0 {s l w s' l' w' : Int} : s' * Fv s l w (w * s' - w' * s) (l * s' - l' * s) = s * Fv s' l' w' (w * s' - w' * s) (l * s' - l' * s) := by unfold Fv; grind
theorem lin0' {s l w s' l' w' : Int} : s' * Fv s l w (-(w * s' - w' * s)) (-(l * s' - l' * s)) = s * Fv s' l' w' (-(w * s' - w' * s)) (-(l * s' - l' * s)) := by unfold Fv; grind
theorem ord_lt {s l w s' l' w' x y : Int} (g : Good s l w) (g' : Good s' l' w') (hx : 0 ≤ x) (hy : 1 ≤ y) (h : Fv s l w x y < 0) (h' : 0 ≤ Fv s' l' w' x y) : ord s l w s' l' w' = -1 := by
  unfold ord
  split
  · rename_i z
    subst z
    rcases g' with ⟨_, l0, w0⟩ | ⟨z, _⟩
    · refine sg_neg (fv_down g hx hy w0 l0 h ?_)
      have e : Fv 0 l' w' x y = y * (w' * y - l' * x) := by unfold Fv; grind
      rw [e] at h'
      have : 0 ≤ w' * y - l' * x := by
        refine Classical.byContradiction fun z => ?_
        have := Int.mul_neg_of_pos_of_neg (a := y) (by omega) (Int.not_le.mp z)
        omega
      have e2 : x * l' = l' * x := Int.mul_comm _ _
      omega
    · omega
  · rename_i z
    have g2 := g'
    rcases g' with g' | ⟨s0', w0'⟩
    · exact absurd g'.1 z
    have s0 : 0 ≤ s := by rcases g with g | g <;> omega
    -- the line at x / y
    have L : 0 < (l * s' - l' * s) * x - (w * s' - w' * s) * y := by
      have e := lin (s := s) (l := l) (w := w) (s' := s') (l' := l') (w' := w') (x := x) (y := y)
      have a1 : 0 ≤ s * Fv s' l' w' x y := Int.mul_nonneg s0 h'
      have a2 : s' * Fv s l w x y < 0 := Int.mul_neg_of_pos_of_neg (by omega) h
      refine Classical.byContradiction fun q => ?_
      have := Int.mul_nonpos_of_nonneg_of_nonpos (a := y) (by omega) (Int.not_lt.mp q)
      omega
    have e0 := lin0 (s := s) (l := l) (w := w) (s' := s') (l' := l') (w' := w')
    have e0' := lin0' (s := s) (l := l) (w := w) (s' := s') (l' := l') (w' := w')
    generalize l * s' - l' * s = sl at *
    generalize w * s' - w' * s = hh at *
    have goal1 : sal s' l' w' sl hh = 1 := by
      unfold sal sal0
      split
      · rename_i q
        -- falling line
        have m1 : sl * x ≤ 0 := Int.mul_nonpos_of_nonpos_of_nonneg (by omega) hx
        have h0 : hh < 0 := by
          refine Classical.byContradiction fun t => ?_
          have := Int.mul_nonneg (a := hh) (b := y) (by omega) (by omega)
          omega
        rw [if_neg (by omega)]
        have c : x * -sl < -hh * y := by
          have e1 : x * -sl = -(sl * x) := by grind
          have e2 : -hh * y = -(hh * y) := by grind
          omega
        have f1 := fv_down g hx hy (show 0 ≤ -hh by omega) (show 1 ≤ -sl by omega) h (Int.le_of_lt c)
        have f2 : s * Fv s' l' w' (-hh) (-sl) < 0 := by
          rw [← e0']
          exact Int.mul_neg_of_pos_of_neg (by omega) f1
        have f3 : Fv s' l' w' (-hh) (-sl) < 0 := by
          refine Classical.byContradiction fun t => ?_
          have := Int.mul_nonneg s0 (Int.not_lt.mp t)
          omega
        have f4 : beside s' l' w' (-hh) (-sl) = -1 := sg_neg f3
        rw [f4]
        decide
      · rename_i q
        split
        · rename_i t
          refine sg_pos ?_
          rcases t with t | t
          · subst t
            rw [Int.zero_mul] at L
            refine Classical.byContradiction fun r => ?_
            have := Int.mul_nonneg (a := hh) (b := y) (by omega) (by omega)
            omega
          · omega
        · rename_i t
          refine sg_pos (fv_up g2 hx hy (by omega) (by omega) h' ?_)
          have e1 : x * sl = sl * x := Int.mul_comm _ _
          omega
    rw [goal1]
theorem ord_gt {s l w s' l' w' x y : Int} (g : Good s l w) (g' : Good s' l' w') (hx : 0 ≤ x) (hy : 1 ≤ y) (h : Fv s l w x y < 0) (h' : 0 ≤ Fv s' l' w' x y) : ord s' l' w' s l w = 1 := by
  unfold ord
  split
  · rename_i z
    subst z
    rcases g with ⟨_, l0, w0⟩ | ⟨z, _⟩
    · refine sg_pos (fv_up g' hx hy w0 l0 h' ?_)
      have e : Fv 0 l w x y = y * (w * y - l * x) := by unfold Fv; grind
      rw [e] at h
      have : w * y - l * x < 0 := by
        refine Classical.byContradiction fun z => ?_
        have := Int.mul_nonneg (a := y) (by omega) (Int.not_lt.mp z)
        omega
      have e2 : x * l = l * x := Int.mul_comm _ _
      omega
    · omega
  · rename_i z
    have g2 := g
    rcases g with g | ⟨s0, w0⟩
    · exact absurd g.1 z
    have s0' : 0 ≤ s' := by rcases g' with g | g <;> omega
    have goal1 : sal s l w (l' * s - l * s') (w' * s - w * s') = -1 := by
      rcases Int.lt_or_le 0 s' with sp | sp
      · have L : (l' * s - l * s') * x < (w' * s - w * s') * y := by
          have e := lin (s := s) (l := l) (w := w) (s' := s') (l' := l') (w' := w') (x := x) (y := y)
          have a1 : 0 ≤ s * Fv s' l' w' x y := Int.mul_nonneg (by omega) h'
          have a2 : s' * Fv s l w x y < 0 := Int.mul_neg_of_pos_of_neg sp h
          have a3 : 0 < (l * s' - l' * s) * x - (w * s' - w' * s) * y := by
            refine Classical.byContradiction fun q => ?_
            have := Int.mul_nonpos_of_nonneg_of_nonpos (a := y) (by omega) (Int.not_lt.mp q)
            omega
          have e1 : (l * s' - l' * s) * x = -((l' * s - l * s') * x) := by grind
          have e2 : (w * s' - w' * s) * y = -((w' * s - w * s') * y) := by grind
          omega
        have e0 := lin0' (s := s') (l := l') (w := w') (s' := s) (l' := l) (w' := w)
        generalize l' * s - l * s' = sl at *
        generalize w' * s - w * s' = hh at *
        unfold sal sal0
        split
        · rename_i q
          have goal2 : (if -sl = 0 ∨ -hh < 0 then sg (- -hh) else beside s l w (-hh) (-sl)) = 1 := by
            split
            · rename_i t
              refine sg_pos ?_
              omega
            · rename_i t
              have c : -hh * y < x * -sl := by
                have e1 : x * -sl = -(sl * x) := by grind
                have e2 : -hh * y = -(hh * y) := by grind
                omega
              have f1 := fv_up g' hx hy (show 0 ≤ -hh by omega) (show 1 ≤ -sl by omega) h' c
              have f2 : 0 < s' * Fv s l w (-hh) (-sl) := by
                rw [← e0]
                exact Int.mul_pos (by omega) f1
              refine sg_pos (show 0 < Fv s l w (-hh) (-sl) from ?_)
              refine Classical.byContradiction fun t => ?_
              have := Int.mul_nonpos_of_nonneg_of_nonpos s0' (Int.not_lt.mp t)
              omega
          rw [goal2]
        · rename_i q
          have m1 : 0 ≤ sl * x := Int.mul_nonneg (by omega) hx
          have h0 : 0 < hh := by
            refine Classical.byContradiction fun t => ?_
            have := Int.mul_nonpos_of_nonpos_of_nonneg (a := hh) (b := y) (by omega) (by omega)
            omega
          split
          · exact sg_neg (by omega)
          · rename_i t
            refine sg_neg (fv_down g2 hx hy (by omega) (by omega) h ?_)
            have e1 : x * sl = sl * x := Int.mul_comm _ _
            omega
      · have s1 : s' = 0 := by omega
        subst s1
        rcases g' with ⟨_, l0, w0⟩ | ⟨zz, _⟩
        · have p1 : 0 < l' * s := Int.mul_pos (by omega) (by omega)
          have p2 : 0 ≤ w' * s := Int.mul_nonneg w0 (by omega)
          rw [Int.mul_zero, Int.mul_zero, Int.sub_zero, Int.sub_zero]
          unfold sal sal0
          rw [if_neg (by omega), if_neg (by omega)]
          refine sg_neg (fv_down g2 hx hy p2 p1 h ?_)
          have e : Fv 0 l' w' x y = y * (w' * y - l' * x) := by unfold Fv; grind
          rw [e] at h'
          have q : 0 ≤ w' * y - l' * x := by
            refine Classical.byContradiction fun z => ?_
            have := Int.mul_neg_of_pos_of_neg (a := y) (by omega) (Int.not_le.mp z)
            omega
          have q2 := Int.mul_nonneg q (show 0 ≤ s by omega)
          have e3 : (w' * y - l' * x) * s = w' * s * y - x * (l' * s) := by grind
          omega
        · omega
    rw [goal1]
    decide
/-- a number beside itself -/
theorem ord_self {s l w : Int} (g : Good s l w) : ord s l w s l w = 0 := by
  unfold ord
  split
  · rename_i z
    subst z
    unfold beside
    have e : w * l * l - l * w * l - 0 * w * w = 0 := by grind
    rw [e, sg_zero]
  · have e1 : l * s - l * s = 0 := by omega
    have e2 : w * s - w * s = 0 := by omega
    rw [e1, e2]
    unfold sal sal0
    rw [if_neg (by decide), if_pos (.inl rfl)]
    decide
/-! ### lowest terms, and one equation for one number -/
theorem gc_mul {k a b : Int} (hk : 0 ≤ k) : gc (k * a) (k * b) = k * gc a b := by
  unfold gc
  rw [Int.gcd_mul_left, Int.natCast_mul]
  congr 1
  omega
theorem gc_comm (a b : Int) : gc a b = gc b a := by
  unfold gc
  rw [Int.gcd_comm]
theorem cancel {a b c : Int} (ha : 0 < a) (h : a * b = a * c) : b = c := Int.eq_of_mul_eq_mul_left (by omega) h
theorem low_eq {c b p q : Int} (hb : 0 < b) (hq : 0 < q) (h : c * q = p * b) : b / gc c b = q / gc p q ∧ c / gc c b = p / gc p q := by
  have g1 : 0 < gc c b := gc_pos (.inr (by omega))
  have g2 : 0 < gc p q := gc_pos (.inr (by omega))
  have e : q * gc c b = b * gc p q := by
    rw [← gc_mul (by omega), ← gc_mul (by omega)]
    congr 1
    · rw [Int.mul_comm q c, h, Int.mul_comm]
    · exact Int.mul_comm _ _
  have b1 := ex_mul (gc_dvd2 c b) g1
  have c1 := ex_mul (gc_dvd1 c b) g1
  have q1 := ex_mul (gc_dvd2 p q) g2
  have p1 := ex_mul (gc_dvd1 p q) g2
  generalize b / gc c b = B at *
  generalize c / gc c b = Cc at *
  generalize q / gc p q = Qq at *
  generalize p / gc p q = Pp at *
  generalize gc c b = G at *
  generalize gc p q = K at *
  have gk : 0 < G * K := Int.mul_pos g1 g2
  have e1 : B = Qq := by
    refine cancel gk ?_
    rw [b1, q1] at e
    grind
  refine ⟨e1, ?_⟩
  have bp : 0 < B := by
    refine Classical.byContradiction fun z => ?_
    have := Int.mul_nonpos_of_nonneg_of_nonpos (Int.le_of_lt g1) (Int.not_lt.mp z)
    omega
  refine cancel (Int.mul_pos gk bp) ?_
  rw [c1, q1, p1, b1] at h
  subst e1
  grind
theorem dvd_sq {q m : Int} (h : q * q ∣ m * m) : q ∣ m := by
  have h1 : q.natAbs ^ 2 ∣ m.natAbs ^ 2 := by
    have := Int.natAbs_dvd_natAbs.mpr h
    rw [Int.natAbs_mul, Int.natAbs_mul] at this
    rw [Nat.pow_two, Nat.pow_two]
    exact this
  exact Int.natAbs_dvd_natAbs.mp ((Nat.pow_dvd_pow_iff (by decide)).mp h1)
/-- a number that is a fraction -/
theorem rat_root {a b c p q : Int} (g : Good a b c) (hp : 0 ≤ p) (hq : 1 ≤ q) (h : a * p * p + b * p * q = c * q * q) : parts a b c = (0, q / gc p q, p / gc p q) := by
  rcases g with ⟨rfl, b0, c0⟩ | ⟨a0, c0⟩
  · unfold parts
    rw [if_pos rfl]
    have h2 : c * q = p * b := by
      refine cancel (a := q) (by omega) ?_
      grind
    obtain ⟨e1, e2⟩ := low_eq (c := c) (b := b) (p := p) (q := q) (by omega) (by omega) h2
    rw [e1, e2]
  · have k : (b * b + 4 * a * c) * (q * q) = (2 * a * p + b * q) * (2 * a * p + b * q) := by grind
    obtain ⟨m, hm⟩ : q ∣ (2 * a * p + b * q) := dvd_sq ⟨b * b + 4 * a * c, by rw [← k, Int.mul_comm]⟩
    have qq : 0 < q * q := Int.mul_pos (by omega) (by omega)
    have d : b * b + 4 * a * c = m * m := by
      refine cancel qq ?_
      rw [hm] at k
      grind
    have hac : 0 < 4 * a * c := Int.mul_pos (by omega) (by omega)
    -- the root is m itself
    have m0 : 0 ≤ m := by
      refine Classical.byContradiction fun z => ?_
      have r := rt_gt (b := b) (r := -m) hac (by omega) (by rw [d]; grind)
      have e1 : 2 * a * p = q * (m - b) := by
        have : q * (m - b) = q * m - b * q := by grind
        omega
      have e2 : 0 ≤ 2 * a * p := Int.mul_nonneg (by omega) hp
      have e3 : q * (m - b) < 0 := Int.mul_neg_of_pos_of_neg (by omega) (by omega)
      omega
    have er : rt (b * b + 4 * a * c) = m := by
      refine (rt_of ⟨m0, by omega, ?_⟩).symm
      have : (m + 1) * (m + 1) = m * m + 2 * m + 1 := by grind
      omega
    unfold parts
    rw [if_neg (by omega), er, if_pos (by omega)]
    have h2 : (m - b) * q = p * (2 * a) := by
      have : (m - b) * q = q * m - b * q := by grind
      have : p * (2 * a) = 2 * a * p := by grind
      omega
    obtain ⟨e1, e2⟩ := low_eq (c := m - b) (b := 2 * a) (p := p) (q := q) (by omega) (by omega) h2
    rw [e1, e2]
/-- one equation a multiple of the other -/
theorem parts_prop {a b c a' b' c' : Int} (g : Good a b c) (g' : Good a' b' c') (h1 : a' * b = a * b') (h2 : a' * c = a * c') (h3 : b' * c = b * c') : parts a b c = parts a' b' c' := by
  rcases g with ⟨rfl, b0, c0⟩ | ⟨a0, c0⟩
  · have a1 : a' = 0 := by
      rw [Int.zero_mul] at h1
      rcases Int.mul_eq_zero.mp h1 with z | z <;> omega
    subst a1
    rcases g' with ⟨_, b0', c0'⟩ | g'
    · rw [rat_root (p := c) (q := b) (.inl ⟨rfl, b0, c0⟩) c0 b0 (by grind), rat_root (p := c) (q := b) (.inl ⟨rfl, b0', c0'⟩) c0 b0 ?_]
      have : b' * c * b = b * c' * b := by rw [h3]
      grind
    · omega
  · have gg : 1 ≤ a' ∧ 1 ≤ c' := by
      rcases g' with ⟨rfl, b1, c1⟩ | g'
      · rw [Int.zero_mul] at h1
        rcases Int.mul_eq_zero.mp h1.symm with z | z <;> omega
      · exact g'
    obtain ⟨a0', c0'⟩ := gg
    have ip := inside_pos (b := b) ⟨a0, c0⟩
    have ip' := inside_pos (b := b') ⟨a0', c0'⟩
    -- a root that is a fraction serves both
    have one : ∀ {r : Int}, 0 ≤ r → b * b + 4 * a * c = r * r → parts a b c = parts a' b' c' := fun {r} r0 e => by
      have rg := rt_gt ip.1 r0 e
      rw [rat_root (p := r - b) (q := 2 * a) (.inr ⟨a0, c0⟩) (by omega) (by omega) (by grind), rat_root (p := r - b) (q := 2 * a) (.inr ⟨a0', c0'⟩) (by omega) (by omega) ?_]
      refine cancel (a := a) (by omega) ?_
      have k : a' * (a * (r - b) * (r - b) + b * (r - b) * (2 * a)) = a' * (c * (2 * a) * (2 * a)) := by
        congr 1
        grind
      grind
    have two : ∀ {r : Int}, 0 ≤ r → b' * b' + 4 * a' * c' = r * r → parts a b c = parts a' b' c' := fun {r} r0 e => by
      have rg := rt_gt ip'.1 r0 e
      rw [rat_root (p := r - b') (q := 2 * a') (.inr ⟨a0', c0'⟩) (by omega) (by omega) (by grind), rat_root (p := r - b') (q := 2 * a') (.inr ⟨a0, c0⟩) (by omega) (by omega) ?_]
      refine cancel (a := a') (by omega) ?_
      have k : a * (a' * (r - b') * (r - b') + b' * (r - b') * (2 * a')) = a * (c' * (2 * a') * (2 * a')) := by
        congr 1
        grind
      grind
    by_cases e : rt (b * b + 4 * a * c) * rt (b * b + 4 * a * c) = b * b + 4 * a * c
    · exact one (rt_is ip.2).1 e.symm
    · by_cases e' : rt (b' * b' + 4 * a' * c') * rt (b' * b' + 4 * a' * c') = b' * b' + 4 * a' * c'
      · exact two (rt_is ip'.2).1 e'.symm
      · unfold parts
        rw [if_neg (by omega), if_neg e, if_neg (by omega), if_neg e']
        have G0 : 0 < gc (gc a b) c := gc_pos (.inr (by omega))
        have G0' : 0 < gc (gc a' b') c' := gc_pos (.inr (by omega))
        have eg : a' * gc (gc a b) c = a * gc (gc a' b') c' := by
          rw [← gc_mul (by omega), ← gc_mul (by omega), ← gc_mul (by omega), ← gc_mul (by omega), h1, h2, Int.mul_comm a' a]
        have x1 := ex_mul (Int.dvd_trans (gc_dvd1 (gc a b) c) (gc_dvd1 a b)) G0
        have x2 := ex_mul (Int.dvd_trans (gc_dvd1 (gc a b) c) (gc_dvd2 a b)) G0
        have x3 := ex_mul (gc_dvd2 (gc a b) c) G0
        have y1 := ex_mul (Int.dvd_trans (gc_dvd1 (gc a' b') c') (gc_dvd1 a' b')) G0'
        have y2 := ex_mul (Int.dvd_trans (gc_dvd1 (gc a' b') c') (gc_dvd2 a' b')) G0'
        have y3 := ex_mul (gc_dvd2 (gc a' b') c') G0'
        generalize a / gc (gc a b) c = A at *
        generalize b / gc (gc a b) c = B at *
        generalize c / gc (gc a b) c = D at *
        generalize a' / gc (gc a' b') c' = A' at *
        generalize b' / gc (gc a' b') c' = B' at *
        generalize c' / gc (gc a' b') c' = D' at *
        generalize gc (gc a b) c = G at *
        generalize gc (gc a' b') c' = G' at *
        have gg : 0 < G * G' := Int.mul_pos G0 G0'
        have ea : A = A' := by
          refine cancel gg ?_
          rw [x1, y1] at eg
          grind
        subst ea
        have Ap : 0 < A := by
          refine Classical.byContradiction fun z => ?_
          have := Int.mul_nonpos_of_nonneg_of_nonpos (Int.le_of_lt G0) (Int.not_lt.mp z)
          omega
        have ga : 0 < G * G' * A := Int.mul_pos gg Ap
        have eb : B = B' := by
          refine cancel ga ?_
          rw [x1, x2, y1, y2] at h1
          grind
        have ed : D = D' := by
          refine cancel ga ?_
          rw [x1, x3, y1, y3] at h2
          grind
        rw [eb, ed]
end RL

namespace RL
theorem mul_ab {x y X Y : Int} (hx : -X ≤ x ∧ x ≤ X) (hy : -Y ≤ y ∧ y ≤ Y) : -(X * Y) ≤ x * y ∧ x * y ≤ X * Y := by
  have X0 : 0 ≤ X := by omega
  have Y0 : 0 ≤ Y := by omega
  have a1 := Int.mul_nonneg (show 0 ≤ X - x by omega) (show 0 ≤ Y - y by omega)
  have a2 := Int.mul_nonneg (show 0 ≤ X + x by omega) (show 0 ≤ Y + y by omega)
  have a3 := Int.mul_nonneg (show 0 ≤ X - x by omega) (show 0 ≤ Y + y by omega)
  have a4 := Int.mul_nonneg (show 0 ≤ X + x by omega) (show 0 ≤ Y - y by omega)
  have e1 : (X - x) * (Y - y) = X * Y - X * y - x * Y + x * y := by grind
  have e2 : (X + x) * (Y + y) = X * Y + X * y + x * Y + x * y := by grind
  have e3 : (X - x) * (Y + y) = X * Y + X * y - x * Y - x * y := by grind
  have e4 : (X + x) * (Y - y) = X * Y - X * y + x * Y - x * y := by grind
  constructor <;> omega
structure Tiny (a b c : Int) : Prop where
  good : Good a b c
  ha : a ≤ 60
  hb : -61 ≤ b ∧ b ≤ 61
  hc : c ≤ 60
theorem Tiny.nn {a b c : Int} (h : Tiny a b c) : 0 ≤ a ∧ 0 ≤ c := by
  rcases h.good with g | g <;> omega
/-- how far the integer below is off -/
theorem off {a b c n N : Int} (t : Tiny a b c) (hN : 1 ≤ N) (hn : 0 ≤ n) (h1 : 0 ≤ Fv a b c n N) (h2 : Fv a b c (n + 1) N < 0) : n ≤ 62 * N ∧ Fv a b c n N ≤ 8000 * N := by
  obtain ⟨a0, c0⟩ := t.nn
  have nb : n ≤ 62 * N := by
    refine Classical.byContradiction fun q => ?_
    have q' : 62 * N < n := by omega
    rcases t.good with ⟨rfl, b0, _⟩ | ⟨a1, c1⟩
    · have e : Fv 0 b c n N = N * (c * N - b * n) := by unfold Fv; grind
      have k1 : n ≤ b * n := by
        have := Int.mul_le_mul_of_nonneg_right (a := 1) (b := b) (c := n) b0 hn
        omega
      have k2 : c * N ≤ 60 * N := Int.mul_le_mul_of_nonneg_right t.hc (by omega)
      have := Int.mul_neg_of_pos_of_neg (a := N) (b := c * N - b * n) (by omega) (by omega)
      omega
    · have k1 : n * n ≤ a * (n * n) := by
        have := Int.mul_le_mul_of_nonneg_right (a := 1) (b := a) (c := n * n) a1 (Int.mul_nonneg hn hn)
        omega
      have k2 : -61 * (n * N) ≤ b * (n * N) := Int.mul_le_mul_of_nonneg_right t.hb.1 (Int.mul_nonneg hn (by omega))
      have k3 : c * (N * N) ≤ 60 * (N * N) := Int.mul_le_mul_of_nonneg_right t.hc (Int.mul_nonneg (by omega) (by omega))
      have k4 : 62 * N * N ≤ n * (n - 61 * N) := Int.mul_le_mul (by omega) (by omega) (by omega) hn
      have e1 : Fv a b c n N = c * (N * N) - b * (n * N) - a * (n * n) := by unfold Fv; grind
      have e2 : n * (n - 61 * N) = n * n - 61 * (n * N) := by grind
      have e3 : 62 * N * N = 62 * (N * N) := by grind
      have k5 : 0 < N * N := Int.mul_pos (by omega) (by omega)
      omega
  refine ⟨nb, ?_⟩
  have e : Fv a b c n N - Fv a b c (n + 1) N = a * (2 * n + 1) + b * N := by unfold Fv; grind
  have k1 : a * (2 * n + 1) ≤ 60 * (2 * n + 1) := Int.mul_le_mul_of_nonneg_right t.ha (by omega)
  have k2 : b * N ≤ 61 * N := Int.mul_le_mul_of_nonneg_right t.hb.2 (by omega)
  omega
theorem sep {a b c a' b' c' n : Int} (t : Tiny a b c) (t' : Tiny a' b' c') (hn : 0 ≤ n)
    (h1 : 0 ≤ Fv a b c n 1000000000000000000000000000000) (h2 : Fv a b c (n + 1) 1000000000000000000000000000000 < 0)
    (h1' : 0 ≤ Fv a' b' c' n 1000000000000000000000000000000) (h2' : Fv a' b' c' (n + 1) 1000000000000000000000000000000 < 0) : parts a b c = parts a' b' c' := by
  obtain ⟨nb, k1⟩ := off t (by decide) hn h1 h2
  obtain ⟨_, k1'⟩ := off t' (by decide) hn h1' h2'
  obtain ⟨a0, c0⟩ := t.nn
  obtain ⟨a0', c0'⟩ := t'.nn
  have bA := t.ha
  have bA' := t'.ha
  have bC := t.hc
  have bC' := t'.hc
  have e1 : a' * Fv a b c n 1000000000000000000000000000000 - a * Fv a' b' c' n 1000000000000000000000000000000 = -(1000000000000000000000000000000 * ((a' * b - a * b') * n - (a' * c - a * c') * 1000000000000000000000000000000)) := by unfold Fv; grind
  have m1 := mul_ab (x := a') (y := Fv a b c n 1000000000000000000000000000000) (X := 60) (Y := 8000 * 1000000000000000000000000000000) (by omega) (by omega)
  have m1' := mul_ab (x := a) (y := Fv a' b' c' n 1000000000000000000000000000000) (X := 60) (Y := 8000 * 1000000000000000000000000000000) (by omega) (by omega)
  have m1n : 0 ≤ a' * Fv a b c n 1000000000000000000000000000000 := Int.mul_nonneg a0' h1
  have m1n' : 0 ≤ a * Fv a' b' c' n 1000000000000000000000000000000 := Int.mul_nonneg a0 h1'
  -- the line's rest
  have eps : -480000 ≤ (a' * b - a * b') * n - (a' * c - a * c') * 1000000000000000000000000000000 ∧ (a' * b - a * b') * n - (a' * c - a * c') * 1000000000000000000000000000000 ≤ 480000 := by omega
  have s1 := mul_ab (x := a') (y := b) (X := 60) (Y := 61) (by omega) t.hb
  have s2 := mul_ab (x := a) (y := b') (X := 60) (Y := 61) (by omega) t'.hb
  have s3 := mul_ab (x := a') (y := c) (X := 60) (Y := 60) (by omega) (by omega)
  have s4 := mul_ab (x := a) (y := c') (X := 60) (Y := 60) (by omega) (by omega)
  have hs : -7320 ≤ a' * b - a * b' ∧ a' * b - a * b' ≤ 7320 := by omega
  have hh : -7200 ≤ a' * c - a * c' ∧ a' * c - a * c' ≤ 7200 := by omega
  -- the equation's own rest at the line's zero
  have rest : ∀ (u v w : Int), Tiny u v w → 0 ≤ Fv u v w n 1000000000000000000000000000000 → Fv u v w n 1000000000000000000000000000000 ≤ 8000 * 1000000000000000000000000000000 →
      w * (a' * b - a * b') * (a' * b - a * b') - v * (a' * c - a * c') * (a' * b - a * b') - u * (a' * c - a * c') * (a' * c - a * c') = 0 := fun u v w tt f0 f1 => by
    obtain ⟨u0, w0⟩ := tt.nn
    have bu := tt.ha
    have bv := tt.hb
    generalize a' * b - a * b' = S at *
    generalize a' * c - a * c' = T at *
    generalize ee : S * n - T * 1000000000000000000000000000000 = ε at *
    have key : 1000000000000000000000000000000 * (1000000000000000000000000000000 * (w * S * S - v * T * S - u * T * T)) = S * S * Fv u v w n 1000000000000000000000000000000 + 1000000000000000000000000000000 * (ε * (v * S + 2 * u * T)) + u * (ε * ε) := by
      unfold Fv
      subst ee
      grind
    have q1 := mul_ab (x := S) (y := S) hs hs
    have q2 := mul_ab (x := S * S) (y := Fv u v w n 1000000000000000000000000000000) (X := 7320 * 7320) (Y := 8000 * 1000000000000000000000000000000) q1 (by omega)
    have q3 := mul_ab (x := v) (y := S) bv hs
    have q4 := mul_ab (x := u) (y := T) (X := 60) (Y := 7200) (by omega) hh
    have q5 := mul_ab (x := ε) (y := v * S + 2 * u * T) (X := 480000) (Y := 61 * 7320 + 2 * (60 * 7200)) eps (by
      have : 2 * u * T = 2 * (u * T) := by grind
      omega)
    have q6 := mul_ab (x := ε) (y := ε) eps eps
    have q7 := mul_ab (x := u) (y := ε * ε) (X := 60) (Y := 480000 * 480000) (by omega) q6
    omega
  have R := rest a b c t h1 k1
  have R' := rest a' b' c' t' h1' k1'
  have g := t.good
  have g' := t'.good
  by_cases z : a' * b - a * b' = 0
  · rw [z] at eps
    have z2 : a' * c - a * c' = 0 := by
      generalize a' * c - a * c' = T at *
      omega
    rcases g with ⟨rfl, b0, _⟩ | ⟨a1, c1⟩
    · have az : a' = 0 := by
        have : a' * b = 0 := by omega
        rcases Int.mul_eq_zero.mp this with y | y <;> omega
      subst az
      rcases g' with ⟨_, b0', _⟩ | g'
      · -- two fractions
        have bb := t.hb
        have bb' := t'.hb
        have e2 : Fv 0 b c n 1000000000000000000000000000000 - Fv 0 b c (n + 1) 1000000000000000000000000000000 = b * 1000000000000000000000000000000 := by unfold Fv; grind
        have e2' : Fv 0 b' c' n 1000000000000000000000000000000 - Fv 0 b' c' (n + 1) 1000000000000000000000000000000 = b' * 1000000000000000000000000000000 := by unfold Fv; grind
        have e3 : b' * Fv 0 b c n 1000000000000000000000000000000 - b * Fv 0 b' c' n 1000000000000000000000000000000 = 1000000000000000000000000000000 * (1000000000000000000000000000000 * (b' * c - b * c')) := by unfold Fv; grind
        have w1 := mul_ab (x := b') (y := Fv 0 b c n 1000000000000000000000000000000) (X := 61) (Y := 61 * 1000000000000000000000000000000) (by omega) (by omega)
        have w2 := mul_ab (x := b) (y := Fv 0 b' c' n 1000000000000000000000000000000) (X := 61) (Y := 61 * 1000000000000000000000000000000) (by omega) (by omega)
        refine parts_prop t.good t'.good (by omega) (by omega) ?_
        generalize b' * c = M at *
        generalize b * c' = M' at *
        omega
      · omega
    · refine parts_prop t.good t'.good (by omega) (by omega) ?_
      refine cancel (a := a) (by omega) ?_
      have y1 : a' * b = a * b' := by omega
      have y2 : a' * c = a * c' := by omega
      have : a * (b' * c) = a * b' * c := by grind
      rw [this, ← y1]
      have : a * (b * c') = b * (a * c') := by grind
      rw [this, ← y2]
      grind
  · generalize a' * b - a * b' = S at *
    generalize a' * c - a * c' = T at *
    rcases Int.lt_or_le 0 S with sp | sp
    · have T0 : 0 ≤ T := by
        have := Int.mul_nonneg (Int.le_of_lt sp) hn
        omega
      rw [rat_root (p := T) (q := S) t.good T0 sp (by grind), rat_root (p := T) (q := S) t'.good T0 sp (by grind)]
    · have T0 : 0 ≤ -T := by
        have := Int.mul_nonneg (show 0 ≤ -S by omega) hn
        have e : -S * n = -(S * n) := by grind
        omega
      rw [rat_root (p := -T) (q := -S) t.good T0 (by omega) (by grind), rat_root (p := -T) (q := -S) t'.good T0 (by omega) (by grind)]
end RL

namespace RL
theorem Nrm.fv {a b c s l w x y : Int} (N : Nrm a b c s l w) (hx : 0 ≤ x) (hy : 1 ≤ y) : (Fv s l w x y < 0 ↔ Fv a b c x y < 0) ∧ (0 ≤ Fv s l w x y ↔ 0 ≤ Fv a b c x y) := by
  obtain ⟨k1, k2⟩ := N.sgn x y hx hy
  have e : Fv a b c x y = -(a * x * x + b * x * y - c * y * y) := by unfold Fv; omega
  have e2 : Fv s l w x y = w * y * y - l * x * y - s * x * x := rfl
  rw [e, e2]
  generalize w * y * y - l * x * y - s * x * x = u at *
  generalize a * x * x + b * x * y - c * y * y = v at *
  constructor <;> constructor <;> intro h <;> omega
theorem sg_nn {n : Int} (h : 0 ≤ sg n) : 0 ≤ n := by
  refine Classical.byContradiction fun z => ?_
  rw [sg_neg (by omega)] at h
  omega
theorem sg_m1 {n : Int} (h : sg n = -1) : n < 0 := by
  refine Classical.byContradiction fun z => ?_
  rcases Int.lt_or_le 0 n with q | q
  · rw [sg_pos q] at h
    omega
  · have : n = 0 := by omega
    subst this
    rw [sg_zero] at h
    omega
theorem flo_fv {a b c t : Int} (g : Good a b c) (ht : 1 ≤ t) : 0 ≤ flo a b c t ∧ 0 ≤ Fv a b c (flo a b c t) t ∧ Fv a b c (flo a b c t + 1) t < 0 := by
  obtain ⟨h0, h1, h2⟩ := flo_is g ht
  exact ⟨h0, sg_nn h1, sg_m1 h2⟩
abbrev ordP (p q : Int × Int × Int) : Int := ord p.1 p.2.1 p.2.2 q.1 q.2.1 q.2.2
theorem flo_lt {a b c a' b' c' t : Int} (g : Good a b c) (g' : Good a' b' c') (ht : 1 ≤ t) (h : flo a b c t < flo a' b' c' t) : ordP (parts a b c) (parts a' b' c') = -1 ∧ ordP (parts a' b' c') (parts a b c) = 1 := by
  obtain ⟨h0, h1, h2⟩ := flo_fv g ht
  obtain ⟨h0', h1', h2'⟩ := flo_fv g' ht
  have N := parts_nrm g
  have N' := parts_nrm g'
  have k : Fv a b c (flo a' b' c' t) t < 0 := fv_down g (by omega) ht h0' ht h2 (Int.mul_le_mul_of_nonneg_right (by omega) (by omega))
  have f := (N.fv h0' ht).1.mpr k
  have f' := (N'.fv h0' ht).2.mpr h1'
  exact ⟨ord_lt N.good N'.good h0' ht f f', ord_gt N.good N'.good h0' ht f f'⟩
def dueAt (a b c a' b' c' : Int) : List Nat → Int
  | [] => 0
  | n :: r => if flo a b c (10 ^ n) = flo a' b' c' (10 ^ n) then dueAt a b c a' b' c' r else if flo a b c (10 ^ n) < flo a' b' c' (10 ^ n) then -1 else 1
def dueV (a b c a' b' c' : Int) : Int := if parts a b c = parts a' b' c' then 0 else dueAt a b c a' b' c' [3, 12, 30]
theorem ten_pos (n : Nat) : (1 : Int) ≤ 10 ^ n := by
  have e : ((10 ^ n : Nat) : Int) = 10 ^ n := by rw [Int.natCast_pow]; rfl
  have : 0 < 10 ^ n := Nat.pow_pos (by decide)
  rw [← e]
  omega
theorem dueAt_ok {a b c a' b' c' : Int} (g : Good a b c) (g' : Good a' b' c') : ∀ ns : List Nat, (∃ n ∈ ns, flo a b c (10 ^ n) ≠ flo a' b' c' (10 ^ n)) →
    ordP (parts a b c) (parts a' b' c') = dueAt a b c a' b' c' ns ∧ ordP (parts a' b' c') (parts a b c) = -dueAt a b c a' b' c' ns ∧ dueAt a b c a' b' c' ns ≠ 0
  | [], h => by
    obtain ⟨n, hn, _⟩ := h
    cases hn
  | n :: r, h => by
    unfold dueAt
    split
    · rename_i e
      refine dueAt_ok g g' r ?_
      obtain ⟨m, hm, q⟩ := h
      rcases List.mem_cons.mp hm with rfl | hm
      · exact absurd e q
      · exact ⟨m, hm, q⟩
    · rename_i e
      split
      · rename_i l
        obtain ⟨q1, q2⟩ := flo_lt g g' (ten_pos n) l
        exact ⟨q1, q2, by decide⟩
      · rename_i l
        obtain ⟨q1, q2⟩ := flo_lt g' g (ten_pos n) (show flo a' b' c' (10 ^ n) < flo a b c (10 ^ n) by omega)
        exact ⟨q2, q1, by decide⟩
theorem due_ok {a b c a' b' c' : Int} (g : Good a b c) (g' : Good a' b' c') (t : parts a b c = parts a' b' c' ∨ (Tiny a b c ∧ Tiny a' b' c')) :
    ordP (parts a b c) (parts a' b' c') = dueV a b c a' b' c' ∧ ordP (parts a' b' c') (parts a b c) = -dueV a b c a' b' c' ∧ (dueV a b c a' b' c' = 0 ↔ parts a b c = parts a' b' c') := by
  unfold dueV
  by_cases e : parts a b c = parts a' b' c'
  · rw [if_pos e, ← e]
    have N := parts_nrm g
    refine ⟨ord_self N.good, ?_, fun _ => rfl, fun _ => rfl⟩
    show ord _ _ _ _ _ _ = -0
    rw [ord_self N.good]
    rfl
  · rw [if_neg e]
    rcases t with t | ⟨t, t'⟩
    · exact absurd t e
    · have k : ∃ n ∈ [3, 12, 30], flo a b c (10 ^ n) ≠ flo a' b' c' (10 ^ n) := by
        refine ⟨30, by simp, fun z => e ?_⟩
        have e30 : (10 : Int) ^ 30 = 1000000000000000000000000000000 := by decide
        rw [e30] at z
        obtain ⟨h0, h1, h2⟩ := flo_fv g (t := 1000000000000000000000000000000) (by decide)
        obtain ⟨h0', h1', h2'⟩ := flo_fv g' (t := 1000000000000000000000000000000) (by decide)
        rw [← z] at h1' h2'
        exact sep t t' h0 h1 h2 h1' h2'
      obtain ⟨q1, q2, q3⟩ := dueAt_ok g g' _ k
      exact ⟨q1, q2, fun z => absurd z q3, fun z => absurd z e⟩
/-! ### k + sqrt(k * k + 1) and sqrt(4 * k * k + 2) -/
theorem gc_one (x : Int) : gc 1 x = 1 := by
  unfold gc
  simp
theorem near1 {k : Int} (hk : 1 ≤ k) : parts 1 (-2 * k) 1 = (1, -2 * k, 1) := by
  have r : rt (-2 * k * (-2 * k) + 4 * 1 * 1) = 2 * k := by
    refine (rt_of ⟨by omega, ?_, ?_⟩).symm
    · have : 2 * k * (2 * k) = -2 * k * (-2 * k) := by grind
      omega
    · have e1 : (2 * k + 1) * (2 * k + 1) = -2 * k * (-2 * k) + 4 * k + 1 := by grind
      omega
  unfold parts
  rw [if_neg (by decide), r, if_neg ?_]
  · have g2 : gc 1 1 = 1 := by decide
    rw [gc_one, g2]
    simp
  · have : 2 * k * (2 * k) = -2 * k * (-2 * k) := by grind
    omega
theorem near2 {k : Int} (hk : 1 ≤ k) : parts 1 0 (4 * k * k + 2) = (1, 0, 4 * k * k + 2) := by
  have e0 : 0 * 0 + 4 * 1 * (4 * k * k + 2) = 16 * (k * k) + 8 := by grind
  have r : rt (0 * 0 + 4 * 1 * (4 * k * k + 2)) = 4 * k := by
    rw [e0]
    refine (rt_of ⟨by omega, ?_, ?_⟩).symm
    · have : 4 * k * (4 * k) = 16 * (k * k) := by grind
      omega
    · have e1 : (4 * k + 1) * (4 * k + 1) = 16 * (k * k) + 8 * k + 1 := by grind
      omega
  unfold parts
  rw [if_neg (by decide), r, if_neg ?_]
  · rw [gc_one, gc_one]
    simp
  · rw [e0]
    have : 4 * k * (4 * k) = 16 * (k * k) := by grind
    omega
theorem near_ord {k : Int} (hk : 1 ≤ k) : ord 1 (-2 * k) 1 1 0 (4 * k * k + 2) = -1 ∧ ord 1 0 (4 * k * k + 2) 1 (-2 * k) 1 = 1 := by
  have kk : 0 ≤ k * k := sq_nn k
  have e4 : 4 * k * k = 4 * (k * k) := by grind
  refine ⟨?_, ?_⟩
  · unfold ord
    rw [if_neg (by decide)]
    have a1 : -2 * k * 1 - 0 * 1 = -(2 * k) := by omega
    have a2 : 1 * 1 - (4 * k * k + 2) * 1 = -(4 * k * k + 1) := by omega
    rw [a1, a2]
    unfold sal sal0
    rw [if_pos (by omega), if_neg (by omega), Int.neg_neg, Int.neg_neg, Int.neg_neg]
    have f : beside 1 0 (4 * k * k + 2) (4 * k * k + 1) (2 * k) = -1 := by
      refine sg_neg ?_
      have : (4 * k * k + 2) * (2 * k) * (2 * k) - 0 * (4 * k * k + 1) * (2 * k) - 1 * (4 * k * k + 1) * (4 * k * k + 1) = -1 := by grind
      omega
    rw [f]
  · unfold ord
    rw [if_neg (by decide)]
    have a1 : 0 * 1 - -2 * k * 1 = 2 * k := by omega
    have a2 : (4 * k * k + 2) * 1 - 1 * 1 = 4 * k * k + 1 := by omega
    rw [a1, a2]
    unfold sal sal0
    rw [if_neg (by omega), if_neg (by omega)]
    have f : beside 1 (-2 * k) 1 (4 * k * k + 1) (2 * k) = -1 := by
      refine sg_neg ?_
      have : 1 * (2 * k) * (2 * k) - -2 * k * (4 * k * k + 1) * (2 * k) - 1 * (4 * k * k + 1) * (4 * k * k + 1) = -1 := by grind
      omega
    rw [f]
    decide
/-! ### a number and a fraction -/
theorem sg_scale {k u : Int} (hk : 0 < k) : sg (k * u) = sg u := by
  have q := pos_iff (u := u) hk
  unfold sg
  by_cases p : 0 < u
  · rw [if_pos p, if_pos (q.1.mpr p)]
  · by_cases z : u = 0
    · subst z
      rw [Int.mul_zero]
    · have h1 : ¬ 0 < k * u := fun t => p (q.1.mp t)
      have h2 : ¬ k * u = 0 := fun t => z (q.2.mp t)
      rw [if_neg p, if_pos (show u < 0 by omega), if_neg h1, if_pos (show k * u < 0 by omega)]
theorem sg_opp (u : Int) : sg (-u) = -sg u := by
  unfold sg
  by_cases p : 0 < u
  · rw [if_pos p, if_neg (by omega), if_pos (by omega)]
  · by_cases z : u < 0
    · rw [if_neg p, if_pos z, if_pos (by omega)]
      decide
    · rw [if_neg p, if_neg z, if_neg (by omega), if_neg (by omega)]
      decide
theorem ord_frac {a b c y v : Int} (g : Good a b c) (hy : 1 ≤ y) (hv : 0 ≤ v) : ordP (parts a b c) (parts 0 y v) = side a b c v y ∧ ordP (parts 0 y v) (parts a b c) = -side a b c v y := by
  have N := parts_nrm g
  have g0 : 0 < gc v y := gc_pos (.inr (by omega))
  have ey := ex_mul (gc_dvd2 v y) g0
  have ev := ex_mul (gc_dvd1 v y) g0
  have epr : parts 0 y v = (0, y / gc v y, v / gc v y) := by unfold parts; rw [if_pos rfl]
  rw [epr]
  have y1 : 1 ≤ y / gc v y := by
    refine Classical.byContradiction fun z => ?_
    have := Int.mul_nonpos_of_nonneg_of_nonpos (a := gc v y) (b := y / gc v y) (by omega) (by omega)
    omega
  have v1 : 0 ≤ v / gc v y := Int.ediv_nonneg hv (by omega)
  have es : side a b c v y = side a b c (v / gc v y) (y / gc v y) := by
    have := side_same (a := a) (b := b) (c := c) (x := v / gc v y) (y := y / gc v y) (k := gc v y) (by omega) y1
    rw [← ev, ← ey] at this
    exact this
  rw [es, ← N.side v1 y1]
  generalize y / gc v y = Y at *
  generalize v / gc v y = W at *
  have gd := N.good
  show ord (parts a b c).1 (parts a b c).2.1 (parts a b c).2.2 0 Y W = _ ∧ ord 0 Y W (parts a b c).1 (parts a b c).2.1 (parts a b c).2.2 = _
  generalize (parts a b c).1 = s at *
  generalize (parts a b c).2.1 = l at *
  generalize (parts a b c).2.2 = w at *
  refine ⟨?_, ?_⟩
  · unfold ord
    rw [if_pos rfl]
  · unfold ord
    split
    · rename_i z
      subst z
      rcases gd with ⟨_, l0, w0⟩ | ⟨zz, _⟩
      · unfold beside
        have e1 : W * l * l - Y * w * l - 0 * w * w = l * (W * l - Y * w) := by grind
        have e2 : w * Y * Y - l * W * Y - 0 * W * W = Y * -(W * l - Y * w) := by grind
        rw [e1, e2, sg_scale (by omega), sg_scale (by omega), sg_opp, Int.neg_neg]
      · omega
    · rename_i z
      have s0 : 1 ≤ s := by rcases gd with g | g <;> omega
      rw [Int.mul_zero, Int.mul_zero, Int.sub_zero, Int.sub_zero]
      have p1 : 0 < Y * s := Int.mul_pos (by omega) (by omega)
      have p2 : 0 ≤ W * s := Int.mul_nonneg v1 (by omega)
      unfold sal sal0
      rw [if_neg (by omega), if_neg (by omega)]
      unfold beside
      have e1 : w * (Y * s) * (Y * s) - l * (W * s) * (Y * s) - s * (W * s) * (W * s) = s * s * (w * Y * Y - l * W * Y - s * W * W) := by grind
      rw [e1, sg_scale (Int.mul_pos (by omega) (by omega))]
end RL

/-! The texts of numbers, and that repr of what is told fits. -/
namespace RL
open PySem L2
def ts (i : Int) : Str := Str.ofString (toString i)
structure OkT (n : Nat) (x : Str) : Prop where
  len : x.length ≤ n
  cps : ∀ c ∈ x.cps.toList, c < 16 ^ 8
theorem OkT.mono {m n : Nat} {x : Str} (h : OkT m x) (l : m ≤ n) : OkT n x := ⟨Nat.le_trans h.len l, h.cps⟩
theorem OkT.of (s : String) : OkT s.length (Str.ofString s) := by
  refine ⟨Nat.le_of_eq (ofString_length s), fun c hc => ?_⟩
  rw [PyProof.Rows.signs_ofString] at hc
  obtain ⟨ch, _, rfl⟩ := List.mem_map.mp hc
  have h1 : ch.toNat < 2 ^ 32 := ch.val.toNat_lt
  have h2 : (16 : Nat) ^ 8 = 2 ^ 32 := by decide
  omega
theorem OkT.app {m n : Nat} {x y : Str} (h : OkT m x) (k : OkT n y) : OkT (m + n) (x ++ y) := by
  refine ⟨?_, fun c hc => ?_⟩
  · rw [Str.length_append]
    have := h.len
    have := k.len
    omega
  · have e : (x ++ y).cps.toList = x.cps.toList ++ y.cps.toList := by
      show (x.cps ++ y.cps).toList = _
      rw [Array.toList_append]
    rw [e] at hc
    exact (List.mem_append.mp hc).elim (h.cps c) (k.cps c)
theorem log_sm {n : Nat} {i : Int} (hn : 0 < n) (h : Sm n i) : i.natAbs.log2 < n := PySem.Flt.log2_lt_of hn h
theorem ts_ok {i : Int} (h : Sm 200 i) : OkT 201 (ts i) := (OkT.of (toString i)).mono (int_text_length_le (by decide) (log_sm (by decide) h))
theorem show_int {i : Int} (h : Sm 200 i) : (PyData.int i).showable = true ∧ (PyData.int i).leavesShort 300 = true ∧ (PyData.int i).weight ≤ 200 := by
  have l := log_sm (by decide) h
  refine ⟨?_, ?_, ?_⟩
  · show decide (i.natAbs.log2 < 1920) = true
    exact decide_eq_true (by omega)
  · show decide ((PyData.shown (.int i)).length ≤ 300) = true
    refine decide_eq_true ?_
    have e : PyData.shown (.int i) = ts i := rfl
    rw [e]
    exact Nat.le_trans (ts_ok h).len (by decide)
  · show (if i == 0 then 0 else i.natAbs.log2 + 1) ≤ 200
    split <;> omega
theorem show_str {n : Nat} {x : Str} (h : OkT n x) : (PyData.str x).leavesShort 300 = true ∧ (PyData.str x).weight ≤ n := by
  refine ⟨?_, h.len⟩
  show (x.cps.toList.all fun c => decide (c < 16 ^ 8)) = true
  rw [List.all_eq_true]
  exact fun c hc => decide_eq_true (h.cps c hc)
structure Shows (d : PyData) : Prop where
  s : d.showable = true
  n : d.hasDict = false
  p : d.depth ≤ 40
  l : d.shown.length ≤ sizeLine
/-- the four things that are told of a number -/
theorem shows_root {a b c : Int} {x y : Str} (ha : Sm 200 a) (hb : Sm 200 b) (hc : Sm 200 c) (hx : OkT 2000 x) (hy : OkT 2000 y) : Shows (.list [.tuple [.int a, .int b, .int c], .none, .str x, .str y]) := by
  obtain ⟨a1, a2, a3⟩ := show_int ha
  obtain ⟨b1, b2, b3⟩ := show_int hb
  obtain ⟨c1, c2, c3⟩ := show_int hc
  obtain ⟨x1, x2⟩ := show_str hx
  obtain ⟨y1, y2⟩ := show_str hy
  refine ⟨?_, rfl, (by simp [PyData.depth, PyData.depthAll]), ?_⟩
  · simp only [PyData.showable, PyData.showableAll] at a1 b1 c1 ⊢
    simp [a1, b1, c1]
  · have hl : (PyData.list [.tuple [.int a, .int b, .int c], .none, .str x, .str y]).leavesShort 300 = true := by
      simp only [PyData.leavesShort, PyData.leavesShortAll] at a2 b2 c2 x1 y1 ⊢
      simp only [a2, b2, c2, x1, y1, Bool.and_self]
    have hw := PyData.shown_le 300 (by decide) _ hl
    have e : (PyData.list [.tuple [.int a, .int b, .int c], .none, .str x, .str y]).weight = ((PyData.int a).weight + 1 + ((PyData.int b).weight + 1 + ((PyData.int c).weight + 1 + 0))) + 1 + (0 + 1 + ((PyData.str x).weight + 1 + ((PyData.str y).weight + 1 + 0))) := rfl
    rw [e] at hw
    rw [sizeLine_eq]
    omega
theorem shows_frac {a b c d e : Int} {x y : Str} (ha : Sm 200 a) (hb : Sm 200 b) (hc : Sm 200 c) (hd : Sm 200 d) (he : Sm 200 e) (hx : OkT 2000 x) (hy : OkT 2000 y) : Shows (.list [.tuple [.int a, .int b, .int c], .tuple [.int d, .int e], .str x, .str y]) := by
  obtain ⟨a1, a2, a3⟩ := show_int ha
  obtain ⟨b1, b2, b3⟩ := show_int hb
  obtain ⟨c1, c2, c3⟩ := show_int hc
  obtain ⟨d1, d2, d3⟩ := show_int hd
  obtain ⟨e1, e2, e3⟩ := show_int he
  obtain ⟨x1, x2⟩ := show_str hx
  obtain ⟨y1, y2⟩ := show_str hy
  refine ⟨?_, rfl, (by simp [PyData.depth, PyData.depthAll]), ?_⟩
  · simp only [PyData.showable, PyData.showableAll] at a1 b1 c1 d1 e1 ⊢
    simp [a1, b1, c1, d1, e1]
  · have hl : (PyData.list [.tuple [.int a, .int b, .int c], .tuple [.int d, .int e], .str x, .str y]).leavesShort 300 = true := by
      simp only [PyData.leavesShort, PyData.leavesShortAll] at a2 b2 c2 d2 e2 x1 y1 ⊢
      simp only [a2, b2, c2, d2, e2, x1, y1, Bool.and_self]
    have hw := PyData.shown_le 300 (by decide) _ hl
    have e' : (PyData.list [.tuple [.int a, .int b, .int c], .tuple [.int d, .int e], .str x, .str y]).weight = ((PyData.int a).weight + 1 + ((PyData.int b).weight + 1 + ((PyData.int c).weight + 1 + 0))) + 1 + (((PyData.int d).weight + 1 + ((PyData.int e).weight + 1 + 0)) + 1 + ((PyData.str x).weight + 1 + ((PyData.str y).weight + 1 + 0))) := rfl
    rw [e'] at hw
    rw [sizeLine_eq]
    omega
/-! ### the texts -/
def commas (a b c : Int) : Str := ts a ++ ", " ++ ts b ++ ", " ++ ts c
theorem join3 (x y z : Str) : Txt.join ", " [x, y, z] = x ++ ", " ++ y ++ ", " ++ z := by
  show Builtin.Str.glued ", " [x, y, z] = _
  rw [StrLaws.glued_eq_join]
  show x ++ ", " ++ (y ++ ", " ++ z) = _
  simp only [Str.append_assoc]
def ftext (t b : Int) : Str := if b = 1 then ts t else ts t ++ "/" ++ ts b
def xtext (s l w : Int) : Str := if s = 0 then ftext w l else "root of " ++ commas s l w
def rtext (s l w : Int) : Str := "Exact(" ++ commas s l w ++ ")"
theorem commas_ok {a b c : Int} (ha : Sm 200 a) (hb : Sm 200 b) (hc : Sm 200 c) : OkT 700 (commas a b c) := ((((((ts_ok ha).app (OkT.of ", ")).app (ts_ok hb)).app (OkT.of ", ")).app (ts_ok hc))).mono (by decide)
theorem ftext_ok {t b : Int} (ht : Sm 200 t) (hb : Sm 200 b) : OkT 700 (ftext t b) := by
  unfold ftext
  split
  · exact (ts_ok ht).mono (by decide)
  · exact (((ts_ok ht).app (OkT.of "/")).app (ts_ok hb)).mono (by decide)
theorem xtext_ok {a b c : Int} (ha : Sm 200 a) (hb : Sm 200 b) (hc : Sm 200 c) : OkT 1000 (xtext a b c) := by
  unfold xtext
  split
  · exact (ftext_ok hc hb).mono (by decide)
  · exact ((OkT.of "root of ").app (commas_ok ha hb hc)).mono (by decide)
theorem rtext_ok {a b c : Int} (ha : Sm 200 a) (hb : Sm 200 b) (hc : Sm 200 c) : OkT 1000 (rtext a b c) := (((OkT.of "Exact(").app (commas_ok ha hb hc)).app (OkT.of ")")).mono (by decide)
theorem OkT.fits {n : Nat} {x : Str} (h : OkT n x) (l : n ≤ 100000 := by decide) : x.length ≤ sizeLine := by
  have := h.len
  rw [sizeLine_eq]
  omega
end RL

set_option maxHeartbeats 1000000
/-! Further rules: o.f as a target within a tuple; an own binary operator; a static method read off its class; an instance called by keyword; t[::-1] of a tuple; x in a tuple of data. -/
namespace RL
open PySem L2 PySem.Spec PyProof.Rows PySem.W
section
variable {X : Cx}
def gFld (K : PySem.W.Frag) (ta : TE) (f : Str) : TG := fun v σ H Q => ta σ H fun x H1 => ∃ a C dx fs, x = .ref a ∧ H1 a = some (.ins C dx fs) ∧ Cls K C ∧ NoAttr K C f ∧ fs.length < 1000 ∧ Q σ (upd H1 a (.ins C dx (putF f v fs)))
theorem pg_fld {o : Expr} {f : Str} {pos : Pos} {ta : TE} (ho : PE X o ta) (ha : ∀ v, assign (.Attribute o f pos) X.env v = (do
      let ov ← holding [v] (eval o X.env)
      standAt pos.atName
      holding [v, ov] (setAttr ov f v)
      release [v, ov] []) := by intro _; rfl) : PG X (.Attribute o f pos) (gFld X.K ta f) := by
  refine ⟨fun pins s σ H v u Q I r h => ?_⟩
  rw [ha]
  refine wpAny_bind (wpAny_holding (thn (ho.run pins s σ H _ I h) fun ov s1 ⟨x, H1, I1, r1, a, C, dx, fs, ex, ea, c, n, l, q⟩ => ?_))
  subst ex
  obtain rfl : ov = Value.ref a := r1
  refine wpAny_bind (wpAny_standAt (wpAny_bind (wpAny_holding (setattr_ok I1 ea c n l r fun s2 I2 => ?_))))
  exact wpAny_release ⟨σ, _, I2, q⟩
end
/-! ### an own binary operator -/
section
variable {X : Cx} {k : Nat} {ps : List Str} {sp : Sp} {C g : Addr} {fd : FuncData}
def rBinOwn (C : Addr) (sp : Sp) : R2 := fun x y H Q => ∃ a dx fs b dy gs, x = .ref a ∧ H a = some (.ins C dx fs) ∧ y = .ref b ∧ H b = some (.ins C dy gs) ∧ sp [x, y] H Q E0
theorem op_binOwn {op : Operator} (hc : PySem.W.selfFirst X.K C = true) (hs : PySem.W.findIn X.K (.ref C) (PySem.dunder op.info.2) = some (some (.ref g))) (hf : PySem.W.isFn X.K (.ref g) = true) (F : FnOk X.prog X.w X.K X.mg X.base CX0 k g fd ps sp) (hb : Binds X.K fd ps []) (hr : Room k X.A) :
    OpR X (binaryOp op) (rBinOwn C sp) := by
  intro pins s σ H x y v u Q I rx ry h
  obtain ⟨a, dx, fs, b, dy, gs, rfl, ha, rfl, hy, q⟩ := h
  cases (show v = Value.ref a from rx)
  cases (show u = Value.ref b from ry)
  obtain ⟨mA, O, _⟩ := ins_get I.hok ha
  obtain ⟨od, J, _⟩ := O.look
  obtain ⟨mB, O2, _⟩ := ins_get I.hok hy
  obtain ⟨od2, J2, _⟩ := O2.look
  obtain ⟨m, hF⟩ := I.fr
  refine PySem.W.binop_K hF I.ok.mod.kin J J2.type hc hs hf ?_
  have q0 : sp ([.ref a, .ref b] ++ []) H Q E0 := q
  refine wpAny_mono (run_fn (us := [.ref a, .ref b]) (vs := [.ref a, .ref b]) F hr hb .nil pass0 I (.cons rfl (.cons rfl .nil)) q0) (fun w s' z => ?_) fun _ _ z => z
  obtain ⟨z', H', I', rz, qz⟩ := z
  exact SlX.cmpback rz ⟨z', H', I', rz, qz⟩
end
/-! ### C.m(..), m a static method -/
structure SMet (K : PySem.W.Frag) (C : Addr) (mc : Value) (m : Str) (p g : Addr) : Prop where
  at_ : PySem.W.findCls K (.ref C) mc m = some (.get (.builtin "staticmethod.__get__") (.ref p) .none (.ref C))
  rc : ∃ rest, PySem.W.recIn K p "staticmethod" = some (.ref g :: rest)
  kp : PySem.W.keepIn K (.ref g) = true
def tSMeth (C : Addr) (sp : Sp) (ta : TE) (t : TA) : TE := fun σ H Q => ta σ H fun x H1 => x = .ref C ∧ t σ H1 fun vs H2 => sp vs H2 Q E0
section
variable {X : Cx} {k : Nat} {ps : List Str} {C p g : Addr} {mc : Value} {sp : Sp} {fd : FuncData} {o e : Expr} {es : List Expr} {m : Str} {pos apos : Pos} {ta : TE} {t : TA} {pl : Sem Bool}
theorem pe_smeth (he : PE X o ta) (r : ClX.CRead X.K C mc) (c : SMet X.K C mc m p g) (F : FnOk X.prog X.w X.K X.mg X.base CX0 k g fd ps sp) (hb : Binds X.K fd ps []) (hr : Room k X.A) (ha : PA X (e :: es) t)
    (hst : starEach (e :: es) X.env = (false, eval e X.env) :: starEach es X.env := by rfl) (hpl : (backTo pos (starEach es X.env)).any (·.1) = false := by rfl)
    (ht : eval (.Call (.Attribute o m apos) (e :: es) [] pos) X.env = (do
      let ov ← eval o X.env
      standAt apos.atName
      let (f, first) ← holding [ov] (getMethod ov m pl)
      callWith pos f first (backTo pos (starEach (e :: es) X.env)) (backToKw pos (keywordEach [] X.env))) := by rfl) :
    PE X (.Call (.Attribute o m apos) (e :: es) [] pos) (tSMeth C sp ta t) := by
  refine ⟨fun pins s σ H Q I h => ?_⟩
  refine PySem.W.methodCall_KW (pl := pl) (thn (he.run pins s σ H _ I h) fun u s1 ⟨x, H1, I1, rx, ex, q⟩ => ?_) ht
  subst ex
  obtain rfl : u = Value.ref C := rx
  obtain ⟨rest, hp⟩ := c.rc
  refine PySem.W.method_cls I1.kIn r.ga (PySem.W.cls_bind I1.kIn r.rd c.at_ (wpAny_call (PySem.W.sm_get (s := { s1 with toks := s1.toks + 1 }) I1.kIn hp (PySem.W.handed_on rfl ?_))))
  have I2 := I1.tok (s1.toks + 1)
  refine PySem.W.callWith_K (first := []) (h₀ := X.base) I.ok.mod.kin c.kp (thn (ha.run pos pins _ σ H1 _ I2 q) fun us s2 ⟨vs, H2, I3, rv, q2⟩ => ⟨I3.kIn, ?_⟩) hst hpl
  have q0 : sp (vs ++ []) H2 Q E0 := by
    rw [List.append_nil]
    exact q2
  exact run_fn (us := us) F hr hb .nil pass0 I3 rv q0
end
/-! ### an instance called by one keyword -/
theorem callOK_of {M : Model} {A : Around} {E : Value → Shared → Prop} {s : Shared} {a : Addr} {pos : Pos} {Q : Value → Shared → Prop} {args : List (Bool × Sem Value)} {kws : List (Option Str × Sem Value)} (hplain : (args.any (·.1) || kws.any (·.1.isNone)) = false)
    (h : wpAny M A (evalArgs (.ref a) true args kws) (fun z s₁ => (∃ C ox od, PySem.W.InstAt s₁.heap a ox C od ∧ ox.data = .plain) ∧ wpAny M A (call (.ref a) ([] ++ z.pos) z.kw) Q E s₁) E s) : wpAny M A (callWith pos (.ref a) [] args kws) Q E s := by
  unfold callWith
  refine wpAny_bind (wpAny_holding (wpAny_mono h (fun z s₁ h₁ => wpAny_bind (wpAny_standAt ?_)) fun _ _ y => y))
  obtain ⟨⟨C, ox, od, J, hd⟩, h₁⟩ := h₁
  have L := PySem.W.kco_keeper (M := M) J hd
  simp only [hplain]
  refine wpAny_bind (L.here ?_)
  have tail : ∀ {t : Sem Value}, wpAny M A t Q E s₁ → wpAny M A (t >>= fun r => holding [r] point >>= fun _ => pure r) Q E s₁ :=
    fun ht => wpAny_bind (wpAny_mono ht (fun r s₂ hr => wpAny_bind (wpAny_holding (wpAny_point (wpAny_pure hr)))) fun _ _ y => y)
  exact tail (wpAny_operateT h₁)
section
variable {X : Cx} {k : Nat} {C g : Addr} {sp : Sp} {fd : FuncData} {fe e : Expr} {es : List Expr} {pos kpos : Pos} {p1 kw : Str} {tf : TE} {tk : TA} {t : TA}
/-- f(kw=e), f an instance of C -/
def tCallOK (X : Cx) (C : Addr) (sp : Sp) (tf : TE) (tk : TA) : TE := fun σ H Q => tf σ H fun y H1 => ∃ a, y = V.ref a ∧ tk σ H1 fun vs H2 => (∃ dx fs, H2 a = some (.ins C dx fs)) ∧ sp (V.ref a :: vs) H2 Q E0
theorem pe_callOK (hf : PE X fe tf) (c : StX.CallO X.K C g) (F : FnOk X.prog X.w X.K X.mg X.base CX0 k g fd [p1, kw] sp) (hb : ∀ (s : Shared) (u v : Value), X.K.In s.heap → BindsTo s fd ⟨[u], [(kw, v)]⟩ [(p1, u), (kw, v)]) (hr : Room k X.A) (hkw : PK X [⟨some kw, e, kpos⟩] tk)
    (hall : (backToKw pos (keywordEach [⟨some kw, e, kpos⟩] X.env)).all (·.1.isSome) = true := by rfl) (hks : (backToKw pos (keywordEach [⟨some kw, e, kpos⟩] X.env)).filterMap (·.1) = [kw] := by rfl)
    (hpl : ((backTo pos (starEach [] X.env)).any (·.1) || (backToKw pos (keywordEach [⟨some kw, e, kpos⟩] X.env)).any (·.1.isNone)) = false := by rfl)
    (ht : eval (.Call fe [] [⟨some kw, e, kpos⟩] pos) X.env = (do callWith pos (← eval fe X.env) [] (backTo pos (starEach [] X.env)) (backToKw pos (keywordEach [⟨some kw, e, kpos⟩] X.env))) := by rfl) :
    PE X (.Call fe [] [⟨some kw, e, kpos⟩] pos) (tCallOK X C sp tf tk) := by
  refine ⟨fun pins s σ H Q I h => ?_⟩
  rw [ht]
  refine wpAny_bind (thn (hf.run pins s σ H _ I h) fun u s1 ⟨y, H1, I1, ry, a, ey, q⟩ => ?_)
  subst ey
  obtain rfl : u = Value.ref a := ry
  refine callOK_of hpl (PyProof.Rows.evalArgs_kw2_nil hall (thn (hkw.run pos pins s1 σ H1 _ I1 q) fun ws s2 ⟨zs, H2, I2, rz, ⟨dx, fs, hi⟩, q2⟩ => ?_))
  obtain ⟨ox, od, J, hd⟩ := StX.insC_at I2 (C := C) (.inr ⟨dx, fs, hi⟩)
  refine ⟨⟨C, ox, od, J, hd⟩, ?_⟩
  rw [hks]
  have hl := F.len _ _ _ _ q2
  cases rz with
  | nil => cases hl
  | @cons v u vs us rv rr =>
    cases rr with
    | cons _ _ => cases hl
    | nil =>
      refine wpAny_call (PySem.W.kco_code I2.kIn J hd c.at_ c.fn c.fi (codeAny_mono (F.run X.A X.stack s2 H2 ⟨[.ref a], [(kw, u)]⟩ [.ref a, u] [.ref a, v] Q E0 hr I2.env0 (hb s2 _ _ I2.kIn) (.cons rfl (.cons rv .nil)) q2) fun r s' hq => ?_))
      cases r with
      | error e => exact False.elim hq
      | ok fl =>
        cases fl with
        | ret u => exact I2.after hq
        | next => exact False.elim hq
        | brk => exact False.elim hq
        | cont => exact False.elim hq
/-- a def by position, as a promise of its arguments alone -/
theorem fnR_of {ps : List Str} (F : FnOk X.prog X.w X.K X.mg X.base CX0 k g fd ps sp) (hb : Binds X.K fd ps []) : FnR X.prog X.w X.K X.mg X.base CX0 k g sp := by
  intro A outer s H us vs Q E hr e0 r h
  have hl : (us ++ []).length = ps.length := by
    rw [List.append_nil, ← r.length]
    exact F.len _ _ _ _ h
  have KX : X.K.In s.heap := e0.mod.kin.keeps fun b o e => (e0.bs b o e).1
  have hbb := hb s us KX hl
  rw [List.append_nil] at hbb
  exact F.run A outer s H ⟨us, []⟩ us vs Q E hr e0 hbb r h
end
/-! ### t[::-1] -/
section
variable {prog : Program} {w : World} {A : Around} {E : Value → Shared → Prop} {s : Shared}
open HT
theorem sliceApplied_rev {sl : Addr} {vl vu vs : Value} {n : Nat} {Q : Int × Int × Nat → Shared → Prop} (hs : s.heap.IsSliceOf sl vl vu vs) (pl : IsPart vl none) (pu : IsPart vu none) (ps : IsPart vs (some (-1)))
    (h : Q ((n : Int) - 1, -1, n) s) : wpAny (model prog w) A (Builtin.Slice.sliceApplied (.ref sl) (pure (n : Int))) Q E s := by
  obtain ⟨os, hos, hcs, hds⟩ := id hs
  unfold Builtin.Slice.sliceApplied Builtin.Slice.sliceFields
  refine wpAny_bind (wpAny_bind (wpAny_field hos hds (x := vl) rfl (wpAny_bind (wpAny_field hos hds (x := vu) rfl (wpAny_bind (wpAny_field hos hds (x := vs) rfl (wpAny_pure ?_)))))))
  refine wpAny_bind (slicePart_ ps ?_)
  show wpAny _ _ (if ((-1 : Int) == 0) = true then _ else _) _ _ s
  rw [if_neg (by decide)]
  refine wpAny_bind (slicePart_ pl (wpAny_bind (slicePart_ pu (wpAny_bind (wpAny_pure ?_)))))
  show wpAny _ _ (match Builtin.Slice.sliceAdjust none none (-1) (n : Int) with | (lo, hi) => pure (lo, (-1 : Int), Builtin.Slice.slicePlaces lo hi (-1))) _ _ s
  have e1 : Builtin.Slice.sliceAdjust none none (-1) (n : Int) = ((n : Int) - 1, -1) := rfl
  rw [e1]
  have e2 : Builtin.Slice.slicePlaces ((n : Int) - 1) (-1) (-1) = n := by
    unfold Builtin.Slice.slicePlaces
    rw [if_neg (by decide)]
    split
    · rw [show (-(-1 : Int)) = 1 by decide, Int.ediv_one]
      omega
    · omega
  show wpAny _ _ (pure ((n : Int) - 1, (-1 : Int), Builtin.Slice.slicePlaces ((n : Int) - 1) (-1) (-1))) _ _ s
  rw [e2]
  exact wpAny_pure h
theorem fm_congr {α β : Type} {f g : α → Option β} : ∀ {l : List α}, (∀ a ∈ l, f a = g a) → l.filterMap f = l.filterMap g
  | [], _ => rfl
  | a :: l, h => by
    rw [List.filterMap_cons, List.filterMap_cons, h a List.mem_cons_self, fm_congr fun b hb => h b (List.mem_cons_of_mem _ hb)]
theorem pick_rev (xs : Array Value) : ((List.range xs.size).filterMap fun (m : Nat) => xs[(((xs.size : Int) - 1) + (m : Int) * (-1)).toNat]?).toArray = xs.toList.reverse.toArray := by
  have e : ∀ m ∈ List.range xs.size, xs[(((xs.size : Int) - 1) + (m : Int) * (-1)).toNat]? = xs[xs.size - 1 - m]? := fun m hm => by
    have : m < xs.size := List.mem_range.mp hm
    have : (((xs.size : Int) - 1) + (m : Int) * (-1)).toNat = xs.size - 1 - m := by omega
    rw [this]
  rw [fm_congr e]
  have e3 : (List.range xs.size).filterMap (fun m => xs[xs.size - 1 - m]?) = ((List.range xs.size).map fun k => xs.size - 1 - k).filterMap (xs[·]?) := by
    rw [List.filterMap_map]
    rfl
  rw [e3, PySem.W.krv_range, List.filterMap_reverse, PySem.W.krv_all]
theorem getItem_tuple_rev {t sl : Addr} {items : Array Value} {vl vu vs : Value} {Q : Value → Shared → Prop} (ht : IsTup s.heap t items) (hs : s.heap.IsSliceOf sl vl vu vs) (pl : IsPart vl none) (pu : IsPart vu none) (ps : IsPart vs (some (-1)))
    (h : Q (.ref s.heap.objs.size) { s with heap := s.heap.push { cls := .type "tuple", data := .seq items.toList.reverse.toArray } })
    (hsz : items.size ≤ sizeLine) : wpAny (model prog w) A (getItem (.ref t) (.ref sl)) Q E s := by
  have htake : sizeOk (.seq items.toList.reverse.toArray) := by
    show items.toList.reverse.toArray.size ≤ sizeLine
    rw [List.size_toArray, List.length_reverse, Array.length_toList]
    exact hsz
  obtain ⟨os, hos, hcs, hds⟩ := id hs
  have hTs : s.TypeIs (.ref sl) "slice" := ⟨os, hos, hcs⟩
  unfold getItem
  try with_reducible refine wpAny_holding ?_
  first | refine wpAny_bind (wpAny_pure ?_) | skip
  refine wpAny_bind (wpAny_sequenceKey ht.typeIs (by decide) ?_)
  refine wpAny_bind (wpAny_callSpecial?_slot (name := Str.ofString "__getitem__") ht.typeIs PyProof.Rows.slot_tuple_getitem
    (wpAny_call_entry PyProof.Rows.slot_tuple_getitem ht.typeIs entry_tuple_getitem ?_ (args_tuple_getitem _ _)))
  show wpAny _ _ (Builtin.Tuple.tupleItemsOf (.ref t) >>= _) _ _ s
  refine wpAny_bind (tupleItemsOf_ ht ?_)
  refine wpAny_bind (wpAny_typeOf hTs ?_)
  rw [if_pos (by decide)]
  refine wpAny_bind (sliceApplied_rev hs pl pu ps ?_)
  show wpAny _ _ (if ((((items.size : Int) - 1) == 0 && (-1 : Int) == 1 && items.size == items.size) = true) then _ else _) _ _ s
  rw [if_neg (by rw [show ((-1 : Int) == 1) = false by decide, Bool.and_false, Bool.false_and]; exact Bool.false_ne_true), pick_rev]
  first
    | exact wpAny_bind (m := Builtin.Tuple.tupleExact _) (wpAny_newObj_type (wpAny_pure ⟨_, rfl, wpAny_pure h⟩) htake)
    | exact wpAny_bind (m := Builtin.Tuple.tupleExact _) (wpAny_newObj_type (wpAny_bind (wpAny_pure (wpAny_pure ⟨_, rfl, wpAny_pure h⟩))) htake)
    | exact wpAny_bind (wpAny_bind (m := Builtin.Tuple.tupleExact _) (wpAny_newObj_type (wpAny_pure (wpAny_pure ⟨_, rfl, wpAny_pure h⟩)) htake))
    | exact wpAny_bind (wpAny_bind (m := Builtin.Tuple.tupleExact _) (wpAny_newObj_type (wpAny_pure ⟨_, rfl, wpAny_pure h⟩) htake))
end
section
variable {X : Cx}
def tRevT (K : PySem.W.Frag) (te : TE) : TE := fun σ H Q => te σ H fun x H1 => ∃ a xs, x = .ref a ∧ SqT K H1 a xs ∧ ∀ p, H1 p = none → Q (.ref p) (upd H1 p (.tup xs.reverse))
theorem pe_revT {e : Expr} {te : TE} {k : Nat} {p1 p2 p3 pos : Pos} (he : PE X e te) : PE X (.Subscript e (.Slice none none (some (.UnaryOp .USub (.Constant (.int 1) k p1) p2)) p3) pos) (tRevT X.K te) := by
  refine ⟨fun pins s σ H Q I h => ?_⟩
  refine Subscript_ (thn (he.run pins s σ H _ I h) fun v s1 ⟨x, H1, I1, r1, q1⟩ => ?_)
  obtain ⟨a, xs, ex, hx, q⟩ := q1
  subst ex
  cases r1
  have hst : PO X (some (.UnaryOp .USub (.Constant (.int 1) k p1) p2)) (tPart (tUn (rU fun i => .int (-i)) (tC (.int 1)))) := po_some (pe_un un_neg pe_int)
  refine wpAny_Slice (thn (po_none.run pins s1 σ H1 (fun o H2 => o = none ∧ H2 = H1) I1 ⟨rfl, rfl⟩) fun vl s2 ⟨l, H2, I2, pl, el, e2⟩ => ?_)
  subst el e2
  refine thn (po_none.run pins s2 σ H2 (fun o H3 => o = none ∧ H3 = H2) I2 ⟨rfl, rfl⟩) fun vu s3 ⟨u, H3, I3, pu, eu, e3⟩ => ?_
  subst eu e3
  refine thn (hst.run pins s3 σ H3 (fun o H4 => o = some (-1) ∧ H4 = H3) I3 ⟨1, rfl, -1, rfl, rfl, rfl⟩) fun vs s4 ⟨o, H4, I4, ps, eo, e4⟩ => ?_
  subst eo e4
  have I5 : Inv X pins σ H4 { s4 with heap := s4.heap.push { cls := .type "slice", data := .fields #[vl, vu, vs] } } := I4.kept (t' := s4.toks) fun b ob q => Heap.get?_push_of_some _ q
  obtain ⟨its, r, ht, hz⟩ := I5.tuple hx
  have hlen := r.length
  show wpAny (model X.prog X.w) X.A (subscriptTail e (.Slice none none (some (.UnaryOp .USub (.Constant (.int 1) k p1) p2)) p3) (.ref a) (.ref s4.heap.objs.size)) (EP X pins σ Q) X.xe { s4 with heap := s4.heap.push { cls := .type "slice", data := .fields #[vl, vu, vs] } }
  refine tail_any (ops := [.ref a, .ref s4.heap.objs.size]) ht.typeIs PyProof.Rows.slot_tuple_getitem.lookup ?_ (by with_unfolding_all rfl)
  refine getItem_tuple_rev ht (Heap.IsSliceOf.new _ vl vu vs) pl pu ps ?_ (by rw [List.size_toArray]; omega)
  refine ⟨.ref _, _, I5.laid (t' := s4.toks) (o := .tup xs.reverse) (fun b ob q => Heap.get?_push_of_some _ q) (Nat.le_refl _) ?_, rfl, q _ (I5.hok.fresh (Nat.le_refl _))⟩
  exact ⟨by rw [List.length_reverse]; exact hz, _, r.reverse, IsTup.new _ _⟩
/-! ### x in a tuple of data -/
def rInT (K : PySem.W.Frag) : R2 := fun x y H Q => ∃ d ds, Dp K H x d ∧ Dp K H y (.tuple ds) ∧ SeqAt.shaped d = true ∧ SeqAt.shaped (.tuple ds) = true ∧ Q (.bl (ds.any fun z => PyData.eqv z d)) H
theorem op_inT (hu : X.A.units + 65 < cLine) : OpR X (compareOp .In) (rInT X.K) := by
  intro pins s σ H x y v u Q I rx ry h
  obtain ⟨d, ds, hd, he, sd, se, q⟩ := h
  obtain ⟨as, r1⟩ := Dp.reads I d x v hd rx
  obtain ⟨bs, r2⟩ := Dp.reads I (.tuple ds) y u he ry
  exact SeqAt.in_tuple_reads r2 r1 (SeqAt.canLay_of_shaped se) (SeqAt.canLay_of_shaped sd) (room_in_shaped sd hu) ⟨.bl _, H, I, rfl, q⟩
end
end RL

/-! The mathematics of rows of pieces: their maps, what they show. -/
namespace RL
/-- a piece: is it a rail, its ohms -/
abbrev Pc := Bool × Int
def PcOk (p : Pc) : Prop := 1 ≤ p.2 ∧ p.2 ≤ 12
structure Mx where
  a : Int
  b : Int
  c : Int
  d : Int
def stepM (m : Mx) (p : Pc) : Mx := if p.1 = true then ⟨m.a, m.a * p.2 + m.b, m.c, m.c * p.2 + m.d⟩ else ⟨m.a * p.2 + m.b, m.b * p.2, m.c * p.2 + m.d, m.d * p.2⟩
def stepS (s : Int) (p : Pc) : Int := if p.1 = true then s else s * p.2
def m1 : Mx := ⟨1, 0, 0, 1⟩
def matR (r : List Pc) : Mx := r.foldl stepM m1
def sclR (r : List Pc) : Int := r.foldl stepS 1
/-- what a map makes of a pair -/
def Mx.app (m : Mx) (e : Int × Int) : Int × Int := (m.a * e.1 + m.b * e.2, m.c * e.1 + m.d * e.2)
def act (p : Pc) (e : Int × Int) : Int × Int := if p.1 = true then (e.1 + p.2 * e.2, e.2) else (p.2 * e.1, e.1 + p.2 * e.2)
def actR (r : List Pc) (e : Int × Int) : Int × Int := r.foldr act e
theorem app_step (m : Mx) (p : Pc) (e : Int × Int) : (stepM m p).app e = m.app (act p e) := by
  unfold stepM act Mx.app
  split <;> (ext <;> dsimp <;> grind)
theorem app_fold (r : List Pc) : ∀ (m : Mx) (e : Int × Int), (r.foldl stepM m).app e = m.app (actR r e) := by
  induction r with
  | nil => exact fun _ _ => rfl
  | cons p r ih =>
    intro m e
    rw [List.foldl_cons, ih, app_step]
    rfl
theorem app_one (e : Int × Int) : m1.app e = e := by
  unfold Mx.app m1
  ext <;> dsimp <;> omega
theorem mat_app (r : List Pc) (e : Int × Int) : (matR r).app e = actR r e := by
  unfold matR
  rw [app_fold, app_one]
theorem act_app (r r' : List Pc) (e : Int × Int) : actR (r ++ r') e = actR r (actR r' e) := List.foldr_append ..
/-- a pair that stands for a fraction or an open end -/
def Pos2 (e : Int × Int) : Prop := 0 ≤ e.1 ∧ 0 ≤ e.2 ∧ (0 < e.1 ∨ 0 < e.2)
def sc (k : Int) (e : Int × Int) : Int × Int := (k * e.1, k * e.2)
theorem act_pos {p : Pc} {e : Int × Int} (hp : PcOk p) (h : Pos2 e) : Pos2 (act p e) := by
  obtain ⟨h1, h2, h3⟩ := h
  obtain ⟨q1, q2⟩ := hp
  have m1 := Int.mul_nonneg (show 0 ≤ p.2 by omega) h1
  have m2 := Int.mul_nonneg (show 0 ≤ p.2 by omega) h2
  unfold act Pos2
  split
  · dsimp
    omega
  · dsimp
    refine ⟨m1, by omega, ?_⟩
    rcases h3 with h3 | h3
    · exact .inl (Int.mul_pos (by omega) h3)
    · have := Int.mul_pos (show 0 < p.2 by omega) h3
      exact .inr (by omega)
def RowOk (r : List Pc) : Prop := ∀ p ∈ r, PcOk p
theorem RowOk.tail {p : Pc} {r : List Pc} (h : RowOk (p :: r)) : RowOk r := fun q hq => h q (List.mem_cons_of_mem _ hq)
theorem RowOk.head {p : Pc} {r : List Pc} (h : RowOk (p :: r)) : PcOk p := h p List.mem_cons_self
theorem RowOk.app {r r' : List Pc} (h : RowOk r) (h' : RowOk r') : RowOk (r ++ r') := fun q hq => (List.mem_append.mp hq).elim (h q) (h' q)
theorem actR_pos {r : List Pc} {e : Int × Int} (hr : RowOk r) (h : Pos2 e) : Pos2 (actR r e) := by
  induction r with
  | nil => exact h
  | cons p r ih => exact act_pos hr.head (ih hr.tail)
theorem act_sc (p : Pc) (k : Int) (e : Int × Int) : act p (sc k e) = sc k (act p e) := by
  unfold act sc
  split <;> (ext <;> dsimp <;> grind)
theorem actR_sc (r : List Pc) (k : Int) (e : Int × Int) : actR r (sc k e) = sc k (actR r e) := by
  induction r with
  | nil => rfl
  | cons p r ih =>
    show act p (actR r (sc k e)) = _
    rw [ih, act_sc]
    rfl
/-- .. as the law walks -/
def frt (p : Pc) (e : Int × Int) : Int × Int := if p.1 = true then (e.1 + p.2 * e.2, e.2) else if e.2 = 0 then (p.2, 1) else (p.2 * e.1, p.2 * e.2 + e.1)
def frtR (r : List Pc) (e : Int × Int) : Int × Int := r.foldr frt e
theorem frt_act {p : Pc} {e : Int × Int} (hp : PcOk p) (h : Pos2 e) : ∃ k, 0 < k ∧ act p e = sc k (frt p e) := by
  unfold act frt sc
  split
  · exact ⟨1, by decide, by ext <;> dsimp <;> omega⟩
  · split
    · rename_i z
      refine ⟨e.1, by have := h.2.2; omega, ?_⟩
      ext
      · dsimp
        grind
      · dsimp
        rw [z]
        omega
    · exact ⟨1, by decide, by ext <;> dsimp <;> omega⟩
theorem frt_pos {p : Pc} {e : Int × Int} (hp : PcOk p) (h : Pos2 e) : Pos2 (frt p e) := by
  obtain ⟨k, hk, ek⟩ := frt_act hp h
  have := act_pos hp h
  rw [ek] at this
  unfold sc Pos2 at this
  obtain ⟨a, b, c⟩ := this
  have t1 : ∀ x : Int, 0 ≤ k * x → 0 ≤ x := fun x hx => by
    rcases Int.lt_or_le x 0 with z | z
    · have := Int.mul_neg_of_pos_of_neg hk z
      omega
    · exact z
  have t2 : ∀ x : Int, 0 < k * x → 0 < x := fun x hx => by
    rcases Int.lt_or_le 0 x with z | z
    · exact z
    · have := Int.mul_nonpos_of_nonneg_of_nonpos (Int.le_of_lt hk) z
      omega
  exact ⟨t1 _ a, t1 _ b, c.imp (t2 _) (t2 _)⟩
theorem frtR_pos {r : List Pc} {e : Int × Int} (hr : RowOk r) (h : Pos2 e) : Pos2 (frtR r e) := by
  induction r with
  | nil => exact h
  | cons p r ih => exact frt_pos hr.head (ih hr.tail)
theorem sc_sc (j k : Int) (e : Int × Int) : sc j (sc k e) = sc (j * k) e := by
  unfold sc
  ext <;> dsimp <;> grind
theorem frtR_act {r : List Pc} {e : Int × Int} (hr : RowOk r) (h : Pos2 e) : ∃ k, 0 < k ∧ actR r e = sc k (frtR r e) := by
  induction r with
  | nil => exact ⟨1, by decide, by unfold sc; ext <;> dsimp [actR, frtR] <;> omega⟩
  | cons p r ih =>
    obtain ⟨k, hk, ek⟩ := ih hr.tail
    obtain ⟨j, hj, ej⟩ := frt_act hr.head (frtR_pos hr.tail h)
    refine ⟨k * j, Int.mul_pos hk hj, ?_⟩
    show act p (actR r e) = sc (k * j) (frt p (frtR r e))
    rw [ek, act_sc, ej, sc_sc]
/-! ### lowest terms -/
def low (e : Int × Int) : Int × Int := (e.1 / gc e.1 e.2, e.2 / gc e.1 e.2)
theorem gc_pos2 {e : Int × Int} (h : Pos2 e) : 0 < gc e.1 e.2 := gc_pos (by have := h.2.2; omega)
theorem gc_sm {t b : Int} {n : Nat} (h : Pos2 (t, b)) (ht : Sm n t) (hb : Sm n b) : Sm n (gc t b) := by
  have g0 : 0 < gc t b := gc_pos2 h
  rcases h.2.2 with z | z
  · have := Int.le_of_dvd z (gc_dvd1 t b)
    exact ht.of (by omega) this
  · have := Int.le_of_dvd z (gc_dvd2 t b)
    exact hb.of (by omega) this
theorem low_sc {k : Int} (hk : 0 < k) (e : Int × Int) : low (sc k e) = low e := by
  unfold low sc
  dsimp
  rw [gc_mul (Int.le_of_lt hk), Int.mul_ediv_mul_of_pos _ _ hk, Int.mul_ediv_mul_of_pos _ _ hk]
theorem low_is {e : Int × Int} (h : Pos2 e) : e = sc (gc e.1 e.2) (low e) := by
  unfold low sc
  ext
  · exact ex_mul (gc_dvd1 _ _) (gc_pos2 h)
  · exact ex_mul (gc_dvd2 _ _) (gc_pos2 h)
theorem pos_sc {k : Int} {e : Int × Int} (hk : 0 < k) (h : Pos2 (sc k e)) : Pos2 e := by
  unfold sc Pos2 at h
  obtain ⟨a, b, c⟩ := h
  have t1 : ∀ x : Int, 0 ≤ k * x → 0 ≤ x := fun x hx => by
    rcases Int.lt_or_le x 0 with z | z
    · have := Int.mul_neg_of_pos_of_neg hk z
      omega
    · exact z
  have t2 : ∀ x : Int, 0 < k * x → 0 < x := fun x hx => by
    rcases Int.lt_or_le 0 x with z | z
    · exact z
    · have := Int.mul_nonpos_of_nonneg_of_nonpos (Int.le_of_lt hk) z
      omega
  exact ⟨t1 _ a, t1 _ b, c.imp (t2 _) (t2 _)⟩
theorem low_pos {e : Int × Int} (h : Pos2 e) : Pos2 (low e) := pos_sc (gc_pos2 h) (by rw [← low_is h]; exact h)
theorem low_low {e : Int × Int} (h : Pos2 e) : low (low e) = low e := by
  have := low_sc (gc_pos2 h) (low e)
  rw [← low_is h] at this
  exact this.symm
/-- what the map shows is what the walk shows -/
theorem shows_front {r : List Pc} {e : Int × Int} (hr : RowOk r) (h : Pos2 e) : low ((matR r).app e) = low (frtR r e) := by
  obtain ⟨k, hk, ek⟩ := frtR_act hr h
  rw [mat_app, ek, low_sc hk]
theorem shows_two {r r' : List Pc} {e : Int × Int} (hr : RowOk r) (hr' : RowOk r') (h : Pos2 e) : low ((matR (r ++ r')).app e) = low (frtR r (low (frtR r' e))) := by
  have p' := frtR_pos hr' h
  have pl := low_pos p'
  obtain ⟨k, hk, ek⟩ := frtR_act hr pl
  obtain ⟨j, hj, ej⟩ := frtR_act hr' h
  rw [mat_app, act_app, ej, actR_sc, low_sc hj]
  conv => lhs; rw [low_is p']
  rw [actR_sc, low_sc (gc_pos2 p'), ek, low_sc hk]
/-! ### the four fractions -/
theorem low_frac {x s : Int} (hs : 0 < s) : 0 < s / gc x s ∧ x / gc x s * s = s / gc x s * x := by
  have g0 : 0 < gc x s := gc_pos (.inr (by omega))
  have e1 := ex_mul (gc_dvd1 x s) g0
  have e2 := ex_mul (gc_dvd2 x s) g0
  refine ⟨?_, ?_⟩
  · rcases Int.lt_or_le 0 (s / gc x s) with z | z
    · exact z
    · have := Int.mul_nonpos_of_nonneg_of_nonpos (Int.le_of_lt g0) z
      omega
  · generalize x / gc x s = u at *
    generalize s / gc x s = v at *
    generalize gc x s = g at *
    subst e1
    rw [e2]
    grind
theorem by_numbers {m : Mx} {s : Int} {e : Int × Int} (hs : 0 < s) {a0 a1 b0 b1 c0 c1 d0 d1 : Int} (ha : 0 < a1 ∧ a0 * s = a1 * m.a) (hb : 0 < b1 ∧ b0 * s = b1 * m.b) (hc : 0 < c1 ∧ c0 * s = c1 * m.c) (hd : 0 < d1 ∧ d0 * s = d1 * m.d) :
    low ((a0 * b1 * e.1 + b0 * a1 * e.2) * c1 * d1, (c0 * d1 * e.1 + d0 * c1 * e.2) * a1 * b1) = low (m.app e) := by
  have hP : 0 < a1 * b1 * c1 * d1 := Int.mul_pos (Int.mul_pos (Int.mul_pos ha.1 hb.1) hc.1) hd.1
  rw [← low_sc hs, ← low_sc hP (m.app e)]
  congr 1
  unfold sc Mx.app
  obtain ⟨_, ha⟩ := ha
  obtain ⟨_, hb⟩ := hb
  obtain ⟨_, hc⟩ := hc
  obtain ⟨_, hd⟩ := hd
  ext
  · dsimp
    grind
  · dsimp
    grind
theorem by_numbers_pos {m : Mx} {s : Int} {e : Int × Int} (hs : 0 < s) {a0 a1 b0 b1 c0 c1 d0 d1 : Int} (ha : 0 < a1 ∧ a0 * s = a1 * m.a) (hb : 0 < b1 ∧ b0 * s = b1 * m.b) (hc : 0 < c1 ∧ c0 * s = c1 * m.c) (hd : 0 < d1 ∧ d0 * s = d1 * m.d) (hp : Pos2 (m.app e)) :
    Pos2 ((a0 * b1 * e.1 + b0 * a1 * e.2) * c1 * d1, (c0 * d1 * e.1 + d0 * c1 * e.2) * a1 * b1) := by
  have hP : 0 < a1 * b1 * c1 * d1 := Int.mul_pos (Int.mul_pos (Int.mul_pos ha.1 hb.1) hc.1) hd.1
  refine pos_sc hs ?_
  have e1 : sc s ((a0 * b1 * e.1 + b0 * a1 * e.2) * c1 * d1, (c0 * d1 * e.1 + d0 * c1 * e.2) * a1 * b1) = sc (a1 * b1 * c1 * d1) (m.app e) := by
    unfold sc Mx.app
    obtain ⟨_, ha⟩ := ha
    obtain ⟨_, hb⟩ := hb
    obtain ⟨_, hc⟩ := hc
    obtain ⟨_, hd⟩ := hd
    ext
    · dsimp
      grind
    · dsimp
      grind
  rw [e1]
  obtain ⟨p1, p2, p3⟩ := hp
  exact ⟨Int.mul_nonneg (Int.le_of_lt hP) p1, Int.mul_nonneg (Int.le_of_lt hP) p2, p3.imp (Int.mul_pos hP) (Int.mul_pos hP)⟩
/-! ### signs and sizes -/
def MxOk (m : Mx) : Prop := 0 ≤ m.a ∧ 0 ≤ m.b ∧ 0 ≤ m.c ∧ 0 ≤ m.d ∧ 0 < m.a * m.d - m.b * m.c
theorem step_ok {m : Mx} {p : Pc} (hp : PcOk p) (h : MxOk m) : MxOk (stepM m p) := by
  obtain ⟨h1, h2, h3, h4, h5⟩ := h
  have q0 : 0 ≤ p.2 := by have := hp.1; omega
  have z1 := Int.mul_nonneg h1 q0
  have z2 := Int.mul_nonneg h2 q0
  have z3 := Int.mul_nonneg h3 q0
  have z4 := Int.mul_nonneg h4 q0
  unfold stepM MxOk
  split
  · dsimp
    refine ⟨h1, by omega, h3, by omega, ?_⟩
    have : m.a * (m.c * p.2 + m.d) - (m.a * p.2 + m.b) * m.c = m.a * m.d - m.b * m.c := by grind
    omega
  · dsimp
    refine ⟨by omega, by omega, by omega, by omega, ?_⟩
    have : (m.a * p.2 + m.b) * (m.d * p.2) - m.b * p.2 * (m.c * p.2 + m.d) = p.2 * p.2 * (m.a * m.d - m.b * m.c) := by grind
    rw [this]
    have q1 : 0 < p.2 := by have := hp.1; omega
    exact Int.mul_pos (Int.mul_pos q1 q1) h5
theorem fold_ok {r : List Pc} : ∀ {m : Mx}, RowOk r → MxOk m → MxOk (r.foldl stepM m) := by
  induction r with
  | nil => exact fun _ h => h
  | cons p r ih => exact fun hr h => ih hr.tail (step_ok hr.head h)
theorem matR_ok {r : List Pc} (hr : RowOk r) : MxOk (matR r) := fold_ok hr ⟨by decide, by decide, by decide, by decide, by decide⟩
theorem scl_fold {r : List Pc} : ∀ {s : Int}, RowOk r → 0 < s → 0 < r.foldl stepS s := by
  induction r with
  | nil => exact fun _ h => h
  | cons p r ih =>
    intro s hr h
    refine ih hr.tail ?_
    unfold stepS
    split
    · exact h
    · exact Int.mul_pos h (by have := hr.head.1; omega)
theorem sclR_pos {r : List Pc} (hr : RowOk r) : 0 < sclR r := scl_fold hr (by decide)
def MxSm (n : Nat) (m : Mx) : Prop := Sm n m.a ∧ Sm n m.b ∧ Sm n m.c ∧ Sm n m.d
theorem ohm_sm {p : Pc} (hp : PcOk p) : Sm 4 p.2 := by
  obtain ⟨h1, h2⟩ := hp
  unfold Sm
  omega
theorem step_sm {m : Mx} {p : Pc} {n : Nat} (hp : PcOk p) (h : MxSm n m) : MxSm (n + 5) (stepM m p) := by
  obtain ⟨h1, h2, h3, h4⟩ := h
  have o := ohm_sm hp
  have up : ∀ {x : Int}, Sm n x → Sm (n + 4) x := fun z => z.mono (by omega)
  unfold stepM MxSm
  split
  · exact ⟨h1.mono (by omega), (h1.mul o).add (up h2), h3.mono (by omega), (h3.mul o).add (up h4)⟩
  · exact ⟨(h1.mul o).add (up h2), (h2.mul o).mono (by omega), (h3.mul o).add (up h4), (h4.mul o).mono (by omega)⟩
theorem fold_sm {r : List Pc} : ∀ {m : Mx} {n : Nat}, RowOk r → MxSm n m → MxSm (n + 5 * r.length) (r.foldl stepM m) := by
  induction r with
  | nil => exact fun _ h => h
  | cons p r ih =>
    intro m n hr h
    have := ih hr.tail (step_sm hr.head h)
    rw [List.foldl_cons, List.length_cons]
    have e : n + 5 * (r.length + 1) = n + 5 + 5 * r.length := by omega
    rw [e]
    exact this
theorem MxSm.mono {m n : Nat} {x : Mx} (h : MxSm m x) (l : m ≤ n) : MxSm n x := ⟨h.1.mono l, h.2.1.mono l, h.2.2.1.mono l, h.2.2.2.mono l⟩
theorem m1_sm : MxSm 1 m1 := ⟨by unfold Sm; decide, by unfold Sm; decide, by unfold Sm; decide, by unfold Sm; decide⟩
theorem matR_sm {r : List Pc} (hr : RowOk r) (hl : r.length ≤ 8) : MxSm 41 (matR r) := (fold_sm hr m1_sm).mono (by omega)
theorem scl_sm {r : List Pc} : ∀ {s : Int} {n : Nat}, RowOk r → Sm n s → Sm (n + 4 * r.length) (r.foldl stepS s) := by
  induction r with
  | nil => exact fun _ h => h
  | cons p r ih =>
    intro s n hr h
    rw [List.foldl_cons, List.length_cons]
    have e : n + 4 * (r.length + 1) = n + 4 + 4 * r.length := by omega
    rw [e]
    refine ih hr.tail ?_
    unfold stepS
    split
    · exact h.mono (by omega)
    · exact h.mul (ohm_sm hr.head)
theorem sclR_sm {r : List Pc} (hr : RowOk r) (hl : r.length ≤ 8) : Sm 41 (sclR r) := (scl_sm (n := 1) hr (by unfold Sm; decide)).mono (by omega)
theorem frt_sm {p : Pc} {e : Int × Int} {n : Nat} (hp : PcOk p) (h1 : Sm n e.1) (h2 : Sm n e.2) : Sm (n + 5) (frt p e).1 ∧ Sm (n + 5) (frt p e).2 := by
  have o := ohm_sm hp
  have up : ∀ {x : Int}, Sm n x → Sm (n + 4) x := fun z => z.mono (by omega)
  have c : ∀ {x y : Int}, Sm n x → Sm n y → Sm (n + 5) (x + p.2 * y) := fun hx hy => (up hx).add ((o.mul hy).mono (by omega))
  have c' : ∀ {x y : Int}, Sm n x → Sm n y → Sm (n + 5) (p.2 * y + x) := fun hx hy => by
    rw [Int.add_comm]
    exact c hx hy
  unfold frt
  split
  · exact ⟨c h1 h2, h2.mono (by omega)⟩
  · split
    · exact ⟨o.mono (by omega), Sm.mono (m := 1) (x := (1 : Int)) (by unfold Sm; decide) (by omega)⟩
    · exact ⟨(o.mul h1).mono (by omega), c' h1 h2⟩
theorem frtR_sm {r : List Pc} {e : Int × Int} {n : Nat} (hr : RowOk r) (h1 : Sm n e.1) (h2 : Sm n e.2) : Sm (n + 5 * r.length) (frtR r e).1 ∧ Sm (n + 5 * r.length) (frtR r e).2 := by
  induction r with
  | nil => exact ⟨h1, h2⟩
  | cons p r ih =>
    obtain ⟨a, b⟩ := ih hr.tail
    rw [List.length_cons]
    have e2 : n + 5 * (r.length + 1) = n + 5 * r.length + 5 := by omega
    rw [e2]
    exact frt_sm hr.head a b
theorem app_sm {m : Mx} {e : Int × Int} {j k : Nat} (h : MxSm j m) (h1 : Sm k e.1) (h2 : Sm k e.2) : Sm (j + k + 1) (m.app e).1 ∧ Sm (j + k + 1) (m.app e).2 :=
  ⟨(h.1.mul h1).add (h.2.1.mul h2), (h.2.2.1.mul h1).add (h.2.2.2.mul h2)⟩
theorem low_sm {e : Int × Int} {n : Nat} (h : Pos2 e) (h1 : Sm n e.1) (h2 : Sm n e.2) : Sm n (low e).1 ∧ Sm n (low e).2 := ⟨h1.div (gc_pos2 h), h2.div (gc_pos2 h)⟩
/-! ### what is shown rises with the load -/
def below (e f : Int × Int) : Bool := decide (e.1 * f.2 < f.1 * e.2)
theorem below_sc {j k : Int} (hj : 0 < j) (hk : 0 < k) (e f : Int × Int) : below (sc j e) (sc k f) = below e f := by
  unfold below sc
  rw [Bool.eq_iff_iff, decide_eq_true_iff, decide_eq_true_iff]
  dsimp
  have h : 0 < j * k := Int.mul_pos hj hk
  have e1 : j * e.1 * (k * f.2) = j * k * (e.1 * f.2) := by grind
  have e2 : k * f.1 * (j * e.2) = j * k * (f.1 * e.2) := by grind
  rw [e1, e2]
  exact ⟨fun z => Int.lt_of_mul_lt_mul_left z (Int.le_of_lt h), fun z => Int.mul_lt_mul_of_pos_left z h⟩
theorem below_app {m : Mx} (h : MxOk m) (e f : Int × Int) : below (m.app e) (m.app f) = below e f := by
  unfold below Mx.app
  rw [Bool.eq_iff_iff, decide_eq_true_iff, decide_eq_true_iff]
  dsimp
  obtain ⟨_, _, _, _, hd⟩ := h
  have e1 : (m.a * e.1 + m.b * e.2) * (m.c * f.1 + m.d * f.2) - (m.a * f.1 + m.b * f.2) * (m.c * e.1 + m.d * e.2) = (m.a * m.d - m.b * m.c) * (e.1 * f.2 - f.1 * e.2) := by grind
  constructor
  · intro z
    rcases Int.lt_or_le (e.1 * f.2 - f.1 * e.2) 0 with y | y
    · omega
    · have := Int.mul_nonneg (Int.le_of_lt hd) y
      omega
  · intro z
    have := Int.mul_neg_of_pos_of_neg hd (show e.1 * f.2 - f.1 * e.2 < 0 by omega)
    omega
theorem below_low {e f : Int × Int} (he : Pos2 e) (hf : Pos2 f) : below (low e) (low f) = below e f := by
  conv => rhs; rw [low_is he, low_is hf]
  rw [below_sc (gc_pos2 he) (gc_pos2 hf)]
theorem app_pos {r : List Pc} {e : Int × Int} (hr : RowOk r) (h : Pos2 e) : Pos2 ((matR r).app e) := by
  rw [mat_app]
  exact actR_pos hr h
theorem below_shows {r : List Pc} {e f : Int × Int} (hr : RowOk r) (he : Pos2 e) (hf : Pos2 f) : below (low (frtR r e)) (low (frtR r f)) = below e f := by
  rw [← shows_front hr he, ← shows_front hr hf, below_low (app_pos hr he) (app_pos hr hf), below_app (matR_ok hr)]
end RL

namespace RL
open PySem L2
def top (i : Nat) : Stmt := PySem.Challenge.pw_rungladders_k11_whole_texts_of_patterns.main.body.getD i (.Pass ⟨0, 0, 0, 0⟩)
/-! ### a def as its callers see it -/
structure Df (P : Program) (w : World) (K : PySem.W.Frag) (mg : Str → Option Value) (base : Heap) (k : Nat) (x : Str) (ps : List Str) (sp : Sp) : Prop where
  ex : ∃ (f : Addr) (fd : FuncData), FnOk P w K mg base CX0 k f fd ps sp ∧ mg x = some (.ref f) ∧ PySem.W.keepIn K (.ref f) = true ∧ Binds K fd ps []
section
variable {X : Cx} {k : Nat} {ps : List Str} {sp : Sp} {x : Str} {p pos : Pos} {e : Expr} {es : List Expr} {t : TA}
theorem pe_df (D : Df X.prog X.w X.K X.mg X.base k x ps sp) (hr : Room k X.A) (hg : Gl X x)
    (ha : PA X (e :: es) t) (hdb : (x == ("__debug__" : Str)) = false := by decide) (he : starEach (e :: es) X.env = (false, eval e X.env) :: starEach es X.env := by rfl) (hpl : (backTo pos (starEach es X.env)).any (·.1) = false := by rfl) :
    PE X (.Call (.Name x p) (e :: es) [] pos) (tCall sp [] E0 t) := by
  obtain ⟨f, fd, G, hm, hk, hb⟩ := D.ex
  exact pe_call G hr hg hm hk hb .nil pass0 ha hdb he hpl
end
theorem pe_fldK {X : Cx} {K : PySem.W.Frag} {e : Expr} {f : Str} {pos : Pos} {ta : TE} (he : PE X e ta) (hK : X.K = K := by rfl) (hb : attributeBase e f X.env (eval e X.env) = eval e X.env := by rfl) : PE X (.Attribute e f pos) (tFld K ta f) := by
  subst hK
  exact pe_fld he hb
structure Txt (K : PySem.W.Frag) (mg : Str → Option Value) : Prop where
  len : mg "len" = none
  abs : mg "abs" = none
  int_ : mg "int" = none
  bool_ : mg "bool" = none
  tuple_ : mg "tuple" = none
  isinstance : mg "isinstance" = none
  divmod : mg "divmod" = none
  max : mg "max" = none
  min : mg "min" = none
  range : mg "range" = none
  all : mg "all" = none
  repr : mg "repr" = none
  str_ : mg "str" = none
  enumerate : mg "enumerate" = none
/-! ### heaps -/
def But (c : Addr) (H H' : Hp) : Prop := ∀ b o, b ≠ c → H b = some o → H' b = some o
theorem But.refl (c : Addr) (H : Hp) : But c H H := fun _ _ _ h => h
theorem But.trans {c : Addr} {H H1 H2 : Hp} (a : But c H H1) (b : But c H1 H2) : But c H H2 := fun x o n h => b x o n (a x o n h)
theorem But.of {c : Addr} {H H' : Hp} (h : Same H H') : But c H H' := fun x o _ e => h x o e
theorem same_upd {H : Hp} {p : Addr} {o : HO} (h : H p = none) : Same H (upd H p o) := fun b x e => by
  rw [upd_ne (ne_of_none e h)]
  exact e
theorem But.upd {c : Addr} {H : Hp} {o : HO} : But c H (upd H c o) := fun b x n e => by
  rw [upd_ne n]
  exact e
theorem But.free {c : Addr} {H H' : Hp} (e : But c H H') {l : Addr} (n : l ≠ c) (h : H' l = none) : H l = none := by
  cases q : H l with
  | none => rfl
  | some o =>
    rw [e l o n q] at h
    cases h
def CupAt (c : Addr) (H : Hp) : Prop := ∃ x y : Int, H c = some (.lst [.int x, .int y]) ∧ 0 ≤ x ∧ x < 2147483629 ∧ 0 ≤ y
theorem CupAt.same {c : Addr} {H H' : Hp} (h : CupAt c H) (s : Same H H') : CupAt c H' := by
  obtain ⟨x, y, a, b⟩ := h
  exact ⟨x, y, s _ _ a, b⟩
theorem CupAt.ne {c b : Addr} {H : Hp} (h : CupAt c H) (n : H b = none) : c ≠ b := by
  obtain ⟨x, y, a, _⟩ := h
  exact ne_of_none a n
/-! ### promises -/
def spCup (K : PySem.W.Frag) : Sp := fun vs H Q _ => ∃ (a : Addr) (ns : List Int) (i : Nat), vs = [.ref a, .int (i : Int)] ∧ SqL K H a (ns.map V.int) ∧ i ≤ 100 ∧ ns.length ≤ 63 ∧
  ∀ H' c, Same H H' → H c = none → CupAt c H' → Q (.ref c) H'
def spSip : Sp := fun vs H Q _ => ∃ (c : Addr) (m : Int), vs = [.ref c, .int m] ∧ CupAt c H ∧ 0 < m ∧ Sm 200 m ∧
  ∀ H' r, But c H H' → CupAt c H' → 0 ≤ r → r < m → Q (.int r) H'
def spPick : Sp := fun vs H Q _ => ∃ (c l : Addr) (xs : List V), vs = [.ref c, .ref l] ∧ CupAt c H ∧ c ≠ l ∧ H l = some (.lst xs) ∧ 0 < xs.length ∧ xs.length ≤ 100 ∧
  ∀ H' v, But c H H' → CupAt c H' → v ∈ xs → Q v H'
def spPair : Sp := fun vs H Q _ => ∃ (t b : Int), vs = [.int t, .int b] ∧ Pos2 (t, b) ∧ Sm 4000 t ∧ Sm 4000 b ∧
  ∀ H' p, Same H H' → H p = none → H' p = some (.tup [.int (low (t, b)).1, .int (low (t, b)).2]) → Q (.ref p) H'
section
variable {P : Program} {w : World} {K : PySem.W.Frag} {mg : Str → Option Value} {base : Heap}
abbrev s_law_sip : Stmt := top 51
theorem sc_law_sip : FnScope ["_law_cup_here", "_law_many", "_law_part"] ["_law_cup_here", "_law_many"] (defScope s_law_sip) := ⟨rfl, rfl, rfl, by decide +kernel, rfl, by decide +kernel, by decide +kernel⟩

theorem ok_sip {f : Addr} {fd : FuncData} (F : Fun K "_law_sip" "_law_sip" s_law_sip f fd) (T : Txt K mg) : FnOk P w K mg base CX0 1 f fd ["_law_cup_here", "_law_many"] spSip := by
  refine F.ok sc_law_sip (fun vs H Q E h => ?_) (fun cdv A outer s H vs Q E hr h => ?_)
  · obtain ⟨c, m, rfl, _⟩ := h
    rfl
  · obtain ⟨c, m, rfl, ⟨x, y, hc, x0, x1, y0⟩, m0, ms, k⟩ := h
    refine ⟨_, (pss_cons (ps_asg (pe_op op_mod (pe_callTy call_int1 (by rfl) T.int_ (by decide +kernel) (pa_cons (pe_op op_add (pe_op op_mul (pe_ix ix_list (pv 0) pe_int (fun _ _ => rfl)) pe_int) pe_int) pa_nil)) pe_int) (pg_sub (pv 0) pe_int set_list))
      (pss_cons (ps_if (pt_cmpR op_gt (pe_ix ix_list (pv 0) pe_int (fun _ _ => rfl)) pe_int (nomark _)) (pss_cons (ps_asg (pe_callB call_divmodW (by rfl) T.divmod (by decide +kernel) (pa_cons (pe_ix ix_list (pv 0) pe_int (fun _ _ => rfl)) (pa_cons (pv 1) pa_nil))) (pg_tup rfl (pgs_cons (pg_sub (pv 0) pe_int set_list) (pgs_cons (pg_name (i := 2) sc_law_sip.nd rfl (.inl rfl)) pgs_nil))))
      (pss_one (ps_ret (pv 2)))) pss_nil)
      (pss_one (ps_ret (pe_op op_mod (pe_callTy call_int1 (by rfl) T.int_ (by decide +kernel) (pa_cons (pe_op op_fdivW (pe_ix ix_list (pv 0) pe_int (fun _ _ => rfl)) pe_int) pa_nil)) (pv 1)))))), ?_⟩
    -- cup[0] = ..
    refine ⟨_, rfl, c, _, _, _, rfl, rfl, SqL.of hc, atI_nat (j := 0) rfl, _, _, rfl, rfl, .inr ⟨by decide, by decide⟩, _, _, rfl, rfl, .inl ⟨_, rfl, _, _, rfl, rfl, (by decide : (0 : Int) < 2147483629), _, rfl, c, _, _, _, rfl, rfl, hc, rfl, ?_⟩⟩
    have z0 : 0 ≤ (x * 48271 + 11) % 2147483629 := Int.emod_nonneg _ (by decide)
    have z1 : (x * 48271 + 11) % 2147483629 < 2147483629 := Int.emod_lt_of_pos _ (by decide)
    have hc1 : (upd H c (HO.lst ([V.int x, V.int y].set 0 (V.int ((x * 48271 + 11) % 2147483629))))) c = some (.lst [.int ((x * 48271 + 11) % 2147483629), .int y]) := upd_same
    have b1 : But c H (upd H c (HO.lst ([V.int x, V.int y].set 0 (V.int ((x * 48271 + 11) % 2147483629))))) := But.upd
    -- if cup[1] > 0
    refine ⟨_, rfl, c, _, _, _, rfl, rfl, SqL.of hc1, atI_nat (j := 1) rfl, _, _, rfl, rfl, _, rfl, ite2 (fun e => ?_) (fun e => ?_)⟩
    · have e0 : 0 < y := of_decide_eq_true e
      refine ⟨_, rfl, c, _, _, _, rfl, rfl, SqL.of hc1, atI_nat (j := 1) rfl, _, rfl, _, _, rfl, ⟨m0, PyProof.noPylong_of_log2 (PySem.Flt.log2_lt_of (by decide) (Nat.lt_of_lt_of_le ms (Nat.pow_le_pow_right (by decide) (by decide : 200 ≤ 9000))))⟩, fun p hp => ?_⟩
      have ncp : c ≠ p := ne_of_none hc1 hp
      have hc2 : (upd (upd H c (HO.lst ([V.int x, V.int y].set 0 (V.int ((x * 48271 + 11) % 2147483629))))) p (HO.tup [V.int (y / m), V.int (y % m)])) c = some (.lst [.int ((x * 48271 + 11) % 2147483629), .int y]) := by
        rw [upd_ne ncp]
        exact hc1
      refine ⟨p, _, rfl, SqT.of upd_same, rfl, _, _, rfl, _, rfl, c, _, _, _, rfl, rfl, hc2, rfl, _, _, rfl, rfl, _, rfl, ?_⟩
      refine k _ _ ?_ ⟨_, y / m, upd_same, z0, z1, Int.ediv_nonneg y0 (by omega)⟩ (Int.emod_nonneg _ (by omega)) (Int.emod_lt_of_pos _ m0)
      exact (b1.trans (But.of (same_upd hp))).trans But.upd
    · refine ⟨_, rfl, c, _, _, _, rfl, rfl, SqL.of hc1, atI_nat (j := 0) rfl, _, _, rfl, rfl, ⟨by decide, by decide⟩, .inl ⟨_, rfl, _, rfl, _, _, rfl, rfl, m0, ?_⟩⟩
      exact k _ _ b1 ⟨_, y, hc1, z0, z1, y0⟩ (Int.emod_nonneg _ (by omega)) (Int.emod_lt_of_pos _ m0)
abbrev s_law_pick : Stmt := top 52
theorem sc_law_pick : FnScope ["_law_cup_here", "_law_things"] ["_law_cup_here", "_law_things"] (defScope s_law_pick) := ⟨rfl, rfl, rfl, by decide +kernel, rfl, by decide +kernel, by decide +kernel⟩

theorem ok_pick {f : Addr} {fd : FuncData} (F : Fun K "_law_pick" "_law_pick" s_law_pick f fd) (T : Txt K mg) (D_law_sip : Df P w K mg base 1 "_law_sip" ["_law_cup_here", "_law_many"] spSip) : FnOk P w K mg base CX0 2 f fd ["_law_cup_here", "_law_things"] spPick := by
  refine F.ok sc_law_pick (fun vs H Q E h => ?_) (fun cdv A outer s H vs Q E hr h => ?_)
  · obtain ⟨c, l, xs, rfl, _⟩ := h
    rfl
  · obtain ⟨c, l, xs, rfl, hc, ncl, hl, l0, l1, k⟩ := h
    refine ⟨_, (pss_one (ps_ret (pe_ix ix_list (pv 1) (pe_df D_law_sip (hr.mono (by decide)) (by rfl) (pa_cons (pv 0) (pa_cons (pe_callB call_len_seq (by rfl) T.len (by decide +kernel) (pa_cons (pv 1) pa_nil)) pa_nil))) (fun _ _ => rfl)))), ?_⟩
    refine ⟨_, rfl, _, rfl, _, rfl, l, _, rfl, .inl (SqL.of hl), c, _, rfl, hc, (by omega), ?_, fun H' r b hc' r0 r1 => ?_⟩
    · unfold Sm
      have : (2 : Nat) ^ 7 ≤ 2 ^ 200 := Nat.pow_le_pow_right (by decide) (by decide)
      have : (2 : Nat) ^ 7 = 128 := by decide
      omega
    · obtain ⟨n, rfl⟩ := Int.eq_ofNat_of_zero_le r0
      have hn : n < xs.length := by omega
      refine ⟨l, xs, _, _, rfl, rfl, SqL.of (b _ _ ncl.symm hl), atI_nat (List.getElem?_eq_getElem hn), ?_⟩
      exact k _ _ b hc' (List.getElem_mem hn)
end
end RL

namespace RL
open PySem L2
section
variable {P : Program} {w : World} {K : PySem.W.Frag} {mg : Str → Option Value} {base : Heap}
theorem cutV2 (xs : List V) : cutV xs none (some 2) = xs.take 2 := by
  unfold cutV
  rw [HT.sIx_none, show HT.sIx xs.length xs.length (some 2) = min 2 xs.length from HT.sIx_nat xs.length xs.length 2]
  rw [Nat.sub_zero, List.drop_zero]
  rcases Nat.le_total 2 xs.length with h | h
  · rw [Nat.min_eq_left h]
  · rw [Nat.min_eq_right h, List.take_length, List.take_of_length_le h]
abbrev s_law_cup : Stmt := top 50
theorem sc_law_cup : FnScope ["_law_script", "_law_spot", "_law_cell", "_law_one"] ["_law_script", "_law_spot"] (defScope s_law_cup) := ⟨rfl, rfl, rfl, by decide +kernel, rfl, by decide +kernel, by decide +kernel⟩

theorem ok_cup {f : Addr} {fd : FuncData} (F : Fun K "_law_cup" "_law_cup" s_law_cup f fd) (T : Txt K mg) : FnOk P w K mg base CX0 1 f fd ["_law_script", "_law_spot"] (spCup K) := by
  refine F.ok sc_law_cup (fun vs H Q E h => ?_) (fun cdv A outer s H vs Q E hr h => ?_)
  · obtain ⟨a, ns, i, rfl, _⟩ := h
    rfl
  · obtain ⟨a, ns, i, rfl, hS, hi, hn, k⟩ := h
    refine ⟨_, (pss_cons (ps_set (i := 2) sc_law_cup.nd rfl (.inl rfl) (pe_ifExp (pt_cmpR op_lt (pv 1) (pe_callB call_len_seq (by rfl) T.len (by decide +kernel) (pa_cons (pv 0) pa_nil)) (nomark _)) (pe_ix ix_list (pv 0) (pv 1) (fun _ _ => rfl)) (pe_op op_add (pe_op op_mul pe_int (pv 1)) pe_int)))
      (pss_cons (ps_for PassesOwn.never rfl (pi_list (pe_ifExp (pt_cmpR op_ge (pv 1) (pe_callB call_len_seq (by rfl) T.len (by decide +kernel) (pa_cons (pv 0) pa_nil)) (nomark _)) (pe_slice sl_list (pv 0) po_none (po_some pe_int)) (pe_lst pa_nil))) (pg_name (i := 3) sc_law_cup.nd rfl (.inl rfl)) (pss_one (ps_set (i := 2) sc_law_cup.nd rfl (.inl rfl) (pe_op op_mod (pe_callTy call_int1 (by rfl) T.int_ (by decide +kernel) (pa_cons (pe_op op_add (pe_op op_mul (pv 2) pe_int) (pv 3)) pa_nil)) pe_int))))
      (pss_one (ps_ret (pe_lst (pa_cons (pe_op op_mod (pe_callTy call_int1 (by rfl) T.int_ (by decide +kernel) (pa_cons (pe_op op_add (pe_op op_add (pe_op op_mul (pv 2) pe_int) (pe_op op_mul pe_int (pv 1))) pe_int) pa_nil)) pe_int) (pa_cons (pe_ifExp (PW.pt (pw_or (pt_cmpR op_lt (pv 2) pe_int (nomark _)) (pw_or1 (pt_cmpR op_ge (pv 2) (pe_op op_pow pe_int pe_int) (nomark _))))) (pe_callB call_abs (by rfl) T.abs (by decide +kernel) (pa_cons (pv 2) pa_nil)) pe_int) pa_nil))))))), ?_⟩
    have hlen : (ns.map V.int).length = ns.length := List.length_map ..
    have isI : ∀ (xs : List Int) (j : Nat) (y : V), (xs.map V.int)[j]? = some y → ∃ u, y = V.int u := fun xs j y hj => by
      rw [List.getElem?_map] at hj
      cases q : xs[j]? with
      | none =>
        rw [q] at hj
        cases hj
      | some u =>
        rw [q] at hj
        exact ⟨u, (Option.some.inj hj).symm⟩
    refine ⟨_, rfl, _, rfl, a, _, rfl, .inl hS, _, _, rfl, rfl, _, rfl, ite2 (fun e => ?_) (fun e => ?_)⟩
    · have e0 : (i : Int) < (ns.map V.int).length := of_decide_eq_true e
      have hin : i < ns.length := by omega
      refine ⟨_, rfl, _, rfl, a, _, _, _, rfl, rfl, hS, atI_nat (v := V.int ns[i]) (by rw [List.getElem?_map, List.getElem?_eq_getElem hin]; rfl), ?_⟩
      refine ⟨_, rfl, _, rfl, a, _, rfl, .inl hS, _, _, rfl, rfl, _, rfl, ite2 (fun e2 => absurd (of_decide_eq_true e2) (by omega)) (fun e2 => ?_)⟩
      refine ⟨Nat.zero_le _, fun l hl0 => ?_⟩
      have sm : Same H (upd H l (.lst [])) := same_upd hl0
      have hl : SqL K (upd H l (.lst [])) l (([] : List Int).map V.int) := SqL.of upd_same
      refine ⟨l, rfl, ⟨_, hl⟩, for_list (K := K) (a := l) (xs := ([] : List Int).map V.int) (fun j σ H' => ∃ (c2 : Int) (v3 : Option V), σ = [some (.ref a), some (.int i), some (.int c2), v3] ∧ H' = upd H l (.lst [])) ⟨ns[i], none, rfl, rfl⟩ (fun _ _ _ _ h => by obtain ⟨_, _, _, rfl⟩ := h; exact hl) ?_ ?_⟩
      · rintro j y σ H' hj ⟨c2, v3, rfl, rfl⟩
        obtain ⟨u, rfl⟩ := isI _ _ _ hj
        refine ⟨_, rfl, _, _, rfl, rfl, .inr ⟨by decide, by decide⟩, _, rfl, _, _, rfl, rfl, .inl ⟨_, rfl, _, _, rfl, rfl, (by decide : (0 : Int) < 1000000007), ?_⟩⟩
        exact ⟨_, _, rfl, rfl⟩
      · rintro σ H' ⟨c2, v3, rfl, rfl⟩
        refine ⟨_, rfl, _, _, rfl, rfl, .inr ⟨by decide, by decide⟩, _, rfl, _, _, rfl, rfl, .inl ⟨by decide, by decide⟩, _, _, rfl, rfl, _, _, rfl, rfl, .inl ⟨_, rfl, _, _, rfl, rfl, (by decide : (0 : Int) < 2147483629), ?_⟩⟩
        have z0 : 0 ≤ (c2 * 4099 + 271 * (i : Int) + 17) % 2147483629 := Int.emod_nonneg _ (by decide)
        have z1 : (c2 * 4099 + 271 * (i : Int) + 17) % 2147483629 < 2147483629 := Int.emod_lt_of_pos _ (by decide)
        refine ⟨_, rfl, _, _, rfl, rfl, _, rfl, ite2 (fun e3 => ?_) (fun e3 => ?_)⟩
        · refine iteT ⟨_, rfl, _, rfl, (by show 2 ≤ sizeLine; decide), fun p hp => ?_⟩
          refine k _ p (sm.trans (same_upd hp)) (sm.free hp) ⟨_, _, upd_same, z0, z1, ?_⟩
          split <;> omega
        · refine ⟨_, rfl, _, _, rfl, rfl, ⟨by decide, by decide, by decide⟩, _, _, rfl, rfl, _, rfl, ite2 (fun e4 => ?_) (fun e4 => ?_)⟩
          · refine ⟨_, rfl, _, rfl, (by show 2 ≤ sizeLine; decide), fun p hp => ?_⟩
            refine k _ p (sm.trans (same_upd hp)) (sm.free hp) ⟨_, _, upd_same, z0, z1, ?_⟩
            split <;> omega
          · refine ⟨(by show 2 ≤ sizeLine; decide), fun p hp => ?_⟩
            exact k _ p (sm.trans (same_upd hp)) (sm.free hp) ⟨_, _, upd_same, z0, z1, by decide⟩
    · have e0 : ¬ (i : Int) < (ns.map V.int).length := fun z => e (decide_eq_true z)
      refine ⟨_, rfl, _, _, rfl, rfl, .inl ⟨by decide, by decide⟩, _, _, rfl, rfl, ?_⟩
      refine ⟨_, rfl, _, rfl, a, _, rfl, .inl hS, _, _, rfl, rfl, _, rfl, ite2 (fun e2 => ?_) (fun e2 => absurd (decide_eq_true (show ((ns.map V.int).length : Int) ≤ (i : Int) by omega)) e2)⟩
      refine ⟨_, rfl, 2, rfl, a, _, rfl, hS, fun l hl0 => ?_⟩
      have sm := same_upd (o := .lst (cutV (ns.map V.int) none (some 2))) hl0
      have hl : SqL K (upd H l (.lst (cutV (ns.map V.int) none (some 2)))) l ((ns.take 2).map V.int) := by
        refine SqL.of ?_
        rw [upd_same, cutV2, List.map_take]
      refine ⟨l, rfl, ⟨_, hl⟩, for_list (K := K) (a := l) (xs := (ns.take 2).map V.int) (fun j σ H' => ∃ (c2 : Int) (v3 : Option V), σ = [some (.ref a), some (.int i), some (.int c2), v3] ∧ H' = upd H l (.lst (cutV (ns.map V.int) none (some 2)))) ⟨_, none, rfl, rfl⟩ (fun _ _ _ _ h => by obtain ⟨_, _, _, rfl⟩ := h; exact hl) ?_ ?_⟩
      · rintro j y σ H' hj ⟨c2, v3, rfl, rfl⟩
        obtain ⟨u, rfl⟩ := isI _ _ _ hj
        refine ⟨_, rfl, _, _, rfl, rfl, .inr ⟨by decide, by decide⟩, _, rfl, _, _, rfl, rfl, .inl ⟨_, rfl, _, _, rfl, rfl, (by decide : (0 : Int) < 1000000007), ?_⟩⟩
        exact ⟨_, _, rfl, rfl⟩
      · rintro σ H' ⟨c2, v3, rfl, rfl⟩
        refine ⟨_, rfl, _, _, rfl, rfl, .inr ⟨by decide, by decide⟩, _, rfl, _, _, rfl, rfl, .inl ⟨by decide, by decide⟩, _, _, rfl, rfl, _, _, rfl, rfl, .inl ⟨_, rfl, _, _, rfl, rfl, (by decide : (0 : Int) < 2147483629), ?_⟩⟩
        have z0 : 0 ≤ (c2 * 4099 + 271 * (i : Int) + 17) % 2147483629 := Int.emod_nonneg _ (by decide)
        have z1 : (c2 * 4099 + 271 * (i : Int) + 17) % 2147483629 < 2147483629 := Int.emod_lt_of_pos _ (by decide)
        refine ⟨_, rfl, _, _, rfl, rfl, _, rfl, ite2 (fun e3 => ?_) (fun e3 => ?_)⟩
        · refine iteT ⟨_, rfl, _, rfl, (by show 2 ≤ sizeLine; decide), fun p hp => ?_⟩
          refine k _ p (sm.trans (same_upd hp)) (sm.free hp) ⟨_, _, upd_same, z0, z1, ?_⟩
          split <;> omega
        · refine ⟨_, rfl, _, _, rfl, rfl, ⟨by decide, by decide, by decide⟩, _, _, rfl, rfl, _, rfl, ite2 (fun e4 => ?_) (fun e4 => ?_)⟩
          · refine ⟨_, rfl, _, rfl, (by show 2 ≤ sizeLine; decide), fun p hp => ?_⟩
            refine k _ p (sm.trans (same_upd hp)) (sm.free hp) ⟨_, _, upd_same, z0, z1, ?_⟩
            split <;> omega
          · refine ⟨(by show 2 ≤ sizeLine; decide), fun p hp => ?_⟩
            exact k _ p (sm.trans (same_upd hp)) (sm.free hp) ⟨_, _, upd_same, z0, z1, by decide⟩
end
end RL

namespace RL
open PySem L2
theorem mx {a b : Nat} {i j : Int} (hi : Sm a i) (hj : Sm b j) (h : a + b ≤ 134217728 := by decide) : CMulX i j := mulx_ok hi hj h
theorem dvw {b : Nat} {i j : Int} (h : 0 < j) (hb : Sm b j) (h0 : 0 < b := by decide) (h9 : b ≤ 9000 := by decide) : CDivW i j := wide_div h hb h0 h9
structure Txt2 (K : PySem.W.Frag) (mg : Str → Option Value) (tG : Tok) (aO : Addr) : Prop extends Txt K mg where
  mgG : mg "GREATEST" = some (.int 1000000000000 tG)
  mgO : mg "OPEN" = some (.ref aO)
  opn : ∃ (o : Obj) (its : Array Value) (n : Nat), K.lookup aO = some o ∧ o.cls = .type "tuple" ∧ o.data = .seq its n ∧ its.size ≤ sizeLine ∧ Vals [.int 1, .int 0] its.toList
/-- a resistance's two integers -/
def ResP (t b : Int) : Prop := (0 ≤ t ∧ t ≤ 1000000000000 ∧ 1 ≤ b ∧ b ≤ 1000000000000) ∨ (t = 1 ∧ b = 0)
def spIsInt : Sp := fun vs H Q _ => (∃ i, vs = [.int i] ∧ Q (.bl true) H) ∨ (∃ p xs, vs = [.ref p] ∧ H p = some (.tup xs) ∧ Q (.bl false) H)
def spWithin : Sp := fun vs H Q _ => ∃ v lo hi : Int, vs = [.int v, .int lo, .int hi] ∧ lo ≤ v ∧ v ≤ hi ∧ Q (.bl true) H
def spIsPair : Sp := fun vs H Q _ => ∃ (p : Addr) (t b : Int), vs = [.ref p] ∧ H p = some (.tup [.int t, .int b]) ∧ Q (.bl true) H
def spIsRes : Sp := fun vs H Q _ => (∃ i : Int, vs = [.int i] ∧ 0 ≤ i ∧ i ≤ 1000000000000 ∧ Q (.bl true) H) ∨ (∃ (p : Addr) (t b : Int), vs = [.ref p] ∧ H p = some (.tup [.int t, .int b]) ∧ ResP t b ∧ Q (.bl true) H)
def spPairOf : Sp := fun vs H Q _ => (∃ i, vs = [.int i] ∧ ∀ H' p, Same H H' → H p = none → H' p = some (.tup [.int i, .int 1]) → Q (.ref p) H') ∨ (∃ p xs, vs = [.ref p] ∧ H p = some (.tup xs) ∧ Q (.ref p) H)
def spGcd : Sp := fun vs H Q _ => ∃ x y : Int, vs = [.int x, .int y] ∧ Q (.int (gc x y)) H
def spLow : Sp := fun vs H Q _ => ∃ (t b : Int), vs = [.int t, .int b] ∧ Pos2 (t, b) ∧ Sm 4000 t ∧ Sm 4000 b ∧
  ∀ H' p, Same H H' → H p = none → H' p = some (.tup [.int (low (t, b)).1, .int (low (t, b)).2]) → Q (.ref p) H'
def spLowP : Sp := fun vs H Q _ => ∃ (v : V) (e : Int × Int), vs = [v] ∧ ((∃ i, v = .int i ∧ e = (i, 1)) ∨ (∃ p, v = .ref p ∧ H p = some (.tup [.int e.1, .int e.2]))) ∧ Pos2 e ∧ Sm 4000 e.1 ∧ Sm 4000 e.2 ∧
  ∀ H' p, Same H H' → H p = none → H' p = some (.tup [.int (low e).1, .int (low e).2]) → Q (.ref p) H'
section
variable {P : Program} {w : World} {K : PySem.W.Frag} {mg : Str → Option Value} {base : Heap} {tG : Tok} {aO : Addr}
abbrev s_is_integer : Stmt := top 7
theorem sc_is_integer : FnScope ["value"] ["value"] (defScope s_is_integer) := ⟨rfl, rfl, rfl, by decide +kernel, rfl, by decide +kernel, by decide +kernel⟩

theorem ok_isint {f : Addr} {fd : FuncData} (F : Fun K "is_integer" "is_integer" s_is_integer f fd) (T : Txt K mg) : FnOk P w K mg base CX0 1 f fd ["value"] spIsInt := by
  refine F.ok sc_is_integer (fun vs H Q E h => ?_) (fun cdv A outer s H vs Q E hr h => ?_)
  · rcases h with ⟨i, rfl, _⟩ | ⟨p, xs, rfl, _⟩ <;> rfl
  · refine ⟨_, (pss_one (ps_ret (pe_and (pe_callB call_isi (by rfl) T.isinstance (by decide +kernel) (pa_cons (pv 0) (pa_cons (pe_bltn (v := .ty "int") (by rfl) T.int_ (by decide +kernel) rfl) pa_nil))) (pe_one (pe_not (pe_callB call_isi (by rfl) T.isinstance (by decide +kernel) (pa_cons (pv 0) (pa_cons (pe_bltn (v := .ty "bool") (by rfl) T.bool_ (by decide +kernel) rfl) pa_nil)))))))), ?_⟩
    rcases h with ⟨i, rfl, k⟩ | ⟨p, xs, rfl, hp, k⟩
    · refine ⟨_, rfl, _, _, _, _, true, rfl, .ty _, .base (.int i), kit_ty (by decide +kernel), true, rfl, iteT ?_⟩
      exact ⟨_, rfl, _, _, _, _, false, rfl, .ty _, .base (.int i), kit_ty (by decide +kernel), false, rfl, k⟩
    · refine ⟨_, rfl, _, _, _, _, false, rfl, .ty _, .base (.tup hp), kit_ty (by decide +kernel), false, rfl, iteF ?_⟩
      exact k
abbrev s_is_integer_within : Stmt := top 8
theorem sc_is_integer_within : FnScope ["value", "least", "most"] ["value", "least", "most"] (defScope s_is_integer_within) := ⟨rfl, rfl, rfl, by decide +kernel, rfl, by decide +kernel, by decide +kernel⟩

theorem ok_within {f : Addr} {fd : FuncData} (F : Fun K "is_integer_within" "is_integer_within" s_is_integer_within f fd) (D_is_integer : Df P w K mg base 1 "is_integer" ["value"] spIsInt) : FnOk P w K mg base CX0 2 f fd ["value", "least", "most"] spWithin := by
  refine F.ok sc_is_integer_within (fun vs H Q E h => ?_) (fun cdv A outer s H vs Q E hr h => ?_)
  · obtain ⟨v, lo, hi, rfl, _⟩ := h
    rfl
  · obtain ⟨v, lo, hi, rfl, h1, h2, k⟩ := h
    refine ⟨_, (pss_one (ps_ret (pe_and (pe_df D_is_integer (hr.mono (by decide)) (by rfl) (pa_cons (pv 0) pa_nil)) (pe_one (pe_chain op_le op_le (pv 1) (pv 0) (pv 2)))))), ?_⟩
    refine ⟨_, rfl, .inl ⟨v, rfl, true, rfl, iteT ?_⟩⟩
    refine ⟨_, rfl, _, rfl, _, _, rfl, rfl, _, rfl, ite2 (fun _ => ?_) (fun e => absurd (decide_eq_true h1) e)⟩
    refine ⟨_, rfl, _, _, rfl, rfl, ?_⟩
    show Q (.bl (decide (v ≤ hi))) H
    rw [decide_eq_true h2]
    exact k
abbrev s_is_pair_of_integers : Stmt := top 9
theorem sc_is_pair_of_integers : FnScope ["value"] ["value"] (defScope s_is_pair_of_integers) := ⟨rfl, rfl, rfl, by decide +kernel, rfl, by decide +kernel, by decide +kernel⟩

theorem ok_ispair {f : Addr} {fd : FuncData} (F : Fun K "is_pair_of_integers" "is_pair_of_integers" s_is_pair_of_integers f fd) (T : Txt K mg) (D_is_integer : Df P w K mg base 1 "is_integer" ["value"] spIsInt) : FnOk P w K mg base CX0 2 f fd ["value"] spIsPair := by
  refine F.ok sc_is_pair_of_integers (fun vs H Q E h => ?_) (fun cdv A outer s H vs Q E hr h => ?_)
  · obtain ⟨p, t, b, rfl, _⟩ := h
    rfl
  · obtain ⟨p, t, b, rfl, hp, k⟩ := h
    refine ⟨_, (pss_one (ps_ret (pe_and (pe_callB call_isi (by rfl) T.isinstance (by decide +kernel) (pa_cons (pv 0) (pa_cons (pe_bltn (v := .ty "tuple") (by rfl) T.tuple_ (by decide +kernel) rfl) pa_nil))) (pe_and (pe_cmpR op_eq (pe_callB call_len_seq (by rfl) T.len (by decide +kernel) (pa_cons (pv 0) pa_nil)) pe_int (nomark _)) (pe_and (pe_df D_is_integer (hr.mono (by decide)) (by rfl) (pa_cons (pe_ix ix_tup (pv 0) pe_int (fun _ _ => rfl)) pa_nil)) (pe_one (pe_df D_is_integer (hr.mono (by decide)) (by rfl) (pa_cons (pe_ix ix_tup (pv 0) pe_int (fun _ _ => rfl)) pa_nil)))))))), ?_⟩
    refine ⟨_, rfl, _, _, _, _, true, rfl, .ty _, .base (.tup hp), kit_ty (by decide +kernel), true, rfl, iteT ?_⟩
    refine ⟨_, rfl, p, _, rfl, .inr (SqT.of hp), rfl, true, rfl, iteT ?_⟩
    refine ⟨_, rfl, p, _, _, _, rfl, rfl, SqT.of hp, atI_nat (j := 0) rfl, .inl ⟨t, rfl, true, rfl, iteT ?_⟩⟩
    exact ⟨_, rfl, p, _, _, _, rfl, rfl, SqT.of hp, atI_nat (j := 1) rfl, .inl ⟨b, rfl, k⟩⟩
abbrev s_is_resistance : Stmt := top 10
theorem sc_is_resistance : FnScope ["value", "top", "bottom"] ["value"] (defScope s_is_resistance) := ⟨rfl, rfl, rfl, by decide +kernel, rfl, by decide +kernel, by decide +kernel⟩

theorem ok_isres {f : Addr} {fd : FuncData} (F : Fun K "is_resistance" "is_resistance" s_is_resistance f fd) (T : Txt2 K mg tG aO) (D_is_integer : Df P w K mg base 1 "is_integer" ["value"] spIsInt) (D_is_pair_of_integers : Df P w K mg base 2 "is_pair_of_integers" ["value"] spIsPair) : FnOk P w K mg base CX0 3 f fd ["value"] spIsRes := by
  refine F.ok sc_is_resistance (fun vs H Q E h => ?_) (fun cdv A outer s H vs Q E hr h => ?_)
  · rcases h with ⟨i, rfl, _⟩ | ⟨p, t, b, rfl, _⟩ <;> rfl
  · refine ⟨_, (pss_cons (ps_if (pt_val (pe_df D_is_integer (hr.mono (by decide)) (by rfl) (pa_cons (pv 0) pa_nil))) (pss_one (ps_ret (pe_chain op_le op_le pe_int (pv 0) (pe_glob (v := .int 1000000000000) rfl T.mgG ⟨_, rfl⟩)))) pss_nil)
      (pss_cons (ps_if (pt_not (pt_val (pe_df D_is_pair_of_integers (hr.mono (by decide)) (by rfl) (pa_cons (pv 0) pa_nil)))) (pss_one (ps_ret pe_bl)) pss_nil)
      (pss_cons (ps_asg (pv 0) (pg_tup rfl (pgs_cons (pg_name (i := 1) sc_is_resistance.nd rfl (.inl rfl)) (pgs_cons (pg_name (i := 2) sc_is_resistance.nd rfl (.inl rfl)) pgs_nil))))
      (pss_one (ps_ret (pe_or (pe_cmpR (op_eqD hr.units) (pv 0) (pe_glob (v := .ref aO) rfl T.mgO rfl) (nomark _)) (pe_one (pe_and (pe_chain op_le op_le pe_int (pv 1) (pe_glob (v := .int 1000000000000) rfl T.mgG ⟨_, rfl⟩)) (pe_one (pe_chain op_le op_le pe_int (pv 2) (pe_glob (v := .int 1000000000000) rfl T.mgG ⟨_, rfl⟩))))))))))), ?_⟩
    rcases h with ⟨i, rfl, i0, i1, k⟩ | ⟨p, t, b, rfl, hp, hR, k⟩
    · refine ⟨_, rfl, .inl ⟨i, rfl, true, rfl, iteT ?_⟩⟩
      refine ⟨_, rfl, _, _, rfl, rfl, _, rfl, ite2 (fun _ => ?_) (fun e => absurd (decide_eq_true i0) e)⟩
      refine ⟨_, _, rfl, rfl, ?_⟩
      show Q (.bl (decide (i ≤ 1000000000000))) H
      rw [decide_eq_true i1]
      exact k
    · refine ⟨_, rfl, .inr ⟨p, _, rfl, hp, false, rfl, iteF ?_⟩⟩
      refine ⟨_, rfl, p, t, b, rfl, hp, true, rfl, iteF ?_⟩
      refine ⟨_, rfl, p, _, rfl, SqT.of hp, rfl, _, _, rfl, _, _, rfl, rfl, ?_⟩
      refine ⟨_, rfl, .tuple [.int t, .int b], .tuple [.int 1, .int 0], .tup (SqT.of hp) (.cons (.int _) (.cons (.int _) .nil)), .tup (.inr T.opn) (.cons (.int _) (.cons (.int _) .nil)), rfl, rfl, _, rfl, ite2 (fun _ => k) (fun e => ?_)⟩
      rcases hR with ⟨t0, t1, b0, b1⟩ | ⟨rfl, rfl⟩
      · refine ⟨_, rfl, _, _, rfl, rfl, _, rfl, ite2 (fun _ => ?_) (fun e => absurd (decide_eq_true t0) e)⟩
        refine ⟨_, _, rfl, rfl, _, rfl, ite2 (fun _ => ?_) (fun e => absurd (decide_eq_true t1) e)⟩
        refine ⟨_, rfl, _, _, rfl, rfl, _, rfl, ite2 (fun _ => ?_) (fun e => absurd (decide_eq_true b0) e)⟩
        refine ⟨_, _, rfl, rfl, ?_⟩
        show Q (.bl (decide (b ≤ 1000000000000))) H
        rw [decide_eq_true b1]
        exact k
      · exact absurd (SeqAt.eqv_refl _ (by decide +kernel)) e
abbrev s_pair_of : Stmt := top 11
theorem sc_pair_of : FnScope ["fraction_or_open"] ["fraction_or_open"] (defScope s_pair_of) := ⟨rfl, rfl, rfl, by decide +kernel, rfl, by decide +kernel, by decide +kernel⟩

theorem ok_pairof {f : Addr} {fd : FuncData} (F : Fun K "pair_of" "pair_of" s_pair_of f fd) (D_is_integer : Df P w K mg base 1 "is_integer" ["value"] spIsInt) : FnOk P w K mg base CX0 2 f fd ["fraction_or_open"] spPairOf := by
  refine F.ok sc_pair_of (fun vs H Q E h => ?_) (fun cdv A outer s H vs Q E hr h => ?_)
  · rcases h with ⟨i, rfl, _⟩ | ⟨p, xs, rfl, _⟩ <;> rfl
  · refine ⟨_, (pss_cons (ps_if (pt_val (pe_df D_is_integer (hr.mono (by decide)) (by rfl) (pa_cons (pv 0) pa_nil))) (pss_one (ps_ret (pe_tup (pa_cons (pv 0) (pa_cons pe_int pa_nil))))) pss_nil)
      (pss_one (ps_ret (pv 0)))), ?_⟩
    rcases h with ⟨i, rfl, k⟩ | ⟨p, xs, rfl, hp, k⟩
    · refine ⟨_, rfl, .inl ⟨i, rfl, true, rfl, iteT ?_⟩⟩
      exact ⟨_, rfl, (by show 2 ≤ sizeLine; decide), fun q hq => k _ q (same_upd hq) hq upd_same⟩
    · refine ⟨_, rfl, .inr ⟨p, _, rfl, hp, false, rfl, iteF ?_⟩⟩
      exact ⟨_, rfl, k⟩
abbrev s_common_divisor : Stmt := top 12
theorem sc_common_divisor : FnScope ["first", "second", "high", "low"] ["first", "second"] (defScope s_common_divisor) := ⟨rfl, rfl, rfl, by decide +kernel, rfl, by decide +kernel, by decide +kernel⟩

theorem ok_gcd {f : Addr} {fd : FuncData} (F : Fun K "common_divisor" "common_divisor" s_common_divisor f fd) (T : Txt K mg) : FnOk P w K mg base CX0 1 f fd ["first", "second"] spGcd := by
  refine F.ok sc_common_divisor (fun vs H Q E h => ?_) (fun cdv A outer s H vs Q E hr h => ?_)
  · obtain ⟨t, b, rfl, _⟩ := h
    rfl
  · obtain ⟨t, b, rfl, k⟩ := h
    refine ⟨_, (pss_cons (ps_par (by rfl) sc_common_divisor.nd (i := 2) (j := 3) rfl rfl (by decide) rfl rfl (pa_cons (pe_callB call_abs (by rfl) T.abs (by decide +kernel) (pa_cons (pv 0) pa_nil)) (pa_cons (pe_callB call_abs (by rfl) T.abs (by decide +kernel) (pa_cons (pv 1) pa_nil)) pa_nil)) (by rfl))
      (pss_cons (ps_while PassesOwn.never (pt_cmpR op_gt (pv 3) pe_int (nomark _)) (pss_one (ps_par (by rfl) sc_common_divisor.nd (i := 2) (j := 3) rfl rfl (by decide) rfl rfl (pa_cons (pv 3) (pa_cons (pe_op op_mod (pv 2) (pv 3)) pa_nil)) (by rfl))))
      (pss_one (ps_ret (pv 2))))), ?_⟩
    refine ⟨_, rfl, _, rfl, _, rfl, _, rfl, _, _, rfl, ?_⟩
    refine while_by (fun σ H' => H' = H ∧ ∃ x y : Int, σ = [some (.int t), some (.int b), some (.int x), some (.int y)] ∧ 0 ≤ x ∧ 0 ≤ y ∧ gc x y = gc t b) (fun σ _ => match σ with | [_, _, _, some (.int y)] => y.toNat | _ => 0) ⟨rfl, _, _, rfl, by split <;> omega, by split <;> omega, gc_abs _ _⟩ ?_ ?_
    · rintro σ H' ⟨rfl, x, y, rfl, x0, y0, eg⟩
      refine ⟨_, rfl, _, _, rfl, rfl, _, rfl, ite2 (fun e => ?_) (fun e => ?_)⟩
      · have e0 : 0 < y := of_decide_eq_true e
        refine ⟨_, rfl, _, rfl, _, rfl, _, _, rfl, rfl, e0, _, _, rfl, ?_⟩
        have q1 := Int.emod_nonneg x (show y ≠ 0 by omega)
        have q2 := Int.emod_lt_of_pos x e0
        refine ⟨⟨rfl, y, x % y, rfl, y0, q1, ?_⟩, ?_⟩
        · rw [gc_step x0 e0, eg]
        · show (x % y).toNat < y.toNat
          omega
      · have e0 : ¬ 0 < y := fun z => e (decide_eq_true z)
        have y1 : y = 0 := by omega
        subst y1
        rw [gc_zero x0] at eg
        subst eg
        exact ⟨_, rfl, k⟩
    · rintro σ H' Q1 Q2 hq h
      obtain ⟨v, e1, i, j, e2, e3, z⟩ := h
      exact ⟨v, e1, i, j, e2, e3, z.imp fun k z => ⟨z.1, hq _ _ z.2⟩⟩
abbrev s_lowest_terms : Stmt := top 13
theorem sc_lowest_terms : FnScope ["top", "bottom", "divisor"] ["top", "bottom"] (defScope s_lowest_terms) := ⟨rfl, rfl, rfl, by decide +kernel, rfl, by decide +kernel, by decide +kernel⟩

theorem ok_low {f : Addr} {fd : FuncData} (F : Fun K "lowest_terms" "lowest_terms" s_lowest_terms f fd) (D_common_divisor : Df P w K mg base 1 "common_divisor" ["first", "second"] spGcd) : FnOk P w K mg base CX0 2 f fd ["top", "bottom"] spLow := by
  refine F.ok sc_lowest_terms (fun vs H Q E h => ?_) (fun cdv A outer s H vs Q E hr h => ?_)
  · obtain ⟨t, b, rfl, _⟩ := h
    rfl
  · obtain ⟨t, b, rfl, tb, ts, bs, k⟩ := h
    refine ⟨_, (pss_cons (ps_set (i := 2) sc_lowest_terms.nd rfl (.inl rfl) (pe_df D_common_divisor (hr.mono (by decide)) (by rfl) (pa_cons (pv 0) (pa_cons (pv 1) pa_nil))))
      (pss_one (ps_ret (pe_tup (pa_cons (pe_op op_fdivW (pv 0) (pv 2)) (pa_cons (pe_op op_fdivW (pv 1) (pv 2)) pa_nil)))))), ?_⟩
    have g0 : 0 < gc t b := gc_pos2 tb
    have gs : Sm 4000 (gc t b) := gc_sm tb ts bs
    refine ⟨_, rfl, _, rfl, t, b, rfl, ?_⟩
    refine ⟨_, rfl, _, rfl, _, _, rfl, rfl, dvw g0 gs, _, rfl, _, rfl, _, _, rfl, rfl, dvw g0 gs, (by show 2 ≤ sizeLine; decide), fun p hp => ?_⟩
    exact k _ _ (same_upd hp) hp upd_same
abbrev s_lowest_pair : Stmt := top 14
theorem sc_lowest_pair : FnScope ["fraction_or_open", "top", "bottom"] ["fraction_or_open"] (defScope s_lowest_pair) := ⟨rfl, rfl, rfl, by decide +kernel, rfl, by decide +kernel, by decide +kernel⟩

theorem ok_lowp {f : Addr} {fd : FuncData} (F : Fun K "lowest_pair" "lowest_pair" s_lowest_pair f fd) (D_pair_of : Df P w K mg base 2 "pair_of" ["fraction_or_open"] spPairOf) (D_lowest_terms : Df P w K mg base 2 "lowest_terms" ["top", "bottom"] spLow) : FnOk P w K mg base CX0 3 f fd ["fraction_or_open"] spLowP := by
  refine F.ok sc_lowest_pair (fun vs H Q E h => ?_) (fun cdv A outer s H vs Q E hr h => ?_)
  · obtain ⟨v, e, rfl, _⟩ := h
    rfl
  · obtain ⟨v, e, rfl, hv, ep, e1, e2, k⟩ := h
    refine ⟨_, (pss_cons (ps_asg (pe_df D_pair_of (hr.mono (by decide)) (by rfl) (pa_cons (pv 0) pa_nil)) (pg_tup rfl (pgs_cons (pg_name (i := 1) sc_lowest_pair.nd rfl (.inl rfl)) (pgs_cons (pg_name (i := 2) sc_lowest_pair.nd rfl (.inl rfl)) pgs_nil))))
      (pss_one (ps_ret (pe_df D_lowest_terms (hr.mono (by decide)) (by rfl) (pa_cons (pv 1) (pa_cons (pv 2) pa_nil)))))), ?_⟩
    rcases hv with ⟨i, rfl, rfl⟩ | ⟨p, rfl, hp⟩
    · refine ⟨_, rfl, .inl ⟨i, rfl, fun H1 t s1 nt ht => ?_⟩⟩
      refine ⟨t, _, rfl, SqT.of ht, rfl, _, _, rfl, _, _, rfl, rfl, ?_⟩
      exact ⟨_, rfl, _, rfl, _, _, rfl, ep, e1, e2, fun H2 t2 s2 nt2 ht2 => k _ t2 (s1.trans s2) (s1.free nt2) ht2⟩
    · refine ⟨_, rfl, .inr ⟨p, _, rfl, hp, ?_⟩⟩
      refine ⟨p, _, rfl, SqT.of hp, rfl, _, _, rfl, _, _, rfl, rfl, ?_⟩
      exact ⟨_, rfl, _, rfl, _, _, rfl, ep, e1, e2, fun H2 t2 s2 nt2 ht2 => k _ t2 s2 nt2 ht2⟩
end
end RL

set_option maxHeartbeats 1000000
/-! for i, x in enumerate(t), t a tuple. -/
namespace RL
open PySem L2 PySem.Spec PyProof.Rows
open AutoSeq1 (wpAny_loadPart')
theorem meets_enumerate_newT (l : Addr) (items : Array Value) (n : Nat) (dct : Option Addr) (sl : Array (Option Value)) :
    Meets (Builtin.«enumerate.__new__» ⟨[.type "enumerate", .ref l], []⟩) (fun _ R s => s.heap.get? l = some { cls := .type "tuple", dict := dct, data := .seq items n, slots := sl } ∧
      R (.ok (.ret (.ref (s.heap.push { cls := .type "tuple_iterator", data := .fields #[.ref l, .int 0 0] }).objs.size)))
        { s with heap := (s.heap.push { cls := .type "tuple_iterator", data := .fields #[.ref l, .int 0 0] }).push { cls := .type "enumerate", data := .fields #[.none, .bool false, .ref s.heap.objs.size, rawInt 0, .none, .none] } }) :=
  .of_wp fun prog w A R s h => by
    obtain ⟨hp, g, d, tk, os⟩ := s; obtain ⟨hl, h⟩ := h
    have hsub := sub_enumerate
    have hL : Heap.IsTuple (Shared.heap ⟨hp, g, d, tk, os⟩) l items := ⟨_, hl, rfl, n, rfl⟩
    wp_walk using wpAny_loadPart' hl
    refine wpAny_stack_any fun st => wpAny_pure ?_
    split
    · rename_i c _ _ _ _ _
      cases (c == Value.type "enumerate")
      · wp_walk using wpAny_loadPart' hl, wpAny_pyIter_tuple hL
        exact ⟨_, rfl, h⟩
      · wp_walk using wpAny_loadPart' hl, wpAny_pyIter_tuple hL
        exact ⟨_, rfl, h⟩
    · wp_walk using wpAny_loadPart' hl, wpAny_pyIter_tuple hL
      exact ⟨_, rfl, h⟩
section
variable {prog : Program} {w : World} {A : Around} {E : Value → Shared → Prop} {s : Shared}
theorem call_enumerate_tuple {l : Addr} {items : Array Value} {Q : Value → Shared → Prop} (hL : s.heap.IsTuple l items)
    (h : ∀ h', IsEnum h' (s.heap.objs.size + 1) s.heap.objs.size 0 .none → h'.IsTupleIter s.heap.objs.size l 0 → h'.objs.size = s.heap.objs.size + 2 →
      (∀ b o, s.heap.get? b = some o → h'.get? b = some o) → Q (.ref (s.heap.objs.size + 1)) { s with heap := h' }) :
    wpAny (model prog w) A (call (.type "enumerate") [.ref l]) Q E s := by
  obtain ⟨⟨c, dct, dt, sl⟩, hl, hc, n, hd⟩ := hL
  replace hc : c = .type "tuple" := hc
  replace hd : dt = .seq items n := hd
  subst hc hd
  refine callType_new F.called_enumerate (by decide) (F.typeCall_enumerate_1 _) (F.newCall_enumerate_1 _) (fun obj => F.args_object_init_2 obj _) F.entry_enumerate_new
    (meets_enumerate_newT l items n dct sl) ⟨hl, ?_⟩
  have hz : (s.heap.push { cls := .type "tuple_iterator", data := .fields #[.ref l, .int 0 0] }).objs.size = s.heap.objs.size + 1 := Heap.size_push ..
  show _ ∧ _
  rw [hz]
  have he : IsEnum ((s.heap.push { cls := .type "tuple_iterator", data := .fields #[.ref l, .int 0 0] }).push
      { cls := .type "enumerate", data := .fields #[.none, .bool false, .ref s.heap.objs.size, rawInt 0, .none, .none] }) (s.heap.objs.size + 1) s.heap.objs.size 0 .none := by
    have := Heap.get?_push_size (s.heap.push { cls := .type "tuple_iterator", data := .fields #[.ref l, .int 0 0] })
      (o := { cls := .type "enumerate", data := .fields #[.none, .bool false, .ref s.heap.objs.size, rawInt 0, .none, .none] }) rfl
    rw [hz] at this; exact this
  refine ⟨⟨_, he, rfl⟩, h _ he ⟨_, Heap.get?_push_of_some _ (Heap.get?_push_size _ rfl), rfl, rfl⟩ (by rw [Heap.size_push, hz]) fun b o x => Heap.get?_push_of_some _ (Heap.get?_push_of_some _ x)⟩
end
/-- the tuple at a as it stands at each turn, each item in a new pair -/
def IteT (K : PySem.W.Frag) (a : Addr) : It :=
  ⟨fun i H => ∃ (xs : List V) (x : V), SqT K H a xs ∧ xs[i]? = some x, fun i H v H' => ∃ T x, v = .ref T ∧ H T = none ∧ H' = upd H T (.tup [.int (i : Nat), x]) ∧ ∀ xs, SqT K H a xs → xs[i]? = some x, fun i H => ∃ xs : List V, SqT K H a xs ∧ xs.length = i⟩
theorem turn_enumT {P : Program} {w : World} {K : PySem.W.Frag} {elts : List Expr} {kk : Nat} {tpos : Pos} (a e it : Addr) :
    Turn P w K (.Tuple elts kk tpos) (IteT K a) [e, it] e (fun i h => (∃ old, IsEnum h e it ((i : Nat) : Int) old) ∧ h.IsTupleIter it a i ∧ e ≠ it ∧ a ≠ it ∧ a ≠ e) where
  mem := by simp
  obj := fun i h st b hb => by
    obtain ⟨⟨old, he⟩, ⟨o, ho, hc, hd⟩, _⟩ := st
    have e' : b = e ∨ b = it := by simpa using hb
    rcases e' with z | z
    · rw [z]; exact ⟨_, he, fun v q => nomatch q⟩
    · rw [z]; exact ⟨o, ho, fun v q => by rw [hd] at q; cases q⟩
  keep := fun i h h' st k => let ⟨⟨old, he⟩, hi, hne⟩ := st; ⟨⟨old, k e (by simp) _ he⟩, hi.at fun o q => k it (by simp) o q, hne⟩
  item := by
    intro X hP hw hK hc i pins s σ H E I hf st hg
    subst hP hw hK
    obtain ⟨⟨old, he⟩, hit, hne, hai, hae⟩ := st
    obtain ⟨xs, x, hq, hx⟩ := hg
    obtain ⟨its, rv, p, hz⟩ := I.tuple hq
    obtain ⟨u, hu, ru⟩ := rv.get hx
    have hel : e < s.heap.objs.size := Heap.lt_size he
    have hil : it < s.heap.objs.size := by obtain ⟨_, q, _⟩ := hit; exact Heap.lt_size q
    have hi : i < its.toArray.size := by
      have := (List.getElem?_eq_some_iff.mp hu).1
      simpa using this
    refine wpAny_pyNext_enum_itemD (Draws.tuple (A := X.A.in1) (I.ok.hd hc) it a hai its.toArray) he ⟨hit, p⟩ hi hne (by simp [hne, Ne.symm hae]) fun x' h' tk hPx ho st' hT hsz hk => ?_
    have ex : x' = u := by
      have h1 : its.toArray[i]? = some u := by simpa using hu
      rw [h1] at hPx
      exact (Option.some.inj hPx).symm
    subst ex
    refine ⟨_, rfl, wpAny_letOwnedTupleGo_enum (s := { s with heap := h', toks := tk + 1 }) ho fun h'' he' sb => ?_⟩
    have hT2 : h''.get? s.heap.objs.size = some { cls := .type "tuple", data := .seq #[.int i tk, x'] } := (sb.2 _ (Nat.ne_of_gt hel)).trans hT
    have new : ObjOk X.prog X.w (upd H s.heap.objs.size (.tup [.int (i : Nat), x])) h'' s.heap.objs.size (.tup [.int (i : Nat), x]) :=
      ⟨by show 2 ≤ sizeLine; decide, [.int i tk, x'], .cons ⟨_, rfl⟩ (.cons ru .nil), ⟨_, hT2, rfl, _, rfl⟩⟩
    have I1 : Inv X pins σ (upd H s.heap.objs.size (.tup [.int (i : Nat), x])) { s with heap := h'', toks := tk + 1 } :=
      I.turnedNew (ch := [e, it]) (fun b ob hb q => (sb.2 b (fun z => hb (by simp [z]))).trans (hk b ob (fun z => hb (by simp [z])) (fun z => hb (by simp [z])) q)) hf (Nat.le_refl _) new
    refine ⟨.ref s.heap.objs.size, _, I1, rfl, ⟨_, x, rfl, I.hok.fresh (Nat.le_refl _), rfl, fun ys hy => by rw [I.tuple_inj hy hq]; exact hx⟩, ⟨⟨x', ?_⟩, st'.1.at fun o q => (sb.2 it (Ne.symm hne)).trans q, hne, hai, hae⟩, fun b hb => ?_⟩
    · have e1 : ((i + 1 : Nat) : Int) = (i : Int) + 1 := by omega
      rw [e1]; exact he'
    · have hb' : b < s.heap.objs.size := by
        have e' : b = e ∨ b = it := by simpa using hb
        rcases e' with z | z
        · rw [z]; exact hel
        · rw [z]; exact hil
      rw [upd_ne (Nat.ne_of_lt hb')]
      exact (hf b hb).1
  done := by
    intro X hP hw hK hc i pins s σ H E I hf st hg
    subst hP hw hK
    obtain ⟨⟨old, he⟩, hit, hne, hai, hae⟩ := st
    obtain ⟨xs, hq, hx⟩ := hg
    obtain ⟨its, rv, p, hz⟩ := I.tuple hq
    obtain ⟨f0, f1, f2, f3, f4, f5⟩ := hf it (by simp)
    have hl := rv.length
    have en : its.toArray.size = i := by simp; omega
    have hit' : s.heap.IsTupleIter it a its.toArray.size := by rw [en]; exact hit
    exact wpAny_pyNext_enum_endD (Draws.tuple (A := X.A.in1) (I.ok.hd hc) it a hai its.toArray) he ⟨hit', p⟩ fun h' eb => ⟨rfl, I.turned (t' := s.toks) (fun b o hb q => eb b o hb q) f0 f1 f3 f4 f5⟩
  self := fun A i s Q E st h => let ⟨⟨_, he⟩, _⟩ := st; wpAny_pyIter_enum he h
def iEnumT (K : PySem.W.Frag) (ta : TA) : TI := fun σ H R => ta σ H fun vs H1 => ∃ a xs, vs = [.ref a] ∧ SqT K H1 a xs ∧ R (IteT K a) H1
theorem pi_enumT {X : Cx} {e : Expr} {ta : TA} {p pos tpos : Pos} {elts : List Expr} {kk : Nat} (hg : Gl X "enumerate") (hm : X.mg "enumerate" = none) (ha : PA X [e] ta) (hs : starEach [e] X.env = [(false, eval e X.env)] := by rfl) :
    PI X (.Tuple elts kk tpos) (.Call (.Name "enumerate" p) [e] [] pos) (iEnumT X.K ta) := by
  refine ⟨fun pins s σ H R I h => ?_⟩
  refine Call_ (ld_blt I hg hm boot_enumerate (PyProof.Rows.callWith_type1 (thn (ha.run pos pins s σ H _ I h) fun us s1 ⟨vs, H1, I1, r1, q1⟩ => ?_) hs rfl))
  obtain ⟨a, xs, ex, hq, q⟩ := q1
  subst ex
  cases r1 with
  | cons r rr =>
    cases rr
    cases r
    obtain ⟨its, rv, p', hz⟩ := I1.tuple hq
    have hal : a < s1.heap.objs.size := by obtain ⟨o, ho, _⟩ := id p'; exact Heap.lt_size ho
    refine call_enumerate_tuple p' fun h' he hit hsz hk => wpAny_pyIter_enum he ?_
    have I2 : Inv X pins σ H1 { s1 with heap := h' } := I1.kept (t' := s1.toks) hk
    refine ⟨s1.heap.objs.size + 1, [s1.heap.objs.size + 1, s1.heap.objs.size], _, _, H1, rfl, I2, turn_enumT a (s1.heap.objs.size + 1) s1.heap.objs.size, ⟨⟨.none, he⟩, hit, Nat.succ_ne_self _, Nat.ne_of_lt hal, Nat.ne_of_lt (Nat.lt_succ_of_lt hal)⟩, fun b hb => ?_, q⟩
    have e' : b = s1.heap.objs.size + 1 ∨ b = s1.heap.objs.size := by simpa using hb
    have hle : s1.heap.objs.size ≤ b := by
      rcases e' with z | z
      · rw [z]; exact Nat.le_add_right _ _
      · rw [z]; exact Nat.le_refl _
    exact I1.fpOk hle (I1.hok.fresh hle)
/-- the loop, for a tuple that stands in the heap and whose places are alike by the invariant -/
theorem for_enumT {K : PySem.W.Frag} {a : Addr} {xs : List V} {g : TG} {tb : TS} {D : Ends} {σ : L2.St} {H : Hp} (Pv : Nat → L2.St → Hp → Prop) (h0 : Pv 0 σ H) (hl : ∀ i σ H, i ≤ xs.length → Pv i σ H → SqT K H a xs)
    (hs : ∀ i x σ H T, xs[i]? = some x → Pv i σ H → H T = none → g (.ref T) σ (upd H T (.tup [.int (i : Nat), x])) fun σ2 H2 => tb { D with nx := Pv (i + 1), ct := Pv (i + 1), bk := D.nx } σ2 H2) (hd : ∀ σ H, Pv xs.length σ H → D.nx σ H) :
    ∃ W : Nat → Nat → L2.St → Hp → Prop, (∃ m, W 0 m σ H) ∧ ∀ i m σ H, W i m σ H →
      ((IteT K a).stop i H ∧ D.nx σ H) ∨ ((IteT K a).go i H ∧ ∃ N : L2.St → Hp → Prop, (∀ σ' H', N σ' H' → ∃ m', m' < m ∧ W (i + 1) m' σ' H') ∧ ∀ x H', (IteT K a).yld i H x H' → g x σ H' fun σ2 H2 => tb { D with nx := N, ct := N, bk := D.nx } σ2 H2) := by
  refine ⟨fun i m σ H => m = xs.length - i ∧ i ≤ xs.length ∧ Pv i σ H, ⟨xs.length, by simp, Nat.zero_le _, h0⟩, ?_⟩
  rintro i m σ H ⟨rfl, hi, p⟩
  have q := hl i σ H hi p
  by_cases hlt : i < xs.length
  · refine .inr ⟨⟨xs, xs[i], q, by simp [hlt]⟩, Pv (i + 1), fun σ' H' p' => ⟨xs.length - (i + 1), by omega, rfl, hlt, p'⟩, fun x H' y => ?_⟩
    obtain ⟨T, x', rfl, nT, rfl, hx⟩ := y
    exact hs i x' σ H T (hx xs q) p nT
  · have : i = xs.length := by omega
    subst this
    exact .inl ⟨⟨xs, q, rfl⟩, hd σ H p⟩
/-- a def by position, as a promise of its arguments alone -/
theorem fnR_mk {P : Program} {w : World} {K : PySem.W.Frag} {mg : Str → Option Value} {base : Heap} {k : Nat} {g : Addr} {fd : FuncData} {ps : List Str} {sp : Sp} (F : FnOk P w K mg base CX0 k g fd ps sp) (hb : Binds K fd ps []) : FnR P w K mg base CX0 k g sp := by
  intro A outer s H us vs Q E hr e0 r h
  have hl : (us ++ []).length = ps.length := by
    rw [List.append_nil, ← r.length]
    exact F.len _ _ _ _ h
  have KX : K.In s.heap := e0.mod.kin.keeps fun b o e => (e0.bs b o e).1
  have hbb := hb s us KX hl
  rw [List.append_nil] at hbb
  exact F.run A outer s H ⟨us, []⟩ us vs Q E hr e0 hbb r h
end RL

namespace RL
open PySem L2
/-! ### the texts of pieces -/
def wd (r : Bool) : Str := if r = true then Str.ofString "rail" else Str.ofString "rung"
def ptx (p : Pc) : Str := wd p.1 ++ Str.ofString " " ++ ts p.2
theorem ptx_dec : ∀ r r' : Bool, ∀ i j : Fin 12, ptx (r, (i.val : Int) + 1) = ptx (r', (j.val : Int) + 1) → r = r' ∧ i = j := by decide +kernel
theorem ptx_free_dec : ∀ r : Bool, ∀ i : Fin 12, 44 ∉ TL.tl (ptx (r, (i.val : Int) + 1)) ∧ (ptx (r, (i.val : Int) + 1)).length ≤ 7 := by decide +kernel
theorem pc_fin {p : Pc} (h : PcOk p) : ∃ i : Fin 12, p = (p.1, (i.val : Int) + 1) := by
  obtain ⟨h1, h2⟩ := h
  refine ⟨⟨(p.2 - 1).toNat, by omega⟩, ?_⟩
  ext
  · rfl
  · dsimp
    omega
theorem ptx_inj {p q : Pc} (hp : PcOk p) (hq : PcOk q) (h : ptx p = ptx q) : p = q := by
  obtain ⟨i, ei⟩ := pc_fin hp
  obtain ⟨j, ej⟩ := pc_fin hq
  rw [ei, ej] at h
  obtain ⟨a, b⟩ := ptx_dec _ _ _ _ h
  rw [ei, ej, a, b]
theorem ptx_free {p : Pc} (hp : PcOk p) : 44 ∉ TL.tl (ptx p) := by
  obtain ⟨i, ei⟩ := pc_fin hp
  rw [ei]
  exact (ptx_free_dec _ _).1
theorem ptx_len {p : Pc} (hp : PcOk p) : (ptx p).length ≤ 7 := by
  obtain ⟨i, ei⟩ := pc_fin hp
  rw [ei]
  exact (ptx_free_dec _ _).2
theorem wd_inj {r r' : Bool} (h : wd r = wd r') : r = r' := by
  revert r r'
  decide +kernel
theorem both {R G : Prop} (f : R → G) (r : R) : G := f r
theorem ne_selfV (v : V) : ¬ (!decide (v = v)) = true := by
  rw [decide_eq_true rfl]
  decide
/-! ### rows in the heap -/
def PieceAt (H : Hp) (v : V) (p : Pc) : Prop := ∃ t, v = .ref t ∧ H t = some (.tup [.str (wd p.1), .int p.2])
def PiecesAt (H : Hp) (vs : List V) (r : List Pc) : Prop := vs.length = r.length ∧ ∀ (i : Nat) (p : Pc), r[i]? = some p → ∃ v, vs[i]? = some v ∧ PieceAt H v p
theorem PieceAt.same {H H' : Hp} {v : V} {p : Pc} (h : PieceAt H v p) (s : Same H H') : PieceAt H' v p := by
  obtain ⟨t, e, ht⟩ := h
  exact ⟨t, e, s _ _ ht⟩
theorem PiecesAt.same {H H' : Hp} {vs : List V} {r : List Pc} (h : PiecesAt H vs r) (s : Same H H') : PiecesAt H' vs r :=
  ⟨h.1, fun i p hp => let ⟨v, hv, q⟩ := h.2 i p hp; ⟨v, hv, q.same s⟩⟩
theorem PieceAt.but {H H' : Hp} {x : Addr} {v : V} {p : Pc} (h : PieceAt H v p) (s : But x H H') (hx : ∀ xs, H x ≠ some (.tup xs)) : PieceAt H' v p := by
  obtain ⟨t, e, ht⟩ := h
  refine ⟨t, e, s _ _ ?_ ht⟩
  rintro rfl
  exact hx _ ht
theorem PiecesAt.but {H H' : Hp} {x : Addr} {vs : List V} {r : List Pc} (h : PiecesAt H vs r) (s : But x H H') (hx : ∀ xs, H x ≠ some (.tup xs)) : PiecesAt H' vs r :=
  ⟨h.1, fun i p hp => let ⟨v, hv, q⟩ := h.2 i p hp; ⟨v, hv, q.but s hx⟩⟩
theorem PiecesAt.at_ {H : Hp} {vs : List V} {r : List Pc} (h : PiecesAt H vs r) {i : Nat} {v : V} (hv : vs[i]? = some v) : ∃ p, r[i]? = some p ∧ PieceAt H v p := by
  have hi : i < r.length := by
    rw [← h.1]
    exact (List.getElem?_eq_some_iff.mp hv).1
  obtain ⟨w, hw, q⟩ := h.2 i r[i] (List.getElem?_eq_getElem hi)
  rw [hv] at hw
  cases hw
  exact ⟨_, List.getElem?_eq_getElem hi, q⟩
theorem RowOk.at_ {r : List Pc} (h : RowOk r) {i : Nat} {p : Pc} (hp : r[i]? = some p) : PcOk p := h p (List.mem_of_getElem? hp)
structure Txt3 (K : PySem.W.Frag) (mg : Str → Option Value) (tG t1 t2 t3 : Tok) (aO aW J C : Addr) : Prop extends Txt2 K mg tG aO where
  mgOh : mg "MOST_OHMS" = some (.int 12 t1)
  mgPi : mg "MOST_PIECES" = some (.int 4 t2)
  mgJo : mg "MOST_JOINED" = some (.int 8 t3)
  mgW : mg "WORDS" = some (.ref aW)
  wds : ∃ (o : Obj) (its : Array Value) (n : Nat), K.lookup aW = some o ∧ o.cls = .type "tuple" ∧ o.data = .seq its n ∧ its.size ≤ sizeLine ∧ Vals [.str (Str.ofString "rail"), .str (Str.ofString "rung")] its.toList
  mgJ : mg "JoinedRow" = some (.ref J)
  mgC : mg "Pattern" = some (.ref C)
  clJ : Cls K J
  nJ : NoAttr K J "row"
  caJ : PySem.W.findIn K (.ref J) "__class__" = some (some (.builtin "object.__class__"))
  cnJ : PySem.W.specialIn K (.builtin "object.__class__") "__get__" = some (some (.builtin "getset_descriptor.__get__"))
  ctJ : PySem.W.takesIn K (.builtin "object.__class__") = some true
  cmJ : PySem.W.mroIn K J (.type "object") = some true
  isJ : PySem.W.kitOne K (.ref J) (.ref J) = some true
  ktJ : PySem.W.kitOne K (.type "tuple") (.ref J) = some false
  cl : Cls K C
  nRow : NoAttr K C "row"
  nMat : NoAttr K C "matrix"
  nScl : NoAttr K C "scale"
  nFour : NoAttr K C "four"
/-! ### promises -/
def spJ (J : Addr) : Sp := fun vs H Q _ => ∃ (x dx : Addr) (v : V), vs = [.ref x, v] ∧ H x = some (.ins J dx []) ∧ Q .non (upd H x (.ins J dx [("row", v)]))
def spIsPiece : Sp := fun vs H Q _ => ∃ (v : V) (p : Pc), vs = [v] ∧ PieceAt H v p ∧ PcOk p ∧ Q (.bl true) H
def spChk (J : Addr) : Sp := fun vs H Q _ => ∃ p : Addr, vs = [.ref p] ∧ ((∃ j dj q, H p = some (.tup [.ref j]) ∧ H j = some (.ins J dj [("row", .ref q)]) ∧ Q (.ref q) H) ∨
  (∃ ws r, H p = some (.tup ws) ∧ PiecesAt H ws r ∧ RowOk r ∧ 1 ≤ r.length ∧ r.length ≤ 4 ∧ ∀ H', Same H H' → Q (.ref p) H'))
def MatT (m : Mx) : List V := [.int m.a, .int m.b, .int m.c, .int m.d]
def spMat : Sp := fun vs H Q _ => ∃ (q : Addr) (ws : List V) (r : List Pc), vs = [.ref q] ∧ H q = some (.tup ws) ∧ PiecesAt H ws r ∧ RowOk r ∧ r.length ≤ 8 ∧
  ∀ H' p m, Same H H' → H' p = some (.tup [.ref m, .int (sclR r)]) → H' m = some (.tup (MatT (matR r))) → H p = none → H m = none → Q (.ref p) H'
def spShown : Sp := fun vs H Q _ => ∃ (a b : Addr) (m : Mx) (e : Int × Int), vs = [.ref a, .ref b] ∧ H a = some (.tup (MatT m)) ∧ H b = some (.tup [.int e.1, .int e.2]) ∧ MxSm 3000 m ∧ Sm 4000 e.1 ∧ Sm 4000 e.2 ∧
  ∀ H' p, Same H H' → H p = none → H' p = some (.tup [.int (m.app e).1, .int (m.app e).2]) → Q (.ref p) H'
def spPtx : Sp := fun vs H Q _ => ∃ p : Pc, vs = [.str (wd p.1), .int p.2] ∧ PcOk p ∧ Q (.str (ptx p)) H
def spPwt : Sp := fun vs H Q _ => ∃ p : Pc, vs = [.str (ptx p)] ∧ PcOk p ∧ ∀ H' t, Same H H' → H t = none → H' t = some (.tup [.str (wd p.1), .int p.2]) → Q (.ref t) H'
section
variable {P : Program} {w : World} {K : PySem.W.Frag} {mg : Str → Option Value} {base : Heap} {tG t1 t2 t3 : Tok} {aO aW J C : Addr}
abbrev s_JoinedRow_init : Stmt := inClass (top 40) 0
theorem sc_JoinedRow_init : FnScope ["self", "row"] ["self", "row"] (defScope s_JoinedRow_init) := ⟨rfl, rfl, rfl, by decide +kernel, rfl, by decide +kernel, by decide +kernel⟩

theorem ok_join {f : Addr} {fd : FuncData} (F : Fun K "__init__" "JoinedRow.__init__" s_JoinedRow_init f fd) (T : Txt3 K mg tG t1 t2 t3 aO aW J C) : FnOk P w K mg base CX0 1 f fd ["self", "row"] (spJ J) := by
  refine F.ok sc_JoinedRow_init (fun vs H Q E h => ?_) (fun cdv A outer s H vs Q E hr h => ?_)
  · obtain ⟨x, dx, v, rfl, _⟩ := h
    rfl
  · obtain ⟨x, dx, v, rfl, hx, k⟩ := h
    refine ⟨_, (pss_one (ps_fld (pv 0) (pv 1) rfl)), ?_⟩
    exact ⟨_, rfl, _, rfl, x, J, dx, _, rfl, hx, T.clJ, T.nJ, (by show 0 < 1000; decide), k⟩
abbrev s_is_piece : Stmt := top 43
theorem sc_is_piece : FnScope ["value", "word", "ohms"] ["value"] (defScope s_is_piece) := ⟨rfl, rfl, rfl, by decide +kernel, rfl, by decide +kernel, by decide +kernel⟩

theorem ok_ispiece {f : Addr} {fd : FuncData} (F : Fun K "is_piece" "is_piece" s_is_piece f fd) (T : Txt3 K mg tG t1 t2 t3 aO aW J C) (D_is_integer_within : Df P w K mg base 2 "is_integer_within" ["value", "least", "most"] spWithin) : FnOk P w K mg base CX0 3 f fd ["value"] spIsPiece := by
  refine F.ok sc_is_piece (fun vs H Q E h => ?_) (fun cdv A outer s H vs Q E hr h => ?_)
  · obtain ⟨v, p, rfl, _⟩ := h
    rfl
  · obtain ⟨v, p, rfl, ⟨t, rfl, ht⟩, ⟨p1, p2⟩, k⟩ := h
    refine ⟨_, (pss_cons (ps_if (PW.pt (pw_or (pt_not (pt_val (pe_callB call_isi (by rfl) T.isinstance (by decide +kernel) (pa_cons (pv 0) (pa_cons (pe_bltn (v := .ty "tuple") (by rfl) T.tuple_ (by decide +kernel) rfl) pa_nil))))) (pw_or1 (pt_cmpR op_ne (pe_callB call_len_seq (by rfl) T.len (by decide +kernel) (pa_cons (pv 0) pa_nil)) pe_int (nomark _))))) (pss_one (ps_ret pe_bl)) pss_nil)
      (pss_cons (ps_asg (pv 0) (pg_tup rfl (pgs_cons (pg_name (i := 1) sc_is_piece.nd rfl (.inl rfl)) (pgs_cons (pg_name (i := 2) sc_is_piece.nd rfl (.inl rfl)) pgs_nil))))
      (pss_one (ps_ret (pe_and (pe_callB call_isi (by rfl) T.isinstance (by decide +kernel) (pa_cons (pv 1) (pa_cons (pe_bltn (v := .ty "str") (by rfl) T.str_ (by decide +kernel) rfl) pa_nil))) (pe_and (pe_cmpR op_in_seq (pv 1) (pe_glob (v := .ref aW) rfl T.mgW rfl) (by rfl)) (pe_one (pe_df D_is_integer_within (hr.mono (by decide)) (by rfl) (pa_cons (pv 2) (pa_cons pe_int (pa_cons (pe_glob (v := .int 12) rfl T.mgOh ⟨_, rfl⟩) pa_nil))))))))))), ?_⟩
    refine ⟨_, rfl, _, _, _, _, true, rfl, .ty _, .base (.tup ht), kit_ty (by decide +kernel), true, rfl, iteF ?_⟩
    refine ⟨_, rfl, t, _, rfl, .inr (SqT.of ht), rfl, _, rfl, ite2 (fun e => absurd e (ne_selfV (.int 2))) (fun _ => ?_)⟩
    refine ⟨_, rfl, t, _, rfl, SqT.of ht, rfl, _, _, rfl, _, _, rfl, rfl, ?_⟩
    refine ⟨_, rfl, _, _, _, _, true, rfl, .ty _, .base (.str _), kit_ty (by decide +kernel), true, rfl, iteT ?_⟩
    have hin : inV (V.str (wd p.1)) [.str (Str.ofString "rail"), .str (Str.ofString "rung")] = true := by
      cases p.1 <;> decide +kernel
    refine ⟨_, rfl, aW, _, rfl, .inr (.inr T.wds), rfl, rfl, true, congrArg V.bl hin, iteT ?_⟩
    exact ⟨_, rfl, p.2, 1, 12, rfl, p1, p2, k⟩
abbrev s_checked_row : Stmt := top 42
theorem sc_checked_row : FnScope ["pieces", "at", "piece"] ["pieces"] (defScope s_checked_row) := ⟨rfl, rfl, rfl, by decide +kernel, rfl, by decide +kernel, by decide +kernel⟩

theorem ok_chk {f : Addr} {fd : FuncData} (F : Fun K "checked_row" "checked_row" s_checked_row f fd) (T : Txt3 K mg tG t1 t2 t3 aO aW J C) (D_is_piece : Df P w K mg base 3 "is_piece" ["value"] spIsPiece) : FnOk P w K mg base CX0 4 f fd ["pieces"] (spChk J) := by
  refine F.ok sc_checked_row (fun vs H Q E h => ?_) (fun cdv A outer s H vs Q E hr h => ?_)
  · obtain ⟨p, rfl, _⟩ := h
    rfl
  · obtain ⟨p, rfl, h⟩ := h
    refine ⟨_, (pss_cons (ps_if (PW.pt (pw_and (pt_cmpR op_eq (pe_callB call_len_seq (by rfl) T.len (by decide +kernel) (pa_cons (pv 0) pa_nil)) pe_int (nomark _)) (pw_and1 (pt_val (pe_callB call_isi (by rfl) T.isinstance (by decide +kernel) (pa_cons (pe_ix ix_tup (pv 0) pe_int (fun _ _ => rfl)) (pa_cons (pe_glob (v := .ref J) rfl T.mgJ rfl) pa_nil))))))) (pss_one (ps_ret (pe_fld (pe_ix ix_tup (pv 0) pe_int (fun _ _ => rfl)) rfl))) pss_nil)
      (pss_cons (ps_if (PW.pt (pw_or (pt_cmpR op_lt (pe_callB call_len_seq (by rfl) T.len (by decide +kernel) (pa_cons (pv 0) pa_nil)) pe_int (nomark _)) (pw_or1 (pt_cmpR op_gt (pe_callB call_len_seq (by rfl) T.len (by decide +kernel) (pa_cons (pv 0) pa_nil)) (pe_glob (v := .int 4) rfl T.mgPi ⟨_, rfl⟩) (nomark _))))) (pss_one ps_never) pss_nil)
      (pss_cons (ps_for PassesOwn.never rfl (pi_enumT (by rfl) T.enumerate (pa_cons (pv 0) pa_nil)) (pg_tup rfl (pgs_cons (pg_name (i := 1) sc_checked_row.nd rfl (.inl rfl)) (pgs_cons (pg_name (i := 2) sc_checked_row.nd rfl (.inl rfl)) pgs_nil))) (pss_one (ps_if (pt_not (pt_val (pe_df D_is_piece (hr.mono (by decide)) (by rfl) (pa_cons (pv 2) pa_nil)))) (pss_one ps_never) pss_nil)))
      (pss_one (ps_ret (pv 0)))))), ?_⟩
    rcases h with ⟨j, dj, q, hp, hj, k⟩ | ⟨ws, r, hp, hw, hok, l1, l4, k⟩
    · refine ⟨_, rfl, p, _, rfl, .inr (SqT.of hp), rfl, _, rfl, ite2 (fun _ => ?_) (fun e => absurd (decide_eq_true rfl) e)⟩
      refine ⟨_, rfl, p, _, _, _, rfl, rfl, SqT.of hp, atI_nat (j := 0) rfl, _, _, _, _, true, rfl, .own J, .base (.ins hj T.clJ T.caJ T.cnJ T.ctJ T.cmJ), T.isJ, true, rfl, iteT ?_⟩
      exact ⟨_, rfl, p, _, _, _, rfl, rfl, SqT.of hp, atI_nat (j := 0) rfl, j, J, dj, _, _, rfl, hj, T.clJ, T.nJ, rfl, k⟩
    · have lw : ws.length = r.length := hw.1
      refine both (fun rest => ⟨_, rfl, p, _, rfl, .inr (SqT.of hp), rfl, _, rfl, ite2 (fun e => ?_) (fun _ => rest)⟩) ?_
      · have e1 : ws.length = 1 := by
          have := V.int.inj (of_decide_eq_true e)
          omega
        obtain ⟨t, et, ht⟩ := (hw.2 0 r[0] (List.getElem?_eq_getElem (by omega)))
        obtain ⟨a, rfl, ha⟩ := ht
        refine ⟨_, rfl, p, _, _, _, rfl, rfl, SqT.of hp, atI_nat (j := 0) et, _, _, _, _, false, rfl, .own J, .base (.tup ha), T.ktJ, false, rfl, iteF rest⟩
      refine ⟨_, rfl, p, _, rfl, .inr (SqT.of hp), _, _, rfl, rfl, _, rfl, ite2 (fun e => ?_) (fun _ => ?_)⟩
      · have := of_decide_eq_true e
        omega
      refine ⟨_, rfl, p, _, rfl, .inr (SqT.of hp), _, _, rfl, rfl, _, rfl, ite2 (fun e => ?_) (fun _ => ?_)⟩
      · have := of_decide_eq_true e
        omega
      refine ⟨_, rfl, p, _, rfl, SqT.of hp, ?_⟩
      refine for_enumT (K := K) (a := p) (xs := ws) (fun i σ H' => Same H H' ∧ ∃ v1 v2, σ = [some (.ref p), v1, v2]) ⟨Same.refl _, none, none, rfl⟩ (fun i σ H' _ h => SqT.of (h.1 _ _ hp)) ?_ ?_
      · rintro i x σ H' T0 hx ⟨sm, v1, v2, rfl⟩ nT
        refine ⟨T0, _, rfl, SqT.of upd_same, rfl, _, _, rfl, _, _, rfl, rfl, ?_⟩
        obtain ⟨pc, hpc, hx'⟩ := hw.at_ hx
        have s2 := sm.trans (same_upd (o := .tup [.int (i : Nat), x]) nT)
        exact ⟨_, rfl, _, pc, rfl, hx'.same s2, hok.at_ hpc, true, rfl, iteF ⟨s2, _, _, rfl⟩⟩
      · rintro σ H' ⟨sm, v1, v2, rfl⟩
        exact ⟨_, rfl, k _ sm⟩
abbrev s_matrix_and_scale : Stmt := top 44
theorem sc_matrix_and_scale : FnScope ["row", "a", "b", "c", "d", "scale", "word", "ohms"] ["row"] (defScope s_matrix_and_scale) := ⟨rfl, rfl, rfl, by decide +kernel, rfl, by decide +kernel, by decide +kernel⟩

theorem ok_mat {f : Addr} {fd : FuncData} (F : Fun K "matrix_and_scale" "matrix_and_scale" s_matrix_and_scale f fd) : FnOk P w K mg base CX0 1 f fd ["row"] spMat := by
  refine F.ok sc_matrix_and_scale (fun vs H Q E h => ?_) (fun cdv A outer s H vs Q E hr h => ?_)
  · obtain ⟨q, ws, r, rfl, _⟩ := h
    rfl
  · obtain ⟨q, ws, r, rfl, hq, hw, hok, l8, k⟩ := h
    refine ⟨_, (pss_cons (ps_asg (pe_tup (pa_cons pe_int (pa_cons pe_int (pa_cons pe_int (pa_cons pe_int pa_nil))))) (pg_tup rfl (pgs_cons (pg_name (i := 1) sc_matrix_and_scale.nd rfl (.inl rfl)) (pgs_cons (pg_name (i := 2) sc_matrix_and_scale.nd rfl (.inl rfl)) (pgs_cons (pg_name (i := 3) sc_matrix_and_scale.nd rfl (.inl rfl)) (pgs_cons (pg_name (i := 4) sc_matrix_and_scale.nd rfl (.inl rfl)) pgs_nil))))))
      (pss_cons (ps_set (i := 5) sc_matrix_and_scale.nd rfl (.inl rfl) pe_int)
      (pss_cons (ps_for PassesOwn.never rfl (pi_tup (pv 0)) (pg_tup rfl (pgs_cons (pg_name (i := 6) sc_matrix_and_scale.nd rfl (.inl rfl)) (pgs_cons (pg_name (i := 7) sc_matrix_and_scale.nd rfl (.inl rfl)) pgs_nil))) (pss_one (ps_if (pt_cmpR op_eq (pv 6) pe_str (nomark _)) (pss_one (ps_par (by rfl) sc_matrix_and_scale.nd (i := 2) (j := 4) rfl rfl (by decide) rfl rfl (pa_cons (pe_op op_add (pe_op op_mulX (pv 1) (pv 7)) (pv 2)) (pa_cons (pe_op op_add (pe_op op_mulX (pv 3) (pv 7)) (pv 4)) pa_nil)) (by rfl))) (pss_cons (ps_asg (pe_tup (pa_cons (pe_op op_add (pe_op op_mulX (pv 1) (pv 7)) (pv 2)) (pa_cons (pe_op op_mulX (pv 2) (pv 7)) (pa_cons (pe_op op_add (pe_op op_mulX (pv 3) (pv 7)) (pv 4)) (pa_cons (pe_op op_mulX (pv 4) (pv 7)) pa_nil))))) (pg_tup rfl (pgs_cons (pg_name (i := 1) sc_matrix_and_scale.nd rfl (.inl rfl)) (pgs_cons (pg_name (i := 2) sc_matrix_and_scale.nd rfl (.inl rfl)) (pgs_cons (pg_name (i := 3) sc_matrix_and_scale.nd rfl (.inl rfl)) (pgs_cons (pg_name (i := 4) sc_matrix_and_scale.nd rfl (.inl rfl)) pgs_nil))))))
      (pss_one (ps_set (i := 5) sc_matrix_and_scale.nd rfl (.inl rfl) (pe_op op_mulX (pv 5) (pv 7))))))))
      (pss_one (ps_ret (pe_tup (pa_cons (pe_tup (pa_cons (pv 1) (pa_cons (pv 2) (pa_cons (pv 3) (pa_cons (pv 4) pa_nil))))) (pa_cons (pv 5) pa_nil)))))))), ?_⟩
    refine ⟨(by show 4 ≤ sizeLine; decide), fun p0 hp0 => ⟨p0, _, rfl, SqT.of upd_same, rfl, _, _, rfl, _, _, rfl, _, _, rfl, _, _, rfl, rfl, ?_⟩⟩
    have s0 := same_upd (o := .tup [.int 1, .int 0, .int 0, .int 1]) hp0
    refine ⟨_, rfl, q, rfl, ⟨_, SqT.of (s0 _ _ hq)⟩, ?_⟩
    refine for_tup (K := K) (a := q) (xs := ws) (fun i σ H' => Same H H' ∧ ∃ v1 v2, σ = [some (.ref q), some (.int ((r.take i).foldl stepM m1).a), some (.int ((r.take i).foldl stepM m1).b), some (.int ((r.take i).foldl stepM m1).c), some (.int ((r.take i).foldl stepM m1).d), some (.int ((r.take i).foldl stepS 1)), v1, v2]) ⟨s0, none, none, rfl⟩ (fun i σ H' _ h => SqT.of (h.1 _ _ hq)) ?_ ?_
    · rintro i x σ H' hx ⟨sm, v1, v2, rfl⟩
      obtain ⟨pc, hpc, t, rfl, ht⟩ := hw.at_ hx
      have hi : i < r.length := (List.getElem?_eq_some_iff.mp hpc).1
      have tk : r.take (i + 1) = r.take i ++ [pc] := by
        rw [List.take_succ, hpc]
        rfl
      have f1 : (r.take (i + 1)).foldl stepM m1 = stepM ((r.take i).foldl stepM m1) pc := by rw [tk, List.foldl_append]; rfl
      have f2 : (r.take (i + 1)).foldl stepS 1 = stepS ((r.take i).foldl stepS 1) pc := by rw [tk, List.foldl_append]; rfl
      have okt : RowOk (r.take i) := fun z hz => hok z (List.mem_of_mem_take hz)
      have ms : MxSm 41 ((r.take i).foldl stepM m1) := (fold_sm okt m1_sm).mono (by rw [List.length_take]; omega)
      have ss : Sm 41 ((r.take i).foldl stepS 1) := (scl_sm (n := 1) okt (by unfold Sm; decide)).mono (by rw [List.length_take]; omega)
      obtain ⟨sa, sb, sc, sd⟩ := ms
      have po := ohm_sm (hok.at_ hpc)
      have ht' := sm _ _ ht
      rw [f1, f2]
      generalize (r.take i).foldl stepM m1 = m at *
      generalize (r.take i).foldl stepS 1 = sc0 at *
      refine ⟨t, _, rfl, SqT.of ht', rfl, _, _, rfl, _, _, rfl, rfl, ?_⟩
      refine ⟨_, rfl, rfl, _, rfl, ite2 (fun e => ?_) (fun e => ?_)⟩
      · have r1 : pc.1 = true := wd_inj (r' := true) (V.str.inj (of_decide_eq_true e))
        unfold stepM stepS
        rw [if_pos r1, if_pos r1]
        exact ⟨_, rfl, _, rfl, _, _, rfl, rfl, mx sa po, _, rfl, _, _, rfl, rfl, _, rfl, _, rfl, _, _, rfl, rfl, mx sc po, _, rfl, _, _, rfl, rfl, _, _, rfl, sm, _, _, rfl⟩
      · have r1 : ¬ pc.1 = true := fun z => e (decide_eq_true (by rw [z]; rfl))
        unfold stepM stepS
        rw [if_neg r1, if_neg r1]
        refine ⟨_, rfl, _, rfl, _, _, rfl, rfl, mx sa po, _, rfl, _, _, rfl, rfl, _, rfl, _, rfl, _, _, rfl, rfl, mx sb po, _, rfl, _, rfl, _, _, rfl, rfl, mx sc po, _, rfl, _, _, rfl, rfl, _, rfl, _, rfl, _, _, rfl, rfl, mx sd po, (by show 4 ≤ sizeLine; decide), fun p1 hp1 => ⟨p1, _, rfl, SqT.of upd_same, rfl, _, _, rfl, _, _, rfl, _, _, rfl, _, _, rfl, rfl, ?_⟩⟩
        exact ⟨_, rfl, _, rfl, _, _, rfl, rfl, mx ss po, sm.trans (same_upd hp1), _, _, rfl⟩
    · rintro σ H' ⟨sm, v1, v2, rfl⟩
      rw [hw.1, List.take_length]
      refine ⟨_, rfl, _, rfl, _, rfl, _, rfl, (by show 4 ≤ sizeLine; decide), fun m hm => ⟨_, rfl, (by show 2 ≤ sizeLine; decide), fun p hp => ?_⟩⟩
      have s1 := same_upd (o := .tup (MatT (matR r))) hm
      exact k _ p m ((sm.trans s1).trans (same_upd hp)) upd_same (same_upd hp _ _ upd_same) (sm.free (s1.free hp)) (sm.free hm)
abbrev s_shown_before : Stmt := top 45
theorem sc_shown_before : FnScope ["matrix", "pair", "a", "b", "c", "d", "top", "bottom"] ["matrix", "pair"] (defScope s_shown_before) := ⟨rfl, rfl, rfl, by decide +kernel, rfl, by decide +kernel, by decide +kernel⟩

theorem ok_shown {f : Addr} {fd : FuncData} (F : Fun K "shown_before" "shown_before" s_shown_before f fd) : FnOk P w K mg base CX0 1 f fd ["matrix", "pair"] spShown := by
  refine F.ok sc_shown_before (fun vs H Q E h => ?_) (fun cdv A outer s H vs Q E hr h => ?_)
  · obtain ⟨a, b, m, e, rfl, _⟩ := h
    rfl
  · obtain ⟨a, b, m, e, rfl, ha, hb, ⟨sa, sb, sc, sd⟩, s1, s2, k⟩ := h
    refine ⟨_, (pss_cons (ps_asg (pv 0) (pg_tup rfl (pgs_cons (pg_name (i := 2) sc_shown_before.nd rfl (.inl rfl)) (pgs_cons (pg_name (i := 3) sc_shown_before.nd rfl (.inl rfl)) (pgs_cons (pg_name (i := 4) sc_shown_before.nd rfl (.inl rfl)) (pgs_cons (pg_name (i := 5) sc_shown_before.nd rfl (.inl rfl)) pgs_nil))))))
      (pss_cons (ps_asg (pv 1) (pg_tup rfl (pgs_cons (pg_name (i := 6) sc_shown_before.nd rfl (.inl rfl)) (pgs_cons (pg_name (i := 7) sc_shown_before.nd rfl (.inl rfl)) pgs_nil))))
      (pss_one (ps_ret (pe_tup (pa_cons (pe_op op_add (pe_op op_mulX (pv 2) (pv 6)) (pe_op op_mulX (pv 3) (pv 7))) (pa_cons (pe_op op_add (pe_op op_mulX (pv 4) (pv 6)) (pe_op op_mulX (pv 5) (pv 7))) pa_nil))))))), ?_⟩
    refine ⟨_, rfl, a, _, rfl, SqT.of ha, rfl, _, _, rfl, _, _, rfl, _, _, rfl, _, _, rfl, rfl, ?_⟩
    refine ⟨_, rfl, b, _, rfl, SqT.of hb, rfl, _, _, rfl, _, _, rfl, rfl, ?_⟩
    refine ⟨_, rfl, _, rfl, _, _, rfl, rfl, mx sa s1, _, rfl, _, rfl, _, _, rfl, rfl, mx sb s2, _, _, rfl, rfl, _, rfl, _, rfl, _, _, rfl, rfl, mx sc s1, _, rfl, _, rfl, _, _, rfl, rfl, mx sd s2, _, _, rfl, rfl, (by show 2 ≤ sizeLine; decide), fun p hp => ?_⟩
    exact k _ p (same_upd hp) hp upd_same
abbrev s_piece_text : Stmt := top 47
theorem sc_piece_text : FnScope ["word", "ohms"] ["word", "ohms"] (defScope s_piece_text) := ⟨rfl, rfl, rfl, by decide +kernel, rfl, by decide +kernel, by decide +kernel⟩

theorem ok_ptx {f : Addr} {fd : FuncData} (F : Fun K "piece_text" "piece_text" s_piece_text f fd) : FnOk P w K mg base CX0 1 f fd ["word", "ohms"] spPtx := by
  refine F.ok sc_piece_text (fun vs H Q E h => ?_) (fun cdv A outer s H vs Q E hr h => ?_)
  · obtain ⟨p, rfl, _⟩ := h
    rfl
  · obtain ⟨p, rfl, hp, k⟩ := h
    refine ⟨_, (pss_one (ps_ret (pe_joined (PJ.cons (pe_fmt (pv 0)) (PJ.cons pe_str (PJ.cons (pe_fmt (pv 1)) PJ.nil)))))), ?_⟩
    have ww : OkT 4 (wd p.1) := by
      unfold wd
      split
      · exact OkT.of "rail"
      · exact OkT.of "rung"
    have oh : Sm 200 p.2 := (ohm_sm hp).mono (by decide)
    have o1 : OkT 4 (Str.empty ++ wd p.1) := by
      rw [Str.empty_append]
      exact ww
    have o2 := o1.app (OkT.of " ")
    have o3 := o2.app (ts_ok oh)
    refine ⟨_, rfl, .inl ⟨_, rfl, ww.fits, _, rfl, o1.fits, _, rfl, o2.fits, _, rfl, .inr ⟨_, rfl, Nat.lt_trans (log_sm (by decide) oh) (by decide), _, rfl, o3.fits, ?_⟩⟩⟩
    show Q (.str (((Str.empty ++ wd p.1) ++ Str.ofString " ") ++ ts p.2)) H
    rw [Str.empty_append]
    exact k
abbrev s_piece_with_text : Stmt := top 48
theorem sc_piece_with_text : FnScope ["text", "word", "ohms"] ["text"] (defScope s_piece_with_text) := ⟨rfl, rfl, rfl, by decide +kernel, rfl, by decide +kernel, by decide +kernel⟩

theorem ok_pwt {f : Addr} {fd : FuncData} (F : Fun K "piece_with_text" "piece_with_text" s_piece_with_text f fd) (T : Txt3 K mg tG t1 t2 t3 aO aW J C) (D_piece_text : Df P w K mg base 1 "piece_text" ["word", "ohms"] spPtx) : FnOk P w K mg base CX0 2 f fd ["text"] spPwt := by
  refine F.ok sc_piece_with_text (fun vs H Q E h => ?_) (fun cdv A outer s H vs Q E hr h => ?_)
  · obtain ⟨p, rfl, _⟩ := h
    rfl
  · obtain ⟨p, rfl, hp, k⟩ := h
    refine ⟨_, (pss_cons (ps_for PassesOwn.never rfl (pi_tup (pe_glob (v := .ref aW) rfl T.mgW rfl)) (pg_name (i := 1) sc_piece_with_text.nd rfl (.inl rfl)) (pss_one (ps_for PassesOwn.never rfl (pi_range2 rfl T.range (pa_cons pe_int (pa_cons (pe_op op_add (pe_glob (v := .int 12) rfl T.mgOh ⟨_, rfl⟩) pe_int) pa_nil))) (pg_name (i := 2) sc_piece_with_text.nd rfl (.inl rfl)) (pss_one (ps_if (pt_cmpR op_eq (pv 0) (pe_df D_piece_text (hr.mono (by decide)) (by rfl) (pa_cons (pv 1) (pa_cons (pv 2) pa_nil))) (nomark _)) (pss_one (ps_ret (pe_tup (pa_cons (pv 1) (pa_cons (pv 2) pa_nil))))) pss_nil)))))
      (pss_one (ps_ret pe_non))), ?_⟩
    have hW : SqT K H aW [.str (Str.ofString "rail"), .str (Str.ofString "rung")] := .inr T.wds
    refine ⟨aW, rfl, ⟨_, hW⟩, ?_⟩
    refine for_tup (K := K) (a := aW) (xs := [.str (Str.ofString "rail"), .str (Str.ofString "rung")]) (fun i σ H' => H' = H ∧ (∃ v1 v2, σ = [some (.str (ptx p)), v1, v2]) ∧ (1 ≤ i → p.1 = false) ∧ (2 ≤ i → False)) ⟨rfl, ⟨none, none, rfl⟩, by omega, by omega⟩ (fun i σ H' _ h => by rw [h.1]; exact hW) ?_ ?_
    · rintro i x σ H' hx ⟨rfl, ⟨v1, v2, rfl⟩, i1, i2⟩
      obtain ⟨r, rfl, hr1, hr2⟩ : ∃ r : Bool, x = .str (wd r) ∧ (p.1 ≠ r → (1 ≤ i + 1 → p.1 = false)) ∧ (p.1 ≠ r → (2 ≤ i + 1 → False)) := by
        match i, hx with
        | 0, hx =>
          cases hx
          refine ⟨true, rfl, fun z _ => by simpa using z, fun z y => absurd y (by decide)⟩
        | 1, hx =>
          cases hx
          exact ⟨false, rfl, fun z _ => i1 (by decide), fun z _ => z (i1 (by decide))⟩
      refine ⟨_, _, rfl, rfl, 1, 13, rfl, ⟨by decide, by decide, by decide, by decide⟩, ?_⟩
      refine for_range (lo := 1) (n := Int.toNat (13 - 1)) (fun j σ H'' => H'' = H' ∧ (∃ v2, σ = [some (.str (ptx p)), some (.str (wd r)), v2]) ∧ (p.1 = r → (j : Int) < p.2)) ⟨rfl, ⟨_, rfl⟩, fun _ => by have := hp.1; omega⟩ ?_ ?_
      · rintro j σ H'' hj ⟨rfl, ⟨v2, rfl⟩, hjp⟩
        have hj12 : j < 12 := hj
        have hq : PcOk (r, 1 + (j : Int)) := ⟨by dsimp; omega, by dsimp; omega⟩
        refine ⟨_, rfl, _, rfl, _, rfl, (r, 1 + (j : Int)), rfl, hq, rfl, _, rfl, ite2 (fun e => ?_) (fun e => ?_)⟩
        · have e1 : p = (r, 1 + (j : Int)) := ptx_inj hp hq (V.str.inj (of_decide_eq_true e))
          refine ⟨_, rfl, _, rfl, (by show 2 ≤ sizeLine; decide), fun t ht => ?_⟩
          refine k _ t (same_upd ht) ht ?_
          rw [upd_same, e1]
        · refine ⟨rfl, ⟨_, rfl⟩, fun z => ?_⟩
          have := hjp z
          rcases Int.lt_or_le ((j : Int) + 1) p.2 with y | y
          · omega
          · refine absurd (decide_eq_true ?_) e
            have e2 : p = (r, 1 + (j : Int)) := by
              ext
              · exact z
              · show p.2 = 1 + (j : Int)
                omega
            rw [← e2]
      · rintro σ H'' ⟨rfl, ⟨v2, rfl⟩, hjp⟩
        have ne : p.1 ≠ r := fun z => by
          have h1 : (12 : Int) < p.2 := hjp z
          have := hp.2
          omega
        exact ⟨rfl, ⟨_, _, rfl⟩, hr1 ne, hr2 ne⟩
    · rintro σ H' ⟨rfl, _, _, z⟩
      exact (z (by decide)).elim
end
end RL

set_option maxHeartbeats 1000000
namespace RL
open PySem L2 PySem.Spec PyProof.Rows
/-- a def with a star parameter behind one -/
def star1 (sp : Sp) : Sp := fun vs H Q E => ∃ ws rest, vs = ws ++ rest ∧ ws.length = 1 ∧ rest.length ≤ sizeLine ∧ ∀ p, H p = Option.none → sp (ws ++ [V.ref p]) (L2.upd H p (.tup rest)) Q E
theorem okStar {P : Program} {w : World} {K : PySem.W.Frag} {mg : Str → Option Value} {base : Heap} {x qual : Str} {st : Stmt} {f : Addr} {fd : FuncData} {N : List Str} {p1 pv : Str} {k : Nat} {sp : Sp} (F : Fun K x qual st f fd) (S : FnScope N ([p1] ++ [pv]) (defScope st))
    (hb : ∀ (kV doc pm cdv ct : Value) (an : Option Addr) (us rest : List Value), us.length = [p1].length → bindArgs (PySem.W.fnOf x qual (defArgs st) (defBody st) (defScope st) .none kV doc pm an cdv ct) ⟨us ++ rest, []⟩ = (newTuple rest >>= fun t => pure ([p1].zip us ++ [(pv, t)])))
    (hbody : ∀ (cdv : Value) (A : Around) (outer : List Env) (s : Shared) (H : Hp) (vs : List V) (Q : VK) (E : XK), Room k (A.deeper (envOfC qual (defScope st) s.heap.objs.size f cdv)) → sp vs H Q E →
      ∃ t, PSs (cxOf CX0 P w K mg base N qual (defScope st) f cdv A outer s H E).nox (defBody st) t ∧ t { nx := fun _ H' => Q .non H', rt := Q } (start N vs) H) : FnR P w K mg base CX0 (k + 1) f (star1 sp) := by
  obtain ⟨oc, od, kV, doc, pm, an, cdv, ct, osl, rfl, lk, hcd⟩ := F.ex
  exact StX.fn_star (ps := [p1]) lk hcd S StX.cxUp_none (hb kV doc pm cdv ct an) fun A outer s H vs Q E hr hsp => by
    obtain ⟨t, h, q⟩ := hbody cdv A outer s H vs Q E hr hsp
    exact ⟨t, h.nox, q⟩
/-! ### a pattern in the heap -/
def FrAt (H : Hp) (a : Addr) (x s : Int) : Prop := H a = some (.tup [.int (low (x, s)).1, .int (low (x, s)).2])
def PF (q m f : Addr) (s : Int) : List (Str × V) := [("row", .ref q), ("matrix", .ref m), ("scale", .int s), ("four", .ref f)]
def PatAt (C : Addr) (H : Hp) (x : Addr) (r : List Pc) : Prop := ∃ (dx q m f : Addr) (ws : List V) (f1 f2 f3 f4 : Addr), H x = some (.ins C dx (PF q m f (sclR r))) ∧ H q = some (.tup ws) ∧ PiecesAt H ws r ∧ H m = some (.tup (MatT (matR r))) ∧
  H f = some (.tup [.ref f1, .ref f2, .ref f3, .ref f4]) ∧ FrAt H f1 (matR r).a (sclR r) ∧ FrAt H f2 (matR r).b (sclR r) ∧ FrAt H f3 (matR r).c (sclR r) ∧ FrAt H f4 (matR r).d (sclR r)
theorem PatAt.same {C : Addr} {H H' : Hp} {x : Addr} {r : List Pc} (h : PatAt C H x r) (s : Same H H') : PatAt C H' x r := by
  obtain ⟨dx, q, m, f, ws, f1, f2, f3, f4, h1, h2, h3, h4, h5, h6, h7, h8, h9⟩ := h
  exact ⟨dx, q, m, f, ws, f1, f2, f3, f4, s _ _ h1, s _ _ h2, h3.same s, s _ _ h4, s _ _ h5, s _ _ h6, s _ _ h7, s _ _ h8, s _ _ h9⟩
theorem PatAt.but {C : Addr} {H H' : Hp} {x c : Addr} {r : List Pc} (h : PatAt C H x r) (hc : CupAt c H) (s : But c H H') : PatAt C H' x r := by
  obtain ⟨dx, q, m, f, ws, f1, f2, f3, f4, h1, h2, h3, h4, h5, h6, h7, h8, h9⟩ := h
  obtain ⟨u, v, hc, _⟩ := hc
  have st : ∀ {a : Addr} {xs : List V}, H a = some (.tup xs) → H' a = some (.tup xs) := fun {a xs} e => s _ _ (ne_of e hc (by intro z; cases z)) e
  exact ⟨dx, q, m, f, ws, f1, f2, f3, f4, s _ _ (ne_of h1 hc (by intro z; cases z)) h1, st h2, h3.but s (fun xs z => by rw [hc] at z; cases z), st h4, st h5, st h6, st h7, st h8, st h9⟩
theorem str_ne {a b : Str} (h : (a == b) = false) : ¬ a = b := fun z => by
  rw [z] at h
  simp at h
theorem nrm : (("row" : Str) == ("matrix" : Str)) = false := by decide +kernel
theorem nrf : (("row" : Str) == ("four" : Str)) = false := by decide +kernel
theorem nmf : (("matrix" : Str) == ("four" : Str)) = false := by decide +kernel
theorem nmr : (("matrix" : Str) == ("row" : Str)) = false := by decide +kernel
theorem nfr : (("four" : Str) == ("row" : Str)) = false := by decide +kernel
theorem nfm : (("four" : Str) == ("matrix" : Str)) = false := by decide +kernel
theorem wrs : (("row" : Str) == ("scale" : Str)) = false := by decide +kernel
theorem wms : (("matrix" : Str) == ("scale" : Str)) = false := by decide +kernel
theorem wsf : (("scale" : Str) == ("four" : Str)) = false := by decide +kernel
theorem wsr : (("scale" : Str) == ("row" : Str)) = false := by decide +kernel
theorem wsm : (("scale" : Str) == ("matrix" : Str)) = false := by decide +kernel
theorem wfs : (("four" : Str) == ("scale" : Str)) = false := by decide +kernel
theorem putScl (a b v : V) : putF "scale" v [("row", a), ("matrix", b)] = ([("row", a), ("matrix", b), ("scale", v)] : List (Str × V)) := by
  unfold putF
  rw [if_neg (str_ne wrs)]
  unfold putF
  rw [if_neg (str_ne wms)]
  rfl
theorem putM (a v : V) : putF "matrix" v [("row", a)] = ([("row", a), ("matrix", v)] : List (Str × V)) := by
  unfold putF
  rw [if_neg (str_ne nrm)]
  rfl
theorem putFour (a b c v : V) : putF "four" v [("row", a), ("matrix", b), ("scale", c)] = ([("row", a), ("matrix", b), ("scale", c), ("four", v)] : List (Str × V)) := by
  unfold putF
  rw [if_neg (str_ne nrf)]
  unfold putF
  rw [if_neg (str_ne nmf)]
  unfold putF
  rw [if_neg (str_ne wsf)]
  rfl
theorem lkM2 (a b c : V) : ([("row", a), ("matrix", b), ("scale", c)] : List (Str × V)).lookup ("matrix" : Str) = some b := by
  simp [List.lookup, nmr]
theorem lkS2 (a b c : V) : ([("row", a), ("matrix", b), ("scale", c)] : List (Str × V)).lookup ("scale" : Str) = some c := by
  simp [List.lookup, wsr, wsm]
theorem lkR (q m f : Addr) {s : Int} : (PF q m f s).lookup ("row" : Str) = some (.ref q) := by
  simp [PF, List.lookup]
theorem lkM (q m f : Addr) {s : Int} : (PF q m f s).lookup ("matrix" : Str) = some (.ref m) := by
  simp [PF, List.lookup, nmr]
theorem lkSc (q m f : Addr) {s : Int} : (PF q m f s).lookup ("scale" : Str) = some (.int s) := by
  simp [PF, List.lookup, wsr, wsm]
theorem lkF (q m f : Addr) {s : Int} : (PF q m f s).lookup ("four" : Str) = some (.ref f) := by
  simp [PF, List.lookup, nfr, nfm, wfs]
def spPI (C J : Addr) : Sp := fun vs H Q _ => ∃ (x dx p : Addr) (r : List Pc), vs = [.ref x, .ref p] ∧ H x = some (.ins C dx []) ∧ RowOk r ∧ 1 ≤ r.length ∧ r.length ≤ 8 ∧
  ((∃ j dj q ws, H p = some (.tup [.ref j]) ∧ H j = some (.ins J dj [("row", .ref q)]) ∧ H q = some (.tup ws) ∧ PiecesAt H ws r) ∨ (∃ ws, H p = some (.tup ws) ∧ PiecesAt H ws r ∧ r.length ≤ 4)) ∧
  ∀ H', But x H H' → PatAt C H' x r → Q .non H'
def LoadAt (H : Hp) (v : V) (e : Int × Int) : Prop := (∃ i, v = .int i ∧ 0 ≤ i ∧ i ≤ 1000000000000 ∧ e = (i, 1)) ∨ (∃ p, v = .ref p ∧ H p = some (.tup [.int e.1, .int e.2]) ∧ ResP e.1 e.2)
theorem LoadAt.pos {H : Hp} {v : V} {e : Int × Int} (h : LoadAt H v e) : Pos2 e := by
  rcases h with ⟨i, _, h1, h2, rfl⟩ | ⟨p, _, _, h⟩
  · exact ⟨h1, by show (0 : Int) ≤ 1; decide, .inr (by show (0 : Int) < 1; decide)⟩
  · rcases h with ⟨h1, _, h2, _⟩ | ⟨h1, h2⟩
    · exact ⟨h1, by omega, .inr (by omega)⟩
    · exact ⟨by omega, by omega, .inl (by omega)⟩
theorem sm_lt {n : Nat} {x : Int} (h0 : 0 ≤ x) (h : x < 2 ^ n) : Sm n x := by
  unfold Sm
  have e : ((2 ^ n : Nat) : Int) = 2 ^ n := by rw [Int.natCast_pow]; rfl
  omega
theorem LoadAt.sm {H : Hp} {v : V} {e : Int × Int} (h : LoadAt H v e) : Sm 41 e.1 ∧ Sm 41 e.2 := by
  have k : ∀ z : Int, 0 ≤ z → z ≤ 1000000000000 → Sm 41 z := fun z h1 h2 => sm_lt h1 (by
    have e : (2 : Int) ^ 41 = 2199023255552 := by decide
    rw [e]
    omega)
  rcases h with ⟨i, _, h1, h2, rfl⟩ | ⟨p, _, _, h⟩
  · exact ⟨k _ h1 h2, k 1 (by decide) (by decide)⟩
  · rcases h with ⟨h1, h2, h3, h4⟩ | ⟨h1, h2⟩
    · exact ⟨k _ h1 h2, k _ (by omega) h4⟩
    · exact ⟨k _ (by omega) (by omega), k _ (by omega) (by omega)⟩
def spCall (C : Addr) : Sp := fun vs H Q _ => ∃ (x : Addr) (v : V) (r : List Pc) (e : Int × Int), vs = [.ref x, v] ∧ PatAt C H x r ∧ RowOk r ∧ r.length ≤ 8 ∧ LoadAt H v e ∧
  ∀ H' p, Same H H' → H p = none → H' p = some (.tup [.int (low ((matR r).app e)).1, .int (low ((matR r).app e)).2]) → Q (.ref p) H'
def spNum (C : Addr) : Sp := fun vs H Q _ => ∃ (x dx q m f : Addr) (s : Int), vs = [.ref x] ∧ H x = some (.ins C dx (PF q m f s)) ∧ Q (.ref f) H
def spAdd (C : Addr) : Sp := fun vs H Q _ => ∃ (x y : Addr) (r r' : List Pc), vs = [.ref x, .ref y] ∧ PatAt C H x r ∧ PatAt C H y r' ∧ RowOk r ∧ RowOk r' ∧ 1 ≤ r.length ∧ 1 ≤ r'.length ∧ r.length + r'.length ≤ 8 ∧
  ∀ H' z, Same H H' → H z = none → PatAt C H' z (r ++ r') → Q (.ref z) H'
def spTurn (C : Addr) : Sp := fun vs H Q _ => ∃ (x : Addr) (r : List Pc), vs = [.ref x] ∧ PatAt C H x r ∧ RowOk r ∧ 1 ≤ r.length ∧ r.length ≤ 8 ∧ ∀ H' z, Same H H' → H z = none → PatAt C H' z r.reverse → Q (.ref z) H'
def rowTx (r : List Pc) : Str := Txt.join (Str.ofString ", ") (r.map ptx)
def spRead (C : Addr) : Sp := fun vs H Q _ => ∃ r : List Pc, vs = [.str (rowTx r)] ∧ RowOk r ∧ 1 ≤ r.length ∧ r.length ≤ 8 ∧ ∀ H' z, Same H H' → H z = none → PatAt C H' z r → Q (.ref z) H'
structure PatD (P : Program) (w : World) (K : PySem.W.Frag) (mg : Str → Option Value) (base : Heap) (C J f : Addr) : Prop where
  m : Mk K C f
  fn : FnR P w K mg base CX0 5 f (star1 (spPI C J))
structure JoinD (P : Program) (w : World) (K : PySem.W.Frag) (mg : Str → Option Value) (base : Heap) (J f : Addr) (fd : FuncData) : Prop where
  m : Mk K J f
  fn : FnOk P w K mg base CX0 1 f fd ["self", "row"] (spJ J)
  bd : Binds K fd ["self", "row"] []
/-- a new pattern of a row: what is left to be shown behind the row's tuple -/
theorem make_pat {C J : Addr} {H : Hp} {q : Addr} {ws : List V} {r : List Pc} {Q : V → Hp → Prop} (hq : H q = some (.tup ws)) (hw : PiecesAt H ws r) (hok : RowOk r) (l1 : 1 ≤ r.length) (l8 : r.length ≤ 8) (k : ∀ H' z, Same H H' → H z = none → PatAt C H' z r → Q (.ref z) H') :
    ∀ j dj, H j = none → H dj = none → dj ≠ j → spJ J [.ref j, .ref q] (upd (upd H dj (.own j)) j (.ins J dj [])) (fun v H2 => v = .non ∧ ∀ z dz, H2 z = none → H2 dz = none → dz ≠ z →
      star1 (spPI C J) [.ref z, .ref j] (upd (upd H2 dz (.own z)) z (.ins C dz [])) (fun v H3 => v = .non ∧ Q (.ref z) H3) E0) E0 := by
  intro j dj nj ndj nej
  refine ⟨j, dj, .ref q, rfl, upd_same, rfl, fun z dz nz ndz nez => ⟨[.ref z], [.ref j], rfl, rfl, (by show 1 ≤ sizeLine; decide), fun p np => ?_⟩⟩
  -- the heap ahead of the pattern's own
  have s1 : Same H (upd (upd (upd H dj (.own j)) j (.ins J dj [])) j (.ins J dj [("row", .ref q)])) := fun b o e => by
    rw [upd_ne (ne_of_none e nj), upd_ne (ne_of_none e nj), upd_ne (ne_of_none e ndj)]
    exact e
  have hj : (upd (upd (upd H dj (.own j)) j (.ins J dj [])) j (.ins J dj [("row", .ref q)])) j = some (.ins J dj [("row", .ref q)]) := upd_same
  generalize upd (upd (upd H dj (.own j)) j (.ins J dj [])) j (.ins J dj [("row", .ref q)]) = H2 at *
  have s2 : Same H2 (upd (upd H2 dz (.own z)) z (.ins C dz [])) := fun b o e => by
    rw [upd_ne (ne_of_none e nz), upd_ne (ne_of_none e ndz)]
    exact e
  have s3 := s2.trans (same_upd (o := .tup [.ref j]) np)
  have hz : (upd (upd (upd H2 dz (.own z)) z (.ins C dz [])) p (.tup [.ref j])) z = some (.ins C dz []) := by
    rw [upd_ne (ne_of_none (upd_same (H := upd H2 dz (.own z)) (a := z) (o := .ins C dz [])) np), upd_same]
  have s13 := s1.trans s3
  refine ⟨z, dz, p, r, rfl, hz, hok, l1, l8, .inl ⟨j, dj, q, ws, upd_same, s3 _ _ hj, s13 _ _ hq, hw.same s13⟩, fun H' b hP => ⟨rfl, k H' z ?_ (s1.free nz) hP⟩⟩
  intro b' o e
  exact b _ _ (ne_of_none (s1 _ _ e) nz) (s13 _ _ e)
section
variable {P : Program} {w : World} {K : PySem.W.Frag} {mg : Str → Option Value} {base : Heap} {tG t1 t2 t3 : Tok} {aO aW J C fP fJ : Addr} {fdJ : FuncData}
def FrsAt (H : Hp) (vs : List V) (es : List Int) (s : Int) : Prop := vs.length = es.length ∧ ∀ (i : Nat) (e : Int), es[i]? = some e → ∃ t, vs[i]? = some (.ref t) ∧ FrAt H t e s
abbrev s_Pattern_init : Stmt := inClass (top 41) 0
theorem sc_Pattern_init : FnScope ["self", "pieces", "entry"] ["self", "pieces"] (defScope s_Pattern_init) := ⟨rfl, rfl, rfl, by decide +kernel, rfl, by decide +kernel, by decide +kernel⟩

theorem ok_pinit {f : Addr} {fd : FuncData} (F : Fun K "__init__" "Pattern.__init__" s_Pattern_init f fd) (T : Txt3 K mg tG t1 t2 t3 aO aW J C) (D_checked_row : Df P w K mg base 4 "checked_row" ["pieces"] (spChk J)) (D_matrix_and_scale : Df P w K mg base 1 "matrix_and_scale" ["row"] spMat) (D_lowest_terms : Df P w K mg base 2 "lowest_terms" ["top", "bottom"] spLow) :
    FnR P w K mg base CX0 5 f (star1 (spPI C J)) := by
  refine okStar (p1 := "self") (pv := "pieces") F sc_Pattern_init (fun _ _ _ _ _ _ => StX.bind_star1 (B := fun us => bindArgs _ ⟨us, []⟩) (fun _ => rfl) (fun _ _ _ => rfl)) (fun cdv A outer s H vs Q E hr h => ?_)
  obtain ⟨x, dx, p, r, rfl, hx, hok, l1, l8, hp, k⟩ := h
  refine ⟨_, (C8.pss_cut (ps_fld (pv 0) (pe_df D_checked_row (hr.mono (by decide)) (by rfl) (pa_cons (pv 1) pa_nil)) rfl)
      (pss_cons (ps_asg (pe_df D_matrix_and_scale (hr.mono (by decide)) (by rfl) (pa_cons (pe_fld (pv 0) rfl) pa_nil)) (pg_tup rfl (pgs_cons (pg_fld (pv 0)) (pgs_cons (pg_fld (pv 0)) pgs_nil))))
      (pss_one (ps_fld (pv 0) (pe_callTy call_tuple_of (by rfl) T.tuple_ (by decide +kernel) (pa_cons (pe_lc (own := [("entry", 2)]) (g := gName 2) (tt := tYes) rfl sc_Pattern_init.nd (pi_tup (pe_fld (pv 0) rfl)) (blkOk_by (N := ["self", "pieces", "entry"]) (sc := defScope s_Pattern_init) (by decide +kernel)) (fun _ _ _ _ _ => pg_name (i := 2) sc_Pattern_init.nd rfl (Or.inl rfl)) (fun _ _ _ _ _ => pts_nil) (fun _ _ _ _ _ => (pe_df D_lowest_terms (hr.mono (by decide)) (by rfl) (pa_cons (pv 2) (pa_cons (pe_fldK (K := K) (pv 0)) pa_nil))))) pa_nil)) rfl)))), ?_⟩
  -- self.row = ..
  have notT : ∀ {H' : Hp} {fs : List (Str × V)}, H' x = some (.ins C dx fs) → ∀ xs, H' x ≠ some (.tup xs) := fun e xs z => by rw [e] at z; cases z
  refine ⟨fun σ' H' => σ' = [some (.ref x), some (.ref p), none] ∧ ∃ (q : Addr) (ws : List V), But x H H' ∧ H' x = some (.ins C dx [("row", .ref q)]) ∧ H' q = some (.tup ws) ∧ PiecesAt H' ws r, ?_, ?_⟩
  · have set1 : ∀ (H1 : Hp) (q : Addr) (ws : List V), Same H H1 → H1 q = some (.tup ws) → PiecesAt H1 ws r → ∃ (q' : Addr) (ws' : List V), But x H (upd H1 x (.ins C dx [("row", .ref q)])) ∧ (upd H1 x (.ins C dx [("row", .ref q)])) x = some (.ins C dx [("row", .ref q')]) ∧ (upd H1 x (.ins C dx [("row", .ref q)])) q' = some (.tup ws') ∧ PiecesAt (upd H1 x (.ins C dx [("row", .ref q)])) ws' r := fun H1 q ws s1 hq hw => by
      have hx1 := s1 _ _ hx
      have b1 : But x H1 (upd H1 x (.ins C dx [("row", .ref q)])) := But.upd
      exact ⟨q, ws, (But.of s1).trans b1, upd_same, b1 _ _ (ne_of hq hx1 (by intro z; cases z)) hq, hw.but b1 (notT hx1)⟩
    rcases hp with ⟨j, dj, q, ws, h1, h2, h3, h4⟩ | ⟨ws, h1, h2, h3⟩
    · exact ⟨_, rfl, p, rfl, .inl ⟨j, dj, q, h1, h2, _, rfl, x, C, dx, _, rfl, hx, T.cl, T.nRow, (by show 0 < 1000; decide), rfl, set1 H q ws (Same.refl _) h3 h4⟩⟩
    · exact ⟨_, rfl, p, rfl, .inr ⟨ws, r, h1, h2, hok, l1, h3, fun H1 s1 => ⟨_, rfl, x, C, dx, _, rfl, s1 _ _ hx, T.cl, T.nRow, (by show 0 < 1000; decide), rfl, set1 H1 p ws s1 (s1 _ _ h1) (h2.same s1)⟩⟩⟩
  rintro σ' H2 ⟨rfl, q, ws, bb1, hx2, hq2, hw2⟩
  -- self.matrix, scale = ..
  refine ⟨_, rfl, x, C, dx, _, _, rfl, hx2, T.cl, T.nRow, rfl, q, ws, r, rfl, hq2, hw2, hok, l8, fun H3 pm m s3 hpm hm npm nm => ?_⟩
  have hx3 := s3 _ _ hx2
  refine ⟨pm, _, rfl, SqT.of hpm, rfl, _, _, rfl, _, rfl, x, C, dx, _, rfl, hx3, T.cl, T.nMat, (by show 1 < 1000; decide), ?_⟩
  rw [putM]
  have b4 : But x H3 (upd H3 x (.ins C dx [("row", .ref q), ("matrix", .ref m)])) := But.upd
  have hx4 : (upd H3 x (.ins C dx [("row", .ref q), ("matrix", .ref m)])) x = some (.ins C dx [("row", .ref q), ("matrix", .ref m)]) := upd_same
  have tp4 : ∀ {a : Addr} {xs : List V}, H3 a = some (.tup xs) → (upd H3 x (.ins C dx [("row", .ref q), ("matrix", .ref m)])) a = some (.tup xs) := fun {a xs} e => b4 _ _ (ne_of e hx3 (by intro z; cases z)) e
  have hm4 := tp4 hm
  have hq4 := tp4 (s3 _ _ hq2)
  have hw4 := (hw2.same s3).but b4 (notT hx3)
  have bb4 := (bb1.trans (But.of s3)).trans b4
  clear tp4
  generalize upd H3 x (.ins C dx [("row", .ref q), ("matrix", .ref m)]) = H4' at *
  refine ⟨_, _, rfl, _, rfl, x, C, dx, _, rfl, hx4, T.cl, T.nScl, (by show 2 < 1000; decide), rfl, ?_⟩
  rw [putScl]
  have b4' : But x H4' (upd H4' x (.ins C dx [("row", .ref q), ("matrix", .ref m), ("scale", .int (sclR r))])) := But.upd
  have hm4 := b4' _ _ (ne_of hm4 hx4 (by intro z; cases z)) hm4
  have hq4 := b4' _ _ (ne_of hq4 hx4 (by intro z; cases z)) hq4
  have hw4 := hw4.but b4' (notT hx4)
  have bb4 := bb4.trans b4'
  have hx4 : (upd H4' x (.ins C dx [("row", .ref q), ("matrix", .ref m), ("scale", .int (sclR r))])) x = some (.ins C dx [("row", .ref q), ("matrix", .ref m), ("scale", .int (sclR r))]) := upd_same
  clear b4 b4'
  generalize upd H4' x (.ins C dx [("row", .ref q), ("matrix", .ref m), ("scale", .int (sclR r))]) = H4 at *
  -- self.four = ..
  have sp := sclR_pos hok
  have ss := sclR_sm hok l8
  obtain ⟨ma, mb, mc, md, _⟩ := matR_ok hok
  obtain ⟨sa, sb, sc, sd⟩ := matR_sm hok l8
  refine ⟨_, rfl, x, C, dx, _, _, rfl, hx4, T.cl, T.nMat, lkM2 _ _ _, m, rfl, ⟨_, SqT.of hm4⟩, fun D hD => ?_⟩
  refine lc_tup (K := K) (a := m) (xs := MatT (matR r)) (fun i H' => But D H4 H' ∧ ∃ vs, H' D = some (.lst vs) ∧ FrsAt H' vs ([(matR r).a, (matR r).b, (matR r).c, (matR r).d].take i) (sclR r)) ⟨But.upd, [], upd_same, rfl, fun i e z => by simp at z⟩ (fun i H' _ h => SqT.of (h.1 _ _ (ne_of_none hm4 hD) hm4)) ?_ ?_
  · rintro i y H' hi ⟨bD, vs, hDi, hF⟩
    refine ⟨rfl, ?_⟩
    unfold tYes
    refine iteT ?_
    obtain ⟨z, rfl, z0, zs, ez, hi4⟩ : ∃ z : Int, y = .int z ∧ 0 ≤ z ∧ Sm 41 z ∧ [(matR r).a, (matR r).b, (matR r).c, (matR r).d].take (i + 1) = [(matR r).a, (matR r).b, (matR r).c, (matR r).d].take i ++ [z] ∧ i < 4 := by
      match i, hi with
      | 0, hi => cases hi; exact ⟨_, rfl, ma, sa, rfl, by decide⟩
      | 1, hi => cases hi; exact ⟨_, rfl, mb, sb, rfl, by decide⟩
      | 2, hi => cases hi; exact ⟨_, rfl, mc, sc, rfl, by decide⟩
      | 3, hi => cases hi; exact ⟨_, rfl, md, sd, rfl, by decide⟩
    have lv : vs.length = i := by
      rw [hF.1, List.length_take]
      show min i 4 = i
      omega
    refine ⟨_, rfl, _, rfl, x, C, dx, _, _, rfl, bD _ _ (ne_of_none hx4 hD) hx4, T.cl, T.nScl, lkS2 _ _ _, z, sclR r, rfl, ⟨z0, Int.le_of_lt sp, .inr sp⟩, zs.mono (by decide), ss.mono (by decide), fun H5 t s5 nt ht => ?_⟩
    have hD5 := s5 _ _ hDi
    refine ⟨vs, hD5, small1000 (by omega), ?_, vs ++ [.ref t], upd_same, ?_⟩
    · intro b o nb e
      rw [upd_ne nb]
      exact s5 _ _ (bD _ _ nb e)
    · rw [ez]
      refine ⟨by rw [List.length_append, List.length_append, hF.1]; rfl, fun j e hj => ?_⟩
      have up : ∀ {a : Addr} {xs : List V}, H5 a = some (.tup xs) → (upd H5 D (.lst (vs ++ [.ref t]))) a = some (.tup xs) := fun {a xs} e => by
        rw [upd_ne (ne_of e hD5 (by intro z; cases z))]
        exact e
      by_cases hji : j < ([(matR r).a, (matR r).b, (matR r).c, (matR r).d].take i).length
      · rw [List.getElem?_append_left hji] at hj
        obtain ⟨u, hu, hf⟩ := hF.2 j e hj
        refine ⟨u, ?_, up (s5 _ _ hf)⟩
        rw [List.getElem?_append_left (by rw [hF.1]; exact hji)]
        exact hu
      · rw [List.getElem?_append_right (by omega)] at hj
        have j0 : j - ([(matR r).a, (matR r).b, (matR r).c, (matR r).d].take i).length = 0 := by
          have := (List.getElem?_eq_some_iff.mp hj).1
          simp at this
          rw [List.length_take] at hji ⊢
          have e4 : ([(matR r).a, (matR r).b, (matR r).c, (matR r).d] : List Int).length = 4 := rfl
          omega
        rw [j0] at hj
        cases hj
        refine ⟨t, ?_, up ht⟩
        rw [List.getElem?_append_right (by rw [hF.1]; omega), hF.1, j0]
        rfl
  · rintro H' ⟨bD, vs, hDn, hF⟩
    have sD : Same H4 H' := fun b o e => bD _ _ (ne_of_none e hD) e
    refine ⟨D, _, rfl, .inl ⟨SqL.of hDn, fun l hl => ?_⟩⟩
    have s6 := sD.trans (same_upd (o := .tup vs) hl)
    have hx6 := s6 _ _ hx4
    refine ⟨_, rfl, x, C, dx, _, rfl, hx6, T.cl, T.nFour, (by show 3 < 1000; decide), ?_⟩
    rw [putFour]
    have b7 : But x (upd H' l (.tup vs)) (upd (upd H' l (.tup vs)) x (.ins C dx (PF q m l (sclR r)))) := But.upd
    have tp : ∀ {a : Addr} {xs : List V}, (upd H' l (.tup vs)) a = some (.tup xs) → (upd (upd H' l (.tup vs)) x (.ins C dx (PF q m l (sclR r)))) a = some (.tup xs) := fun {a xs} e => b7 _ _ (ne_of e hx6 (by intro z; cases z)) e
    have hF' : FrsAt H' vs [(matR r).a, (matR r).b, (matR r).c, (matR r).d] (sclR r) := hF
    obtain ⟨g1, e1, a1⟩ := hF'.2 0 _ rfl
    obtain ⟨g2, e2, a2⟩ := hF'.2 1 _ rfl
    obtain ⟨g3, e3, a3⟩ := hF'.2 2 _ rfl
    obtain ⟨g4, e4, a4⟩ := hF'.2 3 _ rfl
    have ev : vs = [.ref g1, .ref g2, .ref g3, .ref g4] := by
      match vs, hF'.1, e1, e2, e3, e4 with
      | [_, _, _, _], _, e1, e2, e3, e4 =>
        cases e1
        cases e2
        cases e3
        cases e4
        rfl
    subst ev
    have sl := same_upd (o := .tup [.ref g1, .ref g2, .ref g3, .ref g4]) hl
    exact k _ ((bb4.trans (But.of s6)).trans b7) ⟨dx, q, m, l, ws, g1, g2, g3, g4, upd_same, tp (s6 _ _ hq4), (hw4.same s6).but b7 (notT hx6), tp (s6 _ _ hm4), tp upd_same, tp (sl _ _ a1), tp (sl _ _ a2), tp (sl _ _ a3), tp (sl _ _ a4)⟩
end
end RL

set_option maxHeartbeats 1000000
namespace RL
open PySem L2 PySem.Spec PyProof.Rows
theorem PiecesAt.rev {H : Hp} {vs : List V} {r : List Pc} (h : PiecesAt H vs r) : PiecesAt H vs.reverse r.reverse := by
  refine ⟨by rw [List.length_reverse, List.length_reverse, h.1], fun i p hp => ?_⟩
  have hi : i < r.length := by
    have := (List.getElem?_eq_some_iff.mp hp).1
    rw [List.length_reverse] at this
    exact this
  rw [List.getElem?_reverse hi] at hp
  obtain ⟨v, hv, q⟩ := h.2 _ p hp
  refine ⟨v, ?_, q⟩
  rw [List.getElem?_reverse (by rw [h.1]; exact hi), h.1]
  exact hv
theorem PiecesAt.app {H : Hp} {vs vs' : List V} {r r' : List Pc} (h : PiecesAt H vs r) (h' : PiecesAt H vs' r') : PiecesAt H (vs ++ vs') (r ++ r') := by
  refine ⟨by rw [List.length_append, List.length_append, h.1, h'.1], fun i p hp => ?_⟩
  by_cases hi : i < r.length
  · rw [List.getElem?_append_left hi] at hp
    obtain ⟨v, hv, q⟩ := h.2 _ p hp
    exact ⟨v, by rw [List.getElem?_append_left (by rw [h.1]; exact hi)]; exact hv, q⟩
  · rw [List.getElem?_append_right (by omega)] at hp
    obtain ⟨v, hv, q⟩ := h'.2 _ p hp
    exact ⟨v, by rw [List.getElem?_append_right (by rw [h.1]; omega), h.1]; exact hv, q⟩
theorem RowOk.rev {r : List Pc} (h : RowOk r) : RowOk r.reverse := fun p hp => h p (List.mem_reverse.mp hp)
theorem parts_split {r : List Pc} (hok : RowOk r) (l1 : 1 ≤ r.length) : Txt.split (rowTx r) (Str.ofString ", ") = r.map ptx := by
  refine TL.split_join (s := 44) (S := [32]) (by decide +kernel) (by decide +kernel) (fun z => ?_) (fun p hp => ?_)
  · have := congrArg List.length z
    rw [List.length_map] at this
    have e0 : ([] : List Str).length = 0 := rfl
    omega
  · obtain ⟨q, hq, rfl⟩ := List.mem_map.mp hp
    exact ptx_free (hok q hq)
theorem join_len (y : Str) : ∀ l : List Str, (Str.join y l).length ≤ (l.map (·.length)).sum + l.length * y.length
  | [] => by
    show (Str.join y []).length ≤ _
    exact Nat.zero_le _
  | [x] => by
    show x.length ≤ _
    simp
  | x :: z :: l => by
    have ih := join_len y (z :: l)
    show (x ++ y ++ Str.join y (z :: l)).length ≤ _
    rw [Str.length_append, Str.length_append]
    simp only [List.map_cons, List.sum_cons, List.length_cons] at ih ⊢
    have : (l.length + 1 + 1) * y.length = (l.length + 1) * y.length + y.length := Nat.succ_mul _ _
    omega
theorem sum_len {r : List Pc} (hok : RowOk r) : ((r.map ptx).map (·.length)).sum ≤ 7 * r.length := by
  induction r with
  | nil => exact Nat.le_refl _
  | cons p r ih =>
    have h1 := ih hok.tail
    have h2 := ptx_len hok.head
    simp only [List.map_cons, List.sum_cons, List.length_cons]
    omega
theorem rowTx_len {r : List Pc} (hok : RowOk r) (l8 : r.length ≤ 8) : (rowTx r).length ≤ 100 := by
  unfold rowTx
  rw [TL.join_eq]
  have h1 := join_len (Str.ofString ", ") (r.map ptx)
  have h2 := sum_len hok
  rw [List.length_map] at h1
  have h3 : (Str.ofString ", ").length = 2 := by decide +kernel
  rw [h3] at h1
  omega
theorem eqv_none_tup (xs : List PyData) : PyData.eqv (.tuple xs) .none = false := by simp [PyData.eqv]
/-! ### what the class has, as its users see it -/
structure OwC (P : Program) (w : World) (K : PySem.W.Frag) (mg : Str → Option Value) (base : Heap) (C g : Addr) (fd : FuncData) : Prop where
  co : StX.CallO K C g
  ok : FnOk P w K mg base CX0 4 g fd ["self", "load"] (spCall C)
  fr : FnR P w K mg base CX0 4 g (spCall C)
  kb : ∀ (s : Shared) (u v : Value), K.In s.heap → BindsTo s fd ⟨[u], [("load", v)]⟩ [("self", u), ("load", v)]
structure OwA (P : Program) (w : World) (K : PySem.W.Frag) (mg : Str → Option Value) (base : Heap) (C g : Addr) (fd : FuncData) : Prop where
  sf : PySem.W.selfFirst K C = true
  at_ : PySem.W.findIn K (.ref C) (PySem.dunder Operator.Add.info.2) = some (some (.ref g))
  fn : PySem.W.isFn K (.ref g) = true
  ok : FnOk P w K mg base CX0 7 g fd ["self", "other"] (spAdd C)
  b : Binds K fd ["self", "other"] []
structure OwR (P : Program) (w : World) (K : PySem.W.Frag) (mg : Str → Option Value) (base : Heap) (C p g : Addr) (fd : FuncData) : Prop where
  rd : ClX.CRead K C (.type "type")
  sm : SMet K C (.type "type") "read" p g
  ok : FnOk P w K mg base CX0 7 g fd ["text"] (spRead C)
  b : Binds K fd ["text"] []
structure OwT (P : Program) (w : World) (K : PySem.W.Frag) (mg : Str → Option Value) (base : Heap) (C g : Addr) (fd : FuncData) : Prop where
  m : Meth K C "turned" g
  ok : FnOk P w K mg base CX0 7 g fd ["self"] (spTurn C)
  b : Binds K fd ["self"] []
structure OwN (P : Program) (w : World) (K : PySem.W.Frag) (mg : Str → Option Value) (base : Heap) (C p g : Addr) (fd : FuncData) : Prop where
  pr : PropOf K C "numbers" p g
  ok : FnOk P w K mg base CX0 1 g fd ["self"] (spNum C)
  b : Binds K fd ["self"] []
section
variable {P : Program} {w : World} {K : PySem.W.Frag} {mg : Str → Option Value} {base : Heap} {tG t1 t2 t3 : Tok} {aO aW J C fP fJ : Addr} {fdJ : FuncData}
theorem dp_row {H : Hp} {vs : List V} {r : List Pc} (h : PiecesAt H vs r) {q : Addr} (hq : H q = some (.tup vs)) : Dp K H (.ref q) (.tuple (r.map fun p => .tuple [.str (wd p.1), .int p.2])) := by
  refine .tup (SqT.of hq) ?_
  clear hq
  induction r generalizing vs with
  | nil =>
    match vs, h.1 with
    | [], _ => exact .nil
  | cons p r ih =>
    match vs, h.1, h.2 with
    | v :: vs, hl, h2 =>
      obtain ⟨v', hv, t, rfl, ht⟩ := h2 0 p rfl
      cases hv
      exact .cons (.tup (SqT.of ht) (.cons (.str _) (.cons (.int _) .nil))) (ih ⟨by simpa using hl, fun i p hp => h2 (i + 1) p hp⟩)
theorem wd_ok (r : Bool) : PyData.strOk (wd r) = true := by cases r <;> decide +kernel
theorem row_lay : ∀ r : List Pc, PyData.canLayAll0 (r.map fun p => .tuple [.str (wd p.1), .int p.2]) = true
  | [] => rfl
  | p :: r => by simp [PyData.canLayAll0, PyData.canLay0, row_lay r, wd_ok]
theorem row_depth : ∀ r : List Pc, PyData.depthAll (r.map fun p => .tuple [.str (wd p.1), .int p.2]) ≤ 1
  | [] => by simp [PyData.depthAll]
  | p :: r => by
    have h := row_depth r
    simp [PyData.depthAll, PyData.depth]
    omega
theorem sh_row (r : List Pc) : SeqAt.shaped (.tuple (r.map fun p => .tuple [.str (wd p.1), .int p.2])) = true := by
  have h1 := row_lay r
  have h2 := row_depth r
  unfold SeqAt.shaped
  simp [PyData.canLay0, PyData.depth, h1]
  omega
theorem units65 {k : Nat} {A : Around} (r : Room k A) : A.units + 65 < cLine := by
  have := r.un
  omega
abbrev s_Pattern_call : Stmt := inClass (top 41) 1
theorem sc_Pattern_call : FnScope ["self", "load"] ["self", "load"] (defScope s_Pattern_call) := ⟨rfl, rfl, rfl, by decide +kernel, rfl, by decide +kernel, by decide +kernel⟩

theorem ok_call {f : Addr} {fd : FuncData} (F : Fun K "__call__" "Pattern.__call__" s_Pattern_call f fd) (T : Txt3 K mg tG t1 t2 t3 aO aW J C) (D_is_resistance : Df P w K mg base 3 "is_resistance" ["value"] spIsRes) (D_pair_of : Df P w K mg base 2 "pair_of" ["fraction_or_open"] spPairOf) (D_shown_before : Df P w K mg base 1 "shown_before" ["matrix", "pair"] spShown) (D_lowest_pair : Df P w K mg base 3 "lowest_pair" ["fraction_or_open"] spLowP) :
    FnOk P w K mg base CX0 4 f fd ["self", "load"] (spCall C) := by
  refine F.ok sc_Pattern_call (fun vs H Q E h => ?_) (fun cdv A outer s H vs Q E hr h => ?_)
  · obtain ⟨x, v, r, e, rfl, _⟩ := h
    rfl
  · obtain ⟨x, v, r, e, rfl, hP, hok, l8, hL, k⟩ := h
    refine ⟨_, (pss_cons (ps_if (pt_not (pt_val (pe_df D_is_resistance (hr.mono (by decide)) (by rfl) (pa_cons (pv 1) pa_nil)))) (pss_one ps_never) pss_nil)
      (pss_one (ps_ret (pe_df D_lowest_pair (hr.mono (by decide)) (by rfl) (pa_cons (pe_df D_shown_before (hr.mono (by decide)) (by rfl) (pa_cons (pe_fld (pv 0) rfl) (pa_cons (pe_df D_pair_of (hr.mono (by decide)) (by rfl) (pa_cons (pv 1) pa_nil)) pa_nil))) pa_nil))))), ?_⟩
    have ep := hL.pos
    obtain ⟨es1, es2⟩ := hL.sm
    obtain ⟨dx, q, m, f', ws, f1, f2, f3, f4, hx, hq, hw, hm, _⟩ := hP
    have ms := matR_sm hok l8
    have ap := app_pos hok ep
    obtain ⟨as1, as2⟩ := app_sm (j := 41) (k := 41) ms es1 es2
    rcases hL with ⟨i, rfl, i0, i1, rfl⟩ | ⟨p, rfl, hp, hR⟩
    · refine ⟨_, rfl, .inl ⟨i, rfl, i0, i1, true, rfl, iteF ?_⟩⟩
      refine ⟨_, rfl, x, C, dx, _, _, rfl, hx, T.cl, T.nMat, lkM _ _ _, _, rfl, .inl ⟨i, rfl, fun H1 t s1 nt ht => ?_⟩⟩
      refine ⟨m, t, matR r, (i, 1), rfl, s1 _ _ hm, ht, ms.mono (by decide), es1.mono (by decide), es2.mono (by decide), fun H2 p' s2 np hp' => ?_⟩
      exact ⟨_, _, rfl, .inr ⟨p', rfl, hp'⟩, ap, as1.mono (by decide), as2.mono (by decide), fun H3 p3 s3 np3 hp3 => k _ p3 ((s1.trans s2).trans s3) ((s1.trans s2).free np3) hp3⟩
    · refine ⟨_, rfl, .inr ⟨p, _, _, rfl, hp, hR, true, rfl, iteF ?_⟩⟩
      refine ⟨_, rfl, x, C, dx, _, _, rfl, hx, T.cl, T.nMat, lkM _ _ _, _, rfl, .inr ⟨p, _, rfl, hp, ?_⟩⟩
      refine ⟨m, p, matR r, e, rfl, (Same.refl H) _ _ hm, hp, ms.mono (by decide), es1.mono (by decide), es2.mono (by decide), fun H2 p' s2 np hp' => ?_⟩
      exact ⟨_, _, rfl, .inr ⟨p', rfl, hp'⟩, ap, as1.mono (by decide), as2.mono (by decide), fun H3 p3 s3 np3 hp3 => k _ p3 (s2.trans s3) (s2.free np3) hp3⟩
abbrev s_Pattern_numbers : Stmt := inClass (top 41) 3
theorem sc_Pattern_numbers : FnScope ["self"] ["self"] (defScope s_Pattern_numbers) := ⟨rfl, rfl, rfl, by decide +kernel, rfl, by decide +kernel, by decide +kernel⟩

theorem ok_num {f : Addr} {fd : FuncData} (F : Fun K "numbers" "Pattern.numbers" s_Pattern_numbers f fd) (T : Txt3 K mg tG t1 t2 t3 aO aW J C) : FnOk P w K mg base CX0 1 f fd ["self"] (spNum C) := by
  refine F.ok sc_Pattern_numbers (fun vs H Q E h => ?_) (fun cdv A outer s H vs Q E hr h => ?_)
  · obtain ⟨x, dx, q, m, f, s0, rfl, _⟩ := h
    rfl
  · obtain ⟨x, dx, q, m, f, s0, rfl, hx, k⟩ := h
    refine ⟨_, (pss_one (ps_ret (pe_fld (pv 0) rfl))), ?_⟩
    exact ⟨_, rfl, x, C, dx, _, _, rfl, hx, T.cl, T.nFour, lkF _ _ _, k⟩
abbrev s_Pattern_add : Stmt := inClass (top 41) 4
theorem sc_Pattern_add : FnScope ["self", "other", "row"] ["self", "other"] (defScope s_Pattern_add) := ⟨rfl, rfl, rfl, by decide +kernel, rfl, by decide +kernel, by decide +kernel⟩

theorem ok_add {f : Addr} {fd : FuncData} (F : Fun K "__add__" "Pattern.__add__" s_Pattern_add f fd) (T : Txt3 K mg tG t1 t2 t3 aO aW J C) (X_pat : PatD P w K mg base C J fP) (X_join : JoinD P w K mg base J fJ fdJ) : FnOk P w K mg base CX0 7 f fd ["self", "other"] (spAdd C) := by
  refine F.ok sc_Pattern_add (fun vs H Q E h => ?_) (fun cdv A outer s H vs Q E hr h => ?_)
  · obtain ⟨x, y, r, r', rfl, _⟩ := h
    rfl
  · obtain ⟨x, y, r, r', rfl, hP, hP', hok, hok', l1, l1', l8, k⟩ := h
    refine ⟨_, (pss_cons (ps_set (i := 2) sc_Pattern_add.nd rfl (.inl rfl) (pe_op op_catA (pe_fld (pv 0) rfl) (pe_fld (pv 1) rfl)))
      (pss_cons (ps_if (pt_cmpR op_gt (pe_callB call_len_seq (by rfl) T.len (by decide +kernel) (pa_cons (pv 2) pa_nil)) (pe_glob (v := .int 8) rfl T.mgJo ⟨_, rfl⟩) (nomark _)) (pss_one ps_never) pss_nil)
      (pss_one (ps_ret (StX.pe_makeR X_pat.m X_pat.fn (hr.mono (by decide)) rfl T.mgC pass0 (pa_cons (pe_make X_join.m X_join.fn (hr.mono (by decide)) rfl T.mgJ X_join.bd .nil pass0 (pa_cons (pv 2) pa_nil)) pa_nil)))))), ?_⟩
    obtain ⟨dx, q, m, f', ws, f1, f2, f3, f4, hx, hq, hw, hm, _⟩ := hP
    obtain ⟨dy, q', m', g', ws', g1, g2, g3, g4, hy, hq', hw', hm', _⟩ := hP'
    have e1 := hw.1
    have e2 := hw'.1
    refine ⟨_, rfl, x, C, dx, _, _, rfl, hx, T.cl, T.nRow, lkR _ _ _, _, rfl, y, C, dy, _, _, rfl, hy, T.cl, T.nRow, lkR _ _ _, q, q', ws, ws', rfl, rfl, SqT.of hq, SqT.of hq', Nat.le_trans (by omega) (small1000 (show 8 ≤ 1000 by decide)), fun z => ?_, fun _ z => ?_, fun _ _ p np => ?_⟩
    · rw [z] at e1
      have : ([] : List V).length = 0 := rfl
      omega
    · rw [z] at e2
      have : ([] : List V).length = 0 := rfl
      omega
    have s1 := same_upd (o := .tup (ws ++ ws')) np
    have hp : (upd H p (.tup (ws ++ ws'))) p = some (.tup (ws ++ ws')) := upd_same
    have hpp := (hw.app hw').same s1
    refine ⟨_, rfl, p, _, rfl, .inr (SqT.of hp), _, _, rfl, rfl, _, rfl, ite2 (fun e => ?_) (fun _ => ?_)⟩
    · have h1 := of_decide_eq_true e
      rw [List.length_append] at h1
      omega
    exact ⟨_, rfl, make_pat hp hpp (hok.app hok') (by rw [List.length_append]; omega) (by rw [List.length_append]; omega) fun H' z s2 nz hz => k H' z (s1.trans s2) (s1.free nz) hz⟩
abbrev s_Pattern_read : Stmt := inClass (top 41) 10
theorem sc_Pattern_read : FnScope ["text", "parts", "row", "part"] ["text"] (defScope s_Pattern_read) := ⟨rfl, rfl, rfl, by decide +kernel, rfl, by decide +kernel, by decide +kernel⟩

theorem ok_read {f : Addr} {fd : FuncData} (F : Fun K "read" "Pattern.read" s_Pattern_read f fd) (T : Txt3 K mg tG t1 t2 t3 aO aW J C) (X_pat : PatD P w K mg base C J fP) (X_join : JoinD P w K mg base J fJ fdJ) (D_piece_with_text : Df P w K mg base 2 "piece_with_text" ["text"] spPwt) : FnOk P w K mg base CX0 7 f fd ["text"] (spRead C) := by
  refine F.ok sc_Pattern_read (fun vs H Q E h => ?_) (fun cdv A outer s H vs Q E hr h => ?_)
  · obtain ⟨r, rfl, _⟩ := h
    rfl
  · obtain ⟨r, rfl, hok, l1, l8, k⟩ := h
    refine ⟨_, (pss_cons (ps_if (pt_not (pt_val (pe_callB call_isi (by rfl) T.isinstance (by decide +kernel) (pa_cons (pv 0) (pa_cons (pe_bltn (v := .ty "str") (by rfl) T.str_ (by decide +kernel) rfl) pa_nil))))) (pss_one ps_never) pss_nil)
      (pss_cons (ps_set (i := 1) sc_Pattern_read.nd rfl (.inl rfl) (pe_split (pv 0) pe_str))
      (pss_cons (ps_if (pt_cmpR op_gt (pe_callB call_len_seq (by rfl) T.len (by decide +kernel) (pa_cons (pv 1) pa_nil)) (pe_glob (v := .int 8) rfl T.mgJo ⟨_, rfl⟩) (nomark _)) (pss_one ps_never) pss_nil)
      (pss_cons (ps_set (i := 2) sc_Pattern_read.nd rfl (.inl rfl) (pe_callTy call_tuple_of (by rfl) T.tuple_ (by decide +kernel) (pa_cons (pe_lc (own := [("part", 3)]) (g := gName 3) (tt := tYes) rfl sc_Pattern_read.nd (pi_list (pv 1)) (blkOk_by (N := ["text", "parts", "row", "part"]) (sc := defScope s_Pattern_read) (by decide +kernel)) (fun _ _ _ _ _ => pg_name (i := 3) sc_Pattern_read.nd rfl (Or.inl rfl)) (fun _ _ _ _ _ => pts_nil) (fun _ _ _ _ _ => (pe_df D_piece_with_text (hr.mono (by decide)) (by rfl) (pa_cons (pv 3) pa_nil)))) pa_nil)))
      (pss_cons (ps_if (pt_cmpR (op_inT (units65 hr)) pe_non (pv 2) (by rfl)) (pss_one ps_never) pss_nil)
      (pss_one (ps_ret (StX.pe_makeR X_pat.m X_pat.fn (hr.mono (by decide)) rfl T.mgC pass0 (pa_cons (pe_make X_join.m X_join.fn (hr.mono (by decide)) rfl T.mgJ X_join.bd .nil pass0 (pa_cons (pv 2) pa_nil)) pa_nil))))))))), ?_⟩
    refine ⟨_, rfl, _, _, _, _, true, rfl, .ty _, .base (.str _), kit_ty (by decide +kernel), true, rfl, iteF ?_⟩
    refine ⟨_, rfl, ⟨_, rfl⟩, _, _, rfl, rfl, by decide +kernel, Nat.le_trans (Nat.add_le_add_right (rowTx_len hok l8) 2) (small1000 (show 101 ≤ 999 + 1 by decide)), fun p np => ?_⟩
    rw [parts_split hok l1]
    have s1 := same_upd (o := .lst ((r.map ptx).map V.str)) np
    have hp : (upd H p (.lst ((r.map ptx).map V.str))) p = some (.lst ((r.map ptx).map V.str)) := upd_same
    have len : ((r.map ptx).map V.str).length = r.length := by rw [List.length_map, List.length_map]
    generalize upd H p (.lst ((r.map ptx).map V.str)) = H1 at *
    refine ⟨_, rfl, p, _, rfl, .inl (SqL.of hp), _, _, rfl, rfl, _, rfl, ite2 (fun e => ?_) (fun _ => ?_)⟩
    · have h1 := of_decide_eq_true e
      rw [len] at h1
      omega
    refine ⟨_, rfl, p, rfl, ⟨_, SqL.of hp⟩, fun D hD => ?_⟩
    refine lc_list (K := K) (a := p) (xs := (r.map ptx).map V.str) (fun i H' => But D H1 H' ∧ ∃ vs, H' D = some (.lst vs) ∧ PiecesAt H' vs (r.take i)) ⟨But.upd, [], upd_same, rfl, fun i e z => by simp at z⟩ (fun i H' _ h => SqL.of (h.1 _ _ (ne_of_none hp hD) hp)) ?_ ?_
    · rintro i y H' hi ⟨bD, vs, hDi, hF⟩
      refine ⟨rfl, ?_⟩
      unfold tYes
      refine iteT ?_
      obtain ⟨pc, rfl, hpc⟩ : ∃ pc, y = .str (ptx pc) ∧ r[i]? = some pc := by
        rw [List.getElem?_map, List.getElem?_map] at hi
        cases e : r[i]? with
        | none =>
          rw [e] at hi
          cases hi
        | some pc =>
          rw [e] at hi
          exact ⟨pc, (Option.some.inj hi).symm, rfl⟩
      have il : i < r.length := (List.getElem?_eq_some_iff.mp hpc).1
      have lv : vs.length = i := by
        rw [hF.1, List.length_take]
        omega
      have tk : r.take (i + 1) = r.take i ++ [pc] := by
        rw [List.take_succ, hpc]
        rfl
      refine ⟨_, rfl, pc, rfl, hok.at_ hpc, fun H5 t s5 nt ht => ?_⟩
      have hD5 := s5 _ _ hDi
      have bD2 : But D H5 (upd H5 D (.lst (vs ++ [.ref t]))) := But.upd
      refine ⟨vs, hD5, small1000 (by omega), ?_, vs ++ [.ref t], upd_same, ?_⟩
      · intro b o nb e
        rw [upd_ne nb]
        exact s5 _ _ (bD _ _ nb e)
      · rw [tk]
        refine ((hF.same s5).app ⟨rfl, fun j p hj => ?_⟩).but bD2 (fun xs z => by rw [hD5] at z; cases z)
        match j, hj with
        | 0, hj =>
          cases hj
          exact ⟨_, rfl, t, rfl, ht⟩
    · rintro H' ⟨bD, vs, hDn, hF⟩
      rw [len, List.take_length] at hF
      have sD : Same H1 H' := fun b o e => bD _ _ (ne_of_none e hD) e
      refine ⟨D, _, rfl, .inl ⟨SqL.of hDn, fun l hl => ?_⟩⟩
      have s6 := same_upd (o := .tup vs) hl
      have hF6 := hF.same s6
      have hl6 : (upd H' l (.tup vs)) l = some (.tup vs) := upd_same
      have sA := (s1.trans sD).trans s6
      generalize upd H' l (.tup vs) = H6 at *
      refine ⟨_, rfl, .none, _, .non, dp_row hF6 hl6, rfl, sh_row r, _, rfl, ite2 (fun e => ?_) (fun _ => ?_)⟩
      · exfalso
        rw [List.any_eq_true] at e
        obtain ⟨z, hz, ez⟩ := e
        obtain ⟨pc, _, rfl⟩ := List.mem_map.mp hz
        rw [eqv_none_tup] at ez
        cases ez
      exact ⟨_, rfl, make_pat hl6 hF6 hok l1 l8 fun H' z s2 nz hz => k H' z (sA.trans s2) (sA.free nz) hz⟩
end
end RL

set_option maxHeartbeats 1000000
namespace RL
open PySem L2 PySem.Spec PyProof.Rows
def RowL (H : Hp) (a : Addr) (r : List Pc) : Prop := ∃ ws, H a = some (.lst ws) ∧ PiecesAt H ws r
def PairAt (H : Hp) (t : Addr) (e : Int × Int) : Prop := H t = some (.tup [.int e.1, .int e.2])
theorem RowL.same {H H' : Hp} {a : Addr} {r : List Pc} (h : RowL H a r) (s : Same H H') : RowL H' a r := by
  obtain ⟨ws, h1, h2⟩ := h
  exact ⟨ws, s _ _ h1, h2.same s⟩
theorem RowL.but {H H' : Hp} {a c : Addr} {r : List Pc} (h : RowL H a r) (hc : CupAt c H) (na : a ≠ c) (s : But c H H') : RowL H' a r := by
  obtain ⟨ws, h1, h2⟩ := h
  obtain ⟨u, v, hc, _⟩ := hc
  exact ⟨ws, s _ _ na h1, h2.but s (fun xs z => by rw [hc] at z; cases z)⟩
theorem But.tup {c a : Addr} {H H' : Hp} {xs : List V} (b : But c H H') (hc : CupAt c H) (h : H a = some (.tup xs)) : H' a = some (.tup xs) := by
  obtain ⟨u, v, hc, _⟩ := hc
  exact b _ _ (ne_of h hc (by intro z; cases z)) h
def spFront : Sp := fun vs H Q _ => ∃ (a p : Addr) (r : List Pc) (e : Int × Int), vs = [.ref a, .ref p] ∧ RowL H a r ∧ RowOk r ∧ r.length ≤ 8 ∧ PairAt H p e ∧ Pos2 e ∧ Sm 1000 e.1 ∧ Sm 1000 e.2 ∧
  ∀ H' t, Same H H' → H t = none → PairAt H' t (low (frtR r e)) → Q (.ref t) H'
def spRow : Sp := fun vs H Q _ => ∃ (c : Addr) (m : Int), vs = [.ref c, .int m] ∧ CupAt c H ∧ 1 ≤ m ∧ m ≤ 8 ∧
  ∀ H' a r, But c H H' → CupAt c H' → H a = none → a ≠ c → RowL H' a r → RowOk r → 1 ≤ r.length → (r.length : Int) ≤ m → Q (.ref a) H'
def spWords : Sp := fun vs H Q _ => ∃ (a : Addr) (r : List Pc), vs = [.ref a] ∧ RowL H a r ∧ RowOk r ∧ r.length ≤ 8 ∧ ∀ H', Same H H' → Q (.str (rowTx r)) H'
def spEnd : Sp := fun vs H Q _ => ∃ c : Addr, vs = [.ref c] ∧ CupAt c H ∧ ∀ H' t e, But c H H' → CupAt c H' → PairAt H' t e → ResP e.1 e.2 → Q (.ref t) H'
def spReadL (C : Addr) : Sp := fun vs H Q _ => ∃ (a : Addr) (r : List Pc), vs = [.ref a] ∧ RowL H a r ∧ RowOk r ∧ 1 ≤ r.length ∧ r.length ≤ 8 ∧ ∀ H' z, Same H H' → H z = none → PatAt C H' z r → Q (.ref z) H'
theorem ResP.pos {e : Int × Int} (h : ResP e.1 e.2) : Pos2 e := by
  rcases h with ⟨h1, _, h2, _⟩ | ⟨h1, h2⟩
  · exact ⟨h1, by omega, .inr (by omega)⟩
  · exact ⟨by omega, by omega, .inl (by omega)⟩
theorem ResP.sm {e : Int × Int} (h : ResP e.1 e.2) : Sm 41 e.1 ∧ Sm 41 e.2 := by
  have k : ∀ z : Int, 0 ≤ z → z ≤ 1000000000000 → Sm 41 z := fun z h1 h2 => sm_lt h1 (by
    have e : (2 : Int) ^ 41 = 2199023255552 := by decide
    rw [e]
    omega)
  rcases h with ⟨h1, h2, h3, h4⟩ | ⟨h1, h2⟩
  · exact ⟨k _ h1 h2, k _ (by omega) h4⟩
  · exact ⟨k _ (by omega) (by omega), k _ (by omega) (by omega)⟩
theorem low_res {t b : Int} (t0 : 0 ≤ t) (t1 : t ≤ 1000000000000) (b0 : 1 ≤ b) (b1 : b ≤ 1000000000000) : ResP (low (t, b)).1 (low (t, b)).2 := by
  have hp : Pos2 (t, b) := ⟨t0, by show 0 ≤ b; omega, .inr (by show 0 < b; omega)⟩
  have g0 : 0 < gc t b := gc_pos2 hp
  have e := low_is hp
  have e1 : t = gc t b * (low (t, b)).1 := congrArg Prod.fst e
  have e2 : b = gc t b * (low (t, b)).2 := congrArg Prod.snd e
  obtain ⟨l1, l2, _⟩ := low_pos hp
  have g1 : 1 ≤ gc t b := g0
  have m1 := Int.mul_le_mul_of_nonneg_right g1 l1
  have m2 := Int.mul_le_mul_of_nonneg_right g1 l2
  rw [Int.one_mul] at m1 m2
  rw [← e1] at m1
  rw [← e2] at m2
  refine .inl ⟨l1, by omega, ?_, by omega⟩
  rcases Int.lt_or_le 0 (low (t, b)).2 with z | z
  · omega
  · have := Int.mul_nonpos_of_nonneg_of_nonpos (Int.le_of_lt g0) z
    omega
/-- the walk, from the last piece to the first -/
theorem walk_front (l : List Pc) (e : Int × Int) : l.foldl (fun e p => frt p e) e = frtR l.reverse e := by
  unfold frtR
  rw [List.foldr_reverse]
section
variable {P : Program} {w : World} {K : PySem.W.Frag} {mg : Str → Option Value} {base : Heap} {tG t1 t2 t3 : Tok} {aO aW J C fP fJ : Addr} {fdJ : FuncData}
abbrev s_law_row : Stmt := top 53
theorem sc_law_row : FnScope ["_law_cup_here", "_law_most", "_law_found", "_law_turn"] ["_law_cup_here", "_law_most"] (defScope s_law_row) := ⟨rfl, rfl, rfl, by decide +kernel, rfl, by decide +kernel, by decide +kernel⟩

theorem ok_row {f : Addr} {fd : FuncData} (F : Fun K "_law_row" "_law_row" s_law_row f fd) (T : Txt K mg) (D_law_sip : Df P w K mg base 1 "_law_sip" ["_law_cup_here", "_law_many"] spSip) (D_law_pick : Df P w K mg base 2 "_law_pick" ["_law_cup_here", "_law_things"] spPick) : FnOk P w K mg base CX0 3 f fd ["_law_cup_here", "_law_most"] spRow := by
  refine F.ok sc_law_row (fun vs H Q E h => ?_) (fun cdv A outer s H vs Q E hr h => ?_)
  · obtain ⟨c, m, rfl, _⟩ := h
    rfl
  · obtain ⟨c, m, rfl, hc, m1, m8, k⟩ := h
    refine ⟨_, (pss_cons (ps_set (i := 2) sc_law_row.nd rfl (.inl rfl) (pe_lst pa_nil))
      (pss_cons (ps_for PassesOwn.never rfl (pi_range1 rfl T.range (pa_cons (pe_op op_add pe_int (pe_df D_law_sip (hr.mono (by decide)) (by rfl) (pa_cons (pv 0) (pa_cons (pv 1) pa_nil)))) pa_nil)) (pg_name (i := 3) sc_law_row.nd rfl (.inl rfl)) (pss_one (ps_expr (pe_bm PySem.F.plainAttrs_list PySem.F.slot_list_append PySem.F.type_list_append mt_append (pv 2) (pa_cons (pe_tup (pa_cons (pe_df D_law_pick (hr.mono (by decide)) (by rfl) (pa_cons (pv 0) (pa_cons (pe_lst (pa_cons pe_str (pa_cons pe_str pa_nil))) pa_nil))) (pa_cons (pe_op op_add pe_int (pe_df D_law_sip (hr.mono (by decide)) (by rfl) (pa_cons (pv 0) (pa_cons pe_int pa_nil)))) pa_nil))) pa_nil)))))
      (pss_one (ps_ret (pv 2))))), ?_⟩
    refine ⟨Nat.zero_le _, fun a na => ?_⟩
    have s1 := same_upd (o := .lst []) na
    have nac : a ≠ c := (hc.ne na).symm
    have ha1 : (upd H a (.lst [])) a = some (.lst []) := upd_same
    have hc1 := hc.same s1
    generalize upd H a (.lst []) = H1 at *
    refine ⟨_, rfl, _, rfl, c, m, rfl, hc1, by omega, (sm_lt (n := 200) (by omega) (Int.lt_of_le_of_lt m8 (by decide))), fun H2 n b2 hc2 n0 n1 => ⟨_, _, rfl, rfl, _, rfl, by omega, by omega, ?_⟩⟩
    refine for_range (lo := 0) (n := (1 + n).toNat) (fun i σ H' => But c H H' ∧ CupAt c H' ∧ (∃ v, σ = [some (.ref c), some (.int m), some (.ref a), v]) ∧ ∃ r, r.length = i ∧ RowL H' a r ∧ RowOk r) ⟨(But.of s1).trans b2, hc2, ⟨none, rfl⟩, [], rfl, ⟨[], b2 _ _ nac ha1, rfl, fun i p z => by simp at z⟩, fun p hp => by simp at hp⟩ ?_ ?_
    · rintro i σ H' hi ⟨bH, hcH, ⟨v, rfl⟩, r, lr, ⟨ws, ha, hw⟩, hok⟩
      have hi9 : i < 9 := by omega
      refine ⟨_, rfl, .inl ⟨rfl, _, SqL.of ha⟩, _, rfl, (by show 2 ≤ sizeLine; decide), fun l nl => ?_⟩
      have sl := same_upd (o := .lst [.str (Str.ofString "rail"), .str (Str.ofString "rung")]) nl
      have hl : (upd H' l (.lst [.str (Str.ofString "rail"), .str (Str.ofString "rung")])) l = some (.lst [.str (Str.ofString "rail"), .str (Str.ofString "rung")]) := upd_same
      refine ⟨c, l, _, rfl, hcH.same sl, hcH.ne nl, hl, by show 0 < 2; decide, by show 2 ≤ 100; decide, fun H3 v3 b3 hc3 hv3 => ?_⟩
      obtain ⟨w3, rfl⟩ : ∃ b : Bool, v3 = .str (wd b) := by
        simp only [List.mem_cons, List.not_mem_nil, or_false] at hv3
        rcases hv3 with rfl | rfl
        · exact ⟨true, rfl⟩
        · exact ⟨false, rfl⟩
      refine ⟨_, rfl, c, 12, rfl, hc3, by decide, (by unfold Sm; decide), fun H4 o b4 hc4 o0 o1 => ⟨_, _, rfl, rfl, (by show 2 ≤ sizeLine; decide), fun t nt => ?_⟩⟩
      have st := same_upd (o := .tup [.str (wd w3), .int (1 + o)]) nt
      have bb := ((But.of (c := c) sl).trans b3).trans b4
      have ha4 : H4 a = some (.lst ws) := bb _ _ nac ha
      have nat : a ≠ t := ne_of_none ha4 nt
      have hw4 : PiecesAt H4 ws r := hw.but bb (fun xs z => by obtain ⟨u, v, h, _⟩ := hcH; rw [h] at z; cases z)
      have bt : But a (upd H4 t (.tup [.str (wd w3), .int (1 + o)])) (upd (upd H4 t (.tup [.str (wd w3), .int (1 + o)])) a (.lst (ws ++ [.ref t]))) := But.upd
      have ha5 := st _ _ ha4
      refine ⟨a, _, _, rfl, rfl, ha5, small1000 (by rw [hw.1]; omega), ?_⟩
      have okp : PcOk (w3, 1 + o) := ⟨by dsimp; omega, by dsimp; omega⟩
      refine ⟨?_, ?_, ⟨_, rfl⟩, r ++ [(w3, 1 + o)], by rw [List.length_append, lr]; rfl, ⟨_, upd_same, ?_⟩, hok.app fun p hp => by rw [List.mem_singleton] at hp; rw [hp]; exact okp⟩
      · refine fun b o' nb e => ?_
        have nba : b ≠ a := ne_of_none e na
        exact bt _ _ nba (st _ _ (bb _ _ nb (bH _ _ nb e)))
      · obtain ⟨u, v, h, z⟩ := hc4
        exact ⟨u, v, bt _ _ nac.symm (st _ _ h), z⟩
      · refine ((hw4.same st).app ⟨rfl, fun j p hj => ?_⟩).but bt (fun xs z => by rw [ha5] at z; cases z)
        match j, hj with
        | 0, hj =>
          cases hj
          exact ⟨_, rfl, t, rfl, upd_same⟩
    · rintro σ H' ⟨bH, hcH, ⟨v, rfl⟩, r, lr, hR, hok⟩
      exact ⟨_, rfl, k H' a r bH hcH na nac hR hok (by omega) (by omega)⟩
abbrev s_law_words : Stmt := top 54
theorem sc_law_words : FnScope ["_law_row_here", "_law_word", "_law_ohms"] ["_law_row_here"] (defScope s_law_words) := ⟨rfl, rfl, rfl, by decide +kernel, rfl, by decide +kernel, by decide +kernel⟩

theorem ok_words {f : Addr} {fd : FuncData} (F : Fun K "_law_words" "_law_words" s_law_words f fd) (T : Txt K mg) : FnOk P w K mg base CX0 1 f fd ["_law_row_here"] spWords := by
  refine F.ok sc_law_words (fun vs H Q E h => ?_) (fun cdv A outer s H vs Q E hr h => ?_)
  · obtain ⟨a, r, rfl, _⟩ := h
    rfl
  · obtain ⟨a, r, rfl, ⟨ws, ha, hw⟩, hok, l8, k⟩ := h
    refine ⟨_, (pss_one (ps_ret (pe_join pe_str (pe_lc (own := [("_law_word", 1), ("_law_ohms", 2)]) (g := gTup K 2 (gCons (gName 1) (gCons (gName 2) gNil))) (tt := tYes) rfl sc_law_words.nd (pi_list (pv 0)) (blkOk_by (N := ["_law_row_here", "_law_word", "_law_ohms"]) (sc := defScope s_law_words) (by decide +kernel)) (fun _ _ _ _ _ => pg_tup rfl (pgs_cons (pg_name (i := 1) sc_law_words.nd rfl (Or.inl rfl)) (pgs_cons (pg_name (i := 2) sc_law_words.nd rfl (Or.inl rfl)) pgs_nil))) (fun _ _ _ _ _ => pts_nil) (fun _ _ _ _ _ => (pe_op op_add_str (pe_op op_add_str (pv 1) pe_str) (pe_callTy call_str_int (by rfl) T.str_ (by decide +kernel) (pa_cons (pv 2) pa_nil)))))))), ?_⟩
    refine ⟨⟨_, rfl⟩, _, rfl, a, rfl, ⟨_, SqL.of ha⟩, fun D hD => ?_⟩
    refine lc_list (K := K) (a := a) (xs := ws) (fun i H' => But D H H' ∧ H' D = some (.lst (((r.take i).map ptx).map V.str))) ⟨But.upd, upd_same⟩ (fun i H' _ h => SqL.of (h.1 _ _ (ne_of_none ha hD) ha)) ?_ ?_
    · rintro i y H1 hi ⟨bD, hDi⟩
      obtain ⟨pc, hpc, t, rfl, ht⟩ := hw.at_ hi
      have ht1 := bD _ _ (ne_of_none ht hD) ht
      have ok := hok.at_ hpc
      have oh : Sm 200 pc.2 := (ohm_sm ok).mono (by decide)
      have ww : OkT 4 (wd pc.1) := by
        unfold wd
        split
        · exact OkT.of "rail"
        · exact OkT.of "rung"
      have lens : ∀ {m n : Nat} {x y : Str}, OkT m x → OkT n y → m + n ≤ 100000 → x.length + y.length ≤ sizeLine := fun {m n x y} h1 h2 h3 => by
        have := h1.len
        have := h2.len
        rw [sizeLine_eq]
        omega
      refine ⟨t, _, rfl, SqT.of ht1, rfl, _, _, rfl, _, _, rfl, rfl, rfl, ?_⟩
      unfold tYes
      refine iteT ?_
      refine ⟨_, rfl, _, _, rfl, rfl, lens ww (OkT.of " ") (by decide), _, rfl, _, rfl, Nat.lt_trans (log_sm (by decide) oh) (by decide), _, _, rfl, rfl, lens (ww.app (OkT.of " ")) (ts_ok oh) (by decide), _, hDi, ?_, ?_, ?_⟩
      · rw [List.length_map, List.length_map, List.length_take]
        exact small1000 (by omega)
      · intro q o nq e
        rw [upd_ne nq]
        exact bD _ _ nq e
      · rw [upd_same, List.take_succ, hpc]
        simp only [Option.toList, List.map_append, List.map_cons, List.map_nil]
        rfl
    · rintro H1 ⟨bD, hDn⟩
      rw [hw.1, List.take_length] at hDn
      refine ⟨_, D, r.map ptx, rfl, rfl, .inl (SqL.of hDn), ?_, ?_⟩
      · have h2 := sum_len hok
        have h3 : (Str.ofString ", ").length = 2 := by decide +kernel
        rw [List.length_map]
        show _ + r.length * (Str.ofString ", ").length ≤ 16777216
        rw [h3]
        omega
      · exact k _ fun q o e => bD _ _ (ne_of_none e hD) e
variable {pr gr : Addr} {fr : FuncData}
end
end RL

set_option maxHeartbeats 2000000
/-! An own exception class called with arguments by position and by keyword, its __init__ a def. -/
namespace PySem
namespace RLX
open PySem.W PySem.Calls PyProof.Rows PySem.HandSPX
section
variable {prog : Program} {w : World} {M : Model} {A : Around} {E : Value → Shared → Prop} {R : Result → Shared → Prop} {h : Heap} {g : Array GenState} {d : Drawn} {t : Nat} {os : OsState}
variable {nm q : Str} {C N : Addr} {bs bm bmB : List Value} {hdct : Bool} {sn : List Str} {sub : List Value} {ab : Bool} {col : Option Bool} {dd : Option Addr} {k0 k1 k2 k3 k5 : Option Value} {B newId initId : String}
/-- the check ahead of the making -/
theorem chk_new (F : ExcBaseFacts B newId initId bmB) (hT : ∀ X : String, bm.contains (.type X) = bmB.contains (.type X)) {rest : List Value} {kw : List (Str × Value)} {Q : Unit → Shared → Prop}
    (hC : h.get? C = some (excClassObj nm q C N bs bm hdct sn sub ab col dd k0 k1 k2 k3 k5 newId)) (hq : Q () ⟨h, g, d, t, os⟩) : wpAny M A (checkBuiltinCall newId ⟨.ref C :: rest, kw⟩) Q E ⟨h, g, d, t, os⟩ := by
  have yB : (Value.ref C :: bm).contains (.type B) = true := by
    rw [List.contains_cons, hT, F.hasB, Bool.or_true]
  have st := F.noStar
  simp only [checkBuiltinCall, F.newKind, F.newSplit, F.newRow]
  repeat (first
    | refine wpAny_loadPart_at hC ?_
    | (refine wpAny_isSubtype_exc hC ?_; rw [yB])
    | refine wpAny_staticBase_exc hC ?_
    | refine wpAny_madeBy_exc hC ?_
    | simp only [bne_self_eq_false, Bool.false_eq_true, if_false]
    | wp_step)
  exact hq
/-- what the making lays: the arguments' tuple, the exception behind it -/
abbrev laid2 (C : Addr) (rest : List Value) (h : Heap) : Heap := (h.push (W.kdv_tup rest)).push (excO C h.objs.size)
theorem run_new (F : ExcBaseFacts B newId initId bmB) (hT : ∀ X : String, bm.contains (.type X) = bmB.contains (.type X)) {rest : List Value} {kw : List (Str × Value)}
    (hC : h.get? C = some (excClassObj nm q C N bs bm hdct sn sub ab col dd k0 k1 k2 k3 k5 newId))
    (hq : R (.ok (.ret (.ref (h.objs.size + 1)))) ⟨laid2 C rest h, g, d, t, os⟩) (hz : rest.length ≤ sizeLine) :
    codeAny (model prog w) A (.builtin newId ⟨.ref C :: rest, kw⟩) R ⟨h, g, d, t, os⟩ := by
  have en := F.ends
  have yB : (Value.ref C :: bm).contains (.type B) = true := by
    rw [List.contains_cons, hT, F.hasB, Bool.or_true]
  have yA : (Value.ref C :: bm).contains (.type "AttributeError") = false := by
    rw [List.contains_cons, hT, F.noAttr]
    rfl
  have yN : (Value.ref C :: bm).contains (.type "NameError") = false := by
    rw [List.contains_cons, hT, F.noName]
    rfl
  refine codeAny_builtinAt F.entry ?_
  unfold Builtin.«BaseException.__new__»
  refine wpAt_bind ?_
  show wpAt _ _ _ (stack >>= _) _ _ _
  refine wpAt_bind (wpAt_stack fun p below => wpAt_of_wpAny ?_)
  wp_walk
  refine wpAt_of_wpAny ?_
  rw [F.owner]
  repeat (first
    | with_reducible refine wpAny_madeHere_exc F.canon hC ?_
    | with_reducible refine wpAny_loadPart_at hC ?_
    | (with_reducible refine wpAny_isSubtype_exc hC ?_; first | rw [yB] | rw [yA] | rw [yN])
    | wp_step)
  show R _ _
  rw [Heap.size_push]
  exact hq
theorem run_typeCall (F : ExcBaseFacts B newId initId bmB) (hT : ∀ X : String, bm.contains (.type X) = bmB.contains (.type X)) {rest : List Value} {kw : List (Str × Value)} {fI : Addr} {Q : Fin → Shared → Prop}
    (hC : h.get? C = some (excClassObj nm q C N bs bm hdct sn sub ab col dd k0 k1 k2 k3 k5 newId))
    (hi : W.Looks (model prog w) h (typeLookup (.ref C) "__init__") (some (.ref fI))) (hb : ∀ self, W.Looks (model prog w) h (bindSpecial (.ref fI) self) (.ref fI, [self])) (hz : rest.length ≤ sizeLine)
    (hq : codeAny (model prog w) A (.call (.ref fI) ⟨.ref (h.objs.size + 1) :: rest, kw⟩)
      (fun r s' => match r with | .ok (.ret v) => v = .none ∧ Q (.done (.ret (.ref (h.objs.size + 1)))) s' | .ok _ => False | .error e => E e s')
      ⟨laid2 C rest h, g, d, t, os⟩) :
    wpAny (model prog w) A (Builtin.«type.__call__» ⟨.ref C :: rest, kw⟩) Q E ⟨h, g, d, t, os⟩ := by
  repeat (first
    | with_reducible refine wpAny_loadPart_at hC ?_
    | with_reducible refine wpAny_madeBy_exc hC ?_
    | wp_step)
  refine codeAny_call_builtin_code (Code.quiet_builtin _ F.quiet) (chk_new F hT hC (run_new F hT hC ?_ hz))
  show wpAny _ _ _ _ _ _
  have kp : ∀ b o, h.get? b = some o → (laid2 C rest h).get? b = some o := fun b o e => Heap.get?_push_of_some _ (Heap.get?_push_of_some _ e)
  have hC1 := kp _ _ hC
  have hget : (laid2 C rest h).get? (h.objs.size + 1) = some (excO C h.objs.size) := by heap_get
  have yC : (Value.ref C :: bm).contains (.ref C) = true := by simp
  have i1 := hi.keeps kp
  have b1 := (hb (.ref (h.objs.size + 1))).keeps kp
  unfold isInstance
  repeat (first
    | with_reducible refine wpAny_loadPart_at hget ?_
    | (with_reducible refine wpAny_isSubtype_exc hC1 ?_; rw [yC])
    | wp_step)
  show wpAny _ _ (typeLookup (.ref C) _) _ _ _
  refine i1.at (wpAny_holding (wpAny_bind (b1.at (wpAny_bind (wpAny_call (codeAny_mono hq fun r s' z => ?_))))))
  rcases r with e | (v | _ | _ | _) <;> first | exact z | exact z.elim | skip
  obtain ⟨rfl, z⟩ := z
  first
    | exact wpAny_pure (wpAny_pure z)
    | (wp_walk; exact z)
theorem chk_typeCall {rest : List Value} {kw : List (Str × Value)} {Q : Unit → Shared → Prop} (hC : h.get? C = some (excClassObj nm q C N bs bm hdct sn sub ab col dd k0 k1 k2 k3 k5 newId))
    (hq : Q () ⟨h, g, d, t, os⟩) : wpAny M A (checkBuiltinCall "type.__call__" ⟨.ref C :: rest, kw⟩) Q E ⟨h, g, d, t, os⟩ := by
  have f3 := tc_sub
  have ty : (⟨h, g, d, t, os⟩ : Shared).TypeIs (.ref C) "type" := ⟨_, hC, rfl⟩
  simp only [checkBuiltinCall, tc_kind, tc_split]
  repeat (any_goals (first
    | assumption
    | with_reducible refine wpAny_loadPart_at hC ?_
    | with_reducible refine wpAny_onRaise ?_
    | with_reducible refine wpAny_map ?_
    | wp_step))
/-- C(.., k = v, ..) -/
theorem run_make (F : ExcBaseFacts B newId initId bmB) (hT : ∀ X : String, bm.contains (.type X) = bmB.contains (.type X)) {rest : List Value} {kw : List (Str × Value)} {fI : Addr}
    (hC : h.get? C = some (excClassObj nm q C N bs bm hdct sn sub ab col dd k0 k1 k2 k3 k5 newId))
    (hi : W.Looks (model prog w) h (typeLookup (.ref C) "__init__") (some (.ref fI))) (hb : ∀ self, W.Looks (model prog w) h (bindSpecial (.ref fI) self) (.ref fI, [self])) (hz : rest.length ≤ sizeLine)
    (hq : codeAny (model prog w) (A.under (.builtin "type.__call__" ⟨.ref C :: rest, kw⟩)) (.call (.ref fI) ⟨.ref (h.objs.size + 1) :: rest, kw⟩) (W.InitBack (h.objs.size + 1) R) ⟨laid2 C rest h, g, d, t, os⟩) :
    codeAny (model prog w) A (.call (.ref C) ⟨rest, kw⟩) R ⟨h, g, d, t, os⟩ := by
  have f1 := tc_lookup
  have f2 := tc_bind (.ref C)
  have ty : (⟨h, g, d, t, os⟩ : Shared).TypeIs (.ref C) "type" := ⟨_, hC, rfl⟩
  refine codeAny_of_tree ?_
  show wpAny _ _ (callAny (.ref C) _) _ _ _
  repeat (any_goals (first
    | assumption
    | with_reducible refine wpAny_loadPart_at hC ?_
    | wp_step))
  refine ⟨rfl, ?_⟩
  refine codeAny_call_builtin_at (Code.quiet_builtin _ (by decide +kernel)) entry_typeCall (chk_typeCall hC (run_typeCall F hT hC hi hb hz (codeAny_mono hq fun r s' z => ?_)))
  rcases r with e | (v | _ | _ | _) <;> exact z
end
end RLX
end PySem

set_option maxHeartbeats 2000000
/-! Own exceptions held as values: made (by position, by keyword), stored into, read, asked for their class. -/
namespace RL
open PySem L2 PySem.Spec PyProof.Rows Builtin Builtin.ObjectAttr
/-- what the class at C says: an own exception class, its __init__ a def -/
def xcB (K : PySem.W.Frag) (C : Addr) (bmB : List Value) (nid : String) : Bool :=
  PySem.W.excInitIn K C bmB nid && PySem.W.excOver K C bmB && PySem.W.hasDictIn K C && PySem.W.keepIn K (.ref C) && (PySem.W.clsIn K C).isSome &&
  decide (PySem.W.findIn K (.ref C) "__setattr__" = some (some (.builtin "object.__setattr__"))) &&
  decide (PySem.W.findIn K (.ref C) "__getattribute__" = some (some (.builtin "BaseException.__getattribute__"))) &&
  decide (PySem.W.findIn K (.ref C) "__getattr__" = some none) &&
  decide (PySem.W.findIn K (.ref C) "__class__" = some (some (.builtin "object.__class__"))) &&
  decide (PySem.W.subIn K (.ref C) (.type "BaseException") = some true) && decide (PySem.W.mroIn K C (.type "object") = some true) &&
  decide (PySem.W.findIn K (.ref C) "given" = some none) && decide (PySem.W.findIn K (.ref C) "index" = some none) && decide (PySem.W.findIn K (.ref C) "most" = some none)
structure XC (K : PySem.W.Frag) (C : Addr) : Prop where
  base : ∃ (B nid iid : String) (bmB : List Value), ExcBaseFacts B nid iid bmB ∧ StoreFacts B bmB "object.__setattr__" "object" ∧ PySem.W.excInitIn K C bmB nid = true ∧ PySem.W.excOver K C bmB = true
  hd : PySem.W.hasDictIn K C = true
  kp : PySem.W.keepIn K (.ref C) = true
  cl : (PySem.W.clsIn K C).isSome = true
  sa : PySem.W.findIn K (.ref C) "__setattr__" = some (some (.builtin "object.__setattr__"))
  ga : PySem.W.findIn K (.ref C) "__getattribute__" = some (some (.builtin "BaseException.__getattribute__"))
  gg : PySem.W.findIn K (.ref C) "__getattr__" = some none
  ca : PySem.W.findIn K (.ref C) "__class__" = some (some (.builtin "object.__class__"))
  sub : PySem.W.subIn K (.ref C) (.type "BaseException") = some true
  mo : PySem.W.mroIn K C (.type "object") = some true
  n1 : PySem.W.findIn K (.ref C) "given" = some none
  n2 : PySem.W.findIn K (.ref C) "index" = some none
  n3 : PySem.W.findIn K (.ref C) "most" = some none
theorem xcB_ok {K : PySem.W.Frag} {C : Addr} {bmB : List Value} {B nid iid : String} (F : ExcBaseFacts B nid iid bmB) (S : StoreFacts B bmB "object.__setattr__" "object") (h : xcB K C bmB nid = true) : XC K C := by
  unfold xcB at h
  simp only [Bool.and_eq_true, decide_eq_true_eq] at h
  obtain ⟨⟨⟨⟨⟨⟨⟨⟨⟨⟨⟨⟨⟨h1, h2⟩, h3⟩, h4⟩, h5⟩, h6⟩, h7⟩, h8⟩, h9⟩, h10⟩, h11⟩, h12⟩, h13⟩, h14⟩ := h
  exact ⟨⟨B, nid, iid, bmB, F, S, h1, h2⟩, h3, h4, h5, h6, h7, h8, h9, h10, h11, h12, h13, h14⟩
/-- the row that isinstance asks of object.__class__ -/
structure XK0 (K : PySem.W.Frag) : Prop where
  cn : PySem.W.specialIn K (.builtin "object.__class__") "__get__" = some (some (.builtin "getset_descriptor.__get__"))
  ct : PySem.W.takesIn K (.builtin "object.__class__") = some true
section
variable {prog : Program} {w : World} {A : Around} {R : Result → Shared → Prop} {hp : Heap} {g : Array GenState} {d : Drawn} {t : Nat} {os : OsState} {B : String} {bmB : List Value} {C : Addr}
theorem x_store {K : PySem.W.Frag} {name : Str} {tk : Tok} {v : Value} {x t1 : Addr} (SF : StoreFacts B bmB "object.__setattr__" "object") (X : K.In hp) (hx : hp.get? x = some (PySem.HandSPX.excO C t1))
    (ov : PySem.W.excOver K C bmB = true) (hh : PySem.W.hasDictIn K C = true) (ha : PySem.W.findIn K (.ref C) name = some none)
    (hq : ∀ h' tk' dx, (∀ b o, b ≠ x → hp.get? b = some o → h'.get? b = some o) → hp.objs.size ≤ dx → dx ≠ x → h'.get? x = some { PySem.HandSPX.excO C t1 with dict := some dx } →
      h'.Ns1 dx (fun y => if y = name then some v else none) → R (.ok (.ret .none)) ⟨h', g, d, tk', os⟩) :
    codeAny (model prog w) A (.call (.builtin "object.__setattr__") ⟨[.ref x, .str name tk, v], []⟩) R ⟨hp, g, d, t, os⟩ := by
  have tkr : PySem.W.takerIn K C name = some none := by
    unfold PySem.W.takerIn
    rw [ha]
    rfl
  obtain ⟨cd, hc, hd'⟩ := PySem.W.any_some hh
  have hxs : x ≠ hp.objs.size := Nat.ne_of_lt (Heap.lt_size hx)
  refine PySem.W.osa_openX (od := none) SF X ⟨hx, rfl, rfl, trivial⟩ ov tkr fun b => ?_
  refine wpAny_bind (wpAny_pure (wpAny_bind (PySem.W.instanceDict_exc (t := t1) (c2 := .none) hx (PySem.W.looks_clsIn X hc) hd' ?_)))
  show wpAny _ _ (storeInDict hp.objs.size (.str name tk) name v) _ _ _
  refine PySem.HandSPX.store_in_new ?_ ?_
  · exact ⟨_, #[], _, (Heap.get?_update_ne _ _ _ _ hxs.symm).trans (Heap.get?_push_at rfl rfl), rfl, fun e he => absurd he (by simp), fun _ => rfl⟩
  · intro h' tk' hn' hs
    have hx1 : (hp.push (PySem.W.dictOf [] 0)).get? x = some (PySem.HandSPX.excO C t1) := Heap.get?_push_of_some _ hx
    refine hq h' tk' hp.objs.size (fun b o hb ho => ?_) (Nat.le_refl _) hxs.symm ?_ hn'
    · exact (hs.2 b (Nat.ne_of_lt (Heap.lt_size ho))).trans ((Heap.get?_update_ne _ _ _ _ hb).trans (Heap.get?_push_of_some _ ho))
    · exact (hs.2 x hxs).trans (Heap.get?_update_self _ hx1 rfl)
end
section
variable {X : Cx} {pins : List (Addr × Obj)} {σ : L2.St} {H : Hp} {s : Shared} {a C dx : Addr} {f : Str} {y : V} {u : Value} {Q : Unit → Shared → Prop} {E : Value → Shared → Prop} {A : Around}
/-- self.f = y, the first one -/
theorem x_set (T : XC X.K C) (I : Inv X pins σ H s) (e : H a = some (exo a C none)) (hno : PySem.W.findIn X.K (.ref C) f = some none) (ry : RelV y u)
    (h : ∀ dx s', H dx = none → dx ≠ a → Inv X pins σ (upd (upd H dx (exd dx [(f, y)])) a (exo a C (some dx))) s' → Q () s') : wpAny (model X.prog X.w) A (setAttr (.ref a) f u) Q E s := by
  obtain ⟨B, nid, iid, bmB, FB, SF, _, ov⟩ := T.base
  obtain ⟨t1, ho⟩ := exo_at I.hok e
  obtain ⟨hp, g, d, t, os⟩ := s
  refine PySem.W.set_plain I.kIn (ox := PySem.HandSPX.excO C t1) (od := none) ⟨ho, rfl, rfl, trivial⟩ T.sa ?_
  refine x_store SF I.kIn ho ov T.hd hno (fun h' tk' dx k dn dne hx hn => ?_)
  have hnd : H dx = none := I.hok.fresh dn
  have nd : ∀ {b : Addr} {o : Obj}, hp.get? b = some o → b ≠ dx := fun {b o} q z => absurd (Heap.lt_size q) (by rw [z]; exact Nat.not_lt.mpr dn)
  have na : ∀ {b : Addr}, H b = none → b ≠ a := fun {b} n z => by
    rw [z, e] at n
    cases n
  have there : ∀ b o, hp.get? b = some o → ∃ o', h'.get? b = some o' := fun b o q => by
    by_cases hb : b = a
    · exact ⟨_, by rw [hb]; exact hx⟩
    · exact ⟨o, k b o hb q⟩
  refine h dx _ hnd dne (I.un (t' := tk') (Un.mk (fun b o q n _ _ => k b o (na n) q) (fun b o q n _ _ => ⟨o.slots, k b o (na n) q⟩) (fun b o q n _ => by rw [upd_ne (na n), upd_ne (nd q)]; exact n) (fun b o q _ => there b o q)
    (fun b xs q => by rw [upd_ne (at_ne e q exo_tup), upd_ne (ne_of_none q hnd)]; exact q) (fun b o v q => by rw [upd_ne (at_ne e q exo_frz), upd_ne (ne_of_none q hnd)]; exact q)
    (fun b ps q => ⟨#[], by rw [upd_ne (at_ne e q exo_tbl), upd_ne (ne_of_none q hnd), q]; simp⟩)) fun b o q => ?_)
  by_cases hb : b = a
  · rw [hb, upd_same] at q
    cases q
    rw [hb]
    exact exo_ok hx
  rw [upd_ne hb] at q
  by_cases hd : b = dx
  · rw [hd, upd_same] at q
    cases q
    rw [hd]
    exact exd_ok hn (relO_put (fs := []) ry fun g => True.intro)
  rw [upd_ne hd] at q
  refine (I.hok b o q).stay (fun c v hc z => k c v ?_ z) (fun c hc => ?_) (fun c xs hc => ?_)
  · rcases hc with hc | hc
    · rw [hc]
      exact hb
    · exact at_ne e hc exo_own
  · rw [upd_ne (at_ne e hc exo_own), upd_ne (ne_of_none hc hnd)]
    exact hc
  · rw [upd_ne (at_ne e hc exo_tup), upd_ne (ne_of_none hc hnd)]
    exact hc
end
/-- self.f = e -/
def tXst (K : PySem.W.Frag) (f : Str) (to te : TE) : TS := fun D σ H => te σ H fun y H1 => to σ H1 fun x H2 => ∃ a C : Addr, x = .ref a ∧ XC K C ∧ PySem.W.findIn K (.ref C) f = some none ∧ H2 a = some (exo a C none) ∧
  ∀ dx, H2 dx = none → dx ≠ a → D.nx σ (upd (upd H2 dx (exd dx [(f, y)])) a (exo a C (some dx)))
section
variable {X : Cx} {o e : Expr} {es : List Expr} {to te : TE} {ta tk : TA} {f : Str} {p p' p1 p2 pos : Pos}
theorem ps_xst (ho : PE X o to) (he : PE X e te) (hs : swapsWith e (some (.Attribute o f p')) pos.line X.env = pure false := by rfl) : PS X (.Assign [.Attribute o f p'] e pos) (tXst X.K f to te) := by
  refine ⟨fun pins s σ H D I h => plainObj_wpAny_Assign_Attribute (thn (he.run pins s σ H _ I h) fun v s1 ⟨y, H1, I1, r1, q1⟩ => thn (ho.run pins s1 σ H1 _ I1 q1) fun u s2 ⟨x, H2, I2, r2, a, C, ex, T, hno, ea, q⟩ => ?_) hs⟩
  subst ex
  cases (show u = Value.ref a from r2)
  exact x_set T I2 ea hno r1 fun dx s' n ne J => ⟨σ, _, J, q dx n ne⟩
/-- Base.m(e, ..), m a def of the class at C -/
theorem pe_xbase {C g : Addr} {mc : Value} {fd : FuncData} {ps : List Str} {sp : Sp} {k : Nat} {x m : Str} {pl : Sem Bool} (gC : X.mg x = some (.ref C)) (hg : Gl X x) (r : ClX.CRead X.K C mc) (hf : PySem.W.findCls X.K (.ref C) mc m = some (.val (.ref g)))
    (kp : PySem.W.keepIn X.K (.ref g) = true) (F : FnOk X.prog X.w X.K X.mg X.base CX0 k g fd ps sp) (hr : Room k X.A) (hb : Binds X.K fd ps []) (ha : PA X (e :: es) ta)
    (hc : eval (.Call (.Attribute (.Name x p1) m p2) (e :: es) [] pos) X.env = (do
      let ov ← eval (.Name x p1) X.env
      standAt p2.atName
      let (f, first) ← holding [ov] (getMethod ov m pl)
      callWith pos f first (backTo pos (starEach (e :: es) X.env)) (backToKw pos (keywordEach [] X.env))) := by rfl)
    (hdb : (x == ("__debug__" : Str)) = false := by decide) (he : starEach (e :: es) X.env = (false, eval e X.env) :: starEach es X.env := by rfl) (hpl : (backTo pos (starEach es X.env)).any (·.1) = false := by rfl) :
    PE X (.Call (.Attribute (.Name x p1) m p2) (e :: es) [] pos) (tCall sp [] E0 ta) := by
  refine ⟨fun pins s σ H Q I h => PySem.W.methodCall_KW (ld_glob I hg gC (PySem.W.method_cls I.kIn r.ga (ClX.getcval_ok (v := .ref g) I r ⟨hf, rfl⟩ fun s0 I0 => ?_)) hdb) hc⟩
  refine PySem.W.callWith_K (h₀ := X.base) I0.ok.mod.kin kp (thn (ha.run pos pins s0 σ H _ I0 h) fun us s1 ⟨vs, H1, I1, r1, q⟩ => ⟨I1.kIn, ?_⟩) he hpl
  exact run_fn F hr hb .nil pass0 I1 r1 q
/-- C(e, .., k = v, ..): a new exception without a dict, then __init__ -/
def tXmk (C : Addr) (n m : Nat) (sp : Sp) (gV : List V → List V → List V) (t tk : TA) : TE := fun σ H Q => t σ H fun vs H1 => tk σ H1 fun zs H2 => vs.length = n ∧ zs.length = m ∧
  ∀ a, H2 a = none → sp (gV (.ref a :: vs) zs) (upd H2 a (exo a C none)) (fun v H3 => v = .non ∧ Q (.ref a) H3) E0
/-- the class at C and its __init__ -/
structure XM (P : Program) (w : World) (K : PySem.W.Frag) (mg : Str → Option Value) (base : Heap) (k : Nat) (C : Addr) (ps : List Str) (sp : Sp) : Prop where
  xc : XC K C
  ex : ∃ (g : Addr) (fd : FuncData), PySem.W.findIn K (.ref C) "__init__" = some (some (.ref g)) ∧ PySem.W.isFn K (.ref g) = true ∧ FnOk P w K mg base CX0 k g fd ps sp ∧ Binds K fd ps [] ∧
    ∀ y z, ps = [y, z] → KBn K fd ps 1 [z] (fun us ws => us ++ ws) (fun vs zs => vs ++ zs)
theorem run_xmk {k n : Nat} {C g : Addr} {fd : FuncData} {ps ks : List Str} {sp : Sp} {gU : List Value → List Value → List Value} {gV : List V → List V → List V} {pins : List (Addr × Obj)} {σ : L2.St} {H : Hp} {s : Shared} {Q : VK} {us ws : List Value} {vs zs : List V}
    (T : XC X.K C) (iC : PySem.W.findIn X.K (.ref C) "__init__" = some (some (.ref g))) (tI : PySem.W.isFn X.K (.ref g) = true) (F : FnOk X.prog X.w X.K X.mg X.base CX0 k g fd ps sp) (hr : Room (k + 1) X.A) (hb : KBn X.K fd ps (n + 1) ks gU gV)
    (I : Inv X pins σ H s) (r : Vals vs us) (rz : Vals zs ws) (l1 : vs.length = n) (l2 : zs.length = ks.length) (ln : n ≤ 1000)
    (h : ∀ a, H a = none → sp (gV (.ref a :: vs) zs) (upd H a (exo a C none)) (fun v H2 => v = .non ∧ Q (.ref a) H2) E0) :
    wpAny (model X.prog X.w) X.A (call (.ref C) us (ks.zip ws)) (EP X pins σ Q) X.xe s := by
  obtain ⟨B, nid, iid, bmB, FB, SF, q, ov⟩ := T.base
  obtain ⟨nm, N', qn, bs, bm, hdct, sn, sub, ab, col, dd, k0, k1, k2, k3, k5, hC, hT⟩ := PySem.W.excInit_of I.kIn q
  have bf : ∀ self, PySem.W.Looks (model X.prog X.w) s.heap (bindSpecial (.ref g) self) (.ref g, [self]) := fun self => PySem.W.bind_fn I.kIn self (beq_iff_eq.mp tI)
  have li := PySem.W.looks_findIn (M := model X.prog X.w) I.kIn iC
  obtain ⟨hp, gs, dr, tk, os⟩ := s
  have hq := h (hp.objs.size + 1) (I.hok.fresh (Nat.le_succ _))
  have kk : ∀ b o, hp.get? b = some o → (PySem.RLX.laid2 C us hp).get? b = some o := fun b o e => Heap.get?_push_of_some _ (Heap.get?_push_of_some _ e)
  have hget : (PySem.RLX.laid2 C us hp).get? (hp.objs.size + 1) = some (PySem.HandSPX.excO C hp.objs.size) := by heap_get
  have I2 : Inv X pins σ (upd H (hp.objs.size + 1) (exo (hp.objs.size + 1) C none)) ⟨PySem.RLX.laid2 C us hp, gs, dr, tk, os⟩ :=
    I.laid (t' := tk) (a := hp.objs.size + 1) (o := exo (hp.objs.size + 1) C none) (h' := PySem.RLX.laid2 C us hp) kk (Nat.le_succ _) (exo_ok hget)
  have r1 : Vals (V.ref (hp.objs.size + 1) :: vs) (Value.ref (hp.objs.size + 1) :: us) := .cons rfl r
  have n1 : (Value.ref (hp.objs.size + 1) :: us).length = n + 1 := by rw [List.length_cons, ← r.length, l1]
  have hz : us.length ≤ sizeLine := by
    rw [← r.length, sizeLine_eq]
    omega
  refine wpAny_call (PySem.RLX.run_make FB hT hC li bf hz (codeAny_mono (F.run _ X.stack _ _ ⟨Value.ref (hp.objs.size + 1) :: us, ks.zip ws⟩ (gU (Value.ref (hp.objs.size + 1) :: us) ws) _ _ E0 (hr.make C us (ks.zip ws))
    (I2.env0.make C us (ks.zip ws)) (hb.to _ (Value.ref (hp.objs.size + 1) :: us) ws I2.kIn n1 (rz.length.symm.trans l2)) (hb.rel r1 rz) hq) fun r s' z => ?_))
  cases r with
  | error e => exact z.elim
  | ok fl =>
    cases fl with
    | ret u =>
      obtain ⟨v, H', I3, rv, ev, q3⟩ := I2.after z
      subst ev
      exact ⟨rv, ⟨V.ref (hp.objs.size + 1), H', I3, rfl, q3⟩⟩
    | next => exact z.elim
    | brk => exact z.elim
    | cont => exact z.elim
theorem kbn_of {K : PySem.W.Frag} {fd : FuncData} {ps : List Str} {n : Nat} (hb : Binds K fd ps []) (hl : ps.length = n) : KBn K fd ps n [] (fun us _ => us) (fun vs _ => vs) :=
  ⟨fun s us ws hK l1 l2 => by
    have e := hb s us hK (by rw [List.append_nil, l1, hl])
    rw [List.append_nil] at e
    exact e, fun r _ => r⟩
/-- C(k = v) -/
theorem pe_xmkK {C : Addr} {k : Nat} {x y z : Str} {sp : Sp} {kws : List Keyword} (M : XM X.prog X.w X.K X.mg X.base k C [y, z] sp) (hr : Room (k + 1) X.A) (hg : Gl X x) (hm : X.mg x = some (.ref C)) (hkw : PK X kws tk)
    (hall : (backToKw pos (keywordEach kws X.env)).all (·.1.isSome) = true := by rfl) (hks : (backToKw pos (keywordEach kws X.env)).filterMap (·.1) = [z] := by rfl) (hdb : (x == ("__debug__" : Str)) = false := by decide)
    (hpl : ((backTo pos (starEach [] X.env)).any (·.1) || (backToKw pos (keywordEach kws X.env)).any (·.1.isNone)) = false := by rfl) :
    PE X (.Call (.Name x p) [] kws pos) (tXmk C 0 1 sp (fun vs zs => vs ++ zs) tNil tk) := by
  obtain ⟨g, fd, iC, tI, F, _, hK⟩ := M.ex
  refine ⟨fun pins s σ H Q I h => wpAny_Call_Name_kw (ld_glob I hg hm (PySem.W.callWith_KW0 (h₀ := X.base) I.ok.mod.kin M.xc.kp hall ?_ hpl) hdb)⟩
  refine thn (hkw.run pos pins s σ H _ I h) fun ws s2 ⟨zs, H2, I2, rz, l1, l2, q2⟩ => ⟨I2.kIn, ?_⟩
  rw [hks]
  exact run_xmk (us := []) (vs := []) M.xc iC tI F hr (hK y z rfl) I2 .nil rz rfl l2 (by decide) q2
/-- C(e, ..) -/
theorem pe_xmk {C : Addr} {k : Nat} {x : Str} {sp : Sp} {ps : List Str} (M : XM X.prog X.w X.K X.mg X.base k C ps sp) (hr : Room (k + 1) X.A) (hg : Gl X x) (hm : X.mg x = some (.ref C)) (ha : PA X (e :: es) ta) (hn : ps.length = (e :: es).length + 1) (hn2 : (e :: es).length ≤ 1000)
    (hdb : (x == ("__debug__" : Str)) = false := by decide) (he : starEach (e :: es) X.env = (false, eval e X.env) :: starEach es X.env := by rfl) (hpl : (backTo pos (starEach es X.env)).any (·.1) = false := by rfl) :
    PE X (.Call (.Name x p) (e :: es) [] pos) (tXmk C (e :: es).length 0 sp (fun vs _ => vs) ta tNil) := by
  obtain ⟨g, fd, iC, tI, F, hb, _⟩ := M.ex
  refine ⟨fun pins s σ H Q I h => wpAny_Call_Name_kw (ld_glob I hg hm (PySem.W.callWith_K (h₀ := X.base) I.ok.mod.kin M.xc.kp (thn (ha.run pos pins s σ H _ I h) fun us s1 ⟨vs, H1, I1, r, l1, _, q⟩ => ⟨I1.kIn, ?_⟩) he hpl) hdb)⟩
  exact run_xmk (ks := []) (ws := []) (zs := []) M.xc iC tI F hr (kbn_of hb hn) I1 r .nil l1 rfl hn2 q
/-- C() -/
theorem pe_xmk0 {C : Addr} {k : Nat} {x : Str} {sp : Sp} {y : Str} (M : XM X.prog X.w X.K X.mg X.base k C [y] sp) (hr : Room (k + 1) X.A) (hg : Gl X x) (hm : X.mg x = some (.ref C))
    (hdb : (x == ("__debug__" : Str)) = false := by decide) :
    PE X (.Call (.Name x p) [] [] pos) (tXmk C 0 0 sp (fun vs _ => vs) tNil tNil) := by
  obtain ⟨g, fd, iC, tI, F, hb, _⟩ := M.ex
  refine ⟨fun pins s σ H Q I h => wpAny_Call_Name_kw (ld_glob I hg hm (PySem.W.callWith_K0 I.kIn M.xc.kp ?_) hdb)⟩
  obtain ⟨_, _, q⟩ := h
  exact run_xmk (us := []) (vs := []) (ks := []) (ws := []) (zs := []) M.xc iC tI F hr (kbn_of hb rfl) I .nil .nil rfl rfl (by decide) q
/-! ### asked and read -/
/-- an exception of the class at C -/
def Exo (H : Hp) (a C : Addr) : Prop := H a = some (exo a C none) ∨ ∃ (dx : Addr) (fs : List (Str × V)), H a = some (exo a C (some dx)) ∧ H dx = some (exd dx fs)
def rIsX (K : PySem.W.Frag) : List V → Hp → VK → Prop := fun xs H Q => ∃ (a C : Addr) (c : V) (u : Value) (b : Bool), xs = [.ref a, c] ∧ ClsV c u ∧ XC K C ∧ Exo H a C ∧ PySem.W.kitOne K (.ref C) u = some b ∧ Q (.bl b) H
theorem call_isX (Z : XK0 X.K) : CallR X (.builtin "isinstance") (rIsX X.K) := by
  intro pins s σ H xs us Q I r h
  obtain ⟨a, C, c, u, b, rfl, kc, T, hx, e, q⟩ := h
  obtain ⟨u1, u2, rfl, r1, r2⟩ := vals2 r
  have e2 := kc.eq r2
  subst e2
  cases (show u1 = Value.ref a from r1)
  have key : ∃ ox od, PySem.W.InstAt s.heap a ox C od := by
    rcases hx with hx | ⟨dx, fs, hx, hd⟩
    · obtain ⟨t1, ho⟩ := exo_at I.hok hx
      exact ⟨_, none, ho, rfl, rfl, trivial⟩
    · obtain ⟨t1, ho⟩ := exo_at I.hok hx
      obtain ⟨mA, ⟨od, es, ep, hod, _⟩, _⟩ := exd_at I.hok hd
      exact ⟨_, some od, ho, rfl, rfl, hod⟩
  obtain ⟨ox, od, J⟩ := key
  exact PySem.W.kia_one (PySem.W.kitx_exc (ox := ox) (od := od) T.cl T.ga T.gg T.sub T.ca Z.cn Z.ct T.mo) I.kIn J e (fun z => nomatch z) fun tk => ⟨.bl b, H, I.tok tk, rfl, q⟩
/-- e.f, e an exception with a dict -/
def tXfd (K : PySem.W.Frag) (f : Str) (te : TE) : TE := fun σ H Q => te σ H fun x H1 => ∃ (a C dx : Addr) (fs : List (Str × V)) (v : V), x = .ref a ∧ XC K C ∧ PySem.W.findIn K (.ref C) f = some none ∧ H1 a = some (exo a C (some dx)) ∧ H1 dx = some (exd dx fs) ∧ fs.lookup f = some v ∧ Q v H1
theorem pe_xfd {n : Str} (he : PE X e te) (hb : attributeBase e n X.env (eval e X.env) = eval e X.env := by rfl) : PE X (.Attribute e n pos) (tXfd X.K n te) := by
  refine ⟨fun pins s σ H Q I h => attr_of hb (thn (he.run pins s σ H _ I h) fun u s1 ⟨x, H1, I1, rx, a, C, dx, fs, v, ex, T, hno, ea, ed, l, q⟩ => ?_)⟩
  subst ex
  cases (show u = Value.ref a from rx)
  obtain ⟨t1, ho⟩ := exo_at I1.hok ea
  obtain ⟨mA, hns, hr⟩ := exd_at I1.hok ed
  obtain ⟨od, hod, hl⟩ := lookIn_ns hns
  obtain ⟨u, hu, ru⟩ := RelO.some_of (v := v) (o := mA n) (by rw [← l]; exact hr n)
  have J : PySem.W.InstAt s1.heap a _ C (some od) := ⟨ho, rfl, rfl, hod⟩
  exact HandSPX.exc_get I1.kIn J T.ga T.gg T.sub (PySem.W.findObj_own T.hd hno rfl (by rw [hl, hu])) (handed_of ru) ⟨v, H1, I1.tok _, ru, q⟩
end
end RL

set_option maxHeartbeats 1000000
/-! repr of plain things: None, bools, ints, texts, lists, tuples, flat dicts. -/
namespace RL
open PySem L2 PySem.Spec PyProof.Rows
def keyD : Key → PyData
  | .inl i => .int i
  | .inr x => .str x
/-- v is, by the heap, the data d: as Dp, or a dict of ints -/
inductive Dq (K : PySem.W.Frag) (H : Hp) : V → PyData → Prop
  | dp {v : V} {d : PyData} : Dp K H v d → d.hasDict = false → Dq K H v d
  | dk {a : Addr} {kvs : List (Key × Int)} : H a = some (.dK (kvs.map fun p => (p.1, V.int p.2))) → Dq K H (.ref a) (.dict (kvs.map fun p => (keyD p.1, .int p.2)))
theorem dk_reads {P : Program} {w : World} {h : Heap} : ∀ {kvs : List (Key × Int)} {vs : List (Key × Value)} {es : List DictEntry}, KV (kvs.map fun p => (p.1, V.int p.2)) vs → Pairs (mixKind P w) es vs →
    ReadsAll h (es.map (·.key)) ((kvs.map fun p => (keyD p.1, PyData.int p.2)).map (·.1)) [] ∧ ReadsAll h (es.map (·.val)) ((kvs.map fun p => (keyD p.1, PyData.int p.2)).map (·.2)) []
  | [], _, _, r, q => by
    cases r
    cases q
    exact ⟨.nil, .nil⟩
  | (k, i) :: kvs, _, _, r, q => by
    cases r with
    | cons r1 r2 =>
      cases q with
      | cons q1 q2 q3 =>
        obtain ⟨e1, e2⟩ := r1
        obtain ⟨h1, h2⟩ := dk_reads (P := P) (w := w) (h := h) r2 q3
        refine ⟨?_, ?_⟩
        · have q1' := q1
          rw [mixKind_is, ← e1] at q1'
          rcases keyIs_shape q1' with ⟨j, t, ek, ev⟩ | ⟨x, t, ek, ev⟩
          · have ek : k = _ := ek
            subst ek
            rw [List.map_cons, ev]
            exact ReadsAll.cons (Reads.int _ _) h1
          · have ek : k = _ := ek
            subst ek
            rw [List.map_cons, ev]
            exact ReadsAll.cons (Reads.str _ _) h1
        · obtain ⟨t, e2⟩ := e2
          rw [List.map_cons, q2, e2]
          exact ReadsAll.cons (Reads.int _ _) h2
section
variable {X : Cx}
def rRp (K : PySem.W.Frag) : List V → Hp → VK → Prop := fun vs H Q => ∃ (v : V) (d : PyData), vs = [v] ∧ Dq K H v d ∧ d.showable = true ∧ d.depth ≤ 40 ∧ d.shown.length ≤ sizeLine ∧ Q (.str d.shown) H
theorem cr_rp (hG : X.A.guards = some []) (hu : X.A.units + 64 < cLine) : CallR X (.builtin "repr") (rRp X.K) := by
  intro pins s σ H vs us Q I r h
  obtain ⟨v, d, rfl, hd, h1, h3, h4, q⟩ := h
  obtain ⟨u, rfl, ru⟩ : ∃ u, us = [u] ∧ RelV v u := by
    cases r with
    | cons r1 r2 =>
      cases r2
      exact ⟨_, rfl, r1⟩
  cases hd with
  | dp hp h2 =>
    cases hp with
    | non =>
      cases (show u = Value.none from ru)
      exact PySem.P.repr_of_none ⟨.str "None", H, I.tok _, ⟨_, rfl⟩, q⟩
    | bl b =>
      cases (show u = Value.bool b from ru)
      exact PySem.P.repr_of_bool ⟨.str (PyData.bool b).shown, H, I.tok _, ⟨_, rfl⟩, q⟩
    | int i =>
      obtain ⟨t, rfl⟩ := ru
      exact PySem.P.repr_of_int (of_decide_eq_true h1) ⟨.str (PyData.int i).shown, H, I.tok _, ⟨_, rfl⟩, q⟩
    | str x =>
      obtain ⟨t, rfl⟩ := ru
      exact PySem.P.repr_of_str ⟨.str (PyData.str x).shown, H, I.tok _, ⟨_, rfl⟩, q⟩ h4
    | @lst a xs ds hs ha =>
      exact cr_repr hG hu pins s σ H _ _ Q I (.cons ru .nil) ⟨a, _, rfl, .lst hs ha, h1, h2, h3, h4, q⟩
    | @tup a xs ds hs ha =>
      exact cr_repr hG hu pins s σ H _ _ Q I (.cons ru .nil) ⟨a, _, rfl, .tup hs ha, h1, h2, h3, h4, q⟩
  | @dk a kvs ha =>
    cases (show u = Value.ref a from ru)
    obtain ⟨_, hsys, vs, kv, o, es, ep, ho, hc, hdat, _, hp, _⟩ := (show ObjOk X.prog X.w H s.heap a (.dK _) from I.hok a _ ha)
    obtain ⟨g1, g2⟩ := dk_reads (h := s.heap) kv hp
    refine repr_of_reads' (h₀ := s.heap) (Reads.dict ho hc.1 hdat g1 g2) h1 (fun _ hm => ?_) hG (by omega) (fun _ _ z => z) (fun h' u tk hk => ⟨.str _, H, I.kept hk, ⟨_, rfl⟩, q⟩) h4
    have hm' : sysModules ∈ [a] := hm
    rw [List.mem_singleton] at hm'
    rw [← hm'] at hsys
    exact absurd hsys (by decide)
end
theorem sqT_same {K : PySem.W.Frag} {H H' : Hp} {a : Addr} {xs : List V} (e : ∀ b o, H b = some o → H' b = some o) (h : SqT K H a xs) : SqT K H' a xs := by
  rcases h with (h | ⟨o, h⟩) | h
  · exact .inl (.inl (e _ _ h))
  · exact .inl (.inr ⟨o, e _ _ h⟩)
  · exact .inr h
mutual
theorem dp_same {K : PySem.W.Frag} {H H' : Hp} (s : ∀ b o, H b = some o → H' b = some o) : ∀ (d : PyData) (v : V), Dp K H v d → Dp K H' v d
  | .none, _, h => by
    cases h
    exact .non
  | .bool b, _, h => by
    cases h
    exact .bl b
  | .int i, _, h => by
    cases h
    exact .int i
  | .str x, _, h => by
    cases h
    exact .str x
  | .list ds, _, h => by
    cases h with
    | lst a b => exact .lst (Same.seq s a) (dpAll_same s ds _ b)
  | .tuple ds, _, h => by
    cases h with
    | tup a b => exact .tup (sqT_same s a) (dpAll_same s ds _ b)
  | .dict _, _, h => by cases h
theorem dpAll_same {K : PySem.W.Frag} {H H' : Hp} (s : ∀ b o, H b = some o → H' b = some o) : ∀ (ds : List PyData) (vs : List V), DpAll K H vs ds → DpAll K H' vs ds
  | [], _, h => by
    cases h
    exact .nil
  | d :: ds, _, h => by
    cases h with
    | cons a b => exact .cons (dp_same s d _ a) (dpAll_same s ds _ b)
end
theorem Dq.same {K : PySem.W.Frag} {H H' : Hp} {v : V} {d : PyData} (h : Dq K H v d) (s : Same H H') : Dq K H' v d := by
  cases h with
  | dp a b => exact .dp (dp_same s _ _ a) b
  | dk a => exact .dk (s _ _ a)
end RL

set_option maxHeartbeats 1000000
/-! Pairs of exceptions, made by position and by name. -/
namespace RL
open PySem L2
/-- __init__(self, f): the base's __init__, then self.f = f -/
def spI (K : PySem.W.Frag) (f : Str) : Sp := fun vs H Q _ => ∃ (a C : Addr) (y : V), vs = [.ref a, y] ∧ XC K C ∧ PySem.W.findIn K (.ref C) f = some none ∧ H a = some (exo a C none) ∧
  ∀ dx, H dx = none → dx ≠ a → Q .non (upd (upd H dx (exd dx [(f, y)])) a (exo a C (some dx)))
def spN : Sp := fun vs H Q _ => ∃ v : V, vs = [v] ∧ Q .non H
/-- at a: an exception of the class at C whose f is y -/
def Xv (H : Hp) (a C : Addr) (f : Str) (y : V) : Prop := ∃ dx : Addr, H a = some (exo a C (some dx)) ∧ H dx = some (exd dx [(f, y)])
theorem Xv.same {H H' : Hp} {a C : Addr} {f : Str} {y : V} (h : Xv H a C f y) (s : Same H H') : Xv H' a C f y := by
  obtain ⟨dx, h1, h2⟩ := h
  exact ⟨dx, s _ _ h1, s _ _ h2⟩
/-- v: a list of two such exceptions -/
def Pr (H : Hp) (v : V) (C : Addr) (f : Str) (y : V) : Prop := ∃ l a b : Addr, v = .ref l ∧ H l = some (.lst [.ref a, .ref b]) ∧ Xv H a C f y ∧ Xv H b C f y
theorem Pr.same {H H' : Hp} {v : V} {C : Addr} {f : Str} {y : V} (h : Pr H v C f y) (s : Same H H') : Pr H' v C f y := by
  obtain ⟨l, a, b, e, h1, h2, h3⟩ := h
  exact ⟨l, a, b, e, s _ _ h1, h2.same s, h3.same s⟩
theorem new_upd {H : Hp} {p : Addr} {o : HO} (h : H p = none) : Same H (upd H p o) := fun b x e => by
  rw [upd_ne (ne_of_none e h)]
  exact e
theorem xv_new {H : Hp} {a dx C : Addr} {f : Str} {y : V} (na : H a = none) (nd : H dx = none) (ne : dx ≠ a) : Same H (upd (upd (upd H a (exo a C none)) dx (exd dx [(f, y)])) a (exo a C (some dx))) ∧ Xv (upd (upd (upd H a (exo a C none)) dx (exd dx [(f, y)])) a (exo a C (some dx))) a C f y := by
  refine ⟨fun b o e => ?_, dx, upd_same, ?_⟩
  · rw [upd_ne (ne_of_none e na), upd_ne (ne_of_none e nd), upd_ne (ne_of_none e na)]
    exact e
  · rw [upd_ne ne, upd_same]
def tPair (C : Addr) (f : Str) (i : Nat) : TE := fun σ H Q => ∃ y, σ[i]? = some (some y) ∧ ∀ v H', Same H H' → Pr H' v C f y → (∀ l, v = .ref l → H l = none) → Q v H'
section
variable {X : Cx} {e1 e2 : Expr} {x : Str} {p1 p2 p3 p4 p5 pos : Pos} {nm : Option Str} {kpos : Pos} {i : Nat}
theorem xmk_one {K : PySem.W.Frag} {a C : Addr} {f : Str} {y : V} {H : Hp} {R : Hp → Prop} (T : XC K C) (hno : PySem.W.findIn K (.ref C) f = some none) (na : H a = none) (h : ∀ H', Same H H' → Xv H' a C f y → R H') :
    spI K f [.ref a, y] (upd H a (exo a C none)) (fun v H3 => v = .non ∧ R H3) E0 := by
  refine ⟨a, C, y, rfl, T, hno, upd_same, fun dx nd ne => ⟨rfl, ?_⟩⟩
  rw [upd_ne ne] at nd
  obtain ⟨s1, x1⟩ := xv_new (C := C) (f := f) (y := y) na nd ne
  exact h _ s1 x1
theorem pe_pair {C : Addr} {k : Nat} {f : Str} (M : XM X.prog X.w X.K X.mg X.base k C ["self", f] (spI X.K f)) (hno : PySem.W.findIn X.K (.ref C) f = some none) (hr : Room (k + 1) X.A) (hg : Gl X x) (hm : X.mg x = some (.ref C))
    (h1 : PE X e1 (tVar i)) (h2 : PE X e2 (tVar i)) (hs : starEach [.Call (.Name x p1) [e1] [] p2, .Call (.Name x p3) [] [⟨nm, e2, kpos⟩] p4] X.env = (false, eval (.Call (.Name x p1) [e1] [] p2) X.env) :: starEach [.Call (.Name x p3) [] [⟨nm, e2, kpos⟩] p4] X.env := by rfl)
    (hs2 : starEach [.Call (.Name x p3) [] [⟨nm, e2, kpos⟩] p4] X.env = (false, eval (.Call (.Name x p3) [] [⟨nm, e2, kpos⟩] p4) X.env) :: starEach [] X.env := by rfl) (hs1 : starEach [e1] X.env = (false, eval e1 X.env) :: starEach [] X.env := by rfl) (hdb : (x == ("__debug__" : Str)) = false := by decide)
    (hks : (backToKw p4 (keywordEach [⟨nm, e2, kpos⟩] X.env)).filterMap (·.1) = [f] := by rfl) (hall : (backToKw p4 (keywordEach [⟨nm, e2, kpos⟩] X.env)).all (·.1.isSome) = true := by rfl) (hpl : ((backTo p4 (starEach [] X.env)).any (·.1) || (backToKw p4 (keywordEach [⟨nm, e2, kpos⟩] X.env)).any (·.1.isNone)) = false := by rfl) :
    PE X (.List [.Call (.Name x p1) [e1] [] p2, .Call (.Name x p3) [] [⟨nm, e2, kpos⟩] p4] pos) (tPair C f i) := by
  have hp := pe_lst (pos := pos) (pa_cons (pe_xmk (p := p1) (pos := p2) M hr hg hm (pa_cons h1 pa_nil hs1) rfl (Nat.succ_le_of_lt (by decide : 0 < 1000)) hdb hs1 rfl) (pa_cons (pe_xmkK (p := p3) (pos := p4) M hr hg hm (pk_cons (nm := nm) (kpos := kpos) h2 pk_nil) hall hks hdb hpl) pa_nil hs2) hs)
  refine ⟨fun pins s σ H Q I h => hp.run pins s σ H Q I ?_⟩
  obtain ⟨y, ey, q⟩ := h
  refine ⟨y, ey, rfl, rfl, fun a na => xmk_one M.xc hno na fun H1 s1 x1 => ?_⟩
  refine ⟨y, ey, rfl, rfl, fun b nb => xmk_one M.xc hno nb fun H2 s2 x2 => ?_⟩
  refine ⟨(by show 2 ≤ sizeLine; decide), fun l nl => ?_⟩
  have s3 := new_upd (o := .lst [.ref a, .ref b]) nl
  exact q _ _ ((s1.trans s2).trans s3) ⟨l, a, b, rfl, upd_same, (x1.same s2).same s3, x2.same s3⟩ (fun l' e => by cases e; exact (s1.trans s2).free nl)
/-- C() -/
def tMk0 (C : Addr) : TE := fun _ H Q => ∀ a, H a = none → Q (.ref a) (upd H a (exo a C none))
theorem pe_mk0 {C : Addr} {k : Nat} {y : Str} (M : XM X.prog X.w X.K X.mg X.base k C [y] spN) (hr : Room (k + 1) X.A) (hg : Gl X x) (hm : X.mg x = some (.ref C)) (hdb : (x == ("__debug__" : Str)) = false := by decide) : PE X (.Call (.Name x p1) [] [] p2) (tMk0 C) := by
  have hp := pe_xmk0 (p := p1) (pos := p2) M hr hg hm hdb
  exact ⟨fun pins s σ H Q I h => hp.run pins s σ H Q I ⟨rfl, rfl, fun a na => ⟨.ref a, rfl, rfl, h a na⟩⟩⟩
end
section
variable {X : Cx} {K : PySem.W.Frag} {e : Expr} {te : TE} {pos : Pos} {n : Str}
theorem pe_xfdK (he : PE X e te) (hK : X.K = K := by rfl) (hb : attributeBase e n X.env (eval e X.env) = eval e X.env := by rfl) : PE X (.Attribute e n pos) (tXfd K n te) := by
  subst hK
  exact pe_xfd he hb
theorem cr_rpK (hG : X.A.guards = some []) (hu : X.A.units + 64 < cLine) (hK : X.K = K := by rfl) : CallR X (.builtin "repr") (rRp K) := by
  subst hK
  exact cr_rp hG hu
end
/-- for i, x in enumerate(l) -/
theorem for_enum {K : PySem.W.Frag} {a : Addr} {xs : List V} {g : TG} {tb : TS} {D : Ends} {σ : L2.St} {H : Hp} (Pv : Nat → L2.St → Hp → Prop) (h0 : Pv 0 σ H) (hl : ∀ i σ H, i ≤ xs.length → Pv i σ H → SqL K H a xs)
    (hs : ∀ i x σ H T, xs[i]? = some x → Pv i σ H → H T = none → g (.ref T) σ (upd H T (.tup [.int (i : Nat), x])) fun σ2 H2 => tb { D with nx := Pv (i + 1), ct := Pv (i + 1), bk := D.nx } σ2 H2) (hd : ∀ σ H, Pv xs.length σ H → D.nx σ H) :
    ∃ W : Nat → Nat → L2.St → Hp → Prop, (∃ m, W 0 m σ H) ∧ ∀ i m σ H, W i m σ H →
      ((Ite K a).stop i H ∧ D.nx σ H) ∨ ((Ite K a).go i H ∧ ∃ N : L2.St → Hp → Prop, (∀ σ' H', N σ' H' → ∃ m', m' < m ∧ W (i + 1) m' σ' H') ∧ ∀ x H', (Ite K a).yld i H x H' → g x σ H' fun σ2 H2 => tb { D with nx := N, ct := N, bk := D.nx } σ2 H2) := by
  refine ⟨fun i m σ H => m = xs.length - i ∧ i ≤ xs.length ∧ Pv i σ H, ⟨xs.length, by simp, Nat.zero_le _, h0⟩, ?_⟩
  rintro i m σ H ⟨rfl, hi, p⟩
  have q := hl i σ H hi p
  by_cases hlt : i < xs.length
  · refine .inr ⟨⟨xs, xs[i], q, by simp [hlt]⟩, Pv (i + 1), fun σ' H' p' => ⟨xs.length - (i + 1), by omega, rfl, hlt, p'⟩, fun x H' y => ?_⟩
    obtain ⟨T, z, rfl, nT, rfl, ez⟩ := y
    exact hs i z σ H T (ez xs q) p nT
  · have e : i = xs.length := by omega
    rw [e] at p ⊢
    exact .inl ⟨⟨xs, q, Nat.le_refl _⟩, hd σ H p⟩
end RL

set_option maxHeartbeats 2000000
/-! try: .. except (A, B, C) as e: .. where the suite calls defs that ask e and make lists. -/
namespace RL
open PySem L2 PySem.Spec PyProof.Rows
/-! ### the clause -/
theorem fly_keeps {B : Heap} {l : List Env} {a : Addr} {Z : Obj → Prop} {h h' : Heap} (fl : HandSPX.FlyingZ B l a Z h) (k : ∀ b o, h.get? b = some o → h'.get? b = some o) : HandSPX.FlyingZ B l a Z h' := by
  obtain ⟨g1, g2, g3, oe, vs, T, oT, ts, he, hz, hd, h1, hnT, hTe, hT, hdT, h3⟩ := fl
  exact ⟨fun b o e => k b o (g1 b o e), g2, g3.of_keeps fun b o e _ => ⟨o, k b o e, rfl⟩, oe, vs, T, oT, ts, k _ _ he, hz, hd, h1, hnT, hTe, k _ _ hT, hdT, h3⟩
/-- what the clause wishes of an exception of the body; it is always taken -/
def wAs3 (K : PySem.W.Frag) (cs : List Value) (i : Nat) (ts : Addr → Value → Option Addr → TS) (D : Ends) : WX := fun cls d σ H => PySem.W.exmAny K cls cs = some true ∧
  ∀ a, H a = none → ts a cls d { nx := fun σ' H' => D.nx (σ'.set i none) H', rt := D.rt, bk := fun σ' H' => D.bk (σ'.set i none) H', ct := fun σ' H' => D.ct (σ'.set i none) H' } (σ.set i (some (.ref a))) H
section
variable {X : Cx} {x1 x2 x3 n : Str} {c1 c2 c3 : Value} {i kk : Nat} {body suite : List Stmt} {b₀ : Stmt} {p1 p2 p3 tpos pos pos' : Pos} {tb : WX → TS} {ts : Addr → Value → Option Addr → TS}
theorem ps_try_as3 (hs : X.stack = X.env :: X.outer) (hf : X.env.frame = some X.env.locals) (hN : X.N.Nodup) (hi : X.N[i]? = some n) (hln : X.env.kindOf n = some .local) (n1 : Names X x1 c1) (n2 : Names X x2 c2) (n3 : Names X x3 c3)
    (hb : ∀ (W : WX) (pn : List (Addr × Obj)) (xe : Value → Shared → Prop), L2N.Takes (X.tr pn xe) W → PassesOwn (model X.prog X.w) X.A X.env xe → PSs (X.tr pn xe) body (tb W))
    (hsu : ∀ (a : Addr) (oe : Obj) (cls : Value) (d : Option Addr) (pn : List (Addr × Obj)), L2N.Zn cls d oe → (∃ vs, oe.data = .fields vs) → PSs (X.suite a ((a, oe) :: pn)) (b₀ :: suite) (ts a cls d)) :
    PS X (.Try body [.ExceptHandler (some (.Tuple [.Name x1 p1, .Name x2 p2, .Name x3 p3] kk tpos)) (some n) (b₀ :: suite) pos'] [] [] pos) (fun D σ H => tb (wAs3 X.K [c1, c2, c3] i ts D) D σ H) := by
  refine ⟨fun pins s σ H D I h => ?_⟩
  have ok := I.ok
  have hfr : X.A.frames = some (X.env :: X.outer) := by rw [ok.frames, hs]
  refine wpAny_Try_except (wpAny_mono ((hb (wAs3 X.K [c1, c2, c3] i ts D) (X.pn ++ pins) (fun e s₁ => wpAny (model X.prog X.w) X.A (noteFrame e X.env) (fun _ s₂ => wpAny (model X.prog X.w) X.A (setFlight e none) (fun _ s₃ =>
    wpAny (model X.prog X.w) X.A (handleBy e X.env [.ExceptHandler (some (.Tuple [.Name x1 p1, .Name x2 p2, .Name x3 p3] kk tpos)) (some n) (b₀ :: suite) pos']) (SP X pins D) X.xe s₃) X.xe s₂) X.xe s₁) (fun u s' xx => ?_) PassesOwn.looking).run [] s σ H D (I.toTry _) h) (fun f s1 hsp => ?_) (fun e s1 he => he))
  · obtain ⟨a, B, sI, pins', σ', H', cls, d, rfl, J', nb, up, sky, na, os, ag, hb1, hyes⟩ := xx
    have J : Inv X pins σ' H' sI := J'.ofTry ok
    rw [show (X.tr (X.pn ++ pins) _).stack = X.env :: X.outer from hs] at sky
    show wpAny (model X.prog X.w) X.A (noteFrame (.ref a) X.env) _ _ _
    refine L2N.Sky.land L2N.Zn.steady hfr hf sky fun h3 fl3 up3 => ?_
    have J3 : Inv X pins σ' H' { s' with heap := h3 } := J.landed nb fl3.1 (up.trans up3) os ag
    obtain ⟨oe3, vs3, he3, hz3, hd3⟩ := fl3.there
    have nfr : a ∉ frs (X.env :: X.outer) := fun hm => by
      obtain ⟨_, o', e', hnf⟩ := fl3.2.2.1.mem hm
      rw [he3] at e'
      cases e'
      exact hnf _ hd3
    have nL : a ≠ X.env.locals := fun z => nfr (List.mem_filterMap.mpr ⟨X.env, List.mem_cons_self, by rw [hf, z]⟩)
    have nF : a ∉ X.fs := fun hm => by
      obtain ⟨e, he, q⟩ := List.mem_filterMap.mp hm
      exact nfr (List.mem_filterMap.mpr ⟨e, List.mem_cons_of_mem _ he, q⟩)
    have S3 := J3.suite he3 hd3 na nL nF
    have look : ∀ {y : Str} {c : Value} {py : Pos} {Q : Value → Shared → Prop} {E : Value → Shared → Prop}, Names X y c → Q c { s' with heap := h3 } → wpAny (model X.prog X.w) (X.A.mark (some (.ref a))) (eval (.Name y py) X.env) Q E { s' with heap := h3 } := fun {y c py Q E} hc q => by
      obtain ⟨hg, hdbg, hm | ⟨hm, hv, hnn⟩⟩ := hc
      · exact ld_glob (X := X.suite a ((a, oe3) :: (X.pn ++ pins))) S3 hg hm q hdbg
      · exact ld_blt (X := X.suite a ((a, oe3) :: (X.pn ++ pins))) S3 hg hm hv q hnn hdbg
    refine wpAny_handleBy_cons (codeAny_handlers_test ?_) (by intro q; cases q)
    refine wpAny_Tuple (wpAny_items_cons (look n1 (wpAny_items_cons (look n2 (wpAny_items_cons (look n3 (wpAny_items_nil ⟨by size_fits, ?_⟩)))))))
    have kp : ∀ q o, h3.get? q = some o → (h3.push { cls := .type "tuple", data := .seq [c1, c2, c3].toArray }).get? q = some o := fun _ _ z => Heap.get?_push_of_some _ z
    have LT : PySem.W.Looks (model X.prog X.w) h3 (typeOf (.ref a)) cls := fun A Q E s k q => wpAny_typeOf_ref (k _ _ he3) (by rw [hz3.1]; exact q)
    refine (PySem.W.exm_tup3 (M := model X.prog X.w) (J3.kIn.keeps kp) (LT.keeps kp) (Heap.get?_push_size h3 rfl) hb1).here ?_
    refine codeAny_handlers_suite_as ?_
    refine HandSPX.lands_againZ (fly_keeps fl3 kp) fun h4 fl4 up4 => ?_
    have J4 : Inv X pins σ' H' { s' with heap := h4 } := J.landed nb fl4.1 ((up.trans up3).trans ((Heap.UpToSlots.of_keeps kp).trans up4)) os ag
    obtain ⟨oe4, vs4, he4, hz4, hd4⟩ := fl4.there
    have S4 := J4.suite he4 hd4 na nL nF
    refine store_ok (X := X.suite a ((a, oe4) :: (X.pn ++ pins))) (v := .ref a) S4 hN hi (.inl hln) rfl (fun s5 S5 => ?_) (.inr hln)
    refine wpAny_mono ((hsu a oe4 cls d (X.pn ++ pins) hz4 ⟨_, hd4⟩).run [] s5 _ H' _ S5 (hyes a na)) (fun f s6 hsp => ?_) (fun _ _ z => False.elim z)
    have fin : ∀ {σ6 : L2.St} {H6 : Hp} {Q : Shared → Prop}, Inv (X.suite a ((a, oe4) :: (X.pn ++ pins))) [] σ6 H6 s6 → (∀ s7, Inv X pins (σ6.set i none) H6 s7 → Q s7) →
        wpAny (model X.prog X.w) X.A (do bindName X.env n .none; unbindBehindTheSuite X.env n pos') (fun _ s7 => Q s7) X.xe s6 := fun {σ6 H6 Q} S6 hq => gone_ok (S6.unsuite ok) hN hi hln hq
    cases f with
    | next =>
      obtain ⟨σ6, H6, S6, q6⟩ := hsp
      exact fin S6 fun s7 J7 => ⟨_, _, J7, q6⟩
    | brk =>
      obtain ⟨σ6, H6, S6, q6⟩ := hsp
      exact fin S6 fun s7 J7 => ⟨_, _, J7, q6⟩
    | cont =>
      obtain ⟨σ6, H6, S6, q6⟩ := hsp
      exact fin S6 fun s7 J7 => ⟨_, _, J7, q6⟩
    | ret u =>
      obtain ⟨v6, σ6, H6, S6, r6, q6⟩ := hsp
      exact fin S6 fun s7 J7 => ⟨_, _, _, J7, r6, q6⟩
  · cases f with
    | next =>
      obtain ⟨σ', H', J', q⟩ := hsp
      exact wpAny_execs_nil ⟨σ', H', J'.ofTry ok, q⟩
    | brk =>
      obtain ⟨σ', H', J', q⟩ := hsp
      exact ⟨σ', H', J'.ofTry ok, q⟩
    | cont =>
      obtain ⟨σ', H', J', q⟩ := hsp
      exact ⟨σ', H', J'.ofTry ok, q⟩
    | ret u =>
      obtain ⟨v, σ', H', J', r, q⟩ := hsp
      exact ⟨v, σ', H', J'.ofTry ok, r, q⟩
end
/-! ### defs called in the suite -/
/-- the promise of a def called while the exception at p is handled; it may speak of p -/
structure FnE (P : Program) (w : World) (K : PySem.W.Frag) (mg : Str → Option Value) (base : Heap) (k : Nat) (f : Addr) (fd : FuncData) (ps : List Str) (sp : Addr × Obj → Sp) : Prop where
  len : ∀ p vs H Q E, sp p vs H Q E → vs.length = ps.length
  run : ∀ (A : Around) (outer : List Env) (s : Shared) (H : Hp) (args : Args) (us : List Value) (vs : List V) (Q : VK) (p : Addr × Obj), L2H.RoomH k A → L2H.Hot1 A p → L2H.PinOk outer H s p → Env0 P w K mg base A outer s H → BindsTo s fd args (ps.zip us) → Vals vs us → sp p vs H Q E0 →
    codeAny (model P w) A (.call (.ref f) args) (CR CX0 outer P w H s Q E0) s
section
variable {P : Program} {w : World} {K : PySem.W.Frag} {mg : Str → Option Value} {base : Heap}
theorem okE {x qual : Str} {st : Stmt} {f : Addr} {fd : FuncData} {N ps : List Str} {k : Nat} {sp : Addr × Obj → Sp} (F : Fun K x qual st f fd) (S : FnScope N ps (defScope st)) (len : ∀ p vs H Q E, sp p vs H Q E → vs.length = ps.length)
    (bd : ∀ (cdv : Value) (A : Around) (outer : List Env) (s : Shared) (H : Hp) (vs : List V) (Q : VK) (p : Addr × Obj), L2H.Hot1 A p → L2H.RoomH k (A.deeper (envOfC qual (defScope st) s.heap.objs.size f cdv)) → sp p vs H Q E0 →
      ∃ t, PSs (L2H.cxH CX0 P w K mg base N qual (defScope st) f cdv A outer s H E0 p) (defBody st) t ∧ t { nx := fun _ H' => Q .non H', rt := Q } (L2.start N vs) H) : FnE P w K mg base (k + 1) f fd ps sp := by
  obtain ⟨oc, od, kV, doc, pm, an, cdv, ct, osl, rfl, lk, hcd⟩ := F.ex
  refine ⟨len, fun A outer s H args us vs Q p hr hot hpin e0 hb r hsp => ?_⟩
  have KX : K.In s.heap := e0.mod.kin.keeps fun b o e => (e0.bs b o e).1
  have lim := e0.mod.nolimit.keeps fun b o e => (e0.bs b o e).1
  refine codeAny_call_function hr.depth (KX _ _ lk) rfl S.co S.gen rfl (PySem.W.codeRec_of KX hcd) (hb _ _ _ _ (wpAny_newFunctionEnv_cells S.kind (fun ⟨n, v⟩ hy => ?_) fun env he s1 x => ?_))
  · exact (S.par n (List.of_mem_zip hy).1).imp id fun q => ⟨q, PySem.W.cellsFrom_some _ _ _ (.inl q)⟩
  · subst he
    obtain ⟨t, ht, hq⟩ := bd cdv A outer s H vs Q p hot (hr.deeper _) hsp
    have I : Inv (L2H.cxH CX0 P w K mg base N qual (defScope st) f cdv A outer s H E0 p) [] (L2.start N vs) H s1 := L2H.inv_startH S hpin e0 (len _ _ _ _ _ hsp) r x
    refine ⟨lim.keeps x.toInCall.keep, codeAny_func (wpAny_mono (ht.run [] s1 _ H _ I hq) (fun fl s' hs => ?_) fun _ _ z => z)⟩
    cases fl with
    | ret u =>
      obtain ⟨v, σ', H', J, rv, q⟩ := hs
      exact ⟨v, H', J.os, J.bare, J.base, J.hok, rv, q⟩
    | next =>
      obtain ⟨σ', H', J, q⟩ := hs
      exact ⟨V.non, H', J.os, J.bare, J.base, J.hok, rfl, q⟩
    | brk => exact hs.elim fun _ z => z.elim fun _ y => False.elim y.2
    | cont => exact hs.elim fun _ z => z.elim fun _ y => False.elim y.2
end
structure DfE (P : Program) (w : World) (K : PySem.W.Frag) (mg : Str → Option Value) (base : Heap) (k : Nat) (x : Str) (ps : List Str) (sp : Addr × Obj → Sp) : Prop where
  ex : ∃ (f : Addr) (fd : FuncData), FnE P w K mg base k f fd ps sp ∧ mg x = some (.ref f) ∧ PySem.W.keepIn K (.ref f) = true ∧ Binds K fd ps []
section
variable {X : Cx} {k : Nat} {ps : List Str} {sp : Addr × Obj → Sp} {x : Str} {q pos : Pos} {e : Expr} {es : List Expr} {t : TA} {p : Addr × Obj}
theorem pe_dfE (D : DfE X.prog X.w X.K X.mg X.base k x ps sp) (hr : L2H.RoomH k X.A) (hot : L2H.Hot1 X.A p) (hp : p ∈ X.pn) (hg : Gl X x)
    (ha : PA X (e :: es) t) (hdb : (x == ("__debug__" : Str)) = false := by decide) (he : starEach (e :: es) X.env = (false, eval e X.env) :: starEach es X.env := by rfl) (hpl : (backTo pos (starEach es X.env)).any (·.1) = false := by rfl) :
    PE X (.Call (.Name x q) (e :: es) [] pos) (fun σ H Q => t σ H fun vs H1 => sp p vs H1 Q E0) := by
  obtain ⟨f, fd, F, hm, hk, hb⟩ := D.ex
  refine ⟨fun pins s σ H Q I h => wpAny_Call_Name_kw (ld_glob I hg hm (PySem.W.callWith_K (h₀ := X.base) I.ok.mod.kin hk (thn (ha.run pos pins s σ H _ I h) fun us s1 ⟨vs, H1, I1, r, q0⟩ => ⟨I1.kIn, ?_⟩) he hpl) hdb)⟩
  have hl : us.length = ps.length := by
    rw [← r.length]
    exact F.len _ _ _ _ _ q0
  have hbb := hb s1 us I1.kIn (by rw [List.append_nil]; exact hl)
  rw [List.append_nil] at hbb
  have P1 := I1.pin p (List.mem_append_left _ hp)
  have hpin : L2H.PinOk X.stack H1 s1 p := ⟨P1.1, P1.2.1, fun hm => (List.mem_cons.mp (I1.stkSub p.1 hm)).elim P1.2.2.1 P1.2.2.2.1, P1.2.2.2.2⟩
  refine wpAny_call (codeAny_mono (F.run X.A X.stack s1 H1 ⟨us, []⟩ us vs Q p hr hot hpin I1.env0 hbb r q0) fun z s' hq => ?_)
  cases z with
  | error e => exact hq.elim
  | ok fl =>
    cases fl with
    | ret u => exact I1.after hq
    | next => exact hq.elim
    | brk => exact hq.elim
    | cont => exact hq.elim
end
/-! ### the exception asked -/
/-- p: an exception of the class at C -/
def Px (p : Addr × Obj) (C : Addr) (H : Hp) : Prop := p.2.cls = .ref C ∧ (∃ vs, p.2.data = .fields vs) ∧ (p.2.dict = none ∨ ∃ (d : Addr) (fs : List (Str × V)), p.2.dict = some d ∧ H d = some (.xd fs))
theorem Px.same {p : Addr × Obj} {C : Addr} {H H' : Hp} (h : Px p C H) (s : Same H H') : Px p C H' := ⟨h.1, h.2.1, h.2.2.imp id fun ⟨d, fs, a, b⟩ => ⟨d, fs, a, s _ _ b⟩⟩
def rIsP (K : PySem.W.Frag) (p : Addr × Obj) : List V → Hp → VK → Prop := fun xs H Q => ∃ (C : Addr) (c : V) (u : Value) (b : Bool), xs = [.ref p.1, c] ∧ ClsV c u ∧ XC K C ∧ Px p C H ∧ PySem.W.kitOne K (.ref C) u = some b ∧ Q (.bl b) H
theorem call_isP {X : Cx} {p : Addr × Obj} (Z : XK0 X.K) (hp : p ∈ X.pn) : CallR X (.builtin "isinstance") (rIsP X.K p) := by
  intro pins s σ H xs us Q I r h
  obtain ⟨C, c, u, b, rfl, kc, T, ⟨hc, ⟨vs, hd⟩, hx⟩, e, q⟩ := h
  obtain ⟨u1, u2, rfl, r1, r2⟩ := vals2 r
  have e2 := kc.eq r2
  subst e2
  cases (show u1 = Value.ref p.1 from r1)
  obtain ⟨hget, _⟩ := I.pin p (List.mem_append_left _ hp)
  have nc : PySem.W.notCls p.2 = true := by unfold PySem.W.notCls; rw [hd] <;> rfl
  have key : ∃ od, PySem.W.InstAt s.heap p.1 p.2 C od := by
    rcases hx with hx | ⟨dx, fs, hx, hf⟩
    · exact ⟨none, hget, hc, nc, by rw [hx]; trivial⟩
    · obtain ⟨mA, ⟨od, es, ep, hod, _⟩, _⟩ := (show ObjOk X.prog X.w H s.heap dx (.xd fs) from I.hok dx _ hf)
      exact ⟨some od, hget, hc, nc, by rw [hx]; exact hod⟩
  obtain ⟨od, J⟩ := key
  exact PySem.W.kia_one (PySem.W.kitx_exc (ox := p.2) (od := od) T.cl T.ga T.gg T.sub T.ca Z.cn Z.ct T.mo) I.kIn J e (fun z => nomatch z) fun tk => ⟨.bl b, H, I.tok tk, rfl, q⟩
/-- e.f in the suite -/
def tPfd (K : PySem.W.Frag) (p : Addr × Obj) (f : Str) (te : TE) : TE := fun σ H Q => te σ H fun x H1 => ∃ (C dx : Addr) (fs : List (Str × V)) (v : V), x = .ref p.1 ∧ XC K C ∧ PySem.W.findIn K (.ref C) f = some none ∧ p.2.cls = .ref C ∧ (∃ vs, p.2.data = .fields vs) ∧ p.2.dict = some dx ∧ H1 dx = some (.xd fs) ∧ fs.lookup f = some v ∧ Q v H1
theorem pe_pfd {X : Cx} {p : Addr × Obj} {e : Expr} {te : TE} {pos : Pos} {n : Str} (hp : p ∈ X.pn) (he : PE X e te) (hb : attributeBase e n X.env (eval e X.env) = eval e X.env := by rfl) : PE X (.Attribute e n pos) (tPfd X.K p n te) := by
  refine ⟨fun pins s σ H Q I h => attr_of hb (thn (he.run pins s σ H _ I h) fun u s1 ⟨x, H1, I1, rx, C, dx, fs, v, ex, T, hno, hc, ⟨vs, hd⟩, ed, ea, l, q⟩ => ?_)⟩
  subst ex
  cases (show u = Value.ref p.1 from rx)
  obtain ⟨hget, _⟩ := I1.pin p (List.mem_append_left _ hp)
  obtain ⟨mA, hns, hr⟩ := (show ObjOk X.prog X.w H1 s1.heap dx (.xd fs) from I1.hok dx _ ea)
  obtain ⟨od, hod, hl⟩ := lookIn_ns hns
  obtain ⟨u, hu, ru⟩ := RelO.some_of (v := v) (o := mA n) (by rw [← l]; exact hr n)
  have nc : PySem.W.notCls p.2 = true := by unfold PySem.W.notCls; rw [hd] <;> rfl
  have J : PySem.W.InstAt s1.heap p.1 p.2 C (some od) := ⟨hget, hc, nc, by rw [ed]; exact hod⟩
  exact HandSPX.exc_get I1.kIn J T.ga T.gg T.sub (PySem.W.findObj_own T.hd hno rfl (by rw [hl, hu])) (handed_of ru) ⟨v, H1, I1.tok _, ru, q⟩
theorem pe_pfdK {X : Cx} {K : PySem.W.Frag} {p : Addr × Obj} {e : Expr} {te : TE} {pos : Pos} {n : Str} (hp : p ∈ X.pn) (he : PE X e te) (hK : X.K = K := by rfl) (hb : attributeBase e n X.env (eval e X.env) = eval e X.env := by rfl) : PE X (.Attribute e n pos) (tPfd K p n te) := by
  subst hK
  exact pe_pfd hp he hb
end RL

set_option maxHeartbeats 2000000
/-! [.. for x in range(..) if ..] where an exception is handled. -/
namespace RL
open PySem L2 PySem.Spec PyProof.Rows
/-- a comprehension's block there: it bears the handled exception -/
abbrev blkP (X : Cx) (p : Addr × Obj) (s : Shared) (H : Hp) (scope : Scope) (cenv : Env) (fp : List Addr) : Cx := (X.blk s H scope cenv fp).tr [p] fun _ _ => False
theorem pnB {X : Cx} {p : Addr × Obj} {s : Shared} {H : Hp} {scope : Scope} {cenv : Env} {fp : List Addr} : p ∈ (blkP X p s H scope cenv fp).pn := List.mem_cons_self
section
variable {X : Cx}
theorem lc_hot {pins : List (Addr × Obj)} {s : Shared} {σ : L2.St} {H : Hp} {Q : VK} {elt tg iter : Expr} {ifs : List Expr} {scope : Scope} {own : List (Str × Nat)} {pos pos' : Pos} {wi : TI} {g : TG} {tt : TT} {te : TE} {use : Option (Value → Sem Unit)} {Qf : Value → Shared → Prop} {p : Addr × Obj}
    (hot : L2H.Hot1 X.A p) (hp : p ∈ X.pn) (hN : X.N.Nodup) (I : Inv X pins σ H s) (hi : L2H.PIH X tg iter wi) (ok : BlkOk X.N X.env.scope scope own)
    (hg : ∀ (s : Shared) (H : Hp) (C : Addr) (cl : List (Str × Addr)) (fp : List Addr), PG (blkP X p s H scope (compEnvC scope cl C X.env) fp) tg g) (ht : ∀ (s : Shared) (H : Hp) (C : Addr) (cl : List (Str × Addr)) (fp : List Addr), PTs (blkP X p s H scope (compEnvC scope cl C X.env) fp) ifs tt)
    (he : ∀ (s : Shared) (H : Hp) (C : Addr) (cl : List (Str × Addr)) (fp : List Addr), PE (blkP X p s H scope (compEnvC scope cl C X.env) fp) elt te) (hs : ∀ x, foldedSetIterable iter X.env x = pure x)
    (h : tLc wi g tt te (own.map (·.2)) σ H Q)
    (hRR : ∀ D C s' m H', Inv X pins σ H' s' → Q (.ref D) H' → s'.heap.Ns C m → FpOk X pins H' C → compPost (model X.prog X.w) X.A X.xe use Qf (.ref D) C (.ok .next) s') :
    wpAny (model X.prog X.w) X.A (comprehension (.ListComp elt [⟨tg, iter, ifs, 0⟩] scope pos) scope X.env pos' (newList []) false (eval iter X.env) use) Qf X.xe s := by
  have hfree : ∀ y ∈ scope.names, y.2 = .free → ∃ c, X.env.cells.lookup y.1 = some c := fun y hy e => (ok.free y hy e).elim (fun k => I.ok.has _ (.inl k)) fun k => I.ok.has _ (.inr k)
  refine wpAny_comprehension_free (use := use) rfl hs (closure_ok hfree) ok.kind (fun y hy e => by rw [ok.uniq y hy, e]) (thn (hi.run pins s σ H _ I h) fun xv s1 hx => thn hx fun itv s2 h2 => ?_)
  obtain ⟨it, fp, tn, J, H2, e, I2, T, st2, f2, q⟩ := h2
  subst e
  refine wpAny_newObj_type (newEnv_comp ?_) (by show 0 ≤ sizeLine; decide)
  generalize hD : s2.heap.objs.size = D
  obtain ⟨W, ⟨m0, w0⟩, turn⟩ := q D (I2.hok.fresh (Nat.le_of_eq hD))
  generalize hs3 : ({ s2 with heap := s2.heap.push { cls := .type "list", data := .seq ([] : List Value).toArray } } : Shared) = s3
  have I3 : Inv X pins σ (upd H2 D (.lst [])) s3 := by
    rw [← hs3]
    refine I2.laid (t' := s2.toks) (fun b o e => Heap.get?_push_of_some _ e) (Nat.le_of_eq hD) ⟨Nat.zero_le _, [], 0, .nil, ?_⟩
    rw [← hD]
    exact Heap.get?_push_size _ rfl
  have h3 : s3.heap = s2.heap.push { cls := .type "list", data := .seq ([] : List Value).toArray } := by rw [← hs3]
  have f3 : ∀ b ∈ fp, FpOk X pins (upd H2 D (.lst [])) b ∧ b < s3.heap.objs.size := fun b hb => by
    obtain ⟨o, e, _⟩ := T.obj _ _ st2 b hb
    have hlt := Heap.lt_size e
    refine ⟨⟨?_, (f2 b hb).2⟩, by rw [h3, Heap.size_push]; exact Nat.lt_succ_of_lt hlt⟩
    rw [upd_ne (by rw [← hD]; exact Nat.ne_of_lt hlt)]
    exact (f2 b hb).1
  have st3 : tn 0 s3.heap := T.keep _ _ _ st2 fun b _ o e => by rw [h3]; exact Heap.get?_push_of_some _ e
  have I4' := block_start I3 ok hN f3
  -- the handled exception stays out of the block's reach
  have P3 := I3.pin p (List.mem_append_left _ hp)
  have nst : p.1 ∉ frs X.stack := fun hm => (List.mem_cons.mp (I3.stkSub p.1 hm)).elim P3.2.2.1 P3.2.2.2.1
  have kp4 : ∀ b o, s3.heap.get? b = some o → (pushCells (s3.heap.push { cls := .type "dict", data := .dict #[] }) scope.names).get? b = some o := fun b o e => pushCells_keeps _ _ _ _ (Heap.get?_push_of_some _ e)
  have I4 : Inv (blkP X p s3 (upd H2 D (.lst [])) scope (compEnvC scope (cellsFrom (s3.heap.objs.size + 1) scope.names (cloFrom X.env.cells scope.names [])) s3.heap.objs.size X.env) fp) [] (wipe σ (own.map (·.2))) (upd H2 D (.lst [])) { s3 with heap := pushCells (s3.heap.push { cls := .type "dict", data := .dict #[] }) scope.names } := by
    refine (I4'.pins_of (pins' := [p]) fun r hr => ?_).toTry _
    obtain rfl : r = p := by simpa using hr
    exact ⟨kp4 _ _ P3.1, P3.2.1, Nat.ne_of_lt (Heap.lt_size P3.1), nst, P3.2.2.2.2⟩
  have pg := hg s3 (upd H2 D (.lst [])) s3.heap.objs.size (cellsFrom (s3.heap.objs.size + 1) scope.names (cloFrom X.env.cells scope.names [])) fp
  have pt := ht s3 (upd H2 D (.lst [])) s3.heap.objs.size (cellsFrom (s3.heap.objs.size + 1) scope.names (cloFrom X.env.cells scope.names [])) fp
  have pe := he s3 (upd H2 D (.lst [])) s3.heap.objs.size (cellsFrom (s3.heap.objs.size + 1) scope.names (cloFrom X.env.cells scope.names [])) fp
  show codeAny _ _ (.compStart (.ListComp elt [⟨tg, iter, ifs, 0⟩] scope pos) 0 (.ref it) (.ref D) (compEnvC scope (cellsFrom (s3.heap.objs.size + 1) scope.names (cloFrom X.env.cells scope.names [])) s3.heap.objs.size X.env)) (compPost (model X.prog X.w) X.A X.xe use Qf (.ref D) s3.heap.objs.size) { s3 with heap := pushCells (s3.heap.push { cls := .type "dict", data := .dict #[] }) scope.names }
  have nfp : ∀ b ∈ fp, (upd H2 D (.lst [])) b = none := fun b hb => (f3 b hb).1.1
  generalize hce : compEnvC scope (cellsFrom (s3.heap.objs.size + 1) scope.names (cloFrom X.env.cells scope.names [])) s3.heap.objs.size X.env = ce at I4 pg pt pe ⊢
  have cL : ce.locals = s3.heap.objs.size := by subst hce; rfl
  have hcB : L2H.HotC (blkP X p s3 (upd H2 D (.lst [])) scope ce fp) := ⟨p, hot, pnB⟩
  generalize hH3 : upd H2 D (.lst []) = H3 at I3 I4 pg pt pe w0 nfp f3 hcB
  generalize hs4 : ({ s3 with heap := pushCells (s3.heap.push { cls := .type "dict", data := .dict #[] }) scope.names } : Shared) = s4 at I4 ⊢
  have st4 : tn 0 s4.heap := T.keep _ _ _ st3 fun b _ o e => by rw [← hs4]; exact kp4 _ _ e
  have stat : ∀ {σ' : L2.St} {H' : Hp} {s' : Shared}, Inv (blkP X p s3 H3 scope ce fp) [] σ' H' s' → (∀ b ∈ fp, H' b = none) → ∀ b ∈ fp, FpOk (blkP X p s3 H3 scope ce fp) [] H' b := fun {σ' H' s'} I' hn b hb =>
    ⟨hn b hb, (I'.ok.exf b hb).1, I'.ok.exfs b hb, .inl hb, fun x c e => (I'.ok.exf b hb).2 x c e, fun r hr => by
      obtain rfl : r = p := by simpa using (show r ∈ [p] ++ ([] : List (Addr × Obj)) from hr)
      exact (f3 b hb).1.2.2.2.2.2 r (List.mem_append_left _ hp)⟩
  have loop : codeAny (model X.prog X.w) X.A (.compLoop (.ListComp elt [⟨tg, iter, ifs, 0⟩] scope pos) 0 (.ref it) (.ref D) ce) (compPost (model X.prog X.w) X.A X.xe use Qf (.ref D) s3.heap.objs.size) s4 := by
    refine compLoop_any (fun n s' => ∃ i H', Inv (blkP X p s3 H3 scope ce fp) [] (wipe σ (own.map (·.2))) H' s' ∧ tn i s'.heap ∧ (∀ b ∈ fp, H' b = none) ∧ W i n H') ?_ m0 ⟨0, H3, I4, st4, nfp, w0⟩
    rintro n s5 ⟨i, H5, I5, st5, n5, w5⟩
    rcases turn i n H5 w5 with ⟨stop, qq⟩ | ⟨go, Nx, hNx, step⟩
    · refine thnF (T.done (blkP X p s3 H3 scope ce fp) rfl rfl rfl hcB i [] s5 _ H5 (fun _ _ => False) I5 (stat I5 n5) st5 stop) fun r s6 ⟨hr, I6⟩ => ?_
      subst hr
      have I7 : Inv X pins σ H5 s6 := I3.call' (ch := fp) I6.os I6.base I6.hok I6.bare fun b hb => ⟨(f3 b hb).1.2.2.2.1, (f3 b hb).1.2.1, (f3 b hb).1.2.2.2.2.1, (f3 b hb).1.2.2.2.2.2⟩
      have nC : H5 s3.heap.objs.size = none := by
        have z : H5 ce.locals = none := I6.free
        rw [cL] at z
        exact z
      obtain ⟨m, hn, _⟩ := I6.loc
      have hn : s6.heap.Ns ce.locals m := hn
      rw [cL] at hn
      exact hRR D s3.heap.objs.size s6 m H5 I7 qq hn (I3.fpOk (Nat.le_refl _) nC)
    · refine thnF (T.item (blkP X p s3 H3 scope ce fp) rfl rfl rfl hcB i [] s5 _ H5 (fun _ _ => False) I5 (stat I5 n5) st5 go) fun r s6 ⟨u, hr, h6⟩ => ?_
      subst hr
      refine thnF h6 fun _ s7 ⟨x, H7, I7, r7, y7, st7, n7⟩ => ?_
      have I7' := I7.pinned (stat I7 n7) (T.obj _ _ st7)
      refine thnF (pg.run _ s7 _ H7 x u _ I7' r7 (step x H7 y7)) fun _ s8 ⟨σ8, H8, I8, hw8, q8⟩ => ?_
      refine thnF (pt.run _ s8 σ8 H8 _ I8 q8) fun b s9 ⟨H9, I9, q9⟩ => ?_
      have fin : ∀ {s' : Shared} {H' : Hp}, Inv (blkP X p s3 H3 scope ce fp) ([] ++ pinsAt fp s7.heap) σ8 H' s' → Nx H' → ∃ m, m < n ∧ ∃ i H', Inv (blkP X p s3 H3 scope ce fp) [] (wipe σ (own.map (·.2))) H' s' ∧ tn i s'.heap ∧ (∀ b ∈ fp, H' b = none) ∧ W i m H' := fun {s' H'} I' nx => by
        obtain ⟨m', hm, w'⟩ := hNx H' nx
        have pin' : ∀ b ∈ fp, ∀ o, s7.heap.get? b = some o → s'.heap.get? b = some o ∧ H' b = none := fun b hb o e =>
          let z := I'.pin (b, o) (List.mem_append_right _ (List.mem_append_right _ (mem_pinsAt hb e)))
          ⟨z.1, z.2.1⟩
        have hl : (wipe σ (own.map (·.2))).length = σ8.length := by rw [← hw8, wipe_length]
        refine ⟨m', hm, i + 1, H', (I'.unpinned (pins := [])).weak hl (fun j v e => ?_), T.keep _ _ _ st7 fun b hb o e => (pin' b hb o e).1, fun b hb => ?_, w'⟩
        · rw [← hw8] at e
          exact (wipe_some e).1
        · obtain ⟨o, e, _⟩ := T.obj _ _ st7 b hb
          exact (pin' b hb o e).2
      cases b with
      | false =>
        simp only [Bool.false_eq_true, if_false] at q9 ⊢
        exact fin I9 q9
      | true =>
        simp only [if_true] at q9 ⊢
        refine thnF (pe.run _ s9 σ8 H9 _ I9 q9) fun z s10 ⟨yv, H10, I10, r10, acc, hD10, hz10, nx⟩ => ?_
        exact app_ok (X := blkP X p s3 H3 scope ce fp) I10 hD10 hz10 r10 fun s11 I11 => fin I11 nx
  exact codeAny_compStart_list loop (T.self X.A 0 _ _ _ st4 loop)
theorem pe_lcP {elt tg iter : Expr} {ifs : List Expr} {scope : Scope} {own : List (Str × Nat)} {pos : Pos} {wi : TI} {g : TG} {tt : TT} {te : TE} {p : Addr × Obj} (hot : L2H.Hot1 X.A p) (hp : p ∈ X.pn) (hN : X.N.Nodup) (hi : L2H.PIH X tg iter wi) (ok : BlkOk X.N X.env.scope scope own)
    (hg : ∀ (s : Shared) (H : Hp) (C : Addr) (cl : List (Str × Addr)) (fp : List Addr), PG (blkP X p s H scope (compEnvC scope cl C X.env) fp) tg g) (ht : ∀ (s : Shared) (H : Hp) (C : Addr) (cl : List (Str × Addr)) (fp : List Addr), PTs (blkP X p s H scope (compEnvC scope cl C X.env) fp) ifs tt)
    (he : ∀ (s : Shared) (H : Hp) (C : Addr) (cl : List (Str × Addr)) (fp : List Addr), PE (blkP X p s H scope (compEnvC scope cl C X.env) fp) elt te) (hs : ∀ x, foldedSetIterable iter X.env x = pure x := by intro _; rfl) :
    PE X (.ListComp elt [⟨tg, iter, ifs, 0⟩] scope pos) (tLc wi g tt te (own.map (·.2))) := by
  refine ⟨fun pins s σ H Q I h => ?_⟩
  rw [eval_ListComp]
  refine lc_hot hot hp hN I hi ok hg ht he hs h fun D C s' m H' I' q hn f => ⟨m, hn, fun h'' sb => ?_⟩
  obtain ⟨f0, f1, f2, f3, f4, f5⟩ := f
  exact ⟨.ref D, H', I'.turned (t' := s'.toks) (fun b o hb e => (sb.2 b hb).trans e) f0 f1 f3 f4 f5, rfl, q⟩
end
end RL

set_option maxHeartbeats 2000000
/-! raise X(e) for the package's classes; defs that raise; a lambda that may raise, handed to a def. -/
namespace RL
open PySem L2 PySem.Spec PyProof.Rows
/-! ### raise -/
/-- X(e): class and dict of the exception -/
def tMkX (C : Addr) (f : Str) (te : TE) : L2.St → Hp → XK → Prop := fun σ H Q => te σ H fun y H1 => ∀ d, H1 d = none → Q (.ref C) (some d) (upd H1 d (.xd [(f, y)]))
def oneV (R : V → Hp → Prop) : List V → Hp → Prop
  | [y], H => R y H
  | _, _ => False
theorem pmk_x {X : Cx} {k : Nat} {C : Addr} {f x : Str} {e : Expr} {te : TE} {p pos : Pos} (M : XM X.prog X.w X.K X.mg X.base k C ["self", f] (spI X.K f)) (tyC : PySem.W.typeIn X.K (.ref C) = some (.type "type")) (hno : PySem.W.findIn X.K (.ref C) f = some none)
    (hr : Room (k + 1) X.A) (hg : Gl X x) (hm : X.mg x = some (.ref C)) (he : PE X e te) (hdb : (x == ("__debug__" : Str)) = false := by decide) (hst : starEach [e] X.env = (false, eval e X.env) :: starEach [] X.env := by rfl) (hpl : (backTo pos (starEach [] X.env)).any (·.1) = false := by rfl) :
    L2N.PMk X (.Call (.Name x p) [e] [] pos) (tMkX C f te) := by
  intro pins s σ H Q I h
  obtain ⟨g, fd, iC, tI, F, hb, _⟩ := M.ex
  have T := M.xc
  obtain ⟨B, nid, iid, bmB, FB, SF, q, ov⟩ := T.base
  have h' : tCons te tNil σ H (oneV fun y H1 => ∀ d, H1 d = none → Q (.ref C) (some d) (upd H1 d (.xd [(f, y)]))) := h
  refine wpAny_Call_Name_kw (ld_glob I hg hm (PySem.W.callWith_K (h₀ := X.base) I.ok.mod.kin T.kp (thn ((pa_cons he pa_nil hst).run pos pins s σ H _ I h') fun us s1 ⟨vs, H1, I1, r, q1⟩ => ⟨I1.kIn, ?_⟩) hst hpl) hdb)
  cases r with
  | nil => exact False.elim q1
  | @cons y u vs' us' ry rr =>
    cases rr with
    | cons _ _ => exact False.elim q1
    | nil =>
      obtain ⟨nm, N', qn, bs, bm, hdct, sn, sub, ab, col, dd, k0, k1, k2, k3, k5, hC, hT⟩ := PySem.W.excInit_of I1.kIn q
      have bf : ∀ self, PySem.W.Looks (model X.prog X.w) s1.heap (bindSpecial (.ref g) self) (.ref g, [self]) := fun self => PySem.W.bind_fn I1.kIn self (beq_iff_eq.mp tI)
      have li := PySem.W.looks_findIn (M := model X.prog X.w) I1.kIn iC
      obtain ⟨hp, gs, dr, tk, os⟩ := s1
      have hsz : hp.objs.size ≤ hp.objs.size + 1 := Nat.le_succ _
      have hn : H1 (hp.objs.size + 1) = none := I1.hok.fresh hsz
      have kk : ∀ b o, hp.get? b = some o → (PySem.RLX.laid2 C [u] hp).get? b = some o := fun b o e => Heap.get?_push_of_some _ (Heap.get?_push_of_some _ e)
      have hget : (PySem.RLX.laid2 C [u] hp).get? (hp.objs.size + 1) = some (PySem.HandSPX.excO C hp.objs.size) := by heap_get
      have I2 : Inv X pins σ (upd H1 (hp.objs.size + 1) (exo (hp.objs.size + 1) C none)) ⟨PySem.RLX.laid2 C [u] hp, gs, dr, tk, os⟩ :=
        I1.laid (t' := tk) (a := hp.objs.size + 1) (o := exo (hp.objs.size + 1) C none) (h' := PySem.RLX.laid2 C [u] hp) kk hsz (exo_ok hget)
      have hq : spI X.K f [.ref (hp.objs.size + 1), y] (upd H1 (hp.objs.size + 1) (exo (hp.objs.size + 1) C none)) (fun v H2 => v = .non ∧ ∃ d, H2 (hp.objs.size + 1) = some (exo (hp.objs.size + 1) C (some d)) ∧ H2 d = some (exd d [(f, y)]) ∧ H1 d = none ∧
          upd (del H2 (hp.objs.size + 1)) d (.xd [(f, y)]) = upd H1 d (.xd [(f, y)])) E0 := by
        refine ⟨_, C, y, rfl, T, hno, upd_same, fun dx nd ne => ⟨rfl, dx, upd_same, ?_, ?_, ?_⟩⟩
        · rw [upd_ne ne, upd_same]
        · rw [upd_ne ne] at nd
          exact nd
        · funext b
          by_cases hb : b = dx
          · rw [hb, upd_same, upd_same]
          · rw [upd_ne hb, upd_ne hb]
            by_cases hb2 : b = hp.objs.size + 1
            · rw [hb2, del_same, hn]
            · rw [del_ne hb2, upd_ne hb2, upd_ne hb, upd_ne hb2]
      have n1 : ([Value.ref (hp.objs.size + 1), u] ++ []).length = (["self", f] : List Str).length := rfl
      have hbb := hb ⟨PySem.RLX.laid2 C [u] hp, gs, dr, tk, os⟩ [Value.ref (hp.objs.size + 1), u] I2.kIn n1
      have rr2 : Vals [V.ref (hp.objs.size + 1), y] [Value.ref (hp.objs.size + 1), u] := .cons rfl (.cons ry .nil)
      refine wpAny_call (PySem.RLX.run_make FB hT hC li bf (by show 1 ≤ sizeLine; decide) (codeAny_mono (F.run _ X.stack _ _ ⟨[Value.ref (hp.objs.size + 1), u], []⟩ [Value.ref (hp.objs.size + 1), u] _ _ E0 (hr.make C [u] [])
        (I2.env0.make C [u] []) hbb rr2 hq) fun r s' z => ?_))
      cases r with
      | error e => exact z.elim
      | ok fl =>
        cases fl with
        | ret v =>
          obtain ⟨w', H2, os2, bare2, un2, hok2, rv, ev, d, ea, ed, hd1, eH⟩ := z
          subst ev
          obtain ⟨h2, g2, d2, t2, os'⟩ := s'
          obtain ⟨t0, G, J, kG, ge, hoe, na⟩ := mk_end0 (d2 := d2) (t2 := t2) I1 hsz kk un2 hok2 os2 bare2 ea ed hd1
          rw [eH] at J na
          refine ⟨rv, hp.objs.size + 1, _, _, ⟨G, g2, d2, t2, os'⟩, _, .ref C, some d, rfl, J, kG, ge, hoe, ⟨rfl, rfl, fun vs hv => ?_⟩, rfl, rfl, na, rfl, bare2, raises_own T.sub tyC, q1 d hd1⟩
          cases hv
          rfl
        | next => exact z.elim
        | brk => exact z.elim
        | cont => exact z.elim
/-- raise X(e) -/
theorem ps_raiseX {X : Cx} {k : Nat} {C : Addr} {f x : Str} {e : Expr} {te : TE} {p pos pos' : Pos} {W : WX} (M : XM X.prog X.w X.K X.mg X.base k C ["self", f] (spI X.K f)) (tyC : PySem.W.typeIn X.K (.ref C) = some (.type "type")) (hno : PySem.W.findIn X.K (.ref C) f = some none)
    (hr : Room (k + 1) X.A) (hg : Gl X x) (hm : X.mg x = some (.ref C)) (he : PE X e te) (hc : X.calm = true) (tk : L2N.Takes X W) (hdb : (x == ("__debug__" : Str)) = false := by decide) (hst : starEach [e] X.env = (false, eval e X.env) :: starEach [] X.env := by rfl) (hpl : (backTo pos (starEach [] X.env)).any (·.1) = false := by rfl) :
    PS X (.Raise (some (.Call (.Name x p) [e] [] pos)) none pos') (fun _ σ H => te σ H fun y H1 => ∀ d, H1 d = none → W (.ref C) (some d) σ (upd H1 d (.xd [(f, y)]))) :=
  L2N.ps_raise hc tk (pmk_x M tyC hno hr hg hm he hdb hst hpl)
/-! ### defs that raise -/
section
variable {P : Program} {w : World} {K : PySem.W.Frag} {mg : Str → Option Value} {base : Heap}
theorem okN {x qual : Str} {st : Stmt} {f : Addr} {fd : FuncData} {N ps : List Str} {k : Nat} {sp : Sp} (F : Fun K x qual st f fd) (S : FnScope N ps (defScope st)) (len : ∀ vs H Q E, sp vs H Q E → vs.length = ps.length)
    (bd : ∀ (cdv : Value) (A : Around) (outer : List Env) (s : Shared) (H : Hp) (vs : List V) (Q : VK) (E : XK), Room k (A.deeper (envOfC qual (defScope st) s.heap.objs.size f cdv)) → sp vs H Q E →
      ∃ t, PSs (cxOf (L2N.CX P w) P w K mg base N qual (defScope st) f cdv A outer s H E) (defBody st) t ∧ t { nx := fun _ H' => Q .non H', rt := Q } (L2.start N vs) H) : FnOk P w K mg base (L2N.CX P w) (k + 1) f fd ps sp := by
  obtain ⟨oc, od, kV, doc, pm, an, cdv, ct, osl, rfl, lk, hcd⟩ := F.ex
  exact fn_of lk hcd S len fun A outer s H vs Q E hr hsp => bd cdv A outer s H vs Q E hr hsp
end
/-- a def that may raise, as its callers see it -/
structure DfN (P : Program) (w : World) (K : PySem.W.Frag) (mg : Str → Option Value) (base : Heap) (k : Nat) (x : Str) (ps : List Str) (sp : Sp) : Prop where
  ex : ∃ (f : Addr) (fd : FuncData), FnOk P w K mg base (L2N.CX P w) k f fd ps sp ∧ mg x = some (.ref f) ∧ PySem.W.keepIn K (.ref f) = true ∧ Binds K fd ps []
/-- around a call what it lets out is taken -/
theorem passN {X : Cx} {W : WX} {E : XK} (tk : L2N.Takes X W) (hW : ∀ cls d σ H, E cls d H → W cls d σ H) : Passes (L2N.CX X.prog X.w) X E := L2N.passes_call tk hW
section
variable {X : Cx} {k : Nat} {ps : List Str} {sp : Sp} {x : Str} {p pos : Pos} {e : Expr} {es : List Expr} {t : TA} {E : XK}
theorem pe_dfN (D : DfN X.prog X.w X.K X.mg X.base k x ps sp) (hr : Room k X.A) (hg : Gl X x) (hx : Passes (L2N.CX X.prog X.w) X E)
    (ha : PA X (e :: es) t) (hdb : (x == ("__debug__" : Str)) = false := by decide) (he : starEach (e :: es) X.env = (false, eval e X.env) :: starEach es X.env := by rfl) (hpl : (backTo pos (starEach es X.env)).any (·.1) = false := by rfl) :
    PE X (.Call (.Name x p) (e :: es) [] pos) (tCall sp [] E t) := by
  obtain ⟨f, fd, G, hm, hk, hb⟩ := D.ex
  exact pe_call G hr hg hm hk hb .nil hx ha hdb he hpl
end
/-! ### the lambda -/
section
variable {X : Cx} {pins : List (Addr × Obj)} {σ : L2.St} {H HZ : Hp} {s s1 : Shared}
/-- what is wished of an exception that leaves the lambda's body -/
abbrev lamXe (X : Cx) (A : Around) (outer : List Env) (s : Shared) (H : Hp) (E : XK) (scope : Scope) (f c' : Addr) : Value → Shared → Prop := fun e s' =>
  wpAny (model X.prog X.w) (A.deeper (LamX.lamEnv X scope s.heap.objs.size f c')) (leaving (LamX.lamEnv X scope s.heap.objs.size f c') e) (fun _ s'' => L2N.CX X.prog X.w outer H s E e s'') (fun e' s'' => L2N.CX X.prog X.w outer H s E e' s'') s'
abbrev lamN (X : Cx) (A : Around) (outer : List Env) (s : Shared) (H : Hp) (E : XK) (scope : Scope) (f c' : Addr) : Cx := (LamX.lamCx X A outer s H E scope f c').tr [] (lamXe X A outer s H E scope f c')
theorem lamN_takes {A : Around} {outer : List Env} {E : XK} {scope : Scope} {f c' : Addr} : L2N.Takes (lamN X A outer s H E scope f c') (fun cls d _ H' => E cls d H') := L2N.takes_of rfl rfl rfl rfl
/-- a(), in the def that got the lambda -/
theorem pe_actN {CXg : CXT} {Eg : XK} {Ng : List Str} {qg : Str} {sg : Scope} {g f c' : Addr} {cdg pm ctv : Value} {params : Arguments} {body : Expr} {scope : Scope} {k i : Nat} {a : Str} {pn : List (Addr × Obj)} {xe : Value → Shared → Prop} {W : WX} {E : XK} {tb : TE} {p1 p2 : Pos}
    (I : Inv X pins σ H s) (L : LamX.LamS X.env.scope scope) (hf : s.heap.get? f = some (PySem.W.kla_obj "<lambda>" (X.env.qual ++ "<lambda>") params body scope (cloFrom X.env.cells scope.names []) pm c' ctv)) (hfn : H f = none) (hfr : f ∉ frs X.stack)
    (hbind : bindArgs (PySem.W.kla_fn "<lambda>" (X.env.qual ++ "<lambda>") params body scope (cloFrom X.env.cells scope.names []) pm (.ref c') ctv) ⟨[], []⟩ = pure [])
    (tk : L2N.Takes ((cxOf CXg X.prog X.w X.K X.mg X.base Ng qg sg g cdg X.A X.stack s H Eg).tr pn xe) W) (hr : Room (k + 1) (X.A.deeper (envOfC qg sg s.heap.objs.size g cdg)))
    (hbody : ∀ (A : Around) (outer : List Env) (s : Shared) (H : Hp), A.guards = X.A.guards → Room k (A.deeper (LamX.lamEnv X scope s.heap.objs.size f c')) → PE (lamN X A outer s H E scope f c') body tb)
    (hN : Ng[i]? = some a) (hv : Vis sg a) (hd : (a == ("__debug__" : Str)) = false := by decide) (hcd : (a == ("__classdict__" : Str)) = false := by decide) :
    PE ((cxOf CXg X.prog X.w X.K X.mg X.base Ng qg sg g cdg X.A X.stack s H Eg).tr pn xe) (.Call (.Name a p1) [] [] p2)
      (fun σZ HZ Q => σZ[i]? = some (some (.ref f)) ∧ HZ c' = some (LamX.CodeO c' (X.env.qual ++ "<lambda>")) ∧ (∀ cls d H', E cls d H' → W cls d σZ H') ∧ tb σ HZ Q) := by
  refine ⟨fun pinsZ sZ σZ HZ Q IZ ⟨hs, hc, hW, ht⟩ => ?_⟩
  refine wpAny_Call_Name_kw (thn ((pe_var (pos := p1) (i := i) hN hv hd hcd).run pinsZ sZ σZ HZ (fun v H1 => v = .ref f ∧ H1 = HZ) IZ ⟨.ref f, hs, rfl, rfl⟩) fun u s1 ⟨v, H1, I1, r1, ev, eH⟩ => ?_)
  subst ev
  rw [eH] at I1
  cases (show u = Value.ref f from r1)
  have of1 := I1.base.keep f _ hf hfn hfr (fun z => nomatch (show f ∈ ([] : List Addr) from z))
  refine PySem.W.callWith_F0 ⟨_, _, _, _, of1⟩ ?_
  obtain ⟨⟨oc, vs, t, hoc, hdc, hvc⟩, _, _⟩ := I1.hok c' _ hc
  have rc : codeAny (model X.prog X.w) (X.A.deeper (envOfC qg sg s.heap.objs.size g cdg)) (.call (.ref f) ⟨[], []⟩) (CR (L2N.CX X.prog X.w) (envOfC qg sg s.heap.objs.size g cdg :: X.stack) X.prog X.w HZ s1 Q E) s1 := by
    refine PySem.W.kla_callFunE hr.depth of1 rfl L.co L.gen rfl ⟨c', oc, vs, t, rfl, hoc, hdc, hvc⟩ ?_
    rw [hbind]
    refine wpAny_pure (wpAny_newFunctionEnv (fun y hy => (L.own y hy).2) (fun y hy => absurd hy (by simp)) (fun h₁ hns hsb => ⟨I1.nolimit.fresh _ hsb, ?_⟩) L.kind)
    show codeAny _ _ (.expr body (LamX.lamEnv X scope s1.heap.objs.size f c')) _ _
    have kp : ∀ b o, s1.heap.get? b = some o → h₁.get? b = some o := fun b o e => hsb.extBut b o (Nat.ne_of_lt (Heap.lt_size e)) (Heap.get?_push_of_some _ e)
    have J := LamX.lam_start2 (E := E) (tk := s1.toks + ([] : List (Str × Value)).length) (c' := c') (f := f) I L I1.env0 hr.hd I1.base hns kp
    refine PySem.W.kla_codeExpr (wpAny_mono ((hbody (X.A.deeper (envOfC qg sg s.heap.objs.size g cdg)) _ s1 HZ rfl (hr.deeper _)).run [] _ _ HZ Q (J.toTry _) ht) (fun v s' hq => ?_) fun e s' hq => hq)
    obtain ⟨w', H', J', rv, q⟩ := hq
    exact ⟨w', H', J'.os, J'.bare, J'.base, J'.hok, rv, q⟩
  refine wpAny_call (codeAny_mono rc fun r s' hq => ?_)
  cases r with
  | error e => exact tk e s' (L2N.XE.of_call I1 hW hq)
  | ok fl =>
    cases fl with
    | ret u => exact I1.after hq
    | next => exact False.elim hq
    | brk => exact False.elim hq
    | cont => exact False.elim hq
end
/-- the def that calls what it got -/
def GivesN (X : Cx) (k : Nat) (Ng : List Str) (x : Str) (sg : Scope) (g : Addr) (cdg : Value) (bg : List Stmt) (a : Str) (q : Str) (TT : (XK → Hp → VK → Prop) → Hp → VK → Prop) : Prop :=
  ∀ (f c' : Addr) (s : Shared) (H : Hp) (Q : VK) (tl : XK → Hp → VK → Prop), Room (k + 1) (X.A.deeper (envOfC x sg s.heap.objs.size g cdg)) →
    (∀ (W : WX) (pn : List (Addr × Obj)) (xe : Value → Shared → Prop) (E : XK) (p1 p2 : Pos), L2N.Takes ((cxOf CX0 X.prog X.w X.K X.mg X.base Ng x sg g cdg X.A X.stack s H E0).tr pn xe) W →
      PE ((cxOf CX0 X.prog X.w X.K X.mg X.base Ng x sg g cdg X.A X.stack s H E0).tr pn xe) (.Call (.Name a p1) [] [] p2) (fun σZ HZ Q => σZ[0]? = some (some (.ref f)) ∧ HZ c' = some (LamX.CodeO c' q) ∧ (∀ cls d H', E cls d H' → W cls d σZ H') ∧ tl E HZ Q)) →
    H c' = some (LamX.CodeO c' q) → TT tl H Q →
    ∃ t, PSs (cxOf CX0 X.prog X.w X.K X.mg X.base Ng x sg g cdg X.A X.stack s H E0).nox bg t ∧ t { nx := fun _ H' => Q .non H', rt := Q } (L2.start Ng [.ref f]) H
section
variable {X : Cx}
/-- x(lambda: body) -/
theorem pe_lamN {T : List (Addr × Str)} {TT : (XK → Hp → VK → Prop) → Hp → VK → Prop} {x a : Str} {g c P : Addr} {k : Nat} {pg : Arguments} {bg : List Stmt} {sg : Scope} {dV kV doc pm cdv ct oc : Value} {an od : Option Addr} {osl : Array (Option Value)} {Ng : List Str}
    {params : Arguments} {body : Expr} {scope : Scope} {t : XK → TE} {p lpos pos : Pos} (hg : Gl X x) (hm : X.mg x = some (.ref g)) (hk : PySem.W.keepIn X.K (.ref g) = true)
    (lk : X.K.lookup g = some ⟨oc, od, .func (PySem.W.fnOf x x pg bg sg dV kV doc pm an cdv ct), osl⟩) (hcg : PySem.W.codeIn X.K cdv x = true) (hb : L2.Binds X.K (PySem.W.fnOf x x pg bg sg dV kV doc pm an cdv ct) [a] []) (Sg : FnScope Ng [a] sg) (hNg : Ng[0]? = some a) (hva : Vis sg a)
    (hG : GivesN X k Ng x sg g cdv bg a (X.env.qual ++ "<lambda>") TT)
    (TB : LamX.TabB X.base X.mg c P) (hcode : X.env.code = .ref c) (hmT : (P, X.env.qual ++ "<lambda>") ∈ T) (hu : ∀ p ∈ T, p.1 = P → p.2 = X.env.qual ++ "<lambda>") (hr : Room (k + 2) X.A) (L : LamX.LamS X.env.scope scope) (hdef : defaultsOf params X.env = ([], []))
    (hbind : ∀ (q : Str) (cl : List (Str × Addr)) (pm cv ctv : Value), bindArgs (PySem.W.kla_fn "<lambda>" q params body scope cl pm cv ctv) ⟨[], []⟩ = pure [])
    (hbody : ∀ (A : Around) (outer : List Env) (s : Shared) (H : Hp) (E : XK) (f c' : Addr), A.guards = X.A.guards → Room k (A.deeper (LamX.lamEnv X scope s.heap.objs.size f c')) → PE (lamN X A outer s H E scope f c') body (t E))
    (hdb : (x == ("__debug__" : Str)) = false := by decide) (hd : (a == ("__debug__" : Str)) = false := by decide) (hcd : (a == ("__classdict__" : Str)) = false := by decide) :
    PE X (.Call (.Name x p) [.Lambda params body scope lpos] [] pos) (LamX.tLam T TT t) := by
  refine ⟨fun pins s σ H Q I ⟨hT, h⟩ => wpAny_Call_Name_kw (ld_glob I hg hm (PySem.W.callWith_K (h₀ := X.base) I.ok.mod.kin hk ?_ (by rfl) (by rfl)) hdb)⟩
  show wpAny _ _ (spliced ((false, eval (.Lambda params body scope lpos) X.env) :: backTo pos (starEach [] X.env))) _ _ s
  refine Calls.spliced_cons (LamX.lam_make2 I TB hcode hmT hu hT hdef (L.has I.ok) fun f c' pm' ctv H1 s' I1 eN T1 hf hfn hfr hco => Calls.spliced_nil ⟨I1.kIn, ?_⟩)
  have rc : codeAny (model X.prog X.w) X.A (.call (.ref g) ⟨[.ref f], []⟩) (CR CX0 X.stack X.prog X.w H1 s' Q E0) s' := by
    refine LamX.run_ofS (N := Ng) (ps := [a]) (us := [.ref f]) (vs := [.ref f]) lk hcg Sg hr I1.env0 (hb s' [.ref f] I1.kIn rfl) (.cons rfl .nil) rfl fun hr' => ?_
    obtain ⟨t', ht', hq'⟩ := hG f c' s' H1 Q (fun E H' Q' => t E σ H' Q') hr' (fun W pn xe E p1 p2 tk => pe_actN (i := 0) I1 L hf hfn hfr (hbind _ _ _ _ _) tk hr' (fun A outer s H hgd hr2 => hbody A outer s H E f c' hgd hr2) hNg hva hd hcd) hco (h H1 eN T1)
    exact ⟨t', ht'.nox, hq'⟩
  refine wpAny_call (codeAny_mono rc fun r s2 hq => ?_)
  cases r with
  | error e => exact (show False from hq).elim
  | ok fl =>
    cases fl with
    | ret u => exact I1.after hq
    | next => exact False.elim hq
    | brk => exact False.elim hq
    | cont => exact False.elim hq
end
end RL

set_option maxHeartbeats 2000000
/-! Values of many kinds: what isinstance says of them; what they show. -/
namespace RL
open PySem L2 PySem.Spec PyProof.Rows
def tyN : PyData → String
  | .none => "NoneType"
  | .bool _ => "bool"
  | .int _ => "int"
  | .str _ => "str"
  | .list _ => "list"
  | .tuple _ => "tuple"
  | .dict _ => "dict"
theorem ty_dp {K : PySem.W.Frag} {H : Hp} {v : V} {d : PyData} (h : Dp K H v d) : TyX K H v (.type (tyN d)) := by
  cases h with
  | non => exact .base .non
  | bl b => exact .base (.bl b)
  | int i => exact .base (.int i)
  | str x => exact .base (.str x)
  | lst a b =>
    rcases a with (a | ⟨o, a⟩) | ⟨o, its, n, e, c, r⟩
    · exact .base (.lst a)
    · exact .base (.frz a)
    · exact .kList e c
  | tup a b =>
    rcases a with (a | ⟨o, a⟩) | ⟨o, its, n, e, c, r⟩
    · exact .base (.tup a)
    · exact .fTuple a
    · exact .kTuple e c
theorem ty_dq {K : PySem.W.Frag} {H : Hp} {v : V} {d : PyData} (h : Dq K H v d) : TyX K H v (.type (tyN d)) := by
  cases h with
  | dp a b => exact ty_dp a
  | dk a => exact .base (.dK a)
def isIntD : PyData → Bool
  | .int _ => true
  | _ => false
def isTupD : PyData → Bool
  | .tuple _ => true
  | _ => false
def isStrD : PyData → Bool
  | .str _ => true
  | _ => false
def intOrBool : PyData → Bool
  | .int _ => true
  | .bool _ => true
  | _ => false
def isBoolD : PyData → Bool
  | .bool _ => true
  | _ => false
theorem kit_int {K : PySem.W.Frag} (d : PyData) : PySem.W.kitOne K (.type (tyN d)) (.type "int") = some (intOrBool d) := by
  cases d <;> (simp only [tyN, intOrBool]; exact kit_ty (by decide +kernel))
theorem kit_bool {K : PySem.W.Frag} (d : PyData) : PySem.W.kitOne K (.type (tyN d)) (.type "bool") = some (isBoolD d) := by
  cases d <;> (simp only [tyN, isBoolD]; exact kit_ty (by decide +kernel))
theorem kit_tup {K : PySem.W.Frag} (d : PyData) : PySem.W.kitOne K (.type (tyN d)) (.type "tuple") = some (isTupD d) := by
  cases d <;> (simp only [tyN, isTupD]; exact kit_ty (by decide +kernel))
theorem kit_str {K : PySem.W.Frag} (d : PyData) : PySem.W.kitOne K (.type (tyN d)) (.type "str") = some (isStrD d) := by
  cases d <;> (simp only [tyN, isStrD]; exact kit_ty (by decide +kernel))
def withinD (d : PyData) (lo hi : Int) : Bool := match d with
  | .int i => decide (lo ≤ i) && decide (i ≤ hi)
  | _ => false
def pairD : PyData → Bool
  | .tuple [a, b] => isIntD a && isIntD b
  | _ => false
/-- what is a resistance -/
def resD : PyData → Bool
  | .int i => decide (0 ≤ i) && decide (i ≤ 1000000000000)
  | .tuple [.int a, .int b] => decide (a = 1 ∧ b = 0) || (decide (0 ≤ a) && decide (a ≤ 1000000000000) && (decide (1 ≤ b) && decide (b ≤ 1000000000000)))
  | _ => false
/-- a promise that asks more of its callers -/
theorem FnOk.weak {P : Program} {w : World} {K : PySem.W.Frag} {mg : Str → Option Value} {base : Heap} {CX : CXT} {k : Nat} {f : Addr} {fd : FuncData} {ps : List Str} {sp sp' : Sp} (F : FnOk P w K mg base CX k f fd ps sp) (h : ∀ vs H Q E, sp' vs H Q E → sp vs H Q E) : FnOk P w K mg base CX k f fd ps sp' :=
  ⟨fun vs H Q E q => F.len vs H Q E (h _ _ _ _ q), fun A outer s H args us vs Q E hr e0 hb r q => F.run A outer s H args us vs Q E hr e0 hb r (h _ _ _ _ q)⟩
end RL

set_option maxHeartbeats 2000000
namespace RL
open PySem L2 PySem.Spec PyProof.Rows
/-- the names of the errors' classes -/
structure TxE (mg : Str → Option Value) (c : Nat → Addr) : Prop where
  m0 : mg "NotAPattern" = some (.ref (c 0))
  m1 : mg "NotARun" = some (.ref (c 1))
  m2 : mg "InvalidResistance" = some (.ref (c 2))
  m3 : mg "InvalidCount" = some (.ref (c 3))
  m4 : mg "InvalidNumber" = some (.ref (c 4))
  m5 : mg "InvalidText" = some (.ref (c 5))
  m6 : mg "InvalidName" = some (.ref (c 6))
  m7 : mg "InvalidClaim" = some (.ref (c 7))
  m8 : mg "InvalidIndex" = some (.ref (c 8))
  m9 : mg "InvalidPieces" = some (.ref (c 9))
  m10 : mg "InvalidKinds" = some (.ref (c 10))
  m11 : mg "InvalidStretches" = some (.ref (c 11))
  m12 : mg "InvalidDeeds" = some (.ref (c 12))
  m13 : mg "UnknownName" = some (.ref (c 13))
  m14 : mg "InUse" = some (.ref (c 14))
  m15 : mg "TooMany" = some (.ref (c 15))
  m16 : mg "Broken" = some (.ref (c 16))
  m17 : mg "NoLimit" = some (.ref (c 17))
  m18 : mg "NothingToUndo" = some (.ref (c 18))
  m19 : mg "WrongValue" = some (.ref (c 19))
  m20 : mg "WrongName" = some (.ref (c 20))
  m21 : mg "NoAnswer" = some (.ref (c 21))
  vV : mg "ValueError" = none
  vL : mg "LookupError" = none
  vA : mg "ArithmeticError" = none
/-- the classes that are asked, in the order of the asking -/
def tv (c : Nat → Addr) (j : Nat) : Value := if j < 22 then .ref (c j) else if j = 22 then .type "ValueError" else if j = 23 then .type "LookupError" else .type "ArithmeticError"
def IsRow (K : PySem.W.Frag) (c : Nat → Addr) (C : Addr) (b : Nat → Bool) : Prop := ∀ j, j < 25 → PySem.W.kitOne K (.ref C) (tv c j) = some (b j)
def fnd (b : Nat → Bool) (k n : Nat) : List V := (List.range n).map fun j => V.bl (b (k + j))
def ans (b : Nat → Bool) : List V := ((List.range 19).filter b).map (fun j => V.int (j : Nat)) ++ ((List.range 6).filter fun j => b (19 + j)).map (fun j => V.int (20 + (j : Nat)))
def spClsP (K : PySem.W.Frag) (c : Nat → Addr) : Addr × Obj → Sp := fun p vs H Q _ => ∃ (C : Addr) (b : Nat → Bool), vs = [.ref p.1] ∧ XC K C ∧ Px p C H ∧ IsRow K c C b ∧
  ∀ H' l, Same H H' → H l = none → H' l = some (.lst (ans b)) → Q (.ref l) H'
theorem fnd_at {b : Nat → Bool} {k n i : Nat} (h : i < n) : (fnd b k n)[i]? = some (.bl (b (k + i))) := by
  unfold fnd
  rw [List.getElem?_map, List.getElem?_range h]
  rfl
theorem rng_len {α : Type} {b : Nat → Bool} {f : Nat → α} {i : Nat} (h : i < 19) : (((List.range i).filter b).map f).length ≤ 1000 := by
  have h1 := List.length_filter_le b (List.range i)
  rw [List.length_range] at h1
  rw [List.length_map]
  omega
theorem rng_yes {α : Type} {b : Nat → Bool} {f : Nat → α} {i : Nat} (h : b i = true) : ((List.range (i + 1)).filter b).map f = ((List.range i).filter b).map f ++ [f i] := by
  rw [List.range_succ, List.filter_append, List.map_append]
  simp [h]
theorem rng_no {α : Type} {b : Nat → Bool} {f : Nat → α} {i : Nat} (h : ¬ b i = true) : ((List.range (i + 1)).filter b).map f = ((List.range i).filter b).map f := by
  rw [List.range_succ, List.filter_append, List.map_append]
  simp [h]
theorem pnH {CX : CXT} {P : Program} {w : World} {K : PySem.W.Frag} {mg : Str → Option Value} {base : Heap} {N : List Str} {qual : Str} {scope : Scope} {f : Addr} {cd : Value} {A : Around} {outer : List Env} {s : Shared} {H : Hp} {E : XK} {p : Addr × Obj} :
    p ∈ (L2H.cxH CX P w K mg base N qual scope f cd A outer s H E p).pn := List.mem_cons_self
/-! ### an error of the package -/
def fldOf (j : Nat) : Str := if j < 9 ∨ j = 13 then "given" else if j = 15 then "most" else "index"
/-- a class of errors: its number, what it answers -/
structure EC (K : PySem.W.Frag) (c : Nat → Addr) (C : Addr) (j : Nat) (as : List Int) : Prop where
  xc : XC K C
  row : ∃ b, IsRow K c C b ∧ ans b = as.map V.int
  any : PySem.W.exmAny K (.ref C) [.ref (c 19), .ref (c 20), .ref (c 21)] = some true
  hd : as.head? = some (j : Int)
  lt : j < 17
  no : PySem.W.findIn K (.ref C) (fldOf j) = some none
  tl : as.length ≤ 10
/-- what _law_caught makes of an exception -/
def cgtX (K : PySem.W.Frag) (c : Nat → Addr) (Q : VK) : XK := fun cls d H => ∃ (C : Addr) (j : Nat) (as : List Int) (dx : Addr) (v : V) (e : PyData), cls = .ref C ∧ EC K c C j as ∧ d = some dx ∧ H dx = some (.xd [(fldOf j, v)]) ∧
  Dq K H v e ∧ e.showable = true ∧ e.depth ≤ 40 ∧ e.shown.length ≤ sizeLine ∧ ∀ H' l, Same H H' → H' l = some (.lst (as.map V.int ++ [.str e.shown])) → Q (.ref l) H'
/-- _law_caught(lambda: ..): the reading, from that of the lambda's body -/
def TTc (K : PySem.W.Frag) (c : Nat → Addr) (rR : List V → Hp → VK → Prop) : (XK → Hp → VK → Prop) → Hp → VK → Prop := fun tl H Q =>
  tl (cgtX K c Q) H fun v H2 => rR [v] H2 fun r H3 => ∀ l, H3 l = none → Q (.ref l) (upd H3 l (.lst [.str (Str.ofString "given"), r]))
theorem pss_all {X : Cx} {b : List Stmt} {cls : Value} {d : Option Addr} {t : Obj → TS} (oe : Obj) (hz : L2N.Zn cls d oe) (hf : ∃ vs, oe.data = .fields vs) (h : PSs X b (t oe)) : PSs X b (fun D σ H => ∀ oe, L2N.Zn cls d oe → (∃ vs, oe.data = .fields vs) → t oe D σ H) :=
  ⟨fun pins s σ H D I q => h.run pins s σ H D I (q oe hz hf)⟩
section
variable {P : Program} {w : World} {K : PySem.W.Frag} {mg : Str → Option Value} {base : Heap} {c : Nat → Addr}
abbrev s_law_classes : Stmt := top 55
theorem sc_law_classes : FnScope ["_law_e", "_law_found", "_law_above", "_law_at"] ["_law_e"] (defScope s_law_classes) := ⟨rfl, rfl, rfl, by decide +kernel, rfl, by decide +kernel, by decide +kernel⟩

theorem ok_clsP {f : Addr} {fd : FuncData} (F : Fun K "_law_classes" "_law_classes" s_law_classes f fd) (T : Txt K mg) (TE : TxE mg c) (Z : XK0 K) : FnE P w K mg base 1 f fd ["_law_e"] (spClsP K c) := by
  refine okE F sc_law_classes (fun p vs H Q E h => ?_) (fun cdv A outer s H vs Q p hot hr h => ?_)
  · obtain ⟨C, b, rfl, _⟩ := h
    rfl
  · obtain ⟨C, b, rfl, xc, ex, row, k⟩ := h
    obtain ⟨a, ob⟩ := p
    generalize hp : ((a, ob) : Addr × Obj) = p at *
    have ea : p.1 = a := by rw [← hp]
    refine ⟨_, (C8.pss_cut (ps_set (i := 1) sc_law_classes.nd rfl (.inr rfl) (pe_lst (pa_cons (pe_callB (call_isP Z pnH) (by rfl) T.isinstance (by decide +kernel) (pa_cons (pv 0) (pa_cons (pe_glob (v := .ref (c 0)) rfl TE.m0 rfl) pa_nil))) (pa_cons (pe_callB (call_isP Z pnH) (by rfl) T.isinstance (by decide +kernel) (pa_cons (pv 0) (pa_cons (pe_glob (v := .ref (c 1)) rfl TE.m1 rfl) pa_nil))) pa_nil))))
      (C8.pss_cut (ps_set (i := 1) sc_law_classes.nd rfl (.inr rfl) (pe_op op_cat (pv 1) (pe_lst (pa_cons (pe_callB (call_isP Z pnH) (by rfl) T.isinstance (by decide +kernel) (pa_cons (pv 0) (pa_cons (pe_glob (v := .ref (c 2)) rfl TE.m2 rfl) pa_nil))) (pa_cons (pe_callB (call_isP Z pnH) (by rfl) T.isinstance (by decide +kernel) (pa_cons (pv 0) (pa_cons (pe_glob (v := .ref (c 3)) rfl TE.m3 rfl) pa_nil))) pa_nil)))))
      (C8.pss_cut (ps_set (i := 1) sc_law_classes.nd rfl (.inr rfl) (pe_op op_cat (pv 1) (pe_lst (pa_cons (pe_callB (call_isP Z pnH) (by rfl) T.isinstance (by decide +kernel) (pa_cons (pv 0) (pa_cons (pe_glob (v := .ref (c 4)) rfl TE.m4 rfl) pa_nil))) (pa_cons (pe_callB (call_isP Z pnH) (by rfl) T.isinstance (by decide +kernel) (pa_cons (pv 0) (pa_cons (pe_glob (v := .ref (c 5)) rfl TE.m5 rfl) pa_nil))) (pa_cons (pe_callB (call_isP Z pnH) (by rfl) T.isinstance (by decide +kernel) (pa_cons (pv 0) (pa_cons (pe_glob (v := .ref (c 6)) rfl TE.m6 rfl) pa_nil))) pa_nil))))))
      (C8.pss_cut (ps_set (i := 1) sc_law_classes.nd rfl (.inr rfl) (pe_op op_cat (pv 1) (pe_lst (pa_cons (pe_callB (call_isP Z pnH) (by rfl) T.isinstance (by decide +kernel) (pa_cons (pv 0) (pa_cons (pe_glob (v := .ref (c 7)) rfl TE.m7 rfl) pa_nil))) (pa_cons (pe_callB (call_isP Z pnH) (by rfl) T.isinstance (by decide +kernel) (pa_cons (pv 0) (pa_cons (pe_glob (v := .ref (c 8)) rfl TE.m8 rfl) pa_nil))) pa_nil)))))
      (C8.pss_cut (ps_set (i := 1) sc_law_classes.nd rfl (.inr rfl) (pe_op op_cat (pv 1) (pe_lst (pa_cons (pe_callB (call_isP Z pnH) (by rfl) T.isinstance (by decide +kernel) (pa_cons (pv 0) (pa_cons (pe_glob (v := .ref (c 9)) rfl TE.m9 rfl) pa_nil))) (pa_cons (pe_callB (call_isP Z pnH) (by rfl) T.isinstance (by decide +kernel) (pa_cons (pv 0) (pa_cons (pe_glob (v := .ref (c 10)) rfl TE.m10 rfl) pa_nil))) (pa_cons (pe_callB (call_isP Z pnH) (by rfl) T.isinstance (by decide +kernel) (pa_cons (pv 0) (pa_cons (pe_glob (v := .ref (c 11)) rfl TE.m11 rfl) pa_nil))) pa_nil))))))
      (C8.pss_cut (ps_set (i := 1) sc_law_classes.nd rfl (.inr rfl) (pe_op op_cat (pv 1) (pe_lst (pa_cons (pe_callB (call_isP Z pnH) (by rfl) T.isinstance (by decide +kernel) (pa_cons (pv 0) (pa_cons (pe_glob (v := .ref (c 12)) rfl TE.m12 rfl) pa_nil))) (pa_cons (pe_callB (call_isP Z pnH) (by rfl) T.isinstance (by decide +kernel) (pa_cons (pv 0) (pa_cons (pe_glob (v := .ref (c 13)) rfl TE.m13 rfl) pa_nil))) (pa_cons (pe_callB (call_isP Z pnH) (by rfl) T.isinstance (by decide +kernel) (pa_cons (pv 0) (pa_cons (pe_glob (v := .ref (c 14)) rfl TE.m14 rfl) pa_nil))) pa_nil))))))
      (C8.pss_cut (ps_set (i := 1) sc_law_classes.nd rfl (.inr rfl) (pe_op op_cat (pv 1) (pe_lst (pa_cons (pe_callB (call_isP Z pnH) (by rfl) T.isinstance (by decide +kernel) (pa_cons (pv 0) (pa_cons (pe_glob (v := .ref (c 15)) rfl TE.m15 rfl) pa_nil))) (pa_cons (pe_callB (call_isP Z pnH) (by rfl) T.isinstance (by decide +kernel) (pa_cons (pv 0) (pa_cons (pe_glob (v := .ref (c 16)) rfl TE.m16 rfl) pa_nil))) pa_nil)))))
      (C8.pss_cut (ps_set (i := 1) sc_law_classes.nd rfl (.inr rfl) (pe_op op_cat (pv 1) (pe_lst (pa_cons (pe_callB (call_isP Z pnH) (by rfl) T.isinstance (by decide +kernel) (pa_cons (pv 0) (pa_cons (pe_glob (v := .ref (c 17)) rfl TE.m17 rfl) pa_nil))) (pa_cons (pe_callB (call_isP Z pnH) (by rfl) T.isinstance (by decide +kernel) (pa_cons (pv 0) (pa_cons (pe_glob (v := .ref (c 18)) rfl TE.m18 rfl) pa_nil))) pa_nil)))))
      (C8.pss_cut (ps_set (i := 2) sc_law_classes.nd rfl (.inr rfl) (pe_lst (pa_cons (pe_callB (call_isP Z pnH) (by rfl) T.isinstance (by decide +kernel) (pa_cons (pv 0) (pa_cons (pe_glob (v := .ref (c 19)) rfl TE.m19 rfl) pa_nil))) (pa_cons (pe_callB (call_isP Z pnH) (by rfl) T.isinstance (by decide +kernel) (pa_cons (pv 0) (pa_cons (pe_glob (v := .ref (c 20)) rfl TE.m20 rfl) pa_nil))) (pa_cons (pe_callB (call_isP Z pnH) (by rfl) T.isinstance (by decide +kernel) (pa_cons (pv 0) (pa_cons (pe_glob (v := .ref (c 21)) rfl TE.m21 rfl) pa_nil))) pa_nil)))))
      (C8.pss_cut (ps_set (i := 2) sc_law_classes.nd rfl (.inr rfl) (pe_op op_cat (pv 2) (pe_lst (pa_cons (pe_callB (call_isP Z pnH) (by rfl) T.isinstance (by decide +kernel) (pa_cons (pv 0) (pa_cons (pe_bltn (v := .ty "ValueError") (by rfl) TE.vV (by decide +kernel) rfl) pa_nil))) (pa_cons (pe_callB (call_isP Z pnH) (by rfl) T.isinstance (by decide +kernel) (pa_cons (pv 0) (pa_cons (pe_bltn (v := .ty "LookupError") (by rfl) TE.vL (by decide +kernel) rfl) pa_nil))) (pa_cons (pe_callB (call_isP Z pnH) (by rfl) T.isinstance (by decide +kernel) (pa_cons (pv 0) (pa_cons (pe_bltn (v := .ty "ArithmeticError") (by rfl) TE.vA (by decide +kernel) rfl) pa_nil))) pa_nil))))))
      (pss_one (ps_ret (pe_op op_cat (pe_lcP (p := p) (own := [("_law_at", 3)]) (g := gName 3) hot pnH sc_law_classes.nd (L2H.pi_range1H rfl T.range (pa_cons pe_int pa_nil)) (blkOk_by (N := ["_law_e", "_law_found", "_law_above", "_law_at"]) (sc := defScope s_law_classes) (by decide +kernel)) (fun _ _ _ _ _ => pg_name (i := 3) sc_law_classes.nd rfl (Or.inl rfl)) (fun _ _ _ _ _ => (pts_one (pt_val (pe_ix (r := rIxL K) ix_list (pv 1) (pv 3) (fun _ _ => rfl))))) (fun _ _ _ _ _ => (pv 3))) (pe_lcP (p := p) (own := [("_law_at", 3)]) (g := gName 3) hot pnH sc_law_classes.nd (L2H.pi_range1H rfl T.range (pa_cons pe_int pa_nil)) (blkOk_by (N := ["_law_e", "_law_found", "_law_above", "_law_at"]) (sc := defScope s_law_classes) (by decide +kernel)) (fun _ _ _ _ _ => pg_name (i := 3) sc_law_classes.nd rfl (Or.inl rfl)) (fun _ _ _ _ _ => (pts_one (pt_val (pe_ix (r := rIxL K) ix_list (pv 2) (pv 3) (fun _ _ => rfl))))) (fun _ _ _ _ _ => (pe_op op_add pe_int (pv 3))))))))))))))))), ?_⟩
    have r := fun j (hj : j < 25) => row j hj
    refine ⟨fun σ' H' => ∃ q, σ' = [some (.ref p.1), some (.ref q), none, none] ∧ Same H H' ∧ H' q = some (.lst (fnd b 0 2)), ?_, ?_⟩
    · refine ⟨_, rfl, C, _, _, _, rfl, .own _, xc, ex, r 0 (by decide), _, rfl, C, _, _, _, rfl, .own _, xc, ex, r 1 (by decide), (by show 2 ≤ sizeLine; decide), fun q o => ?_⟩
      exact ⟨q, rfl, new_upd o, upd_same⟩
    rintro σ1 H1 ⟨q, rfl, s1, l1⟩
    have e1 := ex.same s1
    refine ⟨fun σ' H' => ∃ q, σ' = [some (.ref p.1), some (.ref q), none, none] ∧ Same H H' ∧ H' q = some (.lst (fnd b 0 4)), ?_, ?_⟩
    · refine ⟨_, rfl, _, rfl, C, _, _, _, rfl, .own _, xc, e1, r 2 (by decide), _, rfl, C, _, _, _, rfl, .own _, xc, e1, r 3 (by decide), (by show 2 ≤ sizeLine; decide), fun p np => ⟨q, p, _, _, rfl, rfl, new_upd np _ _ l1, upd_same, (by show 4 ≤ sizeLine; decide), fun z nz => ?_⟩⟩
      exact ⟨z, rfl, (s1.trans (new_upd np)).trans (new_upd nz), upd_same⟩
    clear s1 l1 e1
    rintro σ1 H1 ⟨q, rfl, s1, l1⟩
    have e1 := ex.same s1
    refine ⟨fun σ' H' => ∃ q, σ' = [some (.ref p.1), some (.ref q), none, none] ∧ Same H H' ∧ H' q = some (.lst (fnd b 0 7)), ?_, ?_⟩
    · refine ⟨_, rfl, _, rfl, C, _, _, _, rfl, .own _, xc, e1, r 4 (by decide), _, rfl, C, _, _, _, rfl, .own _, xc, e1, r 5 (by decide), _, rfl, C, _, _, _, rfl, .own _, xc, e1, r 6 (by decide), (by show 3 ≤ sizeLine; decide), fun p np => ⟨q, p, _, _, rfl, rfl, new_upd np _ _ l1, upd_same, (by show 7 ≤ sizeLine; decide), fun z nz => ?_⟩⟩
      exact ⟨z, rfl, (s1.trans (new_upd np)).trans (new_upd nz), upd_same⟩
    clear s1 l1 e1
    rintro σ1 H1 ⟨q, rfl, s1, l1⟩
    have e1 := ex.same s1
    refine ⟨fun σ' H' => ∃ q, σ' = [some (.ref p.1), some (.ref q), none, none] ∧ Same H H' ∧ H' q = some (.lst (fnd b 0 9)), ?_, ?_⟩
    · refine ⟨_, rfl, _, rfl, C, _, _, _, rfl, .own _, xc, e1, r 7 (by decide), _, rfl, C, _, _, _, rfl, .own _, xc, e1, r 8 (by decide), (by show 2 ≤ sizeLine; decide), fun p np => ⟨q, p, _, _, rfl, rfl, new_upd np _ _ l1, upd_same, (by show 9 ≤ sizeLine; decide), fun z nz => ?_⟩⟩
      exact ⟨z, rfl, (s1.trans (new_upd np)).trans (new_upd nz), upd_same⟩
    clear s1 l1 e1
    rintro σ1 H1 ⟨q, rfl, s1, l1⟩
    have e1 := ex.same s1
    refine ⟨fun σ' H' => ∃ q, σ' = [some (.ref p.1), some (.ref q), none, none] ∧ Same H H' ∧ H' q = some (.lst (fnd b 0 12)), ?_, ?_⟩
    · refine ⟨_, rfl, _, rfl, C, _, _, _, rfl, .own _, xc, e1, r 9 (by decide), _, rfl, C, _, _, _, rfl, .own _, xc, e1, r 10 (by decide), _, rfl, C, _, _, _, rfl, .own _, xc, e1, r 11 (by decide), (by show 3 ≤ sizeLine; decide), fun p np => ⟨q, p, _, _, rfl, rfl, new_upd np _ _ l1, upd_same, (by show 12 ≤ sizeLine; decide), fun z nz => ?_⟩⟩
      exact ⟨z, rfl, (s1.trans (new_upd np)).trans (new_upd nz), upd_same⟩
    clear s1 l1 e1
    rintro σ1 H1 ⟨q, rfl, s1, l1⟩
    have e1 := ex.same s1
    refine ⟨fun σ' H' => ∃ q, σ' = [some (.ref p.1), some (.ref q), none, none] ∧ Same H H' ∧ H' q = some (.lst (fnd b 0 15)), ?_, ?_⟩
    · refine ⟨_, rfl, _, rfl, C, _, _, _, rfl, .own _, xc, e1, r 12 (by decide), _, rfl, C, _, _, _, rfl, .own _, xc, e1, r 13 (by decide), _, rfl, C, _, _, _, rfl, .own _, xc, e1, r 14 (by decide), (by show 3 ≤ sizeLine; decide), fun p np => ⟨q, p, _, _, rfl, rfl, new_upd np _ _ l1, upd_same, (by show 15 ≤ sizeLine; decide), fun z nz => ?_⟩⟩
      exact ⟨z, rfl, (s1.trans (new_upd np)).trans (new_upd nz), upd_same⟩
    clear s1 l1 e1
    rintro σ1 H1 ⟨q, rfl, s1, l1⟩
    have e1 := ex.same s1
    refine ⟨fun σ' H' => ∃ q, σ' = [some (.ref p.1), some (.ref q), none, none] ∧ Same H H' ∧ H' q = some (.lst (fnd b 0 17)), ?_, ?_⟩
    · refine ⟨_, rfl, _, rfl, C, _, _, _, rfl, .own _, xc, e1, r 15 (by decide), _, rfl, C, _, _, _, rfl, .own _, xc, e1, r 16 (by decide), (by show 2 ≤ sizeLine; decide), fun p np => ⟨q, p, _, _, rfl, rfl, new_upd np _ _ l1, upd_same, (by show 17 ≤ sizeLine; decide), fun z nz => ?_⟩⟩
      exact ⟨z, rfl, (s1.trans (new_upd np)).trans (new_upd nz), upd_same⟩
    clear s1 l1 e1
    rintro σ1 H1 ⟨q, rfl, s1, l1⟩
    have e1 := ex.same s1
    refine ⟨fun σ' H' => ∃ q, σ' = [some (.ref p.1), some (.ref q), none, none] ∧ Same H H' ∧ H' q = some (.lst (fnd b 0 19)), ?_, ?_⟩
    · refine ⟨_, rfl, _, rfl, C, _, _, _, rfl, .own _, xc, e1, r 17 (by decide), _, rfl, C, _, _, _, rfl, .own _, xc, e1, r 18 (by decide), (by show 2 ≤ sizeLine; decide), fun p np => ⟨q, p, _, _, rfl, rfl, new_upd np _ _ l1, upd_same, (by show 19 ≤ sizeLine; decide), fun z nz => ?_⟩⟩
      exact ⟨z, rfl, (s1.trans (new_upd np)).trans (new_upd nz), upd_same⟩
    clear s1 l1 e1
    rintro σ1 H1 ⟨q, rfl, s1, l1⟩
    have e1 := ex.same s1
    refine ⟨fun σ' H' => ∃ q z, σ' = [some (.ref p.1), some (.ref q), some (.ref z), none] ∧ Same H H' ∧ H' q = some (.lst (fnd b 0 19)) ∧ H' z = some (.lst (fnd b 19 3)), ?_, ?_⟩
    · refine ⟨_, rfl, C, _, _, _, rfl, .own _, xc, e1, r 19 (by decide), _, rfl, C, _, _, _, rfl, .own _, xc, e1, r 20 (by decide), _, rfl, C, _, _, _, rfl, .own _, xc, e1, r 21 (by decide), (by show 3 ≤ sizeLine; decide), fun z nz => ?_⟩
      exact ⟨q, z, rfl, s1.trans (new_upd nz), new_upd nz _ _ l1, upd_same⟩
    clear s1 l1 e1
    rintro σ1 H1 ⟨q, z, rfl, s1, l1, l2⟩
    have e1 := ex.same s1
    refine ⟨fun σ' H' => ∃ q z, σ' = [some (.ref p.1), some (.ref q), some (.ref z), none] ∧ Same H H' ∧ H' q = some (.lst (fnd b 0 19)) ∧ H' z = some (.lst (fnd b 19 6)), ?_, ?_⟩
    · refine ⟨_, rfl, _, rfl, C, _, _, _, rfl, .ty _, xc, e1, r 22 (by decide), _, rfl, C, _, _, _, rfl, .ty _, xc, e1, r 23 (by decide), _, rfl, C, _, _, _, rfl, .ty _, xc, e1, r 24 (by decide), (by show 3 ≤ sizeLine; decide), fun p np => ⟨z, p, _, _, rfl, rfl, new_upd np _ _ l2, upd_same, (by show 6 ≤ sizeLine; decide), fun y ny => ?_⟩⟩
      exact ⟨q, y, rfl, (s1.trans (new_upd np)).trans (new_upd ny), new_upd ny _ _ (new_upd np _ _ l1), upd_same⟩
    clear s1 l1 l2 e1
    rintro σ1 H1 ⟨q, z, rfl, s1, l1, l2⟩
    refine ⟨19, rfl, by decide, by decide, fun D hD => ?_⟩
    have hSq := SqL.of (K := K) l1
    have hSz := SqL.of (K := K) l2
    refine lc_range (lo := 0) (fun i H' => But D H1 H' ∧ H' D = some (.lst (((List.range i).filter b).map fun j => V.int (j : Nat)))) ⟨But.upd, upd_same⟩ ?_ ?_
    · rintro i H2 hi ⟨bD, hDi⟩
      rw [Int.zero_add]
      refine ⟨rfl, ?_⟩
      refine ⟨_, rfl, _, rfl, q, _, _, _, rfl, rfl, SqL.of (bD _ _ (ne_of_none l1 hD) l1), atI_nat (j := i) (fnd_at (show i < 19 from hi)), ?_⟩
      rw [Nat.zero_add]
      refine ⟨_, rfl, ite2 (fun e => ?_) (fun e => ?_)⟩
      · refine ⟨_, rfl, _, hDi, small1000 (rng_len (show i < 19 from hi)), bD.trans But.upd, ?_⟩
        rw [upd_same, rng_yes e]
      · exact ⟨bD, by rw [rng_no e]; exact hDi⟩
    · rintro H2 ⟨bD, hD2⟩
      have nzD := ne_of_none l2 hD
      have s2 : Same H H2 := fun y o ey => bD _ _ (ne_of_none (s1 _ _ ey) hD) (s1 _ _ ey)
      have nD : H D = none := s1.free hD
      refine ⟨6, rfl, by decide, by decide, fun G hG => ?_⟩
      have hGD := new_upd (o := .lst []) hG
      refine lc_range (lo := 0) (fun i H' => But G H2 H' ∧ H' G = some (.lst (((List.range i).filter fun j => b (19 + j)).map fun j => V.int (20 + (j : Nat))))) ⟨But.upd, upd_same⟩ ?_ ?_
      · rintro i H3 hi ⟨bG, hGi⟩
        rw [Int.zero_add]
        refine ⟨rfl, ?_⟩
        have l3 := bG _ _ (ne_of_none (bD _ _ nzD l2) hG) (bD _ _ nzD l2)
        refine ⟨_, rfl, _, rfl, z, _, _, _, rfl, rfl, SqL.of l3, atI_nat (j := i) (fnd_at (show i < 6 from hi)), ?_⟩
        refine ⟨_, rfl, ite2 (fun e => ?_) (fun e => ?_)⟩
        · refine ⟨_, rfl, _, _, rfl, rfl, _, hGi, small1000 (rng_len (show i < 19 by have : i < 6 := hi; omega)), bG.trans But.upd, ?_⟩
          rw [upd_same, rng_yes (b := fun j => b (19 + j)) e]
        · exact ⟨bG, by rw [rng_no (b := fun j => b (19 + j)) e]; exact hGi⟩
      · rintro H3 ⟨bG, hG3⟩
        have hD3 := bG _ _ (ne_of_none hD2 hG) hD2
        have s3 : Same H H3 := fun y o ey => bG _ _ (ne_of_none (s2 _ _ ey) hG) (s2 _ _ ey)
        refine ⟨D, G, _, _, rfl, rfl, hD3, hG3, ?_, fun l nl => ?_⟩
        · have h1 := List.length_filter_le b (List.range 19)
          have h2 := List.length_filter_le (fun j => b (19 + j)) (List.range 6)
          rw [List.length_map, List.length_map]
          rw [List.length_range] at h1 h2
          exact Nat.le_trans (Nat.add_le_add h1 h2) (by decide)
        · exact k _ l (s3.trans (new_upd nl)) (s3.free nl) upd_same
end
end RL

set_option maxHeartbeats 2000000
namespace RL
open PySem L2 PySem.Spec PyProof.Rows
theorem lamS_dec {sc scope : Scope} (h : LamX.lamSB sc scope = true) : LamX.LamS sc scope := LamX.lamS_by h
def TTg (K : PySem.W.Frag) (c : Nat → Addr) (rR : List V → Hp → VK → Prop) : (XK → Hp → VK → Prop) → Hp → VK → Prop := fun tl H Q =>
  tl (cgtX K c Q) H fun v H2 => rR [v] H2 fun r H3 => [V.str (Str.ofString "given"), r].length ≤ sizeLine ∧ ∀ l, H3 l = none → Q (.ref l) (upd H3 l (.lst [V.str (Str.ofString "given"), r]))
abbrev s_law_caught : Stmt := top 56
theorem sc_law_caught : FnScope ["_law_act", "_law_e", "_law_found"] ["_law_act"] (defScope s_law_caught) := ⟨rfl, rfl, rfl, by decide +kernel, rfl, by decide +kernel, by decide +kernel⟩

/-- the def that catches, and what it leans on -/
structure CgtD (P : Program) (w : World) (K : PySem.W.Frag) (mg : Str → Option Value) (base : Heap) (c : Nat → Addr) (kr : Nat) (rR : List V → Hp → VK → Prop) : Prop where
  T : Txt K mg
  TE : TxE mg c
  ex : ∃ (g : Addr) (fd : FuncData), Fun K "_law_caught" "_law_caught" s_law_caught g fd ∧ mg "_law_caught" = some (.ref g)
  cls : DfE P w K mg base 1 "_law_classes" ["_law_e"] (spClsP K c)
  rp : ∀ X : Cx, X.prog = P → X.w = w → X.K = K → X.mg = mg → X.base = base → X.A.guards = some [] → Room kr X.A → CallR X (.builtin "repr") rR
theorem hot_of {A : Around} {a : Addr} {cls : Value} {d : Option Addr} {oe : Obj} (hz : L2N.Zn cls d oe) (hf : ∃ vs, oe.data = .fields vs) : L2H.Hot1 (A.mark (some (.ref a))) (a, oe) := by
  obtain ⟨vs, hv⟩ := hf
  exact ⟨rfl, vs, hv, hz.2.2 vs hv⟩
section
variable {X : Cx} {c : Nat → Addr} {kr : Nat} {rR : List V → Hp → VK → Prop}
theorem caught_gives {k : Nat} {q : Str} {g : Addr} {cdg : Value} (CG : CgtD X.prog X.w X.K X.mg X.base c kr rR) (hgd : X.A.guards = some []) (hk : kr ≤ k + 1) (hk1 : 1 ≤ k) :
    GivesN X k ["_law_act", "_law_e", "_law_found"] "_law_caught" (defScope s_law_caught) g cdg (defBody s_law_caught) "_law_act" q (TTg X.K c rR) := by
  intro f c' s H Q tl hr hact hc hT
  have T := CG.T
  have TE := CG.TE
  have D_law_classes := CG.cls
  have hgS : (X.A.deeper (envOfC "_law_caught" (defScope s_law_caught) s.heap.objs.size g cdg)).guards = some [] := hgd
  have huS := hr.units
  have hk2 : 1 ≤ k + 1 := by omega
  have sc := sc_law_caught
  refine ⟨_, pss_one (ps_try_as3 (X := (cxOf CX0 X.prog X.w X.K X.mg X.base ["_law_act", "_law_e", "_law_found"] "_law_caught" (defScope s_law_caught) g cdg X.A X.stack s H E0).nox) (i := 1) (c1 := .ref (c 19)) (c2 := .ref (c 20)) (c3 := .ref (c 21))
    (tb := fun W D σ H => ∃ Ech : XK, σ[0]? = some (some (.ref f)) ∧ H c' = some (LamX.CodeO c' q) ∧ (∀ cls d H', Ech cls d H' → W cls d σ H') ∧ tl Ech H fun v H2 => rR [v] H2 fun r H3 => [V.str (Str.ofString "given"), r].length ≤ sizeLine ∧ ∀ p, H3 p = none → D.rt (.ref p) (upd H3 p (.lst [V.str (Str.ofString "given"), r])))
    rfl rfl sc.nd rfl rfl ⟨rfl, by decide, .inl TE.m19⟩ ⟨rfl, by decide, .inl TE.m20⟩ ⟨rfl, by decide, .inl TE.m21⟩ (fun W pn xe tk _ => ⟨fun pins s' σ H' D I h => ?_⟩)
    (fun a oe cls d pn hz hf => pss_all (cls := cls) (d := d) oe hz hf (pss_cons (ps_set (i := 2) sc_law_caught.nd rfl (.inl rfl) (pe_dfE D_law_classes (L2H.roomH_mark (hr.mono hk2) (some (.ref a))) (hot_of hz hf) List.mem_cons_self (by rfl) (pa_cons (pv 1) pa_nil)))
      (pss_cons (ps_if (PW.pt (pw_or (pt_cmpR op_lt (pe_ix (r := rIxL X.K) ix_list (pv 2) pe_int (fun _ _ => rfl)) pe_int (nomark _)) (pw_or1 (pt_cmpR op_eq (pe_ix (r := rIxL X.K) ix_list (pv 2) pe_int (fun _ _ => rfl)) pe_int (nomark _))))) (pss_one (ps_ret (pe_op op_cat (pv 2) (pe_lst (pa_cons (pe_callB (cr_rpK (K := X.K) hgS huS) (by rfl) T.repr (by decide +kernel) (pa_cons (pe_pfdK (K := X.K) (p := (a, oe)) List.mem_cons_self (pv 1)) pa_nil)) pa_nil))))) pss_nil)
      (pss_cons (ps_if (pt_cmpR op_eq (pe_ix (r := rIxL X.K) ix_list (pv 2) pe_int (fun _ _ => rfl)) pe_int (nomark _)) (pss_one (ps_ret (pe_op op_cat (pv 2) (pe_lst (pa_cons (pe_callB (cr_rpK (K := X.K) hgS huS) (by rfl) T.repr (by decide +kernel) (pa_cons (pe_pfdK (K := X.K) (p := (a, oe)) List.mem_cons_self (pv 1)) pa_nil)) pa_nil))))) pss_nil)
      (pss_one (ps_ret (pe_ifExp (pt_cmpR op_lt (pe_ix (r := rIxL X.K) ix_list (pv 2) pe_int (fun _ _ => rfl)) pe_int (nomark _)) (pe_op op_cat (pv 2) (pe_lst (pa_cons (pe_callB (cr_rpK (K := X.K) hgS huS) (by rfl) T.repr (by decide +kernel) (pa_cons (pe_pfdK (K := X.K) (p := (a, oe)) List.mem_cons_self (pv 1)) pa_nil)) pa_nil))) (pv 2))))))))), ?_⟩
  · obtain ⟨Ech, h1, h2, h3, h4⟩ := h
    exact (pss_one (ps_ret (pe_lst (pa_cons pe_str (pa_cons (pe_callB (CG.rp ((cxOf CX0 X.prog X.w X.K X.mg X.base ["_law_act", "_law_e", "_law_found"] "_law_caught" (defScope s_law_caught) g cdg X.A X.stack s H E0).tr pn xe) rfl rfl rfl rfl rfl hgS (hr.mono hk)) (by rfl) T.repr (by decide +kernel) (pa_cons (hact W pn xe Ech _ _ tk) pa_nil)) pa_nil))))).run pins s' σ H' D I ⟨h1, h2, h3, h4⟩
  · refine ⟨cgtX X.K c Q, rfl, hc, fun cls d H1 hE => ?_, hT⟩
    obtain ⟨C, j, as, dx, v, e, rfl, ec, rfl, hd, hq, q1, q2, q3, kf⟩ := hE
    refine ⟨ec.any, fun a na oe hz hf => ?_⟩
    obtain ⟨b, row, eb⟩ := ec.row
    have px : Px (a, oe) C H1 := ⟨hz.1, hf, .inr ⟨dx, _, hz.2.1, hd⟩⟩
    obtain ⟨rest, rfl⟩ : ∃ rest, as = (j : Int) :: rest := by
      have h0 := ec.hd
      cases as with
      | nil => cases h0
      | cons x r =>
        cases h0
        exact ⟨r, rfl⟩
    have lr : rest.length + 1 ≤ 10 := ec.tl
    refine ⟨_, rfl, C, b, rfl, ec.xc, px, row, fun H2 l s2 nl hl => ?_⟩
    rw [eb, List.map_cons] at hl
    have hd2 := s2 _ _ hd
    have hq2 := hq.same s2
    have no := ec.no
    have fin : ∀ {H3 : Hp} {p : Addr} {R : Addr → Hp → Prop}, H3 p = none → Same H1 H3 → H3 l = some (.lst (V.int (j : Int) :: List.map V.int rest)) → (∀ H4 q, Same H3 H4 → H4 q = some (.lst ((V.int (j : Int) :: List.map V.int rest) ++ [V.str e.shown])) → R q H4) →
        ∃ (l1 l2 : Addr) (xs ys : List V), V.ref l = .ref l1 ∧ V.ref p = .ref l2 ∧ (upd H3 p (.lst [V.str e.shown])) l1 = some (.lst xs) ∧ (upd H3 p (.lst [V.str e.shown])) l2 = some (.lst ys) ∧ xs.length + ys.length ≤ sizeLine ∧ ∀ q, (upd H3 p (.lst [V.str e.shown])) q = none → R q (upd (upd H3 p (.lst [V.str e.shown])) q (.lst (xs ++ ys))) := fun {H3 p R} np s3 hl3 kk =>
      ⟨l, p, _, _, rfl, rfl, new_upd np _ _ hl3, upd_same, (by
        rw [List.length_cons, List.length_map, List.length_singleton]
        exact Nat.le_of_lt (small1000 (by omega))), fun q nq => kk _ q ((new_upd np).trans (new_upd nq)) upd_same⟩
    have at0 : ∀ {xs : List V}, atI (V.int (j : Int) :: xs) 0 = some (V.int (j : Int)) := fun {xs} => atI_nat (j := 0) rfl
    have given : (j < 9 ∨ j = 13) → fldOf j = Str.ofString "given" := fun z => if_pos z
    have doneG : (j < 9 ∨ j = 13) → ∀ {nx : L2.St → Hp → Prop}, True := fun _ _ => trivial
    refine ⟨_, rfl, l, _, _, _, rfl, rfl, SqL.of hl, at0, _, _, rfl, rfl, _, rfl, ite2 (fun z => ?_) (fun z => ⟨_, rfl, l, _, _, _, rfl, rfl, SqL.of hl, at0, rfl, _, rfl, ite2 (fun z2 => ?_) (fun z2 => ?_)⟩)⟩
    · have zj : (j : Int) < 9 := of_decide_eq_true z
      have ef := given (.inl (by omega))
      rw [ef] at hd2 no
      refine ⟨_, rfl, _, rfl, C, dx, _, v, rfl, ec.xc, no, hz.1, hf, hz.2.1, hd2, rfl, v, e, rfl, hq2, q1, q2, q3, (by show 1 ≤ sizeLine; decide), fun p np => ?_⟩
      exact fin np s2 hl fun H4 q s4 h4 => kf _ q (s2.trans s4) h4
    · have zj : (j : Int) = 13 := V.int.inj (of_decide_eq_true z2)
      have ef := given (.inr (by omega))
      rw [ef] at hd2 no
      refine ⟨_, rfl, _, rfl, C, dx, _, v, rfl, ec.xc, no, hz.1, hf, hz.2.1, hd2, rfl, v, e, rfl, hq2, q1, q2, q3, (by show 1 ≤ sizeLine; decide), fun p np => ?_⟩
      exact fin np s2 hl fun H4 q s4 h4 => kf _ q (s2.trans s4) h4
    · have y1 : ¬ (j : Int) < 9 := fun y => z (decide_eq_true y)
      have y2 : ¬ (j : Int) = 13 := fun y => z2 (decide_eq_true (congrArg V.int y))
      have nb : ¬ (j < 9 ∨ j = 13) := by omega
      refine ⟨_, rfl, l, _, _, _, rfl, rfl, SqL.of hl, at0, rfl, _, rfl, ite2 (fun z3 => ?_) (fun z3 => ?_)⟩
      · have zj : (j : Int) = 15 := V.int.inj (of_decide_eq_true z3)
        have ef : fldOf j = Str.ofString "most" := by
          unfold fldOf
          rw [if_neg nb, if_pos (by omega)]
        rw [ef] at hd2 no
        refine ⟨_, rfl, _, rfl, C, dx, _, v, rfl, ec.xc, no, hz.1, hf, hz.2.1, hd2, rfl, v, e, rfl, hq2, q1, q2, q3, (by show 1 ≤ sizeLine; decide), fun p np => ?_⟩
        exact fin np s2 hl fun H4 q s4 h4 => kf _ q (s2.trans s4) h4
      · have y3 : ¬ (j : Int) = 15 := fun y => z3 (decide_eq_true (congrArg V.int y))
        have lt := ec.lt
        refine ⟨_, rfl, l, _, _, _, rfl, rfl, SqL.of hl, at0, _, _, rfl, rfl, _, rfl, ite2 (fun z4 => ?_) (fun z4 => absurd (decide_eq_true (show (j : Int) < 17 by omega)) z4)⟩
        have ef : fldOf j = Str.ofString "index" := by
          unfold fldOf
          rw [if_neg nb, if_neg (by omega)]
        rw [ef] at hd2 no
        refine ⟨_, rfl, _, rfl, C, dx, _, v, rfl, ec.xc, no, hz.1, hf, hz.2.1, hd2, rfl, v, e, rfl, hq2, q1, q2, q3, (by show 1 ≤ sizeLine; decide), fun p np => ?_⟩
        exact fin np s2 hl fun H4 q s4 h4 => kf _ q (s2.trans s4) h4
/-- _law_caught(lambda: body) -/
theorem pe_cgt {k : Nat} {T : List (Addr × Str)} {cA PA : Addr} {params : Arguments} {body : Expr} {scope : Scope} {t : XK → TE} {p lpos pos : Pos} (CG : CgtD X.prog X.w X.K X.mg X.base c kr rR) (hgd : X.A.guards = some []) (hk : kr ≤ k + 1) (hk1 : 1 ≤ k)
    (TB : LamX.TabB X.base X.mg cA PA) (hcode : X.env.code = .ref cA) (hmT : (PA, X.env.qual ++ "<lambda>") ∈ T) (hu : ∀ p ∈ T, p.1 = PA → p.2 = X.env.qual ++ "<lambda>") (hr : Room (k + 2) X.A) (hL : LamX.lamSB X.env.scope scope = true)
    (hbody : ∀ (A : Around) (outer : List Env) (s : Shared) (H : Hp) (E : XK) (f c' : Addr), A.guards = some [] → Room k (A.deeper (LamX.lamEnv X scope s.heap.objs.size f c')) → PE (lamN X A outer s H E scope f c') body (t E))
    (hg : Gl X "_law_caught" := by rfl) (hdef : defaultsOf params X.env = ([], []) := by rfl) (hbind : ∀ (q : Str) (cl : List (Str × Addr)) (pm cv ctv : Value), bindArgs (PySem.W.kla_fn "<lambda>" q params body scope cl pm cv ctv) ⟨[], []⟩ = pure [] := by intros; rfl) :
    PE X (.Call (.Name "_law_caught" p) [.Lambda params body scope lpos] [] pos) (LamX.tLam T (TTg X.K c rR) t) := by
  obtain ⟨g, fd, F, hm⟩ := CG.ex
  obtain ⟨oc, od, kV, doc, pm, an, cdv, ct, osl, rfl, lk, hcd⟩ := F.ex
  have b := F.binds (ps := ["_law_act"]) fun _ _ _ _ _ _ us hl => match us, hl with | [_], _ => rfl
  exact pe_lamN hg hm F.kp lk hcd b sc_law_caught rfl (.inl rfl) (caught_gives CG hgd hk hk1) TB hcode hmT hu hr (LamX.lamS_by hL) hdef hbind (fun A outer s H E f c' hA hr2 => hbody A outer s H E f c' (hA.trans hgd) hr2)
end
end RL

set_option maxHeartbeats 2000000
/-! len of an own object; own operators, methods, makings that may raise. -/
namespace RL
open PySem L2 PySem.Spec PyProof.Rows
section
variable {X : Cx} {k : Nat} {ps : List Str} {sp : Sp} {C g : Addr} {fd : FuncData} {E : XK}
/-- a own + b that may raise -/
def rBinN (C : Addr) (sp : Sp) (E : XK) : R2 := fun x y H Q => ∃ a dx fs b dy gs, x = .ref a ∧ H a = some (.ins C dx fs) ∧ y = .ref b ∧ H b = some (.ins C dy gs) ∧ sp [x, y] H Q E
theorem op_binOwnN {op : Operator} (hc : PySem.W.selfFirst X.K C = true) (hs : PySem.W.findIn X.K (.ref C) (PySem.dunder op.info.2) = some (some (.ref g))) (hf : PySem.W.isFn X.K (.ref g) = true) (F : FnOk X.prog X.w X.K X.mg X.base (L2N.CX X.prog X.w) k g fd ps sp) (hb : Binds X.K fd ps []) (hr : Room k X.A)
    (hx : Passes (L2N.CX X.prog X.w) X E) : OpR X (binaryOp op) (rBinN C sp E) := by
  intro pins s σ H x y v u Q I rx ry h
  obtain ⟨a, dx, fs, b, dy, gs, rfl, ha, rfl, hy, q⟩ := h
  cases (show v = Value.ref a from rx)
  cases (show u = Value.ref b from ry)
  obtain ⟨mA, O, _⟩ := ins_get I.hok ha
  obtain ⟨od, J, _⟩ := O.look
  obtain ⟨mB, O2, _⟩ := ins_get I.hok hy
  obtain ⟨od2, J2, _⟩ := O2.look
  obtain ⟨m, hF⟩ := I.fr
  have q0 : sp ([.ref a, .ref b] ++ []) H Q E := q
  refine PySem.W.binop_K hF I.ok.mod.kin J J2.type hc hs hf (wpAny_mono (run_fn (us := [.ref a, .ref b]) (vs := [.ref a, .ref b]) F hr hb .nil hx I (.cons rfl (.cons rfl .nil)) q0) (fun w s' ⟨z', H', I', rz, qz⟩ => ?_) fun _ _ z => z)
  exact SlX.cmpback rz ⟨z', H', I', rz, qz⟩
/-- len(o), o's class has a __len__ -/
def rLenOwn (C : Addr) (sp : Sp) : List V → Hp → VK → Prop := fun vs H Q => ∃ a dx fs, vs = [.ref a] ∧ H a = some (.ins C dx fs) ∧ sp [.ref a] H (fun v H' => ∃ n : Nat, v = .int (n : Int) ∧ n ≤ 1000 ∧ Q (.int (n : Int)) H') E0
theorem call_lenOwn (hs : PySem.W.findIn X.K (.ref C) "__len__" = some (some (.ref g))) (hf : PySem.W.isFn X.K (.ref g) = true) (F : FnOk X.prog X.w X.K X.mg X.base CX0 k g fd ps sp) (hb : Binds X.K fd ps []) (hr : Room (k + 1) X.A) : CallR X (.builtin "len") (rLenOwn C sp) := by
  intro pins s σ H vs us Q I r h
  obtain ⟨a, dx, fs, rfl, ha, q⟩ := h
  rw [Vals.ref1 r]
  obtain ⟨mA, O, _⟩ := ins_get I.hok ha
  obtain ⟨od, J, _⟩ := O.look
  obtain ⟨m, hF⟩ := I.fr
  have hl : ([Value.ref a] ++ []).length = ps.length := F.len _ _ _ _ q
  refine PySem.W.len_K hF I.ok.mod.kin J hs hf (wpAny_call (codeAny_mono (F.run X.A.in1 X.stack s H ⟨[.ref a], []⟩ [.ref a] [.ref a] _ E0 hr.in1 I.env0.in1 (hb s [.ref a] I.kIn hl) (.cons rfl .nil) q) fun z s' hq => ?_))
  match z, hq with
  | .ok (.ret w'), hq =>
    obtain ⟨v', H', I', rv, n, e, hn, qz⟩ := I.after hq
    subst e
    obtain ⟨t, e2⟩ := (show ∃ t, w' = Value.int (n : Int) t from rv)
    subst e2
    exact ⟨⟨by omega, by omega⟩, .int (n : Int), H', I'.tok _, ⟨_, rfl⟩, qz⟩
end
end RL

namespace RL
open PySem L2
/-! ### data that repr shows, put together -/
structure Tame (w h : Nat) (d : PyData) : Prop where
  s : d.showable = true
  n : d.hasDict = false
  v : d.leavesShort 300 = true
  w_ : d.weight ≤ w
  d_ : d.depth ≤ h
theorem Tame.shows {w h : Nat} {d : PyData} (t : Tame w h d) (hw : w ≤ 10000 := by decide) (hh : h ≤ 40 := by decide) : Shows d := by
  refine ⟨t.s, t.n, Nat.le_trans t.d_ hh, ?_⟩
  have e := PyData.shown_le 300 (by decide) d t.v
  have := Nat.le_trans t.w_ hw
  rw [sizeLine_eq]
  omega
theorem Tame.mono {w h w' h' : Nat} {d : PyData} (t : Tame w h d) (hw : w ≤ w' := by decide) (hh : h ≤ h' := by decide) : Tame w' h' d := ⟨t.s, t.n, t.v, Nat.le_trans t.w_ hw, Nat.le_trans t.d_ hh⟩
theorem tame_int {i : Int} (h : Sm 200 i) : Tame 200 0 (.int i) := by
  obtain ⟨a, b, c⟩ := show_int h
  exact ⟨a, by simp only [PyData.hasDict], b, c, by simp only [PyData.depth]; exact Nat.le_refl _⟩
theorem tame_all {w h : Nat} : ∀ {xs : List PyData}, (∀ d ∈ xs, Tame w h d) → PyData.showableAll xs = true ∧ PyData.hasDictAll xs = false ∧ PyData.leavesShortAll 300 xs = true ∧ PyData.weightAll xs ≤ xs.length * (w + 1) ∧ PyData.depthAll xs ≤ h
  | [], _ => ⟨by simp only [PyData.showableAll], by simp only [PyData.hasDictAll], by simp only [PyData.leavesShortAll], by simp [PyData.weightAll], by simp [PyData.depthAll]⟩
  | x :: xs, H => by
    obtain ⟨a, b, c, d, e⟩ := H x List.mem_cons_self
    obtain ⟨a', b', c', d', e'⟩ := tame_all fun z hz => H z (List.mem_cons_of_mem _ hz)
    refine ⟨by simp only [PyData.showableAll, a, a', Bool.and_self], by simp only [PyData.hasDictAll, b, b', Bool.or_self], by simp only [PyData.leavesShortAll, c, c', Bool.and_self], ?_, ?_⟩
    · simp only [PyData.weightAll, List.length_cons]
      have : (xs.length + 1) * (w + 1) = xs.length * (w + 1) + (w + 1) := Nat.succ_mul _ _
      omega
    · simp only [PyData.depthAll]
      omega
theorem tame_tup {w h : Nat} {xs : List PyData} (H : ∀ d ∈ xs, Tame w h d) : Tame (xs.length * (w + 1)) (h + 1) (.tuple xs) := by
  obtain ⟨a, b, c, d, e⟩ := tame_all H
  exact ⟨by simp only [PyData.showable, a], by simp only [PyData.hasDict, b], by simp only [PyData.leavesShort, c], by simp only [PyData.weight]; exact d, by simp only [PyData.depth]; omega⟩
theorem tame_lst {w h : Nat} {xs : List PyData} (H : ∀ d ∈ xs, Tame w h d) : Tame (xs.length * (w + 1)) (h + 1) (.list xs) := by
  obtain ⟨a, b, c, d, e⟩ := tame_all H
  exact ⟨by simp only [PyData.showable, a], by simp only [PyData.hasDict, b], by simp only [PyData.leavesShort, c], by simp only [PyData.weight]; exact d, by simp only [PyData.depth]; omega⟩
theorem tame_2 {w h : Nat} {x y : PyData} (hx : Tame w h x) (hy : Tame w h y) : Tame (2 * (w + 1)) (h + 1) (.tuple [x, y]) := tame_tup (xs := [x, y]) fun d hd => by
  simp only [List.mem_cons, List.not_mem_nil, or_false] at hd
  rcases hd with rfl | rfl
  · exact hx
  · exact hy
theorem tame_l2 {w h : Nat} {x y : PyData} (hx : Tame w h x) (hy : Tame w h y) : Tame (2 * (w + 1)) (h + 1) (.list [x, y]) := tame_lst (xs := [x, y]) fun d hd => by
  simp only [List.mem_cons, List.not_mem_nil, or_false] at hd
  rcases hd with rfl | rfl
  · exact hx
  · exact hy
end RL

/-! When two rows show the same: their four fractions. -/
namespace RL
theorem step_det (m : Mx) (p : Pc) : (stepM m p).a * (stepM m p).d - (stepM m p).b * (stepM m p).c = (if p.1 = true then 1 else p.2 * p.2) * (m.a * m.d - m.b * m.c) := by
  unfold stepM
  split <;> dsimp <;> grind
theorem fold_det (r : List Pc) : ∀ (m : Mx) (s : Int), m.a * m.d - m.b * m.c = s * s → (r.foldl stepM m).a * (r.foldl stepM m).d - (r.foldl stepM m).b * (r.foldl stepM m).c = (r.foldl stepS s) * (r.foldl stepS s) := by
  induction r with
  | nil => exact fun _ _ h => h
  | cons p r ih =>
    intro m s h
    rw [List.foldl_cons, List.foldl_cons]
    refine ih _ _ ?_
    rw [step_det, h]
    unfold stepS
    split
    · omega
    · grind
theorem matR_det (r : List Pc) : (matR r).a * (matR r).d - (matR r).b * (matR r).c = sclR r * sclR r := fold_det r m1 1 (by decide)
theorem low_cross {x y : Int × Int} (hx : Pos2 x) (hy : Pos2 y) (h : low x = low y) : ∃ g k : Int, 0 < g ∧ 0 < k ∧ sc k x = sc g y := by
  refine ⟨gc x.1 x.2, gc y.1 y.2, gc_pos2 hx, gc_pos2 hy, ?_⟩
  have e1 := low_is hx
  have e2 := low_is hy
  rw [h] at e1
  generalize gc x.1 x.2 = g at *
  generalize gc y.1 y.2 = k at *
  generalize low y = l at *
  rw [e1, e2]
  unfold sc
  ext <;> dsimp <;> grind
theorem sq_eq {x y : Int} (hx : 0 < x) (hy : 0 < y) (h : x * x = y * y) : x = y := by
  have e : (x - y) * (x + y) = 0 := by grind
  rcases Int.mul_eq_zero.mp e with z | z <;> omega
/-- shown alike in front of three loads: the maps are alike but for a factor -/
theorem three {A B C D s A' B' C' D' s' g1 k1 g2 k2 : Int} (hs : 0 < s) (hs' : 0 < s') (hg1 : 0 < g1) (hk1 : 0 < k1) (hg2 : 0 < g2) (hk2 : 0 < k2) (d : A * D - B * C = s * s) (d' : A' * D' - B' * C' = s' * s')
    (a1 : k1 * A = g1 * A') (c1 : k1 * C = g1 * C') (b2 : k2 * B = g2 * B') (d2 : k2 * D = g2 * D') (h3 : (A + B) * (C' + D') = (A' + B') * (C + D)) :
    A * s' = A' * s ∧ B * s' = B' * s ∧ C * s' = C' * s ∧ D * s' = D' * s := by
  have hss : 0 < s * s := Int.mul_pos hs hs
  have e1 : g2 * k1 * (s * s) = g1 * k2 * (s * s) := by
    have : g1 * g2 * ((A + B) * (C' + D')) = g1 * g2 * ((A' + B') * (C + D)) := by rw [h3]
    have l : g1 * g2 * ((A + B) * (C' + D')) = (A + B) * (g2 * (g1 * C') + g1 * (g2 * D')) := by grind
    have r : g1 * g2 * ((A' + B') * (C + D)) = (g2 * (g1 * A') + g1 * (g2 * B')) * (C + D) := by grind
    rw [l, r, ← c1, ← d2, ← a1, ← b2] at this
    rw [← d]
    grind
  have e2 : g2 * k1 = g1 * k2 := Int.eq_of_mul_eq_mul_right (by omega) e1
  have e3 : g1 * g2 * (s' * s') = k1 * k2 * (s * s) := by
    rw [← d, ← d']
    have : g1 * g2 * (A' * D' - B' * C') = (g1 * A') * (g2 * D') - (g2 * B') * (g1 * C') := by grind
    rw [this, ← a1, ← d2, ← b2, ← c1]
    grind
  have e4 : g2 * ((g1 * s') * (g1 * s')) = g2 * ((k1 * s) * (k1 * s)) := by
    have l : g2 * ((g1 * s') * (g1 * s')) = g1 * (g1 * g2 * (s' * s')) := by grind
    have r : g2 * ((k1 * s) * (k1 * s)) = (g2 * k1) * k1 * (s * s) := by grind
    rw [l, r, e3, e2]
    grind
  have e5 : (g1 * s') * (g1 * s') = (k1 * s) * (k1 * s) := Int.eq_of_mul_eq_mul_left (by omega) e4
  have e6 : g1 * s' = k1 * s := sq_eq (Int.mul_pos hg1 hs') (Int.mul_pos hk1 hs) e5
  have e7 : g2 * s' = k2 * s := by
    refine Int.eq_of_mul_eq_mul_left (a := g1) (by omega) ?_
    have l : g1 * (g2 * s') = g2 * (g1 * s') := by grind
    have r : g1 * (k2 * s) = (g1 * k2) * s := by grind
    rw [l, r, e6, ← e2]
    grind
  have fin : ∀ {g k X X' : Int}, 0 < g → k * X = g * X' → g * s' = k * s → X * s' = X' * s := fun {g k X X'} hg h1 h2 => by
    refine Int.eq_of_mul_eq_mul_left (a := g) (by omega) ?_
    have l : g * (X * s') = X * (g * s') := by grind
    have r : g * (X' * s) = (g * X') * s := by grind
    rw [l, r, h2, ← h1]
    grind
  exact ⟨fin hg1 a1 e6, fin hg2 b2 e7, fin hg1 c1 e6, fin hg2 d2 e7⟩
def fourOf (r : List Pc) : (Int × Int) × (Int × Int) × (Int × Int) × (Int × Int) := (low ((matR r).a, sclR r), low ((matR r).b, sclR r), low ((matR r).c, sclR r), low ((matR r).d, sclR r))
theorem low_frac_iff {x s x' s' : Int} (hs : 0 < s) (hs' : 0 < s') (h : x * s' = x' * s) : low (x, s) = low (x', s') := by
  obtain ⟨e1, e2⟩ := low_eq hs hs' h
  unfold low
  ext
  · exact e2
  · exact e1
theorem low_frac_back {x s x' s' : Int} (hs : 0 < s) (hs' : 0 < s') (h : low (x, s) = low (x', s')) : x * s' = x' * s := by
  have a := low_frac (x := x) hs
  have b := low_frac (x := x') hs'
  have h1 : x / gc x s = x' / gc x' s' := congrArg Prod.fst h
  have h2 : s / gc x s = s' / gc x' s' := congrArg Prod.snd h
  rw [← h1, ← h2] at b
  obtain ⟨a0, a1⟩ := a
  obtain ⟨b0, b1⟩ := b
  generalize x / gc x s = u at *
  generalize s / gc x s = v at *
  refine Int.eq_of_mul_eq_mul_left (a := v) (by omega) ?_
  have l : v * (x * s') = (v * x) * s' := by grind
  have r : v * (x' * s) = (v * x') * s := by grind
  rw [l, r, ← a1, ← b1]
  grind
/-- the same four fractions: the same shown in front of every load -/
theorem four_shows {r r' : List Pc} {e : Int × Int} (hr : RowOk r) (hr' : RowOk r') (h : fourOf r = fourOf r') : low ((matR r).app e) = low ((matR r').app e) := by
  have s0 := sclR_pos hr
  have s0' := sclR_pos hr'
  unfold fourOf at h
  simp only [Prod.mk.injEq] at h
  obtain ⟨h1, h2, h3, h4⟩ := h
  have a := low_frac_back s0 s0' h1
  have b := low_frac_back s0 s0' h2
  have c := low_frac_back s0 s0' h3
  have d := low_frac_back s0 s0' h4
  rw [← low_sc s0', ← low_sc s0 ((matR r').app e)]
  congr 1
  unfold sc Mx.app
  ext
  · dsimp
    grind
  · dsimp
    grind
/-- shown alike in front of 0, 1 and an open end: the same four fractions -/
theorem shows_four {r r' : List Pc} (hr : RowOk r) (hr' : RowOk r') (h0 : low ((matR r).app (0, 1)) = low ((matR r').app (0, 1))) (h1 : low ((matR r).app (1, 1)) = low ((matR r').app (1, 1))) (h2 : low ((matR r).app (1, 0)) = low ((matR r').app (1, 0))) : fourOf r = fourOf r' := by
  have p0 : Pos2 (0, 1) := ⟨by decide, by decide, .inr (by decide)⟩
  have p1 : Pos2 (1, 1) := ⟨by decide, by decide, .inr (by decide)⟩
  have p2 : Pos2 (1, 0) := ⟨by decide, by decide, .inl (by decide)⟩
  obtain ⟨g2, k2, hg2, hk2, e2⟩ := low_cross (app_pos hr p0) (app_pos hr' p0) h0
  obtain ⟨g1, k1, hg1, hk1, e1⟩ := low_cross (app_pos hr p2) (app_pos hr' p2) h2
  obtain ⟨g3, k3, hg3, hk3, e3⟩ := low_cross (app_pos hr p1) (app_pos hr' p1) h1
  unfold sc Mx.app at e1 e2 e3
  simp only [Prod.mk.injEq, Int.mul_zero, Int.mul_one, Int.zero_add, Int.add_zero] at e1 e2 e3
  have s0 := sclR_pos hr
  have s0' := sclR_pos hr'
  have cr : ((matR r).a + (matR r).b) * ((matR r').c + (matR r').d) = ((matR r').a + (matR r').b) * ((matR r).c + (matR r).d) := by
    obtain ⟨x1, x2⟩ := e3
    refine Int.eq_of_mul_eq_mul_left (a := k3 * g3) (by have := Int.mul_pos hk3 hg3; omega) ?_
    have l : k3 * g3 * (((matR r).a + (matR r).b) * ((matR r').c + (matR r').d)) = (k3 * ((matR r).a + (matR r).b)) * (g3 * ((matR r').c + (matR r').d)) := by grind
    have r0 : k3 * g3 * (((matR r').a + (matR r').b) * ((matR r).c + (matR r).d)) = (g3 * ((matR r').a + (matR r').b)) * (k3 * ((matR r).c + (matR r).d)) := by grind
    rw [l, r0, x1, x2]
  obtain ⟨fa, fb, fc, fd⟩ := three s0 s0' hg1 hk1 hg2 hk2 (matR_det r) (matR_det r') e1.1 e1.2 e2.1 e2.2 cr
  unfold fourOf
  rw [low_frac_iff s0 s0' fa, low_frac_iff s0 s0' fb, low_frac_iff s0 s0' fc, low_frac_iff s0 s0' fd]
end RL

/-! Limits of ladders: their equations, fixed points. -/
namespace RL
/-! ### a closer bound of a row's map -/
def MxLe (N : Int) (m : Mx) : Prop := 0 ≤ m.a ∧ m.a ≤ N ∧ 0 ≤ m.b ∧ m.b ≤ N ∧ 0 ≤ m.c ∧ m.c ≤ N ∧ 0 ≤ m.d ∧ m.d ≤ N
theorem step_le {m : Mx} {p : Pc} {N : Int} (hp : PcOk p) (h : MxLe N m) : MxLe (13 * N) (stepM m p) := by
  obtain ⟨a0, a1, b0, b1, c0, c1, d0, d1⟩ := h
  obtain ⟨o1, o2⟩ := hp
  have up : ∀ x : Int, 0 ≤ x → x ≤ N → 0 ≤ x * p.2 ∧ x * p.2 ≤ 12 * N := fun x h0 h1 => by
    refine ⟨Int.mul_nonneg h0 (by omega), ?_⟩
    have e1 : x * p.2 ≤ x * 12 := Int.mul_le_mul_of_nonneg_left o2 h0
    omega
  have ua := up _ a0 a1
  have ub := up _ b0 b1
  have uc := up _ c0 c1
  have ud := up _ d0 d1
  unfold stepM MxLe
  split <;> (dsimp only; omega)
theorem fold_le {r : List Pc} : ∀ {m : Mx} {N : Int}, RowOk r → MxLe N m → MxLe (13 ^ r.length * N) (r.foldl stepM m) := by
  induction r with
  | nil =>
    intro m N _ h
    show MxLe (13 ^ 0 * N) m
    rw [Int.pow_zero, Int.one_mul]
    exact h
  | cons p r ih =>
    intro m N hr h
    have := ih hr.tail (step_le hr.head h)
    rw [List.foldl_cons, show (p :: r).length = r.length + 1 from rfl, Int.pow_succ]
    rw [← Int.mul_assoc] at this
    exact this
theorem matR_le {r : List Pc} (hr : RowOk r) (l8 : r.length ≤ 8) : MxLe 815730721 (matR r) := by
  have h := fold_le (N := 1) hr (m := m1) ⟨by decide, by decide, by decide, by decide, by decide, by decide, by decide, by decide⟩
  have e : (13 : Int) ^ r.length * 1 ≤ 815730721 := by
    rw [Int.mul_one]
    have e8 : (13 : Int) ^ 8 = 815730721 := by decide
    rw [← e8]
    have h8 : (13 : Nat) ^ r.length ≤ 13 ^ 8 := Nat.pow_le_pow_right (by decide) l8
    have c1 : ((13 ^ r.length : Nat) : Int) = (13 : Int) ^ r.length := by rw [Int.natCast_pow]; rfl
    have c2 : ((13 ^ 8 : Nat) : Int) = (13 : Int) ^ 8 := by decide
    rw [← c1, ← c2]
    exact Int.ofNat_le.mpr h8
  obtain ⟨a0, a1, b0, b1, c0, c1, d0, d1⟩ := h
  exact ⟨a0, Int.le_trans a1 e, b0, Int.le_trans b1 e, c0, Int.le_trans c1 e, d0, Int.le_trans d1 e⟩
theorem sm30 {x : Int} (h0 : 0 ≤ x) (h1 : x ≤ 815730721) : Sm 30 x := by
  unfold Sm
  omega
theorem matR_sm30 {r : List Pc} (hr : RowOk r) (l8 : r.length ≤ 8) : MxSm 30 (matR r) := by
  obtain ⟨a0, a1, b0, b1, c0, c1, d0, d1⟩ := matR_le hr l8
  exact ⟨sm30 a0 a1, sm30 b0 b1, sm30 c0 c1, sm30 d0 d1⟩
/-! ### the equation of the limit -/
def eqL (r : List Pc) : Int × Int × Int := if (matR r).b = 0 then (0, 1, 0) else parts (matR r).c ((matR r).d - (matR r).a) (matR r).b
theorem eqL_good {r : List Pc} (hr : RowOk r) (hc : (matR r).c ≠ 0) : Good (eqL r).1 (eqL r).2.1 (eqL r).2.2 := by
  unfold eqL
  obtain ⟨a0, b0, c0, d0, _⟩ := matR_ok hr
  split
  · exact .inl ⟨rfl, by decide, by decide⟩
  · rename_i z
    exact (parts_nrm (.inr ⟨by omega, by omega⟩)).good
theorem dvd_cop {t c u : Int} (h : t ∣ c * u) (g : Int.gcd t u = 1) : t ∣ c := by
  have h1 : t.natAbs ∣ c.natAbs * u.natAbs := by
    rw [← Int.natAbs_mul]
    exact Int.natAbs_dvd_natAbs.mpr h
  exact Int.natAbs_dvd_natAbs.mp (Nat.Coprime.dvd_of_dvd_mul_right g h1)
theorem coprime_low {p q : Int} (h : 0 < gc p q) : gc (p / gc p q) (q / gc p q) = 1 := by
  have e1 := ex_mul (gc_dvd1 p q) h
  have e2 := ex_mul (gc_dvd2 p q) h
  have e := gc_mul (k := gc p q) (a := p / gc p q) (b := q / gc p q) (Int.le_of_lt h)
  rw [← e1, ← e2] at e
  generalize gc (p / gc p q) (q / gc p q) = y at *
  generalize gc p q = g at *
  have : g * 1 = g * y := by omega
  exact (Int.eq_of_mul_eq_mul_left (by omega) this).symm
/-- a limit that is a fraction -/
theorem parts_frac {a b c : Int} (ha : 1 ≤ a) (hc : 1 ≤ c) (h0 : (parts a b c).1 = 0) : 1 ≤ (parts a b c).2.1 ∧ 1 ≤ (parts a b c).2.2 ∧ (parts a b c).2.2 ≤ c ∧ gc (parts a b c).2.2 (parts a b c).2.1 = 1 ∧
    a * (parts a b c).2.2 * (parts a b c).2.2 + b * (parts a b c).2.2 * (parts a b c).2.1 = c * (parts a b c).2.1 * (parts a b c).2.1 := by
  have N := parts_nrm (a := a) (b := b) (c := c) (.inr ⟨ha, hc⟩)
  have co : gc (parts a b c).2.2 (parts a b c).2.1 = 1 := by
    unfold parts at h0 ⊢
    rw [if_neg (by omega)] at h0 ⊢
    split
    · exact coprime_low (gc_pos (.inr (by omega)))
    · rename_i z
      rw [if_neg z] at h0
      have g0 : 0 < gc (gc a b) c := gc_pos (.inr (by omega))
      have d : gc (gc a b) c ∣ a := Int.dvd_trans (gc_dvd1 _ _) (gc_dvd1 _ _)
      have e := ex_mul d g0
      replace h0 : a / gc (gc a b) c = 0 := h0
      rw [h0] at e
      omega
  have G := N.good
  rw [h0] at G
  obtain ⟨l1, w0⟩ : 1 ≤ (parts a b c).2.1 ∧ 0 ≤ (parts a b c).2.2 := by
    rcases G with g | g
    · exact g.2
    · omega
  have sg := (N.sgn (parts a b c).2.2 (parts a b c).2.1 w0 l1).2
  rw [h0] at sg
  generalize (parts a b c).2.1 = u at *
  generalize (parts a b c).2.2 = t at *
  have e0 : a * t * t + b * t * u - c * u * u = 0 := sg.mp (by grind)
  have e1 : a * t * t + b * t * u = c * u * u := by omega
  have t0 : t ≠ 0 := fun z => by
    subst z
    have : 0 < c * u * u := Int.mul_pos (Int.mul_pos (by omega) (by omega)) (by omega)
    have z1 : a * 0 * 0 + b * 0 * u = 0 := by grind
    omega
  refine ⟨l1, by omega, ?_, co, e1⟩
  have dv : t ∣ c * u * u := ⟨a * t + b * u, by rw [← e1]; grind⟩
  have g1 : Int.gcd t u = 1 := by
    unfold gc at co
    omega
  have dv2 : t ∣ c * u := dvd_cop dv g1
  have dv3 : t ∣ c := dvd_cop dv2 g1
  exact Int.le_of_dvd (by omega) dv3
/-- in front of its limit a ladder stays -/
theorem fixed {m : Mx} {t u : Int} (h : m.c * t * t + (m.d - m.a) * t * u = m.b * u * u) : (m.app (t, u)).1 * u = t * (m.app (t, u)).2 := by
  unfold Mx.app
  dsimp only
  grind
/-- the whole walk -/
def appN (m : Mx) : Nat → Int × Int → Int × Int
  | 0, e => e
  | n + 1, e => m.app (appN m n e)
theorem appN_pos {r : List Pc} {e : Int × Int} (hr : RowOk r) (h : Pos2 e) : ∀ n, Pos2 (appN (matR r) n e)
  | 0 => h
  | n + 1 => app_pos hr (appN_pos hr h n)
theorem appN_sm {r : List Pc} {e : Int × Int} {k : Nat} (hr : RowOk r) (l8 : r.length ≤ 8) (h1 : Sm k e.1) (h2 : Sm k e.2) : ∀ n, Sm (k + 31 * n) (appN (matR r) n e).1 ∧ Sm (k + 31 * n) (appN (matR r) n e).2
  | 0 => ⟨h1, h2⟩
  | n + 1 => by
    obtain ⟨i1, i2⟩ := appN_sm hr l8 h1 h2 n
    have := app_sm (matR_sm30 hr l8) i1 i2
    have e : k + 31 * (n + 1) = 30 + (k + 31 * n) + 1 := by omega
    rw [e]
    exact this
theorem low_cross' {x y : Int × Int} (hx : Pos2 x) (hy : Pos2 y) (h : x.1 * y.2 = y.1 * x.2) : low x = low y := by
  by_cases hz : y.2 = 0
  · have y1 : 0 < y.1 := by have := hy.2.2; omega
    have x2 : x.2 = 0 := by
      rw [hz, Int.mul_zero] at h
      rcases Int.mul_eq_zero.mp h.symm with z | z <;> omega
    have x1 : 0 < x.1 := by have := hx.2.2; omega
    have lz : ∀ z : Int × Int, 0 < z.1 → z.2 = 0 → low z = (1, 0) := fun z h1 h2 => by
      have e : z = sc z.1 (1, 0) := by
        unfold sc
        ext
        · dsimp
          omega
        · dsimp
          omega
      rw [e, low_sc h1]
      decide
    rw [lz x x1 x2, lz y y1 hz]
  · have y2 : 0 < y.2 := by have := hy.2.1; omega
    by_cases hz' : x.2 = 0
    · exfalso
      have x1 : 0 < x.1 := by have := hx.2.2; omega
      rw [hz', Int.mul_zero] at h
      have := Int.mul_pos x1 y2
      omega
    · have x2 : 0 < x.2 := by have := hx.2.1; omega
      exact low_frac_iff (x := x.1) (s := x.2) (x' := y.1) (s' := y.2) x2 y2 h
/-- .. for ever -/
theorem appN_fixed {r : List Pc} {t u : Int} (hr : RowOk r) (hp : Pos2 (t, u)) (h : (matR r).c * t * t + ((matR r).d - (matR r).a) * t * u = (matR r).b * u * u) : ∀ n, low (appN (matR r) n (t, u)) = low (t, u)
  | 0 => rfl
  | n + 1 => by
    have ih := appN_fixed hr hp h n
    have p := appN_pos hr hp n
    obtain ⟨g, k, hg, hk, e⟩ := low_cross p hp ih
    have e2 : low (sc k ((matR r).app (appN (matR r) n (t, u)))) = low (sc g ((matR r).app (t, u))) := by
      have ap : ∀ (m : Mx) (j : Int) (z : Int × Int), sc j (m.app z) = m.app (sc j z) := fun m j z => by
        unfold sc Mx.app
        ext <;> dsimp <;> grind
      rw [ap, ap, e]
    rw [low_sc hk, low_sc hg] at e2
    show low ((matR r).app (appN (matR r) n (t, u))) = _
    rw [e2]
    exact low_cross' (app_pos hr hp) hp (fixed h)
theorem goes_fixed {m : Mx} {t u : Int} (h : m.c * t * t + (m.d - m.a) * t * u = m.b * u * u) : sg ((m.app (t, u)).1 * u - t * (m.app (t, u)).2) = 0 := by
  rw [fixed h, Int.sub_self]
  rfl
end RL

namespace RL
/-! ### joined patterns: products of their matrices -/
def Mx.mul (m n : Mx) : Mx := ⟨m.a * n.a + m.b * n.c, m.a * n.b + m.b * n.d, m.c * n.a + m.d * n.c, m.c * n.b + m.d * n.d⟩
theorem app_mul (m n : Mx) (e : Int × Int) : (m.mul n).app e = m.app (n.app e) := by
  unfold Mx.mul Mx.app
  ext <;> dsimp <;> grind
theorem mx_ext {m n : Mx} (h : ∀ e, m.app e = n.app e) : m = n := by
  have h1 := h (1, 0)
  have h2 := h (0, 1)
  unfold Mx.app at h1 h2
  simp at h1 h2
  obtain ⟨a, b, c, d⟩ := m
  obtain ⟨a', b', c', d'⟩ := n
  dsimp at h1 h2
  rw [h1.1, h1.2, h2.1, h2.2]
theorem mat_mul (r r' : List Pc) : matR (r ++ r') = (matR r).mul (matR r') := mx_ext fun e => by
  rw [app_mul, mat_app, mat_app, mat_app, act_app]
theorem mat_app2 (r r' : List Pc) (e : Int × Int) : (matR (r ++ r')).app e = (matR r).app ((matR r').app e) := by
  rw [mat_mul, app_mul]
theorem appN_succ (m : Mx) (n : Nat) (e : Int × Int) : appN m (n + 1) e = m.app (appN m n e) := rfl
theorem appN_add (m : Mx) (k : Nat) (e : Int × Int) : ∀ n, appN m (k + n) e = appN m n (appN m k e)
  | 0 => rfl
  | n + 1 => by
    show m.app (appN m (k + n) e) = _
    rw [appN_add m k e n]
    rfl
theorem appN_two (r : List Pc) (e : Int × Int) : ∀ n, appN (matR (r ++ r)) n e = appN (matR r) (2 * n) e
  | 0 => rfl
  | n + 1 => by
    have h : 2 * (n + 1) = 2 * n + 1 + 1 := by omega
    rw [h, appN_succ, appN_succ, appN_succ, appN_two r e n, mat_app2]
theorem appN_three (r : List Pc) (e : Int × Int) : ∀ n, appN (matR (r ++ r ++ r)) n e = appN (matR r) (3 * n) e
  | 0 => rfl
  | n + 1 => by
    have h : 3 * (n + 1) = 3 * n + 1 + 1 + 1 := by omega
    rw [h, appN_succ, appN_succ, appN_succ, appN_succ, appN_three r e n, mat_app2, mat_app2]
theorem app_sc' (m : Mx) (k : Int) (e : Int × Int) : m.app (sc k e) = sc k (m.app e) := by
  unfold sc Mx.app
  ext <;> dsimp <;> grind
theorem appN_sc (m : Mx) (k : Int) (e : Int × Int) : ∀ n, appN m n (sc k e) = sc k (appN m n e)
  | 0 => rfl
  | n + 1 => by
    rw [appN_succ, appN_succ, appN_sc m k e n, app_sc']
theorem low_appN {m : Mx} {e : Int × Int} (h : Pos2 e) (n : Nat) : low (appN m n (low e)) = low (appN m n e) := by
  have q : low (appN m n e) = low (appN m n (sc (gc e.1 e.2) (low e))) := by rw [← low_is h]
  rw [q, appN_sc, low_sc (gc_pos2 h)]
theorem low_app {m : Mx} {e : Int × Int} (h : Pos2 e) : low (m.app (low e)) = low (m.app e) := low_appN (m := m) h 1
theorem appN_conj (r r' : List Pc) (e : Int × Int) : ∀ n, appN (matR (r ++ r')) n ((matR r).app e) = (matR r).app (appN (matR (r' ++ r)) n e)
  | 0 => rfl
  | n + 1 => by
    rw [appN_succ, appN_succ, appN_conj r r' e n, mat_app2, mat_app2]
/-! ### which way a ladder goes -/
def goV (m : Mx) (e : Int × Int) : Int := (m.app e).1 * e.2 - e.1 * (m.app e).2
theorem sg_mul {k x : Int} (hk : 0 < k) : sg (k * x) = sg x := by
  unfold sg
  have h1 : 0 < k * x ↔ 0 < x := ⟨fun h => by
    rcases Int.lt_or_le 0 x with z | z
    · exact z
    · have := Int.mul_nonpos_of_nonneg_of_nonpos (Int.le_of_lt hk) z
      omega, fun h => Int.mul_pos hk h⟩
  have h2 : k * x < 0 ↔ x < 0 := ⟨fun h => by
    rcases Int.lt_or_le x 0 with z | z
    · exact z
    · have := Int.mul_nonneg (Int.le_of_lt hk) z
      omega, fun h => Int.mul_neg_of_pos_of_neg hk h⟩
  simp only [h1, h2]
theorem goV_sc (m : Mx) (k : Int) (e : Int × Int) : goV m (sc k e) = k * k * goV m e := by
  unfold goV sc Mx.app
  dsimp only
  grind
theorem goV_low {m : Mx} {e : Int × Int} (h : Pos2 e) : sg (goV m (low e)) = sg (goV m e) := by
  have q : goV m e = goV m (sc (gc e.1 e.2) (low e)) := by rw [← low_is h]
  rw [q, goV_sc, sg_mul (Int.mul_pos (gc_pos2 h) (gc_pos2 h))]
theorem goV_app (m : Mx) (e : Int × Int) : goV m (m.app e) = (m.a * m.d - m.b * m.c) * goV m e := by
  unfold goV Mx.app
  dsimp only
  grind
theorem goV_two (m : Mx) (e : Int × Int) : goV (m.mul m) e = (m.a + m.d) * goV m e := by
  unfold goV Mx.app Mx.mul
  dsimp only
  grind
theorem goV_appN {r : List Pc} (hr : RowOk r) (e : Int × Int) : ∀ n, sg (goV (matR r) (appN (matR r) n e)) = sg (goV (matR r) e)
  | 0 => rfl
  | n + 1 => by
    rw [appN_succ, goV_app, sg_mul (matR_ok hr).2.2.2.2, goV_appN hr e n]
theorem tr_pos {r : List Pc} (hr : RowOk r) : 0 < (matR r).a + (matR r).d ∧ 0 < (matR r).a ∧ 0 < (matR r).d := by
  obtain ⟨h1, h2, h3, h4, h5⟩ := matR_ok hr
  have h6 := Int.mul_nonneg h2 h3
  have h7 : 0 < (matR r).a * (matR r).d := by omega
  have ha : 0 < (matR r).a := by
    rcases Int.lt_or_le 0 (matR r).a with z | z
    · exact z
    · have : (matR r).a = 0 := by omega
      rw [this, Int.zero_mul] at h7
      omega
  have hd : 0 < (matR r).d := by
    rcases Int.lt_or_le 0 (matR r).d with z | z
    · exact z
    · have : (matR r).d = 0 := by omega
      rw [this, Int.mul_zero] at h7
      omega
  exact ⟨by omega, ha, hd⟩
theorem go_two {r : List Pc} (hr : RowOk r) (e : Int × Int) : sg (goV (matR (r ++ r)) e) = sg (goV (matR r) e) := by
  rw [mat_mul, goV_two, sg_mul (tr_pos hr).1]
/-! ### limits of joined ladders -/
theorem lim_scale {r R : List Pc} {k : Int} (hr : RowOk r) (hR : RowOk R) (hk : 0 < k) (hc : (matR R).c = k * (matR r).c) (hb : (matR R).b = k * (matR r).b) (hd : (matR R).d - (matR R).a = k * ((matR r).d - (matR r).a)) :
    ((matR R).c = 0 ↔ (matR r).c = 0) ∧ ((matR r).c ≠ 0 → eqL R = eqL r) := by
  obtain ⟨a1, b1, c1, d1, _⟩ := matR_ok hr
  obtain ⟨a2, b2, c2, d2, _⟩ := matR_ok hR
  have zc : ∀ x : Int, k * x = 0 ↔ x = 0 := fun x => ⟨fun h => by
    rcases Int.mul_eq_zero.mp h with z | z
    · omega
    · exact z, fun h => by rw [h, Int.mul_zero]⟩
  have ec : (matR R).c = 0 ↔ (matR r).c = 0 := by rw [hc]; exact zc _
  have eb : (matR R).b = 0 ↔ (matR r).b = 0 := by rw [hb]; exact zc _
  refine ⟨ec, fun cn => ?_⟩
  have cn' : (matR R).c ≠ 0 := fun z => cn (ec.mp z)
  unfold eqL
  by_cases bz : (matR r).b = 0
  · rw [if_pos bz, if_pos (eb.mpr bz)]
  · have bz' : (matR R).b ≠ 0 := fun z => bz (eb.mp z)
    rw [if_neg bz, if_neg bz']
    refine parts_prop (.inr ⟨by omega, by omega⟩) (.inr ⟨by omega, by omega⟩) ?_ ?_ ?_
    · rw [hc, hd]; grind
    · rw [hc, hb]; grind
    · rw [hd, hb]; grind
theorem lim_two {r : List Pc} (hr : RowOk r) : ((matR (r ++ r)).c = 0 ↔ (matR r).c = 0) ∧ ((matR r).c ≠ 0 → eqL (r ++ r) = eqL r) := by
  refine lim_scale (k := (matR r).a + (matR r).d) hr (hr.app hr) (tr_pos hr).1 ?_ ?_ ?_ <;> rw [mat_mul] <;> unfold Mx.mul <;> dsimp only <;> grind
theorem lim_three {r : List Pc} (hr : RowOk r) : ((matR (r ++ r ++ r)).c = 0 ↔ (matR r).c = 0) ∧ ((matR r).c ≠ 0 → eqL (r ++ r ++ r) = eqL r) := by
  obtain ⟨h1, h2, h3, h4, h5⟩ := matR_ok hr
  obtain ⟨_, ha, hd⟩ := tr_pos hr
  have hk : 0 < (matR r).a * (matR r).a + (matR r).a * (matR r).d + (matR r).d * (matR r).d + (matR r).b * (matR r).c := by
    have := Int.mul_pos ha ha
    have := Int.mul_pos ha hd
    have := Int.mul_pos hd hd
    have := Int.mul_nonneg h2 h3
    omega
  refine lim_scale hr ((hr.app hr).app hr) hk ?_ ?_ ?_ <;> rw [mat_mul, mat_mul] <;> unfold Mx.mul <;> dsimp only <;> grind
end RL

namespace RL
/-! ### patterns from behind -/
theorem RowOk.head1 {p : Pc} {r : List Pc} (h : RowOk (p :: r)) : RowOk [p] := fun q hq => h q (by rw [List.mem_singleton] at hq; rw [hq]; exact List.mem_cons_self)
def Mx.fl (m : Mx) : Mx := ⟨m.d, m.b, m.c, m.a⟩
theorem fl_mul (m n : Mx) : (m.mul n).fl = n.fl.mul m.fl := by
  unfold Mx.mul Mx.fl
  dsimp only
  congr 1 <;> grind
theorem fl_one (p : Pc) : (matR [p]).fl = matR [p] := by
  show (stepM m1 p).fl = stepM m1 p
  unfold stepM m1 Mx.fl
  split
  · dsimp only
    congr 1 <;> omega
  · dsimp only
    congr 1 <;> omega
theorem mat_rev (r : List Pc) : matR r.reverse = (matR r).fl := by
  induction r with
  | nil => rfl
  | cons p r ih =>
    rw [List.reverse_cons, mat_mul, ih, show p :: r = [p] ++ r from rfl, mat_mul, fl_mul, fl_one]
theorem scl_foldl (r : List Pc) : ∀ s : Int, r.foldl stepS s = s * r.foldl stepS 1 := by
  induction r with
  | nil => intro s; simp
  | cons p r ih =>
    intro s
    rw [List.foldl_cons, List.foldl_cons, ih, ih (stepS 1 p)]
    unfold stepS
    split
    · rw [Int.one_mul]
    · rw [Int.one_mul, Int.mul_assoc]
theorem scl_app (r r' : List Pc) : sclR (r ++ r') = sclR r * sclR r' := by
  unfold sclR
  rw [List.foldl_append, scl_foldl]
theorem scl_rev (r : List Pc) : sclR r.reverse = sclR r := by
  induction r with
  | nil => rfl
  | cons p r ih => rw [List.reverse_cons, scl_app, ih, show p :: r = [p] ++ r from rfl, scl_app, Int.mul_comm]
theorem four_rev (r : List Pc) : fourOf r.reverse = ((fourOf r).2.2.2, (fourOf r).2.1, (fourOf r).2.2.1, (fourOf r).1) := by
  unfold fourOf
  rw [mat_rev, scl_rev]
  rfl
/-! ### rows of both kinds -/
theorem c_pos {r : List Pc} (hr : RowOk r) (h : ∃ p ∈ r, p.1 = false) : 0 < (matR r).c := by
  induction r with
  | nil =>
    obtain ⟨p, hp, _⟩ := h
    cases hp
  | cons p r ih =>
    obtain ⟨_, a1, d1⟩ := tr_pos hr.tail
    obtain ⟨_, a2, d2⟩ := tr_pos (RowOk.head1 hr)
    obtain ⟨_, _, c1, _⟩ := matR_ok hr.tail
    obtain ⟨_, _, c2, _⟩ := matR_ok (RowOk.head1 hr)
    rw [show p :: r = [p] ++ r from rfl, mat_mul]
    show 0 < (matR [p]).c * (matR r).a + (matR [p]).d * (matR r).c
    have n1 := Int.mul_nonneg c2 (Int.le_of_lt a1)
    have n2 := Int.mul_nonneg (Int.le_of_lt d2) c1
    obtain ⟨q, hq, hf⟩ := h
    rcases List.mem_cons.mp hq with rfl | hq
    · have e : (matR [q]).c = 1 := by
        show (stepM m1 q).c = 1
        unfold stepM m1
        rw [if_neg (by rw [hf]; decide)]
        dsimp only
        omega
      rw [e, Int.one_mul]
      omega
    · have := Int.mul_pos d2 (ih hr.tail ⟨q, hq, hf⟩)
      omega
theorem b_pos {r : List Pc} (hr : RowOk r) (h : ∃ p ∈ r, p.1 = true) : 0 < (matR r).b := by
  induction r with
  | nil =>
    obtain ⟨p, hp, _⟩ := h
    cases hp
  | cons p r ih =>
    obtain ⟨_, a1, d1⟩ := tr_pos hr.tail
    obtain ⟨_, a2, d2⟩ := tr_pos (RowOk.head1 hr)
    obtain ⟨_, b1, _⟩ := matR_ok hr.tail
    obtain ⟨_, b2, _⟩ := matR_ok (RowOk.head1 hr)
    rw [show p :: r = [p] ++ r from rfl, mat_mul]
    show 0 < (matR [p]).a * (matR r).b + (matR [p]).b * (matR r).d
    have n1 := Int.mul_nonneg (Int.le_of_lt a2) b1
    have n2 := Int.mul_nonneg b2 (Int.le_of_lt d1)
    obtain ⟨q, hq, hf⟩ := h
    rcases List.mem_cons.mp hq with rfl | hq
    · have e : (matR [q]).b = q.2 := by
        show (stepM m1 q).b = q.2
        unfold stepM m1
        rw [if_pos hf]
        dsimp only
        omega
      have := hr.head.1
      have := Int.mul_pos (show 0 < (matR [q]).b by omega) d1
      omega
    · have := Int.mul_pos a2 (ih hr.tail ⟨q, hq, hf⟩)
      omega
/-! ### the two limits -/
theorem gc_neg2 (a b : Int) : gc a (-b) = gc a b := by
  unfold gc
  rw [Int.gcd_neg]
theorem rev_parts {c l b : Int} (hc : 1 ≤ c) (hb : 1 ≤ b) : ((parts c (-l) b).1 = 0 ↔ (parts c l b).1 = 0) ∧ ((parts c l b).1 = 0 → c * (parts c l b).2.2 * (parts c (-l) b).2.2 = b * (parts c l b).2.1 * (parts c (-l) b).2.1) ∧
    ((parts c l b).1 ≠ 0 → parts c (-l) b = ((parts c l b).1, -(parts c l b).2.1, (parts c l b).2.2)) := by
  have cz : ¬ c = 0 := by omega
  unfold parts
  rw [if_neg cz, if_neg cz, show -l * -l = l * l by grind]
  by_cases sq : rt (l * l + 4 * c * b) * rt (l * l + 4 * c * b) = l * l + 4 * c * b
  · rw [if_pos sq, if_pos sq]
    generalize rt (l * l + 4 * c * b) = ρ at *
    refine ⟨Iff.rfl, fun _ => ?_, fun z => absurd rfl z⟩
    have g1 : 0 < gc (ρ - l) (2 * c) := gc_pos (.inr (by omega))
    have g2 : 0 < gc (ρ - -l) (2 * c) := gc_pos (.inr (by omega))
    have t1 := ex_mul (gc_dvd1 (ρ - l) (2 * c)) g1
    have u1 := ex_mul (gc_dvd2 (ρ - l) (2 * c)) g1
    have t2 := ex_mul (gc_dvd1 (ρ - -l) (2 * c)) g2
    have u2 := ex_mul (gc_dvd2 (ρ - -l) (2 * c)) g2
    dsimp only
    generalize (ρ - l) / gc (ρ - l) (2 * c) = x1 at *
    generalize 2 * c / gc (ρ - l) (2 * c) = y1 at *
    generalize (ρ - -l) / gc (ρ - -l) (2 * c) = x2 at *
    generalize 2 * c / gc (ρ - -l) (2 * c) = y2 at *
    generalize gc (ρ - l) (2 * c) = k1 at *
    generalize gc (ρ - -l) (2 * c) = k2 at *
    have hk : k1 * k2 ≠ 0 := by
      have := Int.mul_pos g1 g2
      omega
    refine Int.eq_of_mul_eq_mul_left hk ?_
    have e1 : k1 * k2 * (c * x1 * x2) = c * ((k1 * x1) * (k2 * x2)) := by grind
    have e2 : k1 * k2 * (b * y1 * y2) = b * ((k1 * y1) * (k2 * y2)) := by grind
    rw [e1, e2]
    grind
  · rw [if_neg sq, if_neg sq, gc_neg2]
    have g1 : 0 < gc c l := gc_pos (.inl (by omega))
    have g0 : 0 < gc (gc c l) b := gc_pos (.inr (by omega))
    have dc : gc (gc c l) b ∣ c := Int.dvd_trans (gc_dvd1 _ _) (gc_dvd1 _ _)
    have dl : gc (gc c l) b ∣ l := Int.dvd_trans (gc_dvd1 _ _) (gc_dvd2 _ _)
    have cp : c / gc (gc c l) b ≠ 0 := fun z => by
      have := ex_mul dc g0
      rw [z, Int.mul_zero] at this
      omega
    dsimp only
    refine ⟨Iff.rfl, fun z => absurd z cp, fun _ => ?_⟩
    rw [Int.neg_ediv_of_dvd dl]
theorem pal_parts {c b : Int} (hc : 1 ≤ c) (h : (parts c 0 b).2.1 ≠ 0) : (parts c 0 b).1 = 0 := by
  have cz : ¬ c = 0 := by omega
  unfold parts at *
  rw [if_neg cz] at *
  split
  · rfl
  · rename_i sq
    rw [if_neg sq] at h
    exact absurd (Int.zero_ediv _) h
end RL

set_option maxHeartbeats 2000000
namespace RL
open PySem L2 PySem.Spec PyProof.Rows
/-! ### equal patterns -/
def D4 (r : List Pc) : PyData := .tuple [.tuple [.int (fourOf r).1.1, .int (fourOf r).1.2], .tuple [.int (fourOf r).2.1.1, .int (fourOf r).2.1.2], .tuple [.int (fourOf r).2.2.1.1, .int (fourOf r).2.2.1.2], .tuple [.int (fourOf r).2.2.2.1, .int (fourOf r).2.2.2.2]]
theorem eqv_D4 (r r' : List Pc) : PyData.eqv (D4 r) (D4 r') = decide (fourOf r = fourOf r') := by
  rw [Bool.eq_iff_iff]
  simp [D4, PyData.eqv, PyData.eqvAll, Prod.ext_iff, and_assoc]
theorem sh_D4 (r : List Pc) : SeqAt.shaped (D4 r) = true := by
  simp [D4, SeqAt.shaped, PyData.canLay0, PyData.canLayAll0, PyData.depth, PyData.depthAll]
theorem dp_D4 {K : PySem.W.Frag} {C : Addr} {H : Hp} {x : Addr} {r : List Pc} (h : PatAt C H x r) : ∃ dx q m f, H x = some (.ins C dx (PF q m f (sclR r))) ∧ Dp K H (.ref f) (D4 r) := by
  obtain ⟨dx, q, m, f, ws, f1, f2, f3, f4, h1, h2, h3, h4, h5, h6, h7, h8, h9⟩ := h
  have dp : ∀ {t : Addr} {z s : Int}, FrAt H t z s → Dp K H (.ref t) (.tuple [.int (low (z, s)).1, .int (low (z, s)).2]) := fun h => .tup (SqT.of h) (.cons (.int _) (.cons (.int _) .nil))
  exact ⟨dx, q, m, f, h1, .tup (SqT.of h5) (.cons (dp h6) (.cons (dp h7) (.cons (dp h8) (.cons (dp h9) .nil))))⟩
def spEqP (C : Addr) : Sp := fun vs H Q _ => ∃ (x y : Addr) (r r' : List Pc), vs = [.ref x, .ref y] ∧ PatAt C H x r ∧ PatAt C H y r' ∧ Q (.bl (decide (fourOf r = fourOf r'))) H
def spRowT : Sp := fun vs H Q _ => ∃ (q : Addr) (ws : List V) (r : List Pc), vs = [.ref q] ∧ H q = some (.tup ws) ∧ PiecesAt H ws r ∧ RowOk r ∧ r.length ≤ 8 ∧ ∀ H', Same H H' → Q (.str (rowTx r)) H'
def spPStr (C : Addr) : Sp := fun vs H Q _ => ∃ (x : Addr) (r : List Pc), vs = [.ref x] ∧ PatAt C H x r ∧ RowOk r ∧ r.length ≤ 8 ∧ ∀ H', Same H H' → Q (.str (rowTx r)) H'
structure OwT2 (P : Program) (w : World) (K : PySem.W.Frag) (mg : Str → Option Value) (base : Heap) (C g : Addr) (fd : FuncData) : Prop where
  at_ : PySem.W.findIn K (.ref C) "__str__" = some (some (.ref g))
  fn : PySem.W.isFn K (.ref g) = true
  ok : FnOk P w K mg base CX0 3 g fd ["self"] (spPStr C)
  b : Binds K fd ["self"] []
def CpsOk (x : Str) : Prop := ∀ c ∈ x.cps.toList, c < 16 ^ 8
theorem CpsOk.app {x y : Str} (h : CpsOk x) (k : CpsOk y) : CpsOk (x ++ y) := fun c hc => by
  have e : (x ++ y).cps.toList = x.cps.toList ++ y.cps.toList := by
    show (x.cps ++ y.cps).toList = _
    rw [Array.toList_append]
  rw [e] at hc
  exact (List.mem_append.mp hc).elim (h c) (k c)
theorem cps_join {y : Str} (hy : CpsOk y) : ∀ {l : List Str}, (∀ x ∈ l, CpsOk x) → CpsOk (Str.join y l)
  | [], _ => fun c hc => absurd (show c ∈ ([] : List Nat) from hc) (by simp)
  | [x], h => h x List.mem_cons_self
  | x :: z :: l, h => by
    show CpsOk (x ++ y ++ Str.join y (z :: l))
    exact ((h x List.mem_cons_self).app hy).app (cps_join hy fun a ha => h a (List.mem_cons_of_mem _ ha))
theorem cps_wd : ∀ r : Bool, CpsOk (wd r) := fun r => by
  cases r
  · exact (OkT.of "rung").cps
  · exact (OkT.of "rail").cps
theorem cps_ptx (p : Pc) : CpsOk (ptx p) := ((cps_wd p.1).app (OkT.of " ").cps).app (OkT.of (toString p.2)).cps
theorem rowTx_cps (r : List Pc) : CpsOk (rowTx r) := by
  unfold rowTx
  rw [TL.join_eq]
  exact cps_join (OkT.of ", ").cps fun x hx => by
    obtain ⟨p, _, rfl⟩ := List.mem_map.mp hx
    exact cps_ptx p
theorem rowTx_ok {r : List Pc} (hok : RowOk r) (l8 : r.length ≤ 8) : OkT 100 (rowTx r) := ⟨rowTx_len hok l8, rowTx_cps r⟩
def spPRep (C : Addr) : Sp := fun vs H Q _ => ∃ (x : Addr) (r : List Pc), vs = [.ref x] ∧ PatAt C H x r ∧ RowOk r ∧ r.length ≤ 8 ∧ ∀ H', Same H H' → Q (.str (Str.ofString "Pattern(" ++ rowTx r ++ Str.ofString ")")) H'
def spPcs (C : Addr) : Sp := fun vs H Q _ => ∃ (x : Addr) (r : List Pc), vs = [.ref x] ∧ PatAt C H x r ∧ ∀ q ws, H q = some (.tup ws) → PiecesAt H ws r → Q (.ref q) H
def spPLen (C : Addr) : Sp := fun vs H Q _ => ∃ (x : Addr) (r : List Pc), vs = [.ref x] ∧ PatAt C H x r ∧ Q (.int (r.length : Int)) H
def spAddN (C CT : Addr) : Sp := fun vs H Q E => ∃ (x y : Addr) (r r' : List Pc), vs = [.ref x, .ref y] ∧ PatAt C H x r ∧ PatAt C H y r' ∧ RowOk r ∧ RowOk r' ∧ 1 ≤ r.length ∧ 1 ≤ r'.length ∧ r.length ≤ 8 ∧ r'.length ≤ 8 ∧
  (r.length + r'.length ≤ 8 → ∀ H' z, Same H H' → H z = none → PatAt C H' z (r ++ r') → Q (.ref z) H') ∧ (8 < r.length + r'.length → ∀ H' d, Same H H' → H' d = some (.xd [(Str.ofString "most", .int 8)]) → E (.ref CT) (some d) H')
/-- an error's class as it is raised -/
structure Rz (P : Program) (w : World) (K : PySem.W.Frag) (mg : Str → Option Value) (base : Heap) (c : Nat → Addr) (j : Nat) (f : Str) : Prop where
  m : XM P w K mg base 2 (c j) ["self", f] (spI K f)
  ty : PySem.W.typeIn K (.ref (c j)) = some (.type "type")
  no : PySem.W.findIn K (.ref (c j)) f = some none
section
variable {P : Program} {w : World} {K : PySem.W.Frag} {mg : Str → Option Value} {base : Heap} {tG t1 t2 t3 : Tok} {aO aW J C fP fJ : Addr} {fdJ : FuncData}
abbrev s_row_text : Stmt := top 46
theorem sc_row_text : FnScope ["row", "word", "ohms"] ["row"] (defScope s_row_text) := ⟨rfl, rfl, rfl, by decide +kernel, rfl, by decide +kernel, by decide +kernel⟩

theorem ok_rowt {f : Addr} {fd : FuncData} (F : Fun K "row_text" "row_text" s_row_text f fd) (T : Txt K mg) (D_piece_text : Df P w K mg base 1 "piece_text" ["word", "ohms"] spPtx) : FnOk P w K mg base CX0 2 f fd ["row"] spRowT := by
  refine F.ok sc_row_text (fun vs H Q E h => ?_) (fun cdv A outer s H vs Q E hr h => ?_)
  · obtain ⟨q, ws, r, rfl, _⟩ := h
    rfl
  · obtain ⟨a, ws, r, rfl, ha, hw, hok, l8, k⟩ := h
    refine ⟨_, (pss_one (ps_ret (pe_join pe_str (pe_lc (own := [("word", 1), ("ohms", 2)]) (g := gTup K 2 (gCons (gName 1) (gCons (gName 2) gNil))) (tt := tYes) rfl sc_row_text.nd (pi_tup (pv 0)) (blkOk_by (N := ["row", "word", "ohms"]) (sc := defScope s_row_text) (by decide +kernel)) (fun _ _ _ _ _ => pg_tup rfl (pgs_cons (pg_name (i := 1) sc_row_text.nd rfl (Or.inl rfl)) (pgs_cons (pg_name (i := 2) sc_row_text.nd rfl (Or.inl rfl)) pgs_nil))) (fun _ _ _ _ _ => pts_nil) (fun _ _ _ _ _ => (pe_df D_piece_text (hr.mono (by decide)) (by rfl) (pa_cons (pv 1) (pa_cons (pv 2) pa_nil)))))))), ?_⟩
    refine ⟨⟨_, rfl⟩, _, rfl, a, rfl, ⟨_, SqT.of ha⟩, fun D hD => ?_⟩
    refine lc_tup (K := K) (a := a) (xs := ws) (fun i H' => But D H H' ∧ H' D = some (.lst (((r.take i).map ptx).map V.str))) ⟨But.upd, upd_same⟩ (fun i H' _ h => SqT.of (h.1 _ _ (ne_of_none ha hD) ha)) ?_ ?_
    · rintro i y H1 hi ⟨bD, hDi⟩
      obtain ⟨pc, hpc, t, rfl, ht⟩ := hw.at_ hi
      have ht1 := bD _ _ (ne_of_none ht hD) ht
      have ok := hok.at_ hpc
      refine ⟨t, _, rfl, SqT.of ht1, rfl, _, _, rfl, _, _, rfl, rfl, rfl, ?_⟩
      unfold tYes
      refine iteT ?_
      refine ⟨_, rfl, _, rfl, pc, rfl, ok, _, hDi, ?_, ?_, ?_⟩
      · rw [List.length_map, List.length_map, List.length_take]
        exact small1000 (by omega)
      · intro q o nq e
        rw [upd_ne nq]
        exact bD _ _ nq e
      · rw [upd_same, List.take_succ, hpc]
        simp only [Option.toList, List.map_append, List.map_cons, List.map_nil]
    · rintro H1 ⟨bD, hDn⟩
      rw [hw.1, List.take_length] at hDn
      refine ⟨_, D, r.map ptx, rfl, rfl, .inl (SqL.of hDn), ?_, ?_⟩
      · have h2 := sum_len hok
        have h3 : (Str.ofString ", ").length = 2 := by decide +kernel
        rw [List.length_map]
        show _ + r.length * (Str.ofString ", ").length ≤ 16777216
        rw [h3]
        omega
      · exact k _ fun q o e => bD _ _ (ne_of_none e hD) e
abbrev s_Pattern_str : Stmt := inClass (top 41) 8
theorem sc_Pattern_str : FnScope ["self"] ["self"] (defScope s_Pattern_str) := ⟨rfl, rfl, rfl, by decide +kernel, rfl, by decide +kernel, by decide +kernel⟩

theorem ok_pstr {f : Addr} {fd : FuncData} (F : Fun K "__str__" "Pattern.__str__" s_Pattern_str f fd) (T : Txt3 K mg tG t1 t2 t3 aO aW J C) (D_row_text : Df P w K mg base 2 "row_text" ["row"] spRowT) : FnOk P w K mg base CX0 3 f fd ["self"] (spPStr C) := by
  refine F.ok sc_Pattern_str (fun vs H Q E h => ?_) (fun cdv A outer s H vs Q E hr h => ?_)
  · obtain ⟨x, r, rfl, _⟩ := h
    rfl
  · obtain ⟨x, r, rfl, hP, hok, l8, k⟩ := h
    refine ⟨_, (pss_one (ps_ret (pe_callTy SkE.call_str_str (by rfl) T.str_ (by decide +kernel) (pa_cons (pe_df D_row_text (hr.mono (by decide)) (by rfl) (pa_cons (pe_fld (pv 0) rfl) pa_nil)) pa_nil)))), ?_⟩
    obtain ⟨dx, q, m, f', ws, f1, f2, f3, f4, hx, hq, hw, hm, _⟩ := hP
    exact ⟨_, rfl, x, C, dx, _, _, rfl, hx, T.cl, T.nRow, lkR _ _ _, q, ws, r, rfl, hq, hw, hok, l8, fun H' s' => ⟨_, rfl, k _ s'⟩⟩
abbrev s_Pattern_repr : Stmt := inClass (top 41) 9
theorem sc_Pattern_repr : FnScope ["self"] ["self"] (defScope s_Pattern_repr) := ⟨rfl, rfl, rfl, by decide +kernel, rfl, by decide +kernel, by decide +kernel⟩

theorem ok_prep {f : Addr} {fd : FuncData} (F : Fun K "__repr__" "Pattern.__repr__" s_Pattern_repr f fd) (T : Txt3 K mg tG t1 t2 t3 aO aW J C) (D_row_text : Df P w K mg base 2 "row_text" ["row"] spRowT) : FnOk P w K mg base CX0 3 f fd ["self"] (spPRep C) := by
  refine F.ok sc_Pattern_repr (fun vs H Q E h => ?_) (fun cdv A outer s H vs Q E hr h => ?_)
  · obtain ⟨x, r, rfl, _⟩ := h
    rfl
  · obtain ⟨x, r, rfl, hP, hok, l8, k⟩ := h
    refine ⟨_, (pss_one (ps_ret (pe_joined (PJ.cons pe_str (PJ.cons (pe_fmt (pe_df D_row_text (hr.mono (by decide)) (by rfl) (pa_cons (pe_fld (pv 0) rfl) pa_nil))) (PJ.cons pe_str PJ.nil)))))), ?_⟩
    obtain ⟨dx, q, m, f', ws, f1, f2, f3, f4, hx, hq, hw, hm, _⟩ := hP
    have o1 : OkT 8 (Str.empty ++ Str.ofString "Pattern(") := by
      rw [Str.empty_append]
      exact OkT.of "Pattern("
    have ot : OkT 100 (rowTx r) := rowTx_ok hok l8
    have o2 := o1.app ot
    have o3 := o2.app (OkT.of ")")
    refine ⟨_, rfl, o1.fits, _, rfl, x, C, dx, _, _, rfl, hx, T.cl, T.nRow, lkR _ _ _, q, ws, r, rfl, hq, hw, hok, l8, fun H' s' => .inl ⟨_, rfl, ot.fits, _, rfl, o2.fits, _, rfl, o3.fits, ?_⟩⟩
    show Q (.str (((Str.empty ++ Str.ofString "Pattern(") ++ rowTx r) ++ Str.ofString ")")) H'
    rw [Str.empty_append]
    exact k _ s'
abbrev s_Pattern_pieces : Stmt := inClass (top 41) 2
theorem sc_Pattern_pieces : FnScope ["self"] ["self"] (defScope s_Pattern_pieces) := ⟨rfl, rfl, rfl, by decide +kernel, rfl, by decide +kernel, by decide +kernel⟩

theorem ok_pcs {f : Addr} {fd : FuncData} (F : Fun K "pieces" "Pattern.pieces" s_Pattern_pieces f fd) (T : Txt3 K mg tG t1 t2 t3 aO aW J C) : FnOk P w K mg base CX0 1 f fd ["self"] (spPcs C) := by
  refine F.ok sc_Pattern_pieces (fun vs H Q E h => ?_) (fun cdv A outer s H vs Q E hr h => ?_)
  · obtain ⟨x, r, rfl, _⟩ := h
    rfl
  · obtain ⟨x, r, rfl, hP, k⟩ := h
    refine ⟨_, (pss_one (ps_ret (pe_fld (pv 0) rfl))), ?_⟩
    obtain ⟨dx, q, m, f', ws, f1, f2, f3, f4, hx, hq, hw, hm, _⟩ := hP
    exact ⟨_, rfl, x, C, dx, _, _, rfl, hx, T.cl, T.nRow, lkR _ _ _, k q ws hq hw⟩
abbrev s_Pattern_len : Stmt := inClass (top 41) 7
theorem sc_Pattern_len : FnScope ["self"] ["self"] (defScope s_Pattern_len) := ⟨rfl, rfl, rfl, by decide +kernel, rfl, by decide +kernel, by decide +kernel⟩

theorem ok_plen {f : Addr} {fd : FuncData} (F : Fun K "__len__" "Pattern.__len__" s_Pattern_len f fd) (T : Txt3 K mg tG t1 t2 t3 aO aW J C) : FnOk P w K mg base CX0 1 f fd ["self"] (spPLen C) := by
  refine F.ok sc_Pattern_len (fun vs H Q E h => ?_) (fun cdv A outer s H vs Q E hr h => ?_)
  · obtain ⟨x, r, rfl, _⟩ := h
    rfl
  · obtain ⟨x, r, rfl, hP, k⟩ := h
    refine ⟨_, (pss_one (ps_ret (pe_callB call_len_seq (by rfl) T.len (by decide +kernel) (pa_cons (pe_fld (pv 0) rfl) pa_nil)))), ?_⟩
    obtain ⟨dx, q, m, f', ws, f1, f2, f3, f4, hx, hq, hw, hm, _⟩ := hP
    rw [← hw.1] at k
    exact ⟨_, rfl, x, C, dx, _, _, rfl, hx, T.cl, T.nRow, lkR _ _ _, q, _, rfl, .inr (SqT.of hq), k⟩
/-- a + b, more than eight pieces: the error -/
theorem ok_addN {f : Addr} {fd : FuncData} {c : Nat → Addr} (F : Fun K "__add__" "Pattern.__add__" s_Pattern_add f fd) (T : Txt3 K mg tG t1 t2 t3 aO aW J C) (TE : TxE mg c) (RZ15 : Rz P w K mg base c 15 "most") (X_pat : PatD P w K mg base C J fP) (X_join : JoinD P w K mg base J fJ fdJ) : FnOk P w K mg base (L2N.CX P w) 7 f fd ["self", "other"] (spAddN C (c 15)) := by
  refine okN F sc_Pattern_add (fun vs H Q E h => ?_) (fun cdv A outer s H vs Q E hr h => ?_)
  · obtain ⟨x, y, r, r', rfl, _⟩ := h
    rfl
  · obtain ⟨x, y, r, r', rfl, hP, hP', hok, hok', l1, l1', l8, l8', k, k2⟩ := h
    refine ⟨_, (pss_cons (ps_set (i := 2) sc_Pattern_add.nd rfl (.inl rfl) (pe_op op_catA (pe_fld (pv 0) rfl) (pe_fld (pv 1) rfl)))
      (pss_cons (ps_if (pt_cmpR op_gt (pe_callB call_len_seq (by rfl) T.len (by decide +kernel) (pa_cons (pv 2) pa_nil)) (pe_glob (v := .int 8) rfl T.mgJo ⟨_, rfl⟩) (nomark _)) (pss_one (ps_raiseX RZ15.m RZ15.ty RZ15.no (hr.mono (by decide)) (by rfl) TE.m15 (pe_glob (v := .int 8) rfl T.mgJo ⟨_, rfl⟩) rfl (L2N.takes_of rfl rfl rfl rfl))) pss_nil)
      (pss_one (ps_ret (StX.pe_makeR X_pat.m X_pat.fn (hr.mono (by decide)) rfl T.mgC pass0 (pa_cons (pe_make X_join.m X_join.fn (hr.mono (by decide)) rfl T.mgJ X_join.bd .nil pass0 (pa_cons (pv 2) pa_nil)) pa_nil)))))), ?_⟩
    obtain ⟨dx, q, m, f', ws, f1, f2, f3, f4, hx, hq, hw, hm, _⟩ := hP
    obtain ⟨dy, q', m', g', ws', g1, g2, g3, g4, hy, hq', hw', hm', _⟩ := hP'
    have e1 := hw.1
    have e2 := hw'.1
    refine ⟨_, rfl, x, C, dx, _, _, rfl, hx, T.cl, T.nRow, lkR _ _ _, _, rfl, y, C, dy, _, _, rfl, hy, T.cl, T.nRow, lkR _ _ _, q, q', ws, ws', rfl, rfl, SqT.of hq, SqT.of hq', Nat.le_trans (by omega) (small1000 (show 16 ≤ 1000 by decide)), fun z => ?_, fun _ z => ?_, fun _ _ p np => ?_⟩
    · rw [z] at e1
      have : ([] : List V).length = 0 := rfl
      omega
    · rw [z] at e2
      have : ([] : List V).length = 0 := rfl
      omega
    have s1 := same_upd (o := .tup (ws ++ ws')) np
    have hp : (upd H p (.tup (ws ++ ws'))) p = some (.tup (ws ++ ws')) := upd_same
    have hpp := (hw.app hw').same s1
    refine ⟨_, rfl, p, _, rfl, .inr (SqT.of hp), _, _, rfl, rfl, _, rfl, ite2 (fun e => ?_) (fun e => ?_)⟩
    · have h1 := of_decide_eq_true e
      rw [List.length_append] at h1
      exact fun d nd => k2 (by omega) _ d (s1.trans (same_upd nd)) upd_same
    have h1 : ¬ (8 : Int) < ((ws ++ ws').length : Int) := fun z => e (decide_eq_true z)
    rw [List.length_append] at h1
    exact ⟨_, rfl, make_pat hp hpp (hok.app hok') (by rw [List.length_append]; omega) (by rw [List.length_append]; omega) fun H' z s2 nz hz => k (by omega) H' z (s1.trans s2) (s1.free nz) hz⟩
end
end RL

set_option maxHeartbeats 2000000
/-! The end of a law whose defs make lambdas: the tables of their code objects are tracked; no repr is under way. -/
namespace RL
open PySem L2 PySem.Spec PyProof.Rows
/-- the abstract heap of the start: the script (unless it is written), the tables -/
def startH (a : Addr) (sc : Option HO) (ts : List Addr) : Hp := fun b => if b = a then sc else if b ∈ ts then some (.tbl #[]) else none
theorem startH_a {a : Addr} {sc : Option HO} {ts : List Addr} : startH a sc ts a = sc := if_pos rfl
theorem startH_t {a b : Addr} {sc : Option HO} {ts : List Addr} (h : b ∈ ts) (n : b ≠ a) : startH a sc ts b = some (.tbl #[]) := (if_neg n).trans (if_pos h)
theorem startH_n {a b : Addr} {sc : Option HO} {ts : List Addr} (h : b ∉ ts) (n : b ≠ a) : startH a sc ts b = none := (if_neg n).trans (if_neg h)
theorem law_runT {P : Program} {w : World} {K : PySem.W.Frag} {mg mb : Str → Option Value} {k : Nat} {fa a : Addr} {cs : List (Addr × Addr)} {fd : FuncData} {x : Str} {sp : Sp} {s1 : Shared} {vs : List Value} {xs : List V} {sc : Option HO}
    (KX : K.In s1.heap) (hns : s1.heap.Ns mainGlobals mg) (hb : s1.heap.Ns builtinsNs mb) (hbb : ∀ x : Str, x ≠ "__name__" → mb x = bootBuiltins x) (hlim : s1.heap.NoLimit) (hgen : s1.gens = #[])
    (hT : ∀ p ∈ cs, s1.heap.get? p.2 = some { cls := .none, data := .fields #[] }) (nT : ∀ p ∈ cs, K.lookup p.2 = none) (hC : ∀ p ∈ cs, PySem.W.CodeHd s1.heap p.1 p.2)
    (hbm : ∃ (bm : Addr) (ob : Obj), mg "__builtins__" = some (.ref bm) ∧ bm ≠ builtinsNs ∧ s1.heap.get? bm = some ob ∧ ob.cls = .type "module" ∧ ob.dict = some builtinsNs ∧ ob.data = .plain)
    (ha : s1.heap.get? a = some { cls := .type "list", data := .seq vs.toArray }) (hr : Room k callerA)
    (F : ∀ base : Heap, K.In base → base.Ns mainGlobals mg → (∀ p ∈ cs, LamX.TabB base mg p.1 p.2) → FnG P w K mg base k fa fd [x] sp) (hbind : ∀ (s : Shared) (u : Value), BindsTo s fd ⟨[u], []⟩ [(x, u)])
    (hsc : sc = none ∨ (K.lookup a = none ∧ sc = some (.frz { cls := .type "list", data := .seq vs.toArray } (.lst xs)))) (hokA : ∀ u, sc = some u → ObjOk P w (startH a sc (cs.map (·.2))) s1.heap a u)
    (hsp : sp [.ref a] (startH a sc (cs.map (·.2))) (fun v _ => v = .bl true) fun _ _ _ => False) :
    codeAny (model P w) callerA (.call (.ref fa) ⟨[.ref a], []⟩) (fun r s' => r = .ok (.ret (.bool true)) ∧ OldK s1.heap s'.heap ∧ s'.os = s1.os ∧ AllBare s'.gens) s1 := by
  have isT : ∀ b : Addr, b ∈ cs.map (·.2) → s1.heap.get? b = some { cls := .none, data := .fields #[] } := fun b hb => by
    obtain ⟨p, hp, e⟩ := List.mem_map.mp hb
    rw [← e]
    exact hT p hp
  have memT : ∀ p ∈ cs, p.2 ∈ cs.map (·.2) := fun p hp => List.mem_map.mpr ⟨p, hp, rfl⟩
  have aT : ∀ b, b ∈ cs.map (·.2) → b ≠ a := fun b hb z => by
    have q := isT b hb
    rw [z, ha] at q
    have z' : Data.seq vs.toArray _ = Data.fields #[] := congrArg Obj.data (Option.some.inj q)
    cases z'
  generalize hH : startH a sc (cs.map (·.2)) = H at *
  have HT : ∀ b, b ∈ cs.map (·.2) → H b = some (.tbl #[]) := fun b hb => by rw [← hH]; exact startH_t hb (aT b hb)
  have HA : H a = sc := by rw [← hH]; exact startH_a
  have HN : ∀ b, b ∉ cs.map (·.2) → b ≠ a → H b = none := fun b hb n => by rw [← hH]; exact startH_n hb n
  -- what is neither the script nor a table is not tracked
  have free : ∀ {b : Addr} {o : Obj}, s1.heap.get? b = some o → (∀ ys n, o.data ≠ .seq ys n) → o.data ≠ .fields #[] → H b = none := fun {b o} e n1 n2 => by
    refine HN b (fun z => ?_) fun z => ?_
    · rw [isT b z] at e
      cases e
      exact n2 rfl
    · rw [z, ha] at e
      cases e
      exact n1 _ _ rfl
  have ns1 : ∀ {b : Addr} {m : Str → Option Value}, s1.heap.Ns b m → (hidT s1.heap H).Ns b m := fun {b m} ⟨o, es, ep, e, d, r⟩ => ⟨o, es, ep, hidT_get e (free e (fun _ _ z => by rw [d] at z; cases z) fun z => by rw [d] at z; cases z), d, r⟩
  have kin : K.In (hidT s1.heap H) := fun b o e => hidT_get (KX b o e) (by
    by_cases hb : b ∈ cs.map (·.2)
    · obtain ⟨p, hp, ep⟩ := List.mem_map.mp hb
      rw [← ep, nT p hp] at e
      cases e
    · by_cases hb2 : b = a
      · rw [hb2, HA]
        rcases hsc with z | ⟨z, _⟩
        · exact z
        · rw [hb2, z] at e
          cases e
      · exact HN b hb hb2)
  have hok : HOk P w H s1.heap := fun b u e => by
    by_cases hb : b ∈ cs.map (·.2)
    · rw [HT b hb] at e
      cases e
      exact isT b hb
    · by_cases hb2 : b = a
      · subst hb2
        rw [HA] at e
        exact hokA u e
      · rw [HN b hb hb2] at e
        cases e
  obtain ⟨mc, c1, c2⟩ := hlim
  have TB : ∀ p ∈ cs, LamX.TabB (hidT s1.heap H) mg p.1 p.2 := fun p hp => by
    have hTp := hT p hp
    refine ⟨?_, ?_, fun z => ?_⟩
    · obtain ⟨o, us, file, tf, flags, tg, inF, text, tt, e1, r1, r2, r3, r4, r5, r6, r7, r8, hne⟩ := hC p hp
      refine ⟨o, us, file, tf, flags, tg, inF, text, tt, hidT_get e1 (free e1 (fun _ _ z => by rw [r2] at z; cases z) fun z => ?_), r1, r2, r3, r4, r5, r6, r7, r8, hne⟩
      rw [r2] at z
      cases z
      simp at r3
    · obtain ⟨bm, ob, b1, b2, b3, b4, b5, b6⟩ := hbm
      have nG : bm ≠ mainGlobals := fun q => by
        obtain ⟨o, es, ep, e, hd, _⟩ := hns
        rw [q, e] at b3
        cases b3
        rw [hd] at b6
        cases b6
      have nP : bm ≠ p.2 := fun q => by
        rw [q, hTp] at b3
        cases b3
        cases b6
      exact ⟨bm, ob, b1, b2, nG, nP, hidT_get b3 (free b3 (fun _ _ z => by rw [b6] at z; cases z) fun z => by rw [b6] at z; cases z), b4, b5, b6⟩
    · obtain ⟨o, es, ep, e, hd, _⟩ := hns
      rw [z, hTp] at e
      cases e
      cases hd
  have e0 : Env0 P w K mg (hidT s1.heap H) callerA [] s1 H :=
    { frames := rfl, mod := ⟨kin, ns1 hns, ⟨mb, ns1 hb, hbb⟩, ⟨mc, ns1 c1, c2⟩⟩, bs := fun b o e => of_hidT e, bsz := Nat.le_of_eq (hidT_size _ _), funs := trivial, frf := fun b z => absurd (show b ∈ ([] : List Addr) from z) (by simp), hok := hok, bare := .of_eq hgen }
  refine codeAny_mono ((F _ kin (ns1 hns) TB).run callerA [] s1 H ⟨[.ref a], []⟩ [.ref a] [.ref a] _ _ rfl hr e0 (hbind s1 (.ref a)) (.cons rfl .nil) hsp) fun r s' h => ?_
  match r, h with
  | .ok (.ret u), ⟨v, H', os, bare, un, hok', r', q⟩ =>
    cases (show v = V.bl true from q)
    cases (show u = Value.bool true from r')
    have grown : ∀ p ∈ cs, ∃ more : Array Value, s'.heap.get? p.2 = some { cls := .none, data := .fields more } := fun p hp => by
      obtain ⟨more, z⟩ := un.tbls p.2 #[] (HT p.2 (memT p hp))
      exact ⟨_, hok' p.2 _ z⟩
    have key : ∀ b o, b ∉ cs.map (·.2) → s1.heap.get? b = some o → s'.heap.get? b = some o := fun b o nb e => by
      cases q2 : H b with
      | none => exact un.keep b o e q2 (fun z => absurd (show b ∈ ([] : List Addr) from z) (by simp)) (by simp)
      | some u =>
        have hba : b = a := Classical.byContradiction fun z => by
          rw [HN b nb z] at q2
          cases q2
        subst hba
        rw [HA] at q2
        rcases hsc with z | ⟨_, z⟩
        · rw [z] at q2
          cases q2
        · have q3 : H b = some (.frz { cls := .type "list", data := .seq vs.toArray } (.lst xs)) := by rw [HA, z]
          obtain ⟨e1, _⟩ := hok b _ q3
          obtain ⟨e2, _⟩ := hok' b _ (un.frzs b _ _ q3)
          rw [e] at e1
          cases e1
          exact e2
    refine ⟨rfl, ⟨fun b o e => ?_, fun b o e => ?_⟩, os, bare⟩
    · by_cases hb : b ∈ cs.map (·.2)
      · obtain ⟨p, hp, ep⟩ := List.mem_map.mp hb
        obtain ⟨more, hm⟩ := grown p hp
        rw [← ep] at e ⊢
        rw [hT p hp] at e
        cases e
        exact .inr (.inl ⟨((hC p hp).tab (hT p hp)).isCodeTable, rfl, #[], more, rfl, by rw [Array.empty_append]; exact hm⟩)
      · exact .inl (key b o hb e)
    · by_cases hb : b ∈ cs.map (·.2)
      · obtain ⟨p, hp, ep⟩ := List.mem_map.mp hb
        obtain ⟨more, hm⟩ := grown p hp
        rw [← ep]
        exact ⟨_, hm⟩
      · exact ⟨o, key b o hb e⟩
/-- what is known of the law's promise at the head's heap h -/
def LawT (l : PySem.W.OpenLaw) (w : World) (K : PySem.W.Frag) (k n : Nat) (x : Str) (mg : Str → Option Value) (fa : Addr) (h : Heap) : Prop :=
  ∃ (fd : FuncData) (cs : List (Addr × Addr)) (sp : Sp), (∀ p ∈ cs, h.get? p.2 = some { cls := .none, data := .fields #[] }) ∧ (∀ p ∈ cs, K.lookup p.2 = none) ∧ (∀ p ∈ cs, PySem.W.CodeHd h p.1 p.2) ∧ (∀ (s : Shared) (u : Value), BindsTo s fd ⟨[u], []⟩ [(x, u)]) ∧
    (∀ (H : Hp) (a : Addr) (ns : List Int), ns.length ≤ n → (∀ p ∈ cs, H p.2 = some (.tbl #[])) → SqL K H a (ns.map V.int) → sp [.ref a] H (fun v _ => v = .bl true) fun _ _ _ => False) ∧
    ∀ base : Heap, K.In base → base.Ns mainGlobals mg → (∀ p ∈ cs, LamX.TabB base mg p.1 p.2) → FnG l.prog w K mg base k fa fd [x] sp
theorem walk_ofT {l : PySem.W.OpenLaw} {n k : Nat} {q : Program} {loose : List Str} {XP : (Str → Option Value) → Heap → Prop} {YP : World → Heap → Prop} {d : DefRec} {K : Params → PySem.W.Frag} {x : Str}
    (hn : l.most = some n) (hn2 : n ≤ sizeLine) (hdf : d.params.defaults = []) (hr : Room k callerA) (hY : ∀ (w : World) (h : Heap), YP w h → (K w.params).In h)
    (F : ∀ (w : World) (mg : Str → Option Value) (fa : Addr) (h : Heap), YP w h → (K w.params).In h → h.Ns mainGlobals mg → mg d.name = some (.ref fa) → LawT l w (K w.params) k n x mg fa h) :
    PySem.W.WalkO q loose XP YP l.row.toRowW d [] (fun f vs => PySem.call f vs) := by
  refine Att.attach_call hn hdf fun w s0 s1 mg mb fa o pm cd doc a vs ns G Y ho hd hcd hmg hobj hints hlen hgen => ?_
  have KX := hY w _ Y
  obtain ⟨fd, cs, sp, hT, nT, hC, hb, hsp, hF⟩ := F w mg fa _ Y KX G.T.g hmg
  have rv := vals_ints hints
  have hl : ns.length ≤ sizeLine := Nat.le_trans hlen hn2
  have lenV := hints.length
  have nat : ∀ p ∈ cs, p.2 ≠ a := fun p hp z => by
    have q := hT p hp
    rw [z, hobj] at q
    have z' : Data.seq vs.toArray _ = Data.fields #[] := congrArg Obj.data (Option.some.inj q)
    cases z'
  cases hk : (K w.params).lookup a with
  | some ob =>
    have e := KX a ob hk
    rw [hobj] at e
    cases e
    exact law_runT (xs := []) (sc := none) KX G.T.g G.T.b G.T.builtins G.T.nolimit hgen hT nT hC G.T.bmain hobj hr hF hb (.inl rfl) (fun u z => by cases z)
      (hsp _ a ns hlen (fun p hp => startH_t (List.mem_map.mpr ⟨p, hp, rfl⟩) (nat p hp)) (.inr ⟨_, vs.toArray, _, hk, rfl, rfl, rfl, by rw [List.size_toArray, lenV]; exact hl, by simpa using rv⟩))
  | none =>
    exact law_runT (xs := ns.map V.int) (sc := some (.frz { cls := .type "list", data := .seq vs.toArray } (.lst (ns.map V.int)))) KX G.T.g G.T.b G.T.builtins G.T.nolimit hgen hT nT hC G.T.bmain hobj hr hF hb (.inr ⟨hk, rfl⟩)
      (fun u z => by cases z; exact ⟨hobj, by rw [List.length_map]; exact hl, vs, _, rv, hobj⟩) (hsp _ a ns hlen (fun p hp => startH_t (List.mem_map.mpr ⟨p, hp, rfl⟩) (nat p hp)) (.inl (.inr ⟨_, startH_a⟩)))
end RL

set_option maxHeartbeats 2000000
namespace RL
open PySem L2 PySem.Spec PyProof.Rows
/-! ### heaps in which tables grow -/
def ButT (c : Addr) (H H' : Hp) : Prop := ∀ b o, b ≠ c → (∀ ps, o ≠ .tbl ps) → H b = some o → H' b = some o
theorem ButT.refl (c : Addr) (H : Hp) : ButT c H H := fun _ _ _ _ h => h
theorem ButT.trans {c : Addr} {H H1 H2 : Hp} (a : ButT c H H1) (b : ButT c H1 H2) : ButT c H H2 := fun x o n t h => b x o n t (a x o n t h)
theorem ButT.of {c : Addr} {H H' : Hp} (h : Same H H') : ButT c H H' := fun x o _ _ e => h x o e
theorem ButT.but {c : Addr} {H H' : Hp} (h : But c H H') : ButT c H H' := fun x o n _ e => h x o n e
theorem ButT.ext {c : Addr} {H H' : Hp} (h : LamX.ExtN H H') : ButT c H H' := fun x o _ n e => h x o e n
theorem ButT.tup {c a : Addr} {H H' : Hp} {xs : List V} (b : ButT c H H') (hc : CupAt c H) (h : H a = some (.tup xs)) : H' a = some (.tup xs) := by
  obtain ⟨u, v, hc, _⟩ := hc
  exact b _ _ (ne_of h hc (by intro z; cases z)) (by intro ps z; cases z) h
theorem ButT.ins {c a C dx : Addr} {H H' : Hp} {fs : List (Str × V)} (b : ButT c H H') (hc : CupAt c H) (h : H a = some (.ins C dx fs)) : H' a = some (.ins C dx fs) := by
  obtain ⟨u, v, hc, _⟩ := hc
  exact b _ _ (ne_of h hc (by intro z; cases z)) (by intro ps z; cases z) h
theorem PieceAt.butT {c : Addr} {H H' : Hp} {v : V} {p : Pc} (h : PieceAt H v p) (hc : CupAt c H) (s : ButT c H H') : PieceAt H' v p := by
  obtain ⟨t, e, ht⟩ := h
  exact ⟨t, e, s.tup hc ht⟩
theorem PiecesAt.butT {c : Addr} {H H' : Hp} {vs : List V} {r : List Pc} (h : PiecesAt H vs r) (hc : CupAt c H) (s : ButT c H H') : PiecesAt H' vs r :=
  ⟨h.1, fun i p hp => let ⟨v, hv, q⟩ := h.2 i p hp; ⟨v, hv, q.butT hc s⟩⟩
theorem RowL.butT {c a : Addr} {H H' : Hp} {r : List Pc} (h : RowL H a r) (hc : CupAt c H) (na : a ≠ c) (s : ButT c H H') : RowL H' a r := by
  obtain ⟨ws, h1, h2⟩ := h
  exact ⟨ws, s _ _ na (by intro ps z; cases z) h1, h2.butT hc s⟩
theorem PatAt.butT {C x c : Addr} {H H' : Hp} {r : List Pc} (h : PatAt C H x r) (hc : CupAt c H) (s : ButT c H H') : PatAt C H' x r := by
  obtain ⟨dx, q, m, f, ws, f1, f2, f3, f4, h1, h2, h3, h4, h5, h6, h7, h8, h9⟩ := h
  exact ⟨dx, q, m, f, ws, f1, f2, f3, f4, s.ins hc h1, s.tup hc h2, h3.butT hc s, s.tup hc h4, s.tup hc h5, s.tup hc h6, s.tup hc h7, s.tup hc h8, s.tup hc h9⟩
theorem CupAt.ext {c : Addr} {H H' : Hp} (h : CupAt c H) (s : LamX.ExtN H H') : CupAt c H' := by
  obtain ⟨x, y, a, b⟩ := h
  exact ⟨x, y, s _ _ a (by intro ps z; cases z), b⟩
theorem tabs_but {T : List (Addr × Str)} {c : Addr} {H H' : Hp} (t : LamX.Tabs T H) (hc : CupAt c H) (s : But c H H') : LamX.Tabs T H' := fun p hp => by
  obtain ⟨ps, h1, h2, h3⟩ := t p hp
  obtain ⟨u, v, hc, _⟩ := hc
  refine ⟨ps, s _ _ (ne_of h1 hc (by intro z; cases z)) h1, h2, fun pos cv hcv => ?_⟩
  obtain ⟨c', e1, e2⟩ := h3 pos cv hcv
  exact ⟨c', e1, s _ _ (ne_of e2 hc (by intro z; unfold LamX.CodeO at z; cases z)) e2⟩
theorem tabs_same {T : List (Addr × Str)} {H H' : Hp} (t : LamX.Tabs T H) (s : Same H H') : LamX.Tabs T H' := t.ext s
theorem sql_ext {K : PySem.W.Frag} {H H' : Hp} {a : Addr} {xs : List V} (h : SqL K H a xs) (s : LamX.ExtN H H') : SqL K H' a xs := by
  rcases h with (h | ⟨o, h⟩) | h
  · exact .inl (.inl (s _ _ h (by intro ps z; cases z)))
  · exact .inl (.inr ⟨o, s _ _ h (by intro ps z; cases z)⟩)
  · exact .inr h
/-! ### a new pattern written in the text -/
theorem make_lit {C J : Addr} {H : Hp} {z dz : Addr} {ws : List V} {r : List Pc} {R : Hp → Prop} (nz : H z = none) (ndz : H dz = none) (hw : PiecesAt H ws r) (hok : RowOk r) (l1 : 1 ≤ r.length) (l4 : r.length ≤ 4) (k : ∀ H', Same H H' → PatAt C H' z r → R H') :
    star1 (spPI C J) (.ref z :: ws) (upd (upd H dz (.own z)) z (.ins C dz [])) (fun v H3 => v = .non ∧ R H3) E0 := by
  refine ⟨[.ref z], ws, rfl, rfl, Nat.le_trans (by rw [hw.1]; omega) (small1000 (show 4 ≤ 1000 by decide)), fun p np => ?_⟩
  have s2 : Same H (upd (upd H dz (.own z)) z (.ins C dz [])) := fun b o e => by
    rw [upd_ne (ne_of_none e nz), upd_ne (ne_of_none e ndz)]
    exact e
  have s3 := s2.trans (same_upd (o := .tup ws) np)
  have hz : (upd (upd (upd H dz (.own z)) z (.ins C dz [])) p (.tup ws)) z = some (.ins C dz []) := by
    rw [upd_ne (ne_of_none (upd_same (H := upd H dz (.own z)) (a := z) (o := .ins C dz [])) np), upd_same]
  refine ⟨z, dz, p, r, rfl, hz, hok, l1, by omega, .inr ⟨ws, upd_same, hw.same s3, l4⟩, fun H' b hP => ⟨rfl, k H' ?_ hP⟩⟩
  intro b' o e
  exact b _ _ (ne_of_none e nz) (s3 _ _ e)
/-! ### pieces as data -/
def pcD (p : Pc) : PyData := .tuple [.str (wd p.1), .int p.2]
theorem dp_pcs {K : PySem.W.Frag} {H : Hp} : ∀ {ws : List V} {r : List Pc}, PiecesAt H ws r → DpAll K H ws (r.map pcD)
  | [], [], _ => .nil
  | [], _ :: _, h => by have := h.1; simp at this
  | _ :: _, [], h => by have := h.1; simp at this
  | w :: ws, p :: r, h => by
    obtain ⟨v, hv, t, e, ht⟩ := h.2 0 p rfl
    have hv : v = w := by simpa using hv.symm
    subst hv e
    exact .cons (.tup (SqT.of ht) (.cons (.str _) (.cons (.int _) .nil))) (dp_pcs ⟨by have := h.1; simpa using this, fun i q hq => h.2 (i + 1) q hq⟩)
theorem tame_str {n w : Nat} {x : Str} (h : OkT n x) (hn : n ≤ w) : Tame w 0 (.str x) := by
  obtain ⟨a, b⟩ := show_str h
  exact ⟨by simp only [PyData.showable], by simp only [PyData.hasDict], a, Nat.le_trans b hn, by simp only [PyData.depth]; exact Nat.le_refl _⟩
theorem tame_pc {p : Pc} (h : PcOk p) : Tame 402 1 (pcD p) := by
  have h1 : Tame 200 0 (.str (wd p.1)) := tame_str (n := 4) (by
    cases p.1
    · exact OkT.of "rung"
    · exact OkT.of "rail") (by decide)
  exact tame_2 h1 (tame_int ((ohm_sm h).mono (by decide)))
theorem tame_row {r : List Pc} (hok : RowOk r) (l8 : r.length ≤ 8) : Tame 3224 2 (.tuple (r.map pcD)) := by
  have h := tame_tup (w := 402) (h := 1) (xs := r.map pcD) fun d hd => by
    obtain ⟨p, hp, rfl⟩ := List.mem_map.mp hd
    exact tame_pc (hok p hp)
  rw [List.length_map] at h
  exact ⟨h.s, h.n, h.v, Nat.le_trans h.w_ (by have := Nat.mul_le_mul_right 403 l8; omega), h.d_⟩
theorem neStr {a b : Str} (h : a = b) : ¬ (!decide (V.str a = V.str b)) = true := by
  rw [h, decide_eq_true rfl]
  decide
theorem pf_of {C : Addr} {H : Hp} {x : Addr} {r : List Pc} (h : PatAt C H x r) : ∃ dx q m f, H x = some (.ins C dx (PF q m f (sclR r))) := by
  obtain ⟨dx, q, m, f, ws, f1, f2, f3, f4, h1, _⟩ := h
  exact ⟨dx, q, m, f, h1⟩
end RL

set_option maxHeartbeats 2000000
namespace RL
open PySem L2 PySem.Spec PyProof.Rows
/-- the base's __init__ as its callers read it -/
structure Bi (P : Program) (w : World) (K : PySem.W.Frag) (mg : Str → Option Value) (base : Heap) (x : Str) : Prop where
  ex : ∃ (C g : Addr) (mc : Value) (fd : FuncData), mg x = some (.ref C) ∧ ClX.CRead K C mc ∧ PySem.W.findCls K (.ref C) mc "__init__" = some (.val (.ref g)) ∧ PySem.W.keepIn K (.ref g) = true ∧ FnOk P w K mg base CX0 1 g fd ["self"] spN ∧ Binds K fd ["self"] []
def cF (cs : List Addr) (i : Nat) : Addr := cs.getD i 0
def up (i : Nat) : Nat := if i < 13 then 0 else if i < 15 then 1 else if i < 19 then 2 else i - 19
/-- class i is, of the classes asked, the j-th one -/
def tb (i j : Nat) : Bool := (j == i) || (j == 19 + up i) || (j == 22 + up i)
def rowB (K : PySem.W.Frag) (cs : List Addr) (i : Nat) : Bool := (List.range 25).all fun j => decide (PySem.W.kitOne K (.ref (cF cs i)) (tv (cF cs) j) = some (tb i j))
theorem rowB_ok {K : PySem.W.Frag} {cs : List Addr} {i : Nat} (h : rowB K cs i = true) : IsRow K (cF cs) (cF cs i) (tb i) := fun j hj => of_decide_eq_true (List.all_eq_true.mp h j (List.mem_range.mpr hj))
theorem tabs2 {H : Hp} {cs : List (Addr × Addr)} {qs : List Str} (h : ∀ p ∈ cs, H p.2 = some (.tbl #[])) : LamX.Tabs ((cs.map (·.2)).zip qs) H := fun p hp => by
  obtain ⟨q, hq, e⟩ := List.mem_map.mp (List.of_mem_zip hp).1
  exact LamX.TabS.nil (by rw [← e]; exact h q hq)
section
variable {P : Program} {w : World} {K : PySem.W.Frag} {mg : Str → Option Value} {base : Heap}
abbrev s_WrongValue_init : Stmt := inClass (top 16) 0
theorem sc_WrongValue_init : FnScope ["self"] ["self"] (defScope s_WrongValue_init) := ⟨rfl, rfl, rfl, by decide +kernel, rfl, by decide +kernel, by decide +kernel⟩

theorem ok_WrongValue_init {f : Addr} {fd : FuncData} (F : Fun K "__init__" "WrongValue.__init__" s_WrongValue_init f fd) : FnOk P w K mg base CX0 1 f fd ["self"] spN := by
  refine F.ok sc_WrongValue_init (fun vs H Q E h => ?_) (fun cdv A outer s H vs Q E hr h => ?_)
  · obtain ⟨v, rfl, _⟩ := h
    rfl
  · obtain ⟨v, rfl, k⟩ := h
    exact ⟨_, (pss_one ps_pass), k⟩
abbrev s_InvalidText_init : Stmt := inClass (top 22) 0
theorem sc_InvalidText_init : FnScope ["self", "given"] ["self", "given"] (defScope s_InvalidText_init) := ⟨rfl, rfl, rfl, by decide +kernel, rfl, by decide +kernel, by decide +kernel⟩

theorem ok_InvalidText_init {f : Addr} {fd : FuncData} (F : Fun K "__init__" "InvalidText.__init__" s_InvalidText_init f fd) (B : Bi P w K mg base "WrongValue") : FnOk P w K mg base CX0 2 f fd ["self", "given"] (spI K "given") := by
  obtain ⟨Cb, gb, mc, fdb, gC, rd, hf, kp, Fb, hb⟩ := B.ex
  refine F.ok sc_InvalidText_init (fun vs H Q E h => ?_) (fun cdv A outer s H vs Q E hr h => ?_)
  · obtain ⟨a, C, y, rfl, _⟩ := h
    rfl
  · obtain ⟨a, C, y, rfl, xc, hno, ha, k⟩ := h
    refine ⟨_, (pss_cons (ps_expr (pe_xbase gC (by rfl) rd hf kp Fb (hr.mono (by decide)) hb (pa_cons (pv 0) pa_nil)))
      (pss_one (ps_xst (pv 0) (pv 1)))), ?_⟩
    exact ⟨_, rfl, _, rfl, _, rfl, _, rfl, a, C, rfl, xc, hno, ha, fun dx nd ne => k dx nd ne⟩
theorem ec_5 {cs : List Addr} (x : XC K (cF cs 5)) (r : rowB K cs 5 = true) (any : PySem.W.exmAny K (.ref (cF cs 5)) [.ref (cF cs 19), .ref (cF cs 20), .ref (cF cs 21)] = some true) (no : PySem.W.findIn K (.ref (cF cs 5)) "given" = some none) : EC K (cF cs) (cF cs 5) 5 [5, 20, 23] :=
  ⟨x, ⟨tb 5, rowB_ok r, by decide +kernel⟩, any, rfl, by decide, (by rw [show fldOf 5 = ("given" : Str) from by decide +kernel]; exact no), by decide⟩
end
end RL

set_option maxHeartbeats 1000000
/-! what repr shows of well-formed data is a well-formed text -/
namespace RL
open PySem L2 PySem.Spec PyProof.Rows PySem.Builtin.Str
def Uok (x : Str) : Prop := ∀ c ∈ x.cps.toList, c < 0x110000
theorem Uok.app {x y : Str} (h : Uok x) (k : Uok y) : Uok (x ++ y) := fun c hc => by
  have e : (x ++ y).cps.toList = x.cps.toList ++ y.cps.toList := by
    show (x.cps ++ y.cps).toList = _
    rw [Array.toList_append]
  rw [e] at hc
  exact (List.mem_append.mp hc).elim (h c) (k c)
theorem chr_lt (ch : Char) : ch.toNat < 0x110000 := by
  have h := ch.valid
  have e : ch.toNat = ch.val.toNat := rfl
  rcases h with h | h
  · have h2 : ch.val.toNat < 0xd800 := h
    omega
  · have h2 : ch.val.toNat < 0x110000 := h.2
    omega
theorem Uok.of (s : String) : Uok (Str.ofString s) := fun c hc => by
  rw [PyProof.Rows.signs_ofString] at hc
  obtain ⟨ch, _, rfl⟩ := List.mem_map.mp hc
  exact chr_lt ch
theorem Uok.join {y : Str} (hy : Uok y) : ∀ {l : List Str}, (∀ x ∈ l, Uok x) → Uok (Str.join y l)
  | [], _ => fun c hc => absurd (show c ∈ ([] : List Nat) from hc) (by simp)
  | [x], h => h x List.mem_cons_self
  | x :: z :: l, h => by
    show Uok (x ++ y ++ Str.join y (z :: l))
    exact ((h x List.mem_cons_self).app hy).app (Uok.join hy fun a ha => h a (List.mem_cons_of_mem _ ha))
theorem reprChar_lt {q c : Nat} (hc : c < 0x110000) : ∀ d ∈ reprChar q c, d < 0x110000 := by
  intro d hd
  have hx : ∀ (n : Nat), d ∈ List.replicate (n - ((Nat.toDigits 16 c).map Char.toNat).length) 48 ++ (Nat.toDigits 16 c).map Char.toNat → d < 0x110000 := fun n h => by
    rcases List.mem_append.mp h with h | h
    · rw [List.eq_of_mem_replicate h]
      omega
    · obtain ⟨ch, _, rfl⟩ := List.mem_map.mp h
      exact chr_lt ch
  unfold reprChar at hd
  split at hd
  · simp only [List.mem_cons, List.not_mem_nil, or_false] at hd
    rcases hd with rfl | rfl <;> omega
  split at hd
  · simp only [List.mem_cons, List.not_mem_nil, or_false] at hd
    rcases hd with rfl | rfl <;> omega
  split at hd
  · simp only [List.mem_cons, List.not_mem_nil, or_false] at hd
    rcases hd with rfl | rfl <;> omega
  split at hd
  · simp only [List.mem_cons, List.not_mem_nil, or_false] at hd
    rcases hd with rfl | rfl <;> omega
  split at hd
  · simp only [List.mem_cons, List.not_mem_nil, or_false] at hd
    omega
  have hp : ∀ (u n : Nat), u < 0x110000 → d ∈ [92, u] ++ (List.replicate (n - ((Nat.toDigits 16 c).map Char.toNat).length) 48 ++ (Nat.toDigits 16 c).map Char.toNat) → d < 0x110000 := fun u n hu h => by
    rcases List.mem_append.mp h with h | h
    · simp only [List.mem_cons, List.not_mem_nil, or_false] at h
      rcases h with rfl | rfl <;> omega
    · exact hx n h
  split at hd
  · exact hp _ _ (by omega) hd
  split at hd
  · exact hp _ _ (by omega) hd
  · exact hp _ _ (by omega) hd
theorem uok_repr {x : Str} (h : Uok x) : Uok (reprText x) := by
  have hq : reprQuote x < 0x110000 := by
    unfold reprQuote
    split <;> omega
  have go : ∀ (l : List Nat) (acc : Array Nat), (∀ c ∈ l, c < 0x110000) → (∀ c ∈ acc.toList, c < 0x110000) → ∀ c ∈ (l.foldl (fun out c => out ++ (reprChar (reprQuote x) c).toArray) acc).toList, c < 0x110000 := by
    intro l
    induction l with
    | nil => exact fun acc _ ha => ha
    | cons d r ih =>
      intro acc hl ha
      rw [List.foldl_cons]
      refine ih _ (fun c hc => hl c (List.mem_cons_of_mem _ hc)) fun c hc => ?_
      rw [Array.toList_append] at hc
      rcases List.mem_append.mp hc with hc | hc
      · exact ha c hc
      · exact reprChar_lt (hl d List.mem_cons_self) c (by simpa using hc)
  intro c hc
  unfold reprText at hc
  rw [Array.toList_push] at hc
  rcases List.mem_append.mp hc with hc | hc
  · rw [← Array.foldl_toList] at hc
    exact go _ _ h (fun c hc => by simp only [List.mem_cons, List.not_mem_nil, or_false] at hc; rw [hc]; exact hq) c hc
  · simp only [List.mem_cons, List.not_mem_nil, or_false] at hc
    rw [hc]
    exact hq
theorem uok_from : ∀ (ts : List Str) (k : Nat) (acc : Str), (∀ t ∈ ts, Uok t) → Uok acc → Uok (textFrom k acc ts)
  | [], _, acc, _, ha => ha
  | t :: ts, k, acc, h, ha => by
    show Uok (textFrom (k + 1) (acc ++ (if k > 0 then ", " else "" : String) ++ t) ts)
    exact uok_from ts _ _ (fun u hu => h u (List.mem_cons_of_mem _ hu)) ((ha.app (Uok.of _)).app (h t List.mem_cons_self))
mutual
theorem uok_shown : ∀ d : PyData, d.canLay0 = true → d.hasDict = false → Uok d.shown
  | .none, _, _ => by simp only [PyData.shown]; exact Uok.of _
  | .bool b, _, _ => by simp only [PyData.shown]; split <;> exact Uok.of _
  | .int i, _, _ => by simp only [PyData.shown]; exact Uok.of _
  | .str x, h, _ => by
    simp only [PyData.shown]
    refine uok_repr fun c hc => ?_
    simp only [PyData.canLay0, PyData.strOk, Array.all_eq_true', decide_eq_true_eq] at h
    exact h c (by simpa using hc)
  | .list ds, h, k => by
    simp only [PyData.shown]
    simp only [PyData.canLay0] at h
    simp only [PyData.hasDict] at k
    exact (uok_from _ 0 _ (uok_shownAll ds h k) (Uok.of _)).app (Uok.of _)
  | .tuple ds, h, k => by
    simp only [PyData.shown]
    simp only [PyData.canLay0] at h
    simp only [PyData.hasDict] at k
    exact ((Uok.of _).app (Uok.join (Uok.of _) (uok_shownAll ds h k))).app (Uok.of _)
  | .dict kvs, _, k => by simp [PyData.hasDict] at k
theorem uok_shownAll : ∀ ds : List PyData, PyData.canLayAll0 ds = true → PyData.hasDictAll ds = false → ∀ t ∈ PyData.shownAll ds, Uok t
  | [], _, _ => fun t ht => by simp [PyData.shownAll] at ht
  | d :: ds, h, k => fun t ht => by
    simp only [PyData.canLayAll0, Bool.and_eq_true] at h
    simp only [PyData.hasDictAll, Bool.or_eq_false_iff] at k
    simp only [PyData.shownAll, List.mem_cons] at ht
    rcases ht with rfl | ht
    · exact uok_shown d h.1 k.1
    · exact uok_shownAll ds h.2 k.2 t ht
end
theorem strOk_of {x : Str} (h : Uok x) : PyData.strOk x = true := by
  unfold PyData.strOk
  rw [Array.all_eq_true']
  exact fun c hc => decide_eq_true (h c (by simpa using hc))
theorem strOk_shown {d : PyData} (h : d.canLay0 = true) (k : d.hasDict = false) : PyData.strOk d.shown = true := strOk_of (uok_shown d h k)
/-- a list of data, by its parts -/
theorem sh_lst {ds : List PyData} (h : PyData.canLayAll0 ds = true) (k : (PyData.list ds).depth ≤ 64) : SeqAt.shaped (.list ds) = true := by
  unfold SeqAt.shaped
  simp only [PyData.canLay0]
  rw [h, decide_eq_true k]
  rfl
end RL

set_option maxHeartbeats 2000000
/-! star parameters of defs that may raise -/
namespace RL
open PySem L2 PySem.Spec PyProof.Rows
theorem cxUpN {P : Program} {w : World} : StX.CXUp (L2N.CX P w) := by
  intro outer s H s2 H2 E e s' un kp ho h
  obtain ⟨a, B, H', cls, d, ea, fl, hok, ub, na, os, ag, he⟩ := h
  have ub' : UB (frs outer) H H' s.heap B s'.heap := by
    constructor
    case keep => exact fun b o q n hb => ub.keep b o (kp b o q) (un.free b o q n (by simp)) hb
    case slot => exact fun b o q hb => ub.slot b o (kp b o q) hb
    case free => exact fun b o q n => ub.free b o (kp b o q) (un.free b o q n (by simp))
    case there => exact fun b o q hb => ub.there b o (kp b o q) hb
    case tups => exact fun b xs q => ub.tups b xs (un.tups b xs q)
    case frzs => exact fun b o xs q => ub.frzs b o xs (un.frzs b o xs q)
    case tbls =>
      intro b ps q
      obtain ⟨m1, e1⟩ := un.tbls b ps q
      obtain ⟨m2, e2⟩ := ub.tbls b _ e1
      exact ⟨m1 ++ m2, by rw [e2, Array.append_assoc]⟩
  exact ⟨a, B, H', cls, d, ea, fl, hok, ub', na, os.trans ho, ag, he⟩
end RL

set_option maxHeartbeats 2000000
/-! methods that may raise: o.m(e), o.m(k = e) -/
namespace RL
open PySem L2 PySem.Spec PyProof.Rows
structure MtN (P : Program) (w : World) (K : PySem.W.Frag) (mg : Str → Option Value) (base : Heap) (C : Addr) (k : Nat) (m p1 kw : Str) (sp : Sp) : Prop where
  ex : ∃ (f : Addr) (fd : FuncData), FnOk P w K mg base (L2N.CX P w) k f fd [p1, kw] sp ∧ Meth K C m f ∧ Binds K fd [p1, kw] [] ∧ (∀ (s : Shared) (u v : Value), K.In s.heap → BindsTo s fd ⟨[u], [(kw, v)]⟩ [(p1, u), (kw, v)])
def tMethKN (C : Addr) (m : Str) (sp : Sp) (E : XK) (ta : TE) (tk : TA) : TE := fun σ H Q => ta σ H fun x H1 => ∃ a dx fs, x = .ref a ∧ H1 a = some (.ins C dx fs) ∧ fs.lookup m = none ∧ tk σ H1 fun zs H2 => sp (.ref a :: zs) H2 Q E
section
variable {X : Cx} {k : Nat} {C : Addr} {sp : Sp} {E : XK} {m p1 kw : Str} {p pos apos kpos : Pos} {e o : Expr} {es : List Expr} {t : TA} {ta te : TE} {tk : TA}
theorem pe_dmN {pl : Sem Bool} (he : PE X o ta) (c : Cls X.K C) (D : MtN X.prog X.w X.K X.mg X.base C k m p1 kw sp) (hr : Room k X.A) (hx : Passes (L2N.CX X.prog X.w) X E) (ha : PA X (e :: es) t)
    (hst : starEach (e :: es) X.env = (false, eval e X.env) :: starEach es X.env := by rfl) (hpl : (backTo pos (starEach es X.env)).any (·.1) = false := by rfl)
    (ht : eval (.Call (.Attribute o m apos) (e :: es) [] pos) X.env = (do
      let ov ← eval o X.env
      standAt apos.atName
      let (f, first) ← holding [ov] (getMethod ov m pl)
      callWith pos f first (backTo pos (starEach (e :: es) X.env)) (backToKw pos (keywordEach [] X.env))) := by rfl) :
    PE X (.Call (.Attribute o m apos) (e :: es) [] pos) (tMeth C m sp [] E ta t) := by
  obtain ⟨f, fd, F, hm, hb, _⟩ := D.ex
  exact pe_meth (pl := pl) he c hm F hr hb .nil hx ha hst hpl ht
theorem pe_mkN {pl : Sem Bool} (he : PE X o ta) (c : Cls X.K C) (D : MtN X.prog X.w X.K X.mg X.base C k m p1 kw sp) (hr : Room k X.A) (hx : Passes (L2N.CX X.prog X.w) X E) (hkw : PK X [⟨some kw, e, kpos⟩] tk)
    (hall : (backToKw pos (keywordEach [⟨some kw, e, kpos⟩] X.env)).all (·.1.isSome) = true := by rfl) (hks : (backToKw pos (keywordEach [⟨some kw, e, kpos⟩] X.env)).filterMap (·.1) = [kw] := by rfl)
    (hpl : ((backTo pos (starEach [] X.env)).any (·.1) || (backToKw pos (keywordEach [⟨some kw, e, kpos⟩] X.env)).any (·.1.isNone)) = false := by rfl)
    (ht : eval (.Call (.Attribute o m apos) [] [⟨some kw, e, kpos⟩] pos) X.env = (do
      let ov ← eval o X.env
      standAt apos.atName
      let (f, first) ← holding [ov] (getMethod ov m pl)
      callWith pos f first (backTo pos (starEach [] X.env)) (backToKw pos (keywordEach [⟨some kw, e, kpos⟩] X.env))) := by rfl) :
    PE X (.Call (.Attribute o m apos) [] [⟨some kw, e, kpos⟩] pos) (tMethKN C m sp E ta tk) := by
  obtain ⟨f, fd, F, hm, _, hb⟩ := D.ex
  refine ⟨fun pins s σ H Q I h => ?_⟩
  refine PySem.W.methodCall_KW (pl := pl) (thn (he.run pins s σ H _ I h) fun u s1 ⟨x, H1, I1, rx, a, dx, fs, ex, ea, l, q⟩ => ?_) ht
  subst ex
  obtain rfl : u = Value.ref a := rx
  refine getmeth_ok I1 ea c hm l ?_
  refine PySem.W.callWith_KW0 (first := [.ref a]) (h₀ := X.base) I.ok.mod.kin hm.kp hall ?_ hpl
  refine thn (hkw.run pos pins s1 σ H1 _ I1 q) fun ws s2 ⟨zs, H2, I2, rz, q2⟩ => ⟨I2.kIn, ?_⟩
  rw [hks]
  have hl := F.len _ _ _ _ q2
  cases rz with
  | nil => cases hl
  | @cons v u vs us rv rr =>
    cases rr with
    | cons _ _ => cases hl
    | nil =>
      refine wpAny_call (codeAny_mono (F.run X.A X.stack s2 H2 ⟨[.ref a], [(kw, u)]⟩ [.ref a, u] [.ref a, v] Q E hr I2.env0 (hb s2 _ _ I2.kIn) (.cons rfl (.cons rv .nil)) q2) fun r s' hq => ?_)
      cases r with
      | error e => exact hx _ _ _ _ _ _ I2 hq
      | ok fl =>
        cases fl with
        | ret u => exact I2.after hq
        | next => exact False.elim hq
        | brk => exact False.elim hq
        | cont => exact False.elim hq
end
end RL

set_option maxHeartbeats 2000000
/-! static methods that may raise, by position and by keyword; texts repeated; a written list whose second thing is a replace -/
namespace RL
open PySem L2 PySem.Spec PyProof.Rows
structure SmN (P : Program) (w : World) (K : PySem.W.Frag) (mg : Str → Option Value) (base : Heap) (C : Addr) (k : Nat) (m kw : Str) (sp : Sp) : Prop where
  ex : ∃ (mc : Value) (p g : Addr) (fd : FuncData), ClX.CRead K C mc ∧ SMet K C mc m p g ∧ FnOk P w K mg base (L2N.CX P w) k g fd [kw] sp ∧ Binds K fd [kw] [] ∧ (∀ (s : Shared) (u : Value), K.In s.heap → BindsTo s fd ⟨[], [(kw, u)]⟩ [(kw, u)])
def tSMethN (C : Addr) (sp : Sp) (E : XK) (ta : TE) (t : TA) : TE := fun σ H Q => ta σ H fun x H1 => x = .ref C ∧ t σ H1 fun vs H2 => sp vs H2 Q E
section
variable {X : Cx} {k : Nat} {C : Addr} {sp : Sp} {o e : Expr} {es : List Expr} {m kw : Str} {pos apos kpos : Pos} {ta : TE} {t tk : TA} {E : XK} {pl : Sem Bool}
theorem pe_smethN (he : PE X o ta) (D : SmN X.prog X.w X.K X.mg X.base C k m kw sp) (hr : Room k X.A) (hx : Passes (L2N.CX X.prog X.w) X E) (ha : PA X (e :: es) t)
    (hst : starEach (e :: es) X.env = (false, eval e X.env) :: starEach es X.env := by rfl) (hpl : (backTo pos (starEach es X.env)).any (·.1) = false := by rfl)
    (ht : eval (.Call (.Attribute o m apos) (e :: es) [] pos) X.env = (do
      let ov ← eval o X.env
      standAt apos.atName
      let (f, first) ← holding [ov] (getMethod ov m pl)
      callWith pos f first (backTo pos (starEach (e :: es) X.env)) (backToKw pos (keywordEach [] X.env))) := by rfl) :
    PE X (.Call (.Attribute o m apos) (e :: es) [] pos) (tSMethN C sp E ta t) := by
  obtain ⟨mc, p, g, fd, r, c, F, hb, _⟩ := D.ex
  refine ⟨fun pins s σ H Q I h => ?_⟩
  refine PySem.W.methodCall_KW (pl := pl) (thn (he.run pins s σ H _ I h) fun u s1 ⟨x, H1, I1, rx, ex, q⟩ => ?_) ht
  subst ex
  obtain rfl : u = Value.ref C := rx
  obtain ⟨rest, hp⟩ := c.rc
  refine PySem.W.method_cls I1.kIn r.ga (PySem.W.cls_bind I1.kIn r.rd c.at_ (wpAny_call (PySem.W.sm_get (s := { s1 with toks := s1.toks + 1 }) I1.kIn hp (PySem.W.handed_on rfl ?_))))
  have I2 := I1.tok (s1.toks + 1)
  refine PySem.W.callWith_K (first := []) (h₀ := X.base) I.ok.mod.kin c.kp (thn (ha.run pos pins _ σ H1 _ I2 q) fun us s2 ⟨vs, H2, I3, rv, q2⟩ => ⟨I3.kIn, ?_⟩) hst hpl
  have q0 : sp (vs ++ []) H2 Q E := by
    rw [List.append_nil]
    exact q2
  exact run_fn (us := us) F hr hb .nil hx I3 rv q0
theorem pe_smethKN (he : PE X o ta) (D : SmN X.prog X.w X.K X.mg X.base C k m kw sp) (hr : Room k X.A) (hx : Passes (L2N.CX X.prog X.w) X E) (hkw : PK X [⟨some kw, e, kpos⟩] tk)
    (hall : (backToKw pos (keywordEach [⟨some kw, e, kpos⟩] X.env)).all (·.1.isSome) = true := by rfl) (hks : (backToKw pos (keywordEach [⟨some kw, e, kpos⟩] X.env)).filterMap (·.1) = [kw] := by rfl)
    (hpl : ((backTo pos (starEach [] X.env)).any (·.1) || (backToKw pos (keywordEach [⟨some kw, e, kpos⟩] X.env)).any (·.1.isNone)) = false := by rfl)
    (ht : eval (.Call (.Attribute o m apos) [] [⟨some kw, e, kpos⟩] pos) X.env = (do
      let ov ← eval o X.env
      standAt apos.atName
      let (f, first) ← holding [ov] (getMethod ov m pl)
      callWith pos f first (backTo pos (starEach [] X.env)) (backToKw pos (keywordEach [⟨some kw, e, kpos⟩] X.env))) := by rfl) :
    PE X (.Call (.Attribute o m apos) [] [⟨some kw, e, kpos⟩] pos) (tSMethN C sp E ta tk) := by
  obtain ⟨mc, p, g, fd, r, c, F, _, hb⟩ := D.ex
  refine ⟨fun pins s σ H Q I h => ?_⟩
  refine PySem.W.methodCall_KW (pl := pl) (thn (he.run pins s σ H _ I h) fun u s1 ⟨x, H1, I1, rx, ex, q⟩ => ?_) ht
  subst ex
  obtain rfl : u = Value.ref C := rx
  obtain ⟨rest, hp⟩ := c.rc
  refine PySem.W.method_cls I1.kIn r.ga (PySem.W.cls_bind I1.kIn r.rd c.at_ (wpAny_call (PySem.W.sm_get (s := { s1 with toks := s1.toks + 1 }) I1.kIn hp (PySem.W.handed_on rfl ?_))))
  have I2 := I1.tok (s1.toks + 1)
  refine PySem.W.callWith_KW0 (first := []) (h₀ := X.base) I.ok.mod.kin c.kp hall ?_ hpl
  refine thn (hkw.run pos pins _ σ H1 _ I2 q) fun ws s2 ⟨zs, H2, I3, rz, q2⟩ => ⟨I3.kIn, ?_⟩
  rw [hks]
  have hl := F.len _ _ _ _ q2
  cases rz with
  | nil => cases hl
  | @cons v u vs us rv rr =>
    cases rr with
    | cons _ _ => cases hl
    | nil =>
      refine wpAny_call (codeAny_mono (F.run X.A X.stack s2 H2 ⟨[], [(kw, u)]⟩ [u] [v] Q E hr I3.env0 (hb s2 _ I3.kIn) (.cons rv .nil) q2) fun r s' hq => ?_)
      cases r with
      | error e => exact hx _ _ _ _ _ _ I3 hq
      | ok fl =>
        cases fl with
        | ret u => exact I3.after hq
        | next => exact False.elim hq
        | brk => exact False.elim hq
        | cont => exact False.elim hq
end
/-! ### texts -/
def repS (a : Str) (n : Nat) : Str := ⟨(List.replicate n a.cps).foldl (· ++ ·) #[]⟩
def rStrMul : R2 := fun x y H Q => ∃ (a : Str) (n : Int), x = .str a ∧ y = .int n ∧ 2 ≤ n ∧ n ≤ 1000 ∧ 0 < a.length ∧ a.length ≤ 1000 ∧ (repS a n.toNat).length ≤ sizeLine ∧ Q (.str (repS a n.toNat)) H
theorem rep_go (a : Array Nat) : ∀ (n : Nat) (acc : Array Nat), ((List.replicate n a).foldl (· ++ ·) acc).toList = acc.toList ++ (List.replicate n a.toList).flatten
  | 0, acc => by simp
  | n + 1, acc => by
    rw [List.replicate_succ, List.foldl_cons, rep_go a n, Array.toList_append, List.replicate_succ, List.flatten_cons, List.append_assoc]
theorem rep_list (a : Str) (n : Nat) : (repS a n).cps.toList = (List.replicate n a.cps.toList).flatten := by
  show ((List.replicate n a.cps).foldl (· ++ ·) #[]).toList = _
  rw [rep_go]
  simp
theorem rep_len (a : Str) (n : Nat) : (repS a n).length = n * a.length := by
  have h := congrArg List.length (rep_list a n)
  rw [Array.length_toList] at h
  show (repS a n).cps.size = _
  rw [h, List.length_flatten]
  simp
  rfl
section
variable {X : Cx}
theorem op_strmul : OpR X (binaryOp .Mult) rStrMul := by
  intro pins s σ H x y v u Q I rx ry h
  obtain ⟨a, n, rfl, rfl, n2, n1000, a0, a1000, hz, q⟩ := h
  obtain ⟨t, rfl⟩ := rx
  obtain ⟨t', rfl⟩ := ry
  have h1 : ¬ n < 1 := by omega
  have e1 : (n == 1) = false := by
    rw [beq_eq_false_iff_ne]
    omega
  have e2 : (a.length == 0) = false := by
    rw [beq_eq_false_iff_ne]
    omega
  have e3 : (n == 1 || a.length == 0) = false := by rw [e1, e2]; rfl
  have ln : (repS a n.toNat).length = n.toNat * a.length := rep_len a n.toNat
  refine PySem.P.mul_str ?_ (fun _ _ z => ?_) (fun _ _ => ?_) ?_
  · rw [Bool.or_eq_false_iff]
    exact ⟨decide_eq_false (by omega), decide_eq_false (by omega)⟩
  · have hq : (1000 : Int) ≤ (2 ^ 63 - 1) / n := Int.le_ediv_of_mul_le (by omega) (by omega)
    omega
  · unfold Builtin.Str.tooLong PySem.sizeLine
    rw [ln] at hz
    rw [sizeLine_eq] at hz
    refine decide_eq_false ?_
    rw [Nat.mul_comm]
    omega
  · rw [if_neg h1, if_neg (by rw [e3]; decide)]
    exact ⟨hz, .str (repS a n.toNat), H, I.tok _, ⟨_, rfl⟩, q⟩
theorem pat_of {es : List Expr} {ta : TA} (h : PA X es ta) : PAT X es ta := fun pos pins s σ H Q _ I q => h.run pos pins s σ H Q I q
def rAddS : R2 := fun x y H Q => ∃ i j, x = .str i ∧ y = .str j ∧ i.length + j.length ≤ sizeLine ∧ Q (.str (i ++ j)) H
/-- [e + 'c', ..]: behind the first thing a token is out -/
theorem pa_lead {e : Expr} {c : Str} {j : Nat} {cpos pos : Pos} {es : List Expr} {te : TE} {ta : TA} (he : PE X e te) (hr : PAT X es ta)
    (hs : starEach (.BinOp e .Add (.Constant (.str c) j cpos) pos :: es) X.env = (false, eval (.BinOp e .Add (.Constant (.str c) j cpos) pos) X.env) :: starEach es X.env := by rfl) :
    PA X (.BinOp e .Add (.Constant (.str c) j cpos) pos :: es) (tCons (tOp rAddS te (tC (.str c))) ta) := by
  refine ⟨fun pos' pins s σ H Q I h => ?_⟩
  rw [hs]
  show wpAny _ _ (spliced ((false, eval (.BinOp e .Add (.Constant (.str c) j cpos) pos) X.env) :: backTo pos' (starEach es X.env))) _ _ s
  refine Calls.spliced_cons (wpAny_BinOp (thn (he.run pins s σ H _ I h) fun v s1 ⟨x, H1, I1, r1, q1⟩ => Calls.Constant_str ?_))
  refine wpAny_mono (PySem.wpAny_toks (op_add_str pins _ σ H1 x (.str c) v (.str c s1.toks) (fun x H1 => ta σ H1 fun xs H2 => Q (x :: xs) H2) (I1.tok (s1.toks + 1)) r1 ⟨_, rfl⟩ q1)) (fun v2 s2 q => ?_) fun _ _ z => z.2
  obtain ⟨hk, y, H2, I2, r2, q2⟩ := q
  exact thn (hr pos' pins s2 σ H2 _ (Nat.le_trans (Nat.le_add_left 1 s1.toks) hk) I2 q2) fun us s3 ⟨xs, H3, I3, r3, q3⟩ => ⟨y :: xs, H3, I3, .cons r2 r3, q3⟩
end
end RL

set_option maxHeartbeats 2000000
namespace RL
open PySem L2 PySem.Spec PyProof.Rows
/-! ### which texts are read -/
def Rd (x : Str) (r : List Pc) : Prop := x = rowTx r ∧ RowOk r ∧ 1 ≤ r.length ∧ r.length ≤ 8
def RdD (d : PyData) (r : List Pc) : Prop := ∃ x, d = .str x ∧ Rd x r
noncomputable def rdP (x : Str) : Option Pc := open Classical in if h : ∃ p, PcOk p ∧ x = ptx p then some h.choose else none
theorem rdP_some {x : Str} {p : Pc} (h : rdP x = some p) : PcOk p ∧ x = ptx p := by
  unfold rdP at h
  split at h
  · rename_i k
    cases h
    exact k.choose_spec
  · cases h
theorem rdP_none {x : Str} (h : rdP x = none) {p : Pc} (hp : PcOk p) : x ≠ ptx p := fun e => by
  unfold rdP at h
  split at h
  · cases h
  · rename_i k
    exact k ⟨p, hp, e⟩
theorem rdP_ptx {p : Pc} (hp : PcOk p) : rdP (ptx p) = some p := by
  cases h : rdP (ptx p) with
  | none => exact absurd rfl (rdP_none h hp)
  | some q =>
    obtain ⟨hq, e⟩ := rdP_some h
    rw [ptx_inj hp hq e]
theorem rdP_all {x : Str} {p : Pc} (hp : PcOk p) (h : x = ptx p) : rdP x = some p := by rw [h, rdP_ptx hp]
/-- parts of a text as pieces: all or not all -/
theorem parts_all : ∀ (l : List Str), (∀ x ∈ l, rdP x ≠ none) → ∃ r : List Pc, l = r.map ptx ∧ RowOk r
  | [], _ => ⟨[], rfl, fun _ z => nomatch z⟩
  | x :: l, h => by
    obtain ⟨r, e, ok⟩ := parts_all l fun y hy => h y (List.mem_cons_of_mem _ hy)
    cases hx : rdP x with
    | none => exact absurd hx (h x List.mem_cons_self)
    | some p =>
      obtain ⟨hp, ex⟩ := rdP_some hx
      refine ⟨p :: r, by rw [List.map_cons, ← e, ← ex], fun q hq => ?_⟩
      rcases List.mem_cons.mp hq with rfl | hq
      · exact hp
      · exact ok q hq
theorem rowTx_split (x : Str) : Txt.join (Str.ofString ", ") (Txt.split x (Str.ofString ", ")) = x := by
  rw [TL.join_eq]
  exact StrLaws.join_split x _
theorem split_ne (x : Str) : Txt.split x (Str.ofString ", ") ≠ [] := fun h => by
  have e := rowTx_split x
  rw [h] at e
  have e2 : x = Str.empty := e.symm.trans rfl
  rw [e2] at h
  have h2 : (Txt.split Str.empty (Str.ofString ", ")).length = 1 := by decide +kernel
  rw [h] at h2
  cases h2
theorem rd_of {x : Str} {r : List Pc} (h : Txt.split x (Str.ofString ", ") = r.map ptx) (ok : RowOk r) (l8 : r.length ≤ 8) : Rd x r := by
  refine ⟨?_, ok, ?_, l8⟩
  · rw [← rowTx_split x, h]
    rfl
  · rcases Nat.lt_or_ge 0 r.length with z | z
    · exact z
    · have e : r = [] := List.length_eq_zero_iff.mp (by omega)
      rw [e] at h
      exact absurd h (split_ne x)
theorem rd_parts {x : Str} {r : List Pc} (h : Rd x r) : Txt.split x (Str.ofString ", ") = r.map ptx := by
  obtain ⟨rfl, ok, l1, _⟩ := h
  exact parts_split ok l1
theorem rd_inj {x : Str} {r r' : List Pc} (h : Rd x r) (h' : Rd x r') : r = r' := by
  have e := (rd_parts h).symm.trans (rd_parts h')
  have go : ∀ (r r' : List Pc), RowOk r → RowOk r' → r.map ptx = r'.map ptx → r = r' := by
    intro r
    induction r with
    | nil => intro r' _ _ e; cases r' with
      | nil => rfl
      | cons _ _ => cases e
    | cons p r ih => intro r' ok ok' e; cases r' with
      | nil => cases e
      | cons q r' =>
        rw [List.map_cons, List.map_cons, List.cons.injEq] at e
        rw [ptx_inj ok.head ok'.head e.1, ih r' ok.tail ok'.tail e.2]
  exact go r r' h.2.1 h'.2.1 e
/-- some part is no piece: the text is not read -/
theorem rd_no {x y : Str} (h : y ∈ Txt.split x (Str.ofString ", ")) (hy : rdP y = none) : ¬ ∃ r, Rd x r := fun ⟨r, hr⟩ => by
  rw [rd_parts hr] at h
  obtain ⟨p, hp, e⟩ := List.mem_map.mp h
  exact rdP_none hy (hr.2.1 p hp) e.symm
theorem rd_long {x : Str} (h : 8 < (Txt.split x (Str.ofString ", ")).length) : ¬ ∃ r, Rd x r := fun ⟨r, hr⟩ => by
  rw [rd_parts hr, List.length_map] at h
  have := hr.2.2.2
  omega
/-! ### pieces or None, in the heap -/
def POpt (H : Hp) (v : V) : Option Pc → Prop
  | none => v = .non
  | some p => PieceAt H v p
def optD : Option Pc → PyData
  | none => .none
  | some p => pcD p
def POpts (H : Hp) (vs : List V) (os : List (Option Pc)) : Prop := vs.length = os.length ∧ ∀ (i : Nat) (o : Option Pc), os[i]? = some o → ∃ v, vs[i]? = some v ∧ POpt H v o
theorem POpt.same {H H' : Hp} {v : V} {o : Option Pc} (h : POpt H v o) (s : Same H H') : POpt H' v o := by
  cases o with
  | none => exact h
  | some p => exact PieceAt.same h s
theorem POpt.but {H H' : Hp} {x : Addr} {v : V} {o : Option Pc} (h : POpt H v o) (s : But x H H') (hx : ∀ xs, H x ≠ some (.tup xs)) : POpt H' v o := by
  cases o with
  | none => exact h
  | some p => exact PieceAt.but h s hx
theorem POpts.same {H H' : Hp} {vs : List V} {os : List (Option Pc)} (h : POpts H vs os) (s : Same H H') : POpts H' vs os :=
  ⟨h.1, fun i o ho => let ⟨v, hv, q⟩ := h.2 i o ho; ⟨v, hv, q.same s⟩⟩
theorem POpts.but {H H' : Hp} {x : Addr} {vs : List V} {os : List (Option Pc)} (h : POpts H vs os) (s : But x H H') (hx : ∀ xs, H x ≠ some (.tup xs)) : POpts H' vs os :=
  ⟨h.1, fun i o ho => let ⟨v, hv, q⟩ := h.2 i o ho; ⟨v, hv, q.but s hx⟩⟩
theorem POpts.push {H : Hp} {vs : List V} {os : List (Option Pc)} {v : V} {o : Option Pc} (h : POpts H vs os) (hv : POpt H v o) : POpts H (vs ++ [v]) (os ++ [o]) := by
  refine ⟨by rw [List.length_append, List.length_append, h.1]; rfl, fun i o' ho => ?_⟩
  by_cases hi : i < os.length
  · rw [List.getElem?_append_left hi] at ho
    obtain ⟨u, hu, q⟩ := h.2 _ _ ho
    exact ⟨u, by rw [List.getElem?_append_left (by rw [h.1]; exact hi)]; exact hu, q⟩
  · rw [List.getElem?_append_right (by omega)] at ho
    have e0 : i - os.length = 0 := by
      rcases Nat.lt_or_ge 0 (i - os.length) with z | z
      · rw [List.getElem?_eq_none (by show 1 ≤ _; omega)] at ho
        cases ho
      · omega
    rw [e0] at ho
    cases ho
    refine ⟨v, ?_, hv⟩
    rw [List.getElem?_append_right (by rw [h.1]; omega), h.1, e0]
    rfl
theorem dp_opts {K : PySem.W.Frag} {H : Hp} : ∀ {ws : List V} {os : List (Option Pc)}, POpts H ws os → DpAll K H ws (os.map optD)
  | [], [], _ => .nil
  | [], _ :: _, h => by have := h.1; simp at this
  | _ :: _, [], h => by have := h.1; simp at this
  | w :: ws, o :: os, h => by
    obtain ⟨v, hv, q⟩ := h.2 0 o rfl
    have hv : v = w := by simpa using hv.symm
    subst hv
    refine .cons ?_ (dp_opts ⟨by have := h.1; simpa using this, fun i q hq => h.2 (i + 1) q hq⟩)
    cases o with
    | none =>
      cases (show v = .non from q)
      exact .non
    | some p =>
      obtain ⟨t, rfl, ht⟩ := q
      exact .tup (SqT.of ht) (.cons (.str _) (.cons (.int _) .nil))
theorem cl_opts : ∀ os : List (Option Pc), PyData.canLayAll0 (os.map optD) = true
  | [] => rfl
  | o :: os => by
    have h := cl_opts os
    cases o with
    | none => simp [PyData.canLayAll0, PyData.canLay0, optD, h]
    | some p =>
      have g : PyData.strOk (wd p.1) = true := by cases p.1 <;> exact strOk_of (Uok.of _)
      simp [PyData.canLayAll0, PyData.canLay0, pcD, optD, g, h]
theorem dep_opts : ∀ os : List (Option Pc), PyData.depthAll (os.map optD) ≤ 1
  | [] => by simp [PyData.depthAll]
  | o :: os => by
    have h := dep_opts os
    cases o with
    | none => simp only [List.map_cons, optD, PyData.depthAll, PyData.depth]; omega
    | some p => simp only [List.map_cons, optD, pcD, PyData.depthAll, PyData.depth]; omega
theorem sh_optsT (os : List (Option Pc)) : SeqAt.shaped (.tuple (os.map optD)) = true := by
  have hd : (PyData.tuple (os.map optD)).depth ≤ 64 := by
    simp only [PyData.depth]
    have := dep_opts os
    omega
  unfold SeqAt.shaped
  simp only [PyData.canLay0]
  rw [cl_opts os, decide_eq_true hd]
  rfl
theorem sh_optsL (os : List (Option Pc)) : SeqAt.shaped (.list (os.map optD)) = true := by
  have hd : (PyData.list (os.map optD)).depth ≤ 64 := by
    simp only [PyData.depth]
    have := dep_opts os
    omega
  unfold SeqAt.shaped
  simp only [PyData.canLay0]
  rw [cl_opts os, decide_eq_true hd]
  rfl
theorem any_opts (os : List (Option Pc)) : ((os.map optD).any fun z => PyData.eqv z .none) = os.any Option.isNone := by
  induction os with
  | nil => rfl
  | cons o os ih =>
    rw [List.map_cons, List.any_cons, List.any_cons, ih]
    cases o <;> simp [optD, pcD, PyData.eqv]
theorem opts_all {H : Hp} {vs : List V} {r : List Pc} (h : POpts H vs ((r.map ptx).map rdP)) (ok : RowOk r) : PiecesAt H vs r := by
  refine ⟨by rw [h.1, List.length_map, List.length_map], fun i p hp => ?_⟩
  have e : ((r.map ptx).map rdP)[i]? = some (some p) := by
    rw [List.getElem?_map, List.getElem?_map, hp]
    exact congrArg some (rdP_ptx (ok.at_ hp))
  exact h.2 i _ e
/-! ### promises -/
def spPwtG : Sp := fun vs H Q _ => ∃ x : Str, vs = [.str x] ∧ ∀ H' v, Same H H' → POpt H' v (rdP x) → Q v H'
def spDue (K : PySem.W.Frag) : Sp := fun vs H Q _ => ∃ (v : V) (d : PyData), vs = [v] ∧ Dq K H v d ∧ (∀ x, d = .str x → x.length ≤ 900) ∧
  (∀ r, RdD d r → ∀ H' q ws, Same H H' → H' q = some (.tup ws) → PiecesAt H' ws r → Q (.ref q) H') ∧ ((¬ ∃ r, RdD d r) → ∀ H', Same H H' → Q .non H')
def spReadN (K : PySem.W.Frag) (C C5 : Addr) : Sp := fun vs H Q E => ∃ (v : V) (d : PyData), vs = [v] ∧ Dq K H v d ∧ (∀ x, d = .str x → x.length ≤ 900) ∧
  (∀ r, RdD d r → ∀ H' z, Same H H' → PatAt C H' z r → Q (.ref z) H') ∧ ((¬ ∃ r, RdD d r) → ∀ H' dx, Same H H' → H' dx = some (.xd [(Str.ofString "given", v)]) → E (.ref C5) (some dx) H')
theorem dq_str {K : PySem.W.Frag} {H : Hp} {v : V} {x : Str} (h : Dq K H v (.str x)) : v = .str x := by
  cases h with
  | dp a b => cases a with
    | str x => rfl
section
variable {P : Program} {w : World} {K : PySem.W.Frag} {mg : Str → Option Value} {base : Heap} {tG t1 t2 t3 : Tok} {aO aW J C fP fJ : Addr} {fdJ : FuncData} {c : Nat → Addr}
/-- no piece of these words and these ohms -/
def Past (x : Str) (r : Bool) (n : Int) : Prop := ∀ p : Pc, PcOk p → p.1 = r → p.2 ≤ n → x ≠ ptx p
theorem rdP_past {x : Str} (h1 : Past x true 12) (h2 : Past x false 12) : rdP x = none := by
  cases h : rdP x with
  | none => rfl
  | some p =>
    obtain ⟨hp, e⟩ := rdP_some h
    cases hb : p.1 with
    | true => exact absurd e (h1 p hp hb hp.2)
    | false => exact absurd e (h2 p hp hb hp.2)
theorem ok_pwtG {f : Addr} {fd : FuncData} (F : Fun K "piece_with_text" "piece_with_text" s_piece_with_text f fd) (T : Txt3 K mg tG t1 t2 t3 aO aW J C) (D_piece_text : Df P w K mg base 1 "piece_text" ["word", "ohms"] spPtx) : FnOk P w K mg base CX0 2 f fd ["text"] spPwtG := by
  refine F.ok sc_piece_with_text (fun vs H Q E h => ?_) (fun cdv A outer s H vs Q E hr h => ?_)
  · obtain ⟨x, rfl, _⟩ := h
    rfl
  · obtain ⟨x, rfl, k⟩ := h
    refine ⟨_, (pss_cons (ps_for PassesOwn.never rfl (pi_tup (pe_glob (v := .ref aW) rfl T.mgW rfl)) (pg_name (i := 1) sc_piece_with_text.nd rfl (.inl rfl)) (pss_one (ps_for PassesOwn.never rfl (pi_range2 rfl T.range (pa_cons pe_int (pa_cons (pe_op op_add (pe_glob (v := .int 12) rfl T.mgOh ⟨_, rfl⟩) pe_int) pa_nil))) (pg_name (i := 2) sc_piece_with_text.nd rfl (.inl rfl)) (pss_one (ps_if (pt_cmpR op_eq (pv 0) (pe_df D_piece_text (hr.mono (by decide)) (by rfl) (pa_cons (pv 1) (pa_cons (pv 2) pa_nil))) (nomark _)) (pss_one (ps_ret (pe_tup (pa_cons (pv 1) (pa_cons (pv 2) pa_nil))))) pss_nil)))))
      (pss_one (ps_ret pe_non))), ?_⟩
    have hW : SqT K H aW [.str (Str.ofString "rail"), .str (Str.ofString "rung")] := .inr T.wds
    refine ⟨aW, rfl, ⟨_, hW⟩, ?_⟩
    refine for_tup (K := K) (a := aW) (xs := [.str (Str.ofString "rail"), .str (Str.ofString "rung")]) (fun i σ H' => H' = H ∧ (∃ v1 v2, σ = [some (.str x), v1, v2]) ∧ (1 ≤ i → Past x true 12) ∧ (2 ≤ i → Past x false 12)) ⟨rfl, ⟨none, none, rfl⟩, by omega, by omega⟩ (fun i σ H' _ h => by rw [h.1]; exact hW) ?_ ?_
    · rintro i y σ H' hx ⟨rfl, ⟨v1, v2, rfl⟩, i1, i2⟩
      obtain ⟨r, rfl, hr1, hr2⟩ : ∃ r : Bool, y = .str (wd r) ∧ (Past x r 12 → 1 ≤ i + 1 → Past x true 12) ∧ (Past x r 12 → 2 ≤ i + 1 → Past x false 12) := by
        match i, hx with
        | 0, hx =>
          cases hx
          exact ⟨true, rfl, fun z _ => z, fun z y => absurd y (by decide)⟩
        | 1, hx =>
          cases hx
          exact ⟨false, rfl, fun z _ => i1 (by decide), fun z _ => z⟩
      refine ⟨_, _, rfl, rfl, 1, 13, rfl, ⟨by decide, by decide, by decide, by decide⟩, ?_⟩
      refine for_range (lo := 1) (n := Int.toNat (13 - 1)) (fun j σ H'' => H'' = H' ∧ (∃ v2, σ = [some (.str x), some (.str (wd r)), v2]) ∧ Past x r (j : Int)) ⟨rfl, ⟨_, rfl⟩, fun p hp _ hle => by have := hp.1; omega⟩ ?_ ?_
      · rintro j σ H'' hj ⟨rfl, ⟨v2, rfl⟩, hjp⟩
        have hj12 : j < 12 := hj
        have hq : PcOk (r, 1 + (j : Int)) := ⟨by dsimp; omega, by dsimp; omega⟩
        refine ⟨_, rfl, _, rfl, _, rfl, (r, 1 + (j : Int)), rfl, hq, rfl, _, rfl, ite2 (fun e => ?_) (fun e => ?_)⟩
        · have e1 : x = ptx (r, 1 + (j : Int)) := V.str.inj (of_decide_eq_true e)
          refine ⟨_, rfl, _, rfl, (by show 2 ≤ sizeLine; decide), fun t ht => ?_⟩
          refine k _ _ (same_upd ht) ?_
          rw [rdP_all hq e1]
          exact ⟨t, rfl, upd_same⟩
        · refine ⟨rfl, ⟨_, rfl⟩, fun p hp hb hle => ?_⟩
          rcases Int.lt_or_le (j : Int) p.2 with y | y
          · have e2 : p = (r, 1 + (j : Int)) := by
              ext
              · exact hb
              · show p.2 = 1 + (j : Int)
                omega
            exact fun z => e (decide_eq_true (by rw [z, e2]))
          · exact hjp p hp hb y
      · rintro σ H'' ⟨rfl, ⟨v2, rfl⟩, hjp⟩
        exact ⟨rfl, ⟨_, _, rfl⟩, hr1 hjp, hr2 hjp⟩
    · rintro σ H' ⟨rfl, ⟨v1, v2, rfl⟩, z1, z2⟩
      refine k _ .non (Same.refl _) ?_
      rw [rdP_past (z1 (by decide)) (z2 (by decide))]
      rfl
abbrev s_law_piece : Stmt := top 57
theorem sc_law_piece : FnScope ["_law_part", "_law_word", "_law_ohms"] ["_law_part"] (defScope s_law_piece) := ⟨rfl, rfl, rfl, by decide +kernel, rfl, by decide +kernel, by decide +kernel⟩

theorem ok_lpiece {f : Addr} {fd : FuncData} (F : Fun K "_law_piece" "_law_piece" s_law_piece f fd) (T : Txt K mg) : FnOk P w K mg base CX0 1 f fd ["_law_part"] spPwtG := by
  refine F.ok sc_law_piece (fun vs H Q E h => ?_) (fun cdv A outer s H vs Q E hr h => ?_)
  · obtain ⟨x, rfl, _⟩ := h
    rfl
  · obtain ⟨x, rfl, k⟩ := h
    refine ⟨_, (pss_cons (ps_for PassesOwn.never rfl (pi_list (pe_lst (pa_cons pe_str (pa_cons pe_str pa_nil)))) (pg_name (i := 1) sc_law_piece.nd rfl (.inl rfl)) (pss_one (ps_for PassesOwn.never rfl (pi_range2 rfl T.range (pa_cons pe_int (pa_cons pe_int pa_nil))) (pg_name (i := 2) sc_law_piece.nd rfl (.inl rfl)) (pss_one (ps_if (pt_cmpR op_eq (pv 0) (pe_op op_add_str (pe_op op_add_str (pv 1) pe_str) (pe_callTy call_str_int (by rfl) T.str_ (by decide +kernel) (pa_cons (pv 2) pa_nil))) (nomark _)) (pss_one (ps_ret (pe_tup (pa_cons (pv 1) (pa_cons (pv 2) pa_nil))))) pss_nil)))))
      (pss_one (ps_ret pe_non))), ?_⟩
    refine ⟨(by show 2 ≤ sizeLine; decide), fun aW nW => ?_⟩
    have s0 := same_upd (o := .lst [.str (Str.ofString "rail"), .str (Str.ofString "rung")]) nW
    have hl : (upd H aW (.lst [.str (Str.ofString "rail"), .str (Str.ofString "rung")])) aW = some (.lst [.str (Str.ofString "rail"), .str (Str.ofString "rung")]) := upd_same
    generalize upd H aW (.lst [.str (Str.ofString "rail"), .str (Str.ofString "rung")]) = H0 at *
    have hW : SqL K H0 aW [.str (Str.ofString "rail"), .str (Str.ofString "rung")] := SqL.of hl
    refine ⟨aW, rfl, ⟨_, hW⟩, ?_⟩
    refine for_list (K := K) (a := aW) (xs := [.str (Str.ofString "rail"), .str (Str.ofString "rung")]) (fun i σ H' => H' = H0 ∧ (∃ v1 v2, σ = [some (.str x), v1, v2]) ∧ (1 ≤ i → Past x true 12) ∧ (2 ≤ i → Past x false 12)) ⟨rfl, ⟨none, none, rfl⟩, by omega, by omega⟩ (fun i σ H' _ h => by rw [h.1]; exact hW) ?_ ?_
    · rintro i y σ H' hx ⟨rfl, ⟨v1, v2, rfl⟩, i1, i2⟩
      obtain ⟨r, rfl, hr1, hr2⟩ : ∃ r : Bool, y = .str (wd r) ∧ (Past x r 12 → 1 ≤ i + 1 → Past x true 12) ∧ (Past x r 12 → 2 ≤ i + 1 → Past x false 12) := by
        match i, hx with
        | 0, hx =>
          cases hx
          exact ⟨true, rfl, fun z _ => z, fun z y => absurd y (by decide)⟩
        | 1, hx =>
          cases hx
          exact ⟨false, rfl, fun z _ => i1 (by decide), fun z _ => z⟩
      refine ⟨1, 13, rfl, ⟨by decide, by decide, by decide, by decide⟩, ?_⟩
      refine for_range (lo := 1) (n := Int.toNat (13 - 1)) (fun j σ H'' => H'' = H' ∧ (∃ v2, σ = [some (.str x), some (.str (wd r)), v2]) ∧ Past x r (j : Int)) ⟨rfl, ⟨_, rfl⟩, fun p hp _ hle => by have := hp.1; omega⟩ ?_ ?_
      · rintro j σ H'' hj ⟨rfl, ⟨v2, rfl⟩, hjp⟩
        have hj12 : j < 12 := hj
        have hq : PcOk (r, 1 + (j : Int)) := ⟨by dsimp; omega, by dsimp; omega⟩
        have ww : OkT 4 (wd r) := by
          cases r
          · exact OkT.of "rung"
          · exact OkT.of "rail"
        have oh : Sm 200 (1 + (j : Int)) := (ohm_sm hq).mono (by decide)
        have o2 := ww.app (OkT.of " ")
        have o3 := o2.app (ts_ok oh)
        refine ⟨_, rfl, _, rfl, _, _, rfl, rfl, Nat.le_trans (Nat.add_le_add ww.len (OkT.of " ").len) (by decide), _, rfl, _, rfl, Nat.lt_trans (log_sm (by decide) oh) (by decide), _, _, rfl, rfl, Nat.le_trans (Nat.add_le_add o2.len (ts_ok oh).len) (by decide), rfl, _, rfl, ite2 (fun e => ?_) (fun e => ?_)⟩
        · have e1 : x = ptx (r, 1 + (j : Int)) := V.str.inj (of_decide_eq_true e)
          refine ⟨_, rfl, _, rfl, (by show 2 ≤ sizeLine; decide), fun t ht => ?_⟩
          refine k _ _ (s0.trans (same_upd ht)) ?_
          rw [rdP_all hq e1]
          exact ⟨t, rfl, upd_same⟩
        · refine ⟨rfl, ⟨_, rfl⟩, fun p hp hb hle => ?_⟩
          rcases Int.lt_or_le (j : Int) p.2 with y | y
          · have e2 : p = (r, 1 + (j : Int)) := by
              ext
              · exact hb
              · show p.2 = 1 + (j : Int)
                omega
            exact fun z => e (decide_eq_true (by rw [z, e2]; rfl))
          · exact hjp p hp hb y
      · rintro σ H'' ⟨rfl, ⟨v2, rfl⟩, hjp⟩
        exact ⟨rfl, ⟨_, _, rfl⟩, hr1 hjp, hr2 hjp⟩
    · rintro σ H' ⟨rfl, ⟨v1, v2, rfl⟩, z1, z2⟩
      refine k _ .non s0 ?_
      rw [rdP_past (z1 (by decide)) (z2 (by decide))]
      rfl
end
end RL

set_option maxHeartbeats 4000000
namespace RL
open PySem L2 PySem.Spec PyProof.Rows
section
variable {P : Program} {w : World} {K : PySem.W.Frag} {mg : Str → Option Value} {base : Heap} {tG t1 t2 t3 : Tok} {aO aW J C fP fJ : Addr} {fdJ : FuncData} {c : Nat → Addr}
theorem parts_few {x : Str} (h : x.length ≤ 900) : (Txt.split x (Str.ofString ", ")).length ≤ 901 := by
  have := PyProof.Rows.split_weight x (Str.ofString ", ") (by decide +kernel)
  omega
abbrev s_law_due : Stmt := top 58
theorem sc_law_due : FnScope ["_law_thing", "_law_found", "_law_part"] ["_law_thing"] (defScope s_law_due) := ⟨rfl, rfl, rfl, by decide +kernel, rfl, by decide +kernel, by decide +kernel⟩

theorem ok_due {f : Addr} {fd : FuncData} (F : Fun K "_law_due" "_law_due" s_law_due f fd) (T : Txt K mg) (D_law_piece : Df P w K mg base 1 "_law_piece" ["_law_part"] spPwtG) : FnOk P w K mg base CX0 2 f fd ["_law_thing"] (spDue K) := by
  refine F.ok sc_law_due (fun vs H Q E h => ?_) (fun cdv A outer s H vs Q E hr h => ?_)
  · obtain ⟨v, d, rfl, _⟩ := h
    rfl
  · obtain ⟨v, d, rfl, hd, hx, k1, k0⟩ := h
    refine ⟨_, (pss_cons (ps_if (pt_not (pt_val (pe_callB call_isi (by rfl) T.isinstance (by decide +kernel) (pa_cons (pv 0) (pa_cons (pe_bltn (v := .ty "str") (by rfl) T.str_ (by decide +kernel) rfl) pa_nil))))) (pss_one (ps_ret pe_non)) pss_nil)
      (pss_cons (ps_setLc (i := 1) (own := [("_law_part", 2)]) (g := gName 2) (tt := tYes) rfl sc_law_due.nd rfl rfl (sw_true rfl rfl rfl (by decide +kernel)) (pi_list (pe_split (pv 0) pe_str)) (blkOk_by (N := ["_law_thing", "_law_found", "_law_part"]) (sc := defScope s_law_due) (by decide +kernel)) (fun _ _ _ _ _ => pg_name (i := 2) sc_law_due.nd rfl (Or.inl rfl)) (fun _ _ _ _ _ => pts_nil) (fun _ _ _ _ _ => (pe_df D_law_piece (hr.mono (by decide)) (by rfl) (pa_cons (pv 2) pa_nil))))
      (pss_one (ps_ret (pe_ifExp (PW.pt (pw_or (pt_cmpR (op_inD (units65 hr)) pe_non (pv 1) (by rfl)) (pw_or1 (pt_cmpR op_gt (pe_callB call_len_seq (by rfl) T.len (by decide +kernel) (pa_cons (pv 1) pa_nil)) pe_int (nomark _))))) pe_non (pe_callTy call_tuple_of (by rfl) T.tuple_ (by decide +kernel) (pa_cons (pv 1) pa_nil))))))), ?_⟩
    refine ⟨_, rfl, _, _, _, _, isStrD d, rfl, .ty _, ty_dq hd, kit_str d, _, rfl, ?_⟩
    cases h1 : isStrD d with
    | false =>
      refine iteT (k0 (fun ⟨r, x, e, _⟩ => ?_) _ (Same.refl _))
      rw [e] at h1
      cases h1
    | true =>
      obtain ⟨x, rfl⟩ : ∃ x, d = .str x := by cases d <;> first | exact ⟨_, rfl⟩ | exact absurd h1 (by simp [isStrD])
      cases dq_str hd
      have lx := hx x rfl
      have few := parts_few lx
      refine iteF ⟨_, rfl, ⟨_, rfl⟩, _, _, rfl, rfl, by decide +kernel, Nat.le_trans (Nat.add_le_add_right lx 2) (by decide), fun p np => ?_⟩
      have s1 := same_upd (o := .lst ((Txt.split x (Str.ofString ", ")).map V.str)) np
      have hp : (upd H p (.lst ((Txt.split x (Str.ofString ", ")).map V.str))) p = some (.lst ((Txt.split x (Str.ofString ", ")).map V.str)) := upd_same
      generalize upd H p (.lst ((Txt.split x (Str.ofString ", ")).map V.str)) = H1 at *
      refine ⟨p, rfl, ⟨_, SqL.of hp⟩, fun D hD => ?_⟩
      refine lc_list (K := K) (a := p) (xs := (Txt.split x (Str.ofString ", ")).map V.str) (fun i H' => But D H1 H' ∧ ∃ vs, H' D = some (.lst vs) ∧ POpts H' vs (((Txt.split x (Str.ofString ", ")).take i).map rdP)) ⟨But.upd, [], upd_same, rfl, fun i e z => by simp at z⟩ (fun i H' _ h => SqL.of (h.1 _ _ (ne_of_none hp hD) hp)) ?_ ?_
      · rintro i y H' hi ⟨bD, vs, hDi, hF⟩
        refine ⟨rfl, ?_⟩
        unfold tYes
        refine iteT ?_
        rw [List.getElem?_map] at hi
        obtain ⟨z, hz, rfl⟩ := Option.map_eq_some_iff.mp hi
        have il : i < (Txt.split x (Str.ofString ", ")).length := (List.getElem?_eq_some_iff.mp hz).1
        have lv : vs.length = i := by
          rw [hF.1, List.length_map, List.length_take]
          omega
        refine ⟨_, rfl, z, rfl, fun H5 v s5 hv => ?_⟩
        have hD5 := s5 _ _ hDi
        have bD2 : But D H5 (upd H5 D (.lst (vs ++ [v]))) := But.upd
        refine ⟨vs, hD5, small1000 (by omega), fun b o nb e => (upd_ne nb).trans (s5 _ _ (bD _ _ nb e)), vs ++ [v], upd_same, ?_⟩
        rw [List.take_succ, hz]
        rw [show ((Txt.split x (Str.ofString ", ")).take i ++ (some z).toList).map rdP = ((Txt.split x (Str.ofString ", ")).take i).map rdP ++ [rdP z] by rw [List.map_append]; rfl]
        exact ((hF.same s5).push hv).but bD2 (fun xs z => by rw [hD5] at z; cases z)
      · rintro H' ⟨bD, vs, hDn, hF⟩
        rw [List.length_map, List.take_length] at hF
        have sD : Same H1 H' := fun b o e => bD _ _ (ne_of_none e hD) e
        have lv : vs.length = (Txt.split x (Str.ofString ", ")).length := by rw [hF.1, List.length_map]
        refine ⟨_, rfl, .none, _, .non, .lst (SqL.of hDn) (dp_opts hF), rfl, sh_optsL _, _, rfl, ?_⟩
        rw [any_opts]
        refine ite2 (fun e => ?_) (fun e => ?_)
        · rw [List.any_eq_true] at e
          obtain ⟨o, ho, eo⟩ := e
          obtain ⟨y, hy, rfl⟩ := List.mem_map.mp ho
          refine k0 (fun ⟨r, x', e', hr⟩ => ?_) _ (s1.trans sD)
          cases e'
          exact rd_no hy (by cases h : rdP y with | none => rfl | some q => rw [h] at eo; cases eo) ⟨r, hr⟩
        · refine ⟨_, rfl, D, _, rfl, .inl (SqL.of hDn), _, _, rfl, rfl, _, rfl, ite2 (fun e2 => ?_) (fun e2 => ?_)⟩
          · have h8 := of_decide_eq_true e2
            refine k0 (fun ⟨r, x', e', hr⟩ => ?_) _ (s1.trans sD)
            cases e'
            exact rd_long (by omega) ⟨r, hr⟩
          · have h8 : ¬ (8 : Int) < (vs.length : Int) := fun z => e2 (decide_eq_true z)
            obtain ⟨r, er, ok⟩ := parts_all (Txt.split x (Str.ofString ", ")) fun y hy z => e (List.any_eq_true.mpr ⟨none, List.mem_map.mpr ⟨y, hy, z⟩, rfl⟩)
            have lr : r.length ≤ 8 := by
              have := congrArg List.length er
              rw [List.length_map] at this
              omega
            refine ⟨_, rfl, D, vs, rfl, .inl ⟨SqL.of hDn, fun q nq => ?_⟩⟩
            have s6 := same_upd (o := .tup vs) nq
            rw [er] at hF
            exact k1 r ⟨x, rfl, rd_of er ok lr⟩ _ q vs ((s1.trans sD).trans s6) upd_same (opts_all (hF.same s6) ok)
/-- Pattern.read of anything: the pattern, or the error -/
theorem ok_readN {f : Addr} {fd : FuncData} (F : Fun K "read" "Pattern.read" s_Pattern_read f fd) (T : Txt3 K mg tG t1 t2 t3 aO aW J C) (TE : TxE mg c) (RZ5 : Rz P w K mg base c 5 "given") (X_pat : PatD P w K mg base C J fP) (X_join : JoinD P w K mg base J fJ fdJ) (D_piece_with_text : Df P w K mg base 2 "piece_with_text" ["text"] spPwtG) : FnOk P w K mg base (L2N.CX P w) 7 f fd ["text"] (spReadN K C (c 5)) := by
  refine okN F sc_Pattern_read (fun vs H Q E h => ?_) (fun cdv A outer s H vs Q E hr h => ?_)
  · obtain ⟨v, d, rfl, _⟩ := h
    rfl
  · obtain ⟨v, d, rfl, hd, hx, k1, k0⟩ := h
    refine ⟨_, (pss_cons (ps_if (pt_not (pt_val (pe_callB call_isi (by rfl) T.isinstance (by decide +kernel) (pa_cons (pv 0) (pa_cons (pe_bltn (v := .ty "str") (by rfl) T.str_ (by decide +kernel) rfl) pa_nil))))) (pss_one (ps_raiseX RZ5.m RZ5.ty RZ5.no (hr.mono (by decide)) (by rfl) TE.m5 (pv 0) rfl (L2N.takes_of rfl rfl rfl rfl))) pss_nil)
      (pss_cons (ps_set (i := 1) sc_Pattern_read.nd rfl (.inl rfl) (pe_split (pv 0) pe_str))
      (pss_cons (ps_if (pt_cmpR op_gt (pe_callB call_len_seq (by rfl) T.len (by decide +kernel) (pa_cons (pv 1) pa_nil)) (pe_glob (v := .int 8) rfl T.mgJo ⟨_, rfl⟩) (nomark _)) (pss_one (ps_raiseX RZ5.m RZ5.ty RZ5.no (hr.mono (by decide)) (by rfl) TE.m5 (pv 0) rfl (L2N.takes_of rfl rfl rfl rfl))) pss_nil)
      (pss_cons (ps_set (i := 2) sc_Pattern_read.nd rfl (.inl rfl) (pe_callTy call_tuple_of (by rfl) T.tuple_ (by decide +kernel) (pa_cons (pe_lc (own := [("part", 3)]) (g := gName 3) (tt := tYes) rfl sc_Pattern_read.nd (pi_list (pv 1)) (blkOk_by (N := ["text", "parts", "row", "part"]) (sc := defScope s_Pattern_read) (by decide +kernel)) (fun _ _ _ _ _ => pg_name (i := 3) sc_Pattern_read.nd rfl (Or.inl rfl)) (fun _ _ _ _ _ => pts_nil) (fun _ _ _ _ _ => (pe_df D_piece_with_text (hr.mono (by decide)) (by rfl) (pa_cons (pv 3) pa_nil)))) pa_nil)))
      (pss_cons (ps_if (pt_cmpR (op_inT (units65 hr)) pe_non (pv 2) (by rfl)) (pss_one (ps_raiseX RZ5.m RZ5.ty RZ5.no (hr.mono (by decide)) (by rfl) TE.m5 (pv 0) rfl (L2N.takes_of rfl rfl rfl rfl))) pss_nil)
      (pss_one (ps_ret (StX.pe_makeR X_pat.m X_pat.fn (hr.mono (by decide)) rfl T.mgC pass0 (pa_cons (pe_make X_join.m X_join.fn (hr.mono (by decide)) rfl T.mgJ X_join.bd .nil pass0 (pa_cons (pv 2) pa_nil)) pa_nil))))))))), ?_⟩
    refine ⟨_, rfl, _, _, _, _, isStrD d, rfl, .ty _, ty_dq hd, kit_str d, _, rfl, ?_⟩
    cases h1 : isStrD d with
    | false =>
      refine iteT ⟨_, rfl, fun dx nd => k0 (fun ⟨r, x, e, _⟩ => ?_) _ dx (same_upd nd) upd_same⟩
      rw [e] at h1
      cases h1
    | true =>
      obtain ⟨x, rfl⟩ : ∃ x, d = .str x := by cases d <;> first | exact ⟨_, rfl⟩ | exact absurd h1 (by simp [isStrD])
      cases dq_str hd
      have lx := hx x rfl
      have few := parts_few lx
      refine iteF ⟨_, rfl, ⟨_, rfl⟩, _, _, rfl, rfl, by decide +kernel, Nat.le_trans (Nat.add_le_add_right lx 2) (by decide), fun p np => ?_⟩
      have s1 := same_upd (o := .lst ((Txt.split x (Str.ofString ", ")).map V.str)) np
      have hp : (upd H p (.lst ((Txt.split x (Str.ofString ", ")).map V.str))) p = some (.lst ((Txt.split x (Str.ofString ", ")).map V.str)) := upd_same
      generalize upd H p (.lst ((Txt.split x (Str.ofString ", ")).map V.str)) = H1 at *
      refine ⟨_, rfl, p, _, rfl, .inl (SqL.of hp), _, _, rfl, rfl, _, rfl, ite2 (fun e => ?_) (fun e => ?_)⟩
      · have h8 := of_decide_eq_true e
        rw [List.length_map] at h8
        refine ⟨_, rfl, fun dx nd => k0 (fun ⟨r, x', e', hr⟩ => ?_) _ dx (s1.trans (same_upd nd)) upd_same⟩
        cases e'
        exact rd_long (by omega) ⟨r, hr⟩
      have h8 : ¬ (8 : Int) < (((Txt.split x (Str.ofString ", ")).map V.str).length : Int) := fun z => e (decide_eq_true z)
      rw [List.length_map] at h8
      refine ⟨_, rfl, p, rfl, ⟨_, SqL.of hp⟩, fun D hD => ?_⟩
      refine lc_list (K := K) (a := p) (xs := (Txt.split x (Str.ofString ", ")).map V.str) (fun i H' => But D H1 H' ∧ ∃ vs, H' D = some (.lst vs) ∧ POpts H' vs (((Txt.split x (Str.ofString ", ")).take i).map rdP)) ⟨But.upd, [], upd_same, rfl, fun i e z => by simp at z⟩ (fun i H' _ h => SqL.of (h.1 _ _ (ne_of_none hp hD) hp)) ?_ ?_
      · rintro i y H' hi ⟨bD, vs, hDi, hF⟩
        refine ⟨rfl, ?_⟩
        unfold tYes
        refine iteT ?_
        rw [List.getElem?_map] at hi
        obtain ⟨z, hz, rfl⟩ := Option.map_eq_some_iff.mp hi
        have il : i < (Txt.split x (Str.ofString ", ")).length := (List.getElem?_eq_some_iff.mp hz).1
        have lv : vs.length = i := by
          rw [hF.1, List.length_map, List.length_take]
          omega
        refine ⟨_, rfl, z, rfl, fun H5 v s5 hv => ?_⟩
        have hD5 := s5 _ _ hDi
        have bD2 : But D H5 (upd H5 D (.lst (vs ++ [v]))) := But.upd
        refine ⟨vs, hD5, small1000 (by omega), fun b o nb e => (upd_ne nb).trans (s5 _ _ (bD _ _ nb e)), vs ++ [v], upd_same, ?_⟩
        rw [List.take_succ, hz]
        rw [show ((Txt.split x (Str.ofString ", ")).take i ++ (some z).toList).map rdP = ((Txt.split x (Str.ofString ", ")).take i).map rdP ++ [rdP z] by rw [List.map_append]; rfl]
        exact ((hF.same s5).push hv).but bD2 (fun xs z => by rw [hD5] at z; cases z)
      · rintro H' ⟨bD, vs, hDn, hF⟩
        rw [List.length_map, List.take_length] at hF
        have sD : Same H1 H' := fun b o e => bD _ _ (ne_of_none e hD) e
        refine ⟨D, _, rfl, .inl ⟨SqL.of hDn, fun l hl => ?_⟩⟩
        have s6 := same_upd (o := .tup vs) hl
        have hF6 := hF.same s6
        have hl6 : (upd H' l (.tup vs)) l = some (.tup vs) := upd_same
        have sA := (s1.trans sD).trans s6
        generalize upd H' l (.tup vs) = H6 at *
        refine ⟨_, rfl, .none, _, .non, .tup (SqT.of hl6) (dp_opts hF6), rfl, sh_optsT _, _, rfl, ?_⟩
        rw [any_opts]
        refine ite2 (fun e => ?_) (fun e => ?_)
        · rw [List.any_eq_true] at e
          obtain ⟨o, ho, eo⟩ := e
          obtain ⟨y, hy, rfl⟩ := List.mem_map.mp ho
          refine ⟨_, rfl, fun dx nd => k0 (fun ⟨r, x', e', hr⟩ => ?_) _ dx (sA.trans (same_upd nd)) upd_same⟩
          cases e'
          exact rd_no hy (by cases h : rdP y with | none => rfl | some q => rw [h] at eo; cases eo) ⟨r, hr⟩
        · obtain ⟨r, er, ok⟩ := parts_all (Txt.split x (Str.ofString ", ")) fun y hy z => e (List.any_eq_true.mpr ⟨none, List.mem_map.mpr ⟨y, hy, z⟩, rfl⟩)
          have lr : r.length ≤ 8 := by
            have := congrArg List.length er
            rw [List.length_map] at this
            omega
          have rd := rd_of er ok lr
          rw [er] at hF6
          exact ⟨_, rfl, make_pat hl6 (opts_all hF6 ok) ok rd.2.2.1 lr fun H' z s2 nz hz => k1 r ⟨x, rfl, rd⟩ H' z (sA.trans s2) hz⟩
end
end RL

set_option maxHeartbeats 4000000
namespace RL
open PySem L2 PySem.Spec PyProof.Rows
/-! ### data that lean neither on a cup nor on a list that grows -/
def hidS (c l : Addr) (H : Hp) : Hp := fun b => if b = c ∨ b = l then none else match H b with
  | some (.tbl _) => none
  | x => x
theorem hs_of {c l : Addr} {H : Hp} {b : Addr} {o : HO} (h : H b = some o) (n : b ≠ c) (m : b ≠ l) (t : ∀ ps, o ≠ .tbl ps) : hidS c l H b = some o := by
  unfold hidS
  rw [if_neg (fun z => z.elim n m), h]
  cases o <;> first | rfl | exact absurd rfl (t _)
theorem hs_get {c l : Addr} {H : Hp} {b : Addr} {o : HO} (h : hidS c l H b = some o) : b ≠ c ∧ b ≠ l ∧ H b = some o ∧ ∀ ps, o ≠ .tbl ps := by
  unfold hidS at h
  by_cases n : b = c ∨ b = l
  · rw [if_pos n] at h
    cases h
  · rw [if_neg n] at h
    refine ⟨fun z => n (.inl z), fun z => n (.inr z), ?_⟩
    cases hb : H b with
    | none =>
      rw [hb] at h
      cases h
    | some u =>
      rw [hb] at h
      cases u <;> first | (cases h; done) | (cases h; exact ⟨rfl, by intro ps z; cases z⟩)
theorem hs_but {c l : Addr} {H H' : Hp} (s : ∀ b o, b ≠ c → b ≠ l → (∀ ps, o ≠ .tbl ps) → H b = some o → H' b = some o) : Same (hidS c l H) (hidS c l H') := fun b o e => by
  obtain ⟨n, m, h, t⟩ := hs_get e
  exact hs_of (s b o n m t h) n m t
theorem upd_at {H : Hp} {p : Addr} {o : HO} (h : H p = none) : (upd H p o) p = some o := upd_same
/-- v is data of the kind p, and leans neither on c nor on l -/
def OddQ (p : PyData → Prop) (K : PySem.W.Frag) (c l : Addr) (H : Hp) (v : V) : Prop := ∃ d, Dq K (hidS c l H) v d ∧ p d
theorem OddQ.mono {p : PyData → Prop} {K : PySem.W.Frag} {c l c' l' : Addr} {H H' : Hp} {v : V} (h : OddQ p K c l H v) (s : Same (hidS c l H) (hidS c' l' H')) : OddQ p K c' l' H' v := by
  obtain ⟨d, h1, h2⟩ := h
  exact ⟨d, h1.same s, h2⟩
theorem OddQ.same {p : PyData → Prop} {K : PySem.W.Frag} {c l : Addr} {H H' : Hp} {v : V} (h : OddQ p K c l H v) (s : Same H H') : OddQ p K c l H' v := h.mono (hs_but fun b o _ _ _ e => s b o e)
theorem OddQ.butT {p : PyData → Prop} {K : PySem.W.Frag} {c : Addr} {H H' : Hp} {v : V} (h : OddQ p K c c H v) (s : ButT c H H') : OddQ p K c c H' v := h.mono (hs_but fun b o n _ t e => s b o n t e)
theorem OddQ.dq {p : PyData → Prop} {K : PySem.W.Frag} {c l : Addr} {H : Hp} {v : V} (h : OddQ p K c l H v) : ∃ d, Dq K H v d ∧ p d := by
  obtain ⟨d, h1, h2⟩ := h
  exact ⟨d, h1.same (fun b o e => (hs_get e).2.2.1), h2⟩
/-! ### texts that may be shown -/
structure GoodD (d : PyData) : Prop where
  s : d.showable = true
  p : d.depth ≤ 40
  l : d.shown.length ≤ sizeLine
  u : PyData.strOk d.shown = true
  x : ∀ x, d = .str x → x.length ≤ 900
structure Tk (n : Nat) (x : Str) : Prop where
  l : x.length ≤ n
  u : Uok x
theorem Tk.mono {m n : Nat} {x : Str} (h : Tk m x) (k : m ≤ n) : Tk n x := ⟨Nat.le_trans h.l k, h.u⟩
theorem Tk.of (s : String) : Tk s.length (Str.ofString s) := ⟨Nat.le_of_eq (PySem.ofString_length s), Uok.of s⟩
theorem Tk.app {m n : Nat} {x y : Str} (h : Tk m x) (k : Tk n y) : Tk (m + n) (x ++ y) := ⟨by rw [Str.length_append]; exact Nat.add_le_add h.l k.l, h.u.app k.u⟩
theorem Tk.sz {m n : Nat} {x y : Str} (h : Tk m x) (k : Tk n y) (l : m + n ≤ 1000) : x.length + y.length ≤ sizeLine := Nat.le_trans (Nat.add_le_add h.l k.l) (Nat.le_trans l (by decide))
theorem Tk.ok {n : Nat} {x : Str} (h : Tk n x) : OkT n x := ⟨h.l, fun c hc => Nat.lt_trans (h.u c hc) (by decide)⟩
theorem Tk.good {n : Nat} {x : Str} (h : Tk n x) (k : n ≤ 900) : GoodD (.str x) := by
  have t : Tame 900 0 (.str x) := by
    obtain ⟨a, b⟩ := show_str h.ok
    exact ⟨by simp only [PyData.showable], by simp only [PyData.hasDict], a, Nat.le_trans b k, by simp only [PyData.depth]; exact Nat.le_refl _⟩
  have S := t.shows (by decide) (by decide)
  have cl : PyData.canLay0 (.str x) = true := by
    simp only [PyData.canLay0]
    exact strOk_of h.u
  exact ⟨S.s, S.p, S.l, strOk_shown cl S.n, fun y e => by cases e; exact Nat.le_trans h.l k⟩
theorem Tk.cut {n : Nat} {x : Str} (h : Tk n x) (lo hi : Option Int) : Tk n (cutS x lo hi) := by
  refine ⟨Nat.le_trans (cutS_length x lo hi) h.l, fun c hc => h.u c ?_⟩
  unfold cutS at hc
  have hc' : c ∈ (x.cps.toList.drop (HT.sIx x.length 0 lo)).take (HT.sIx x.length x.length hi - HT.sIx x.length 0 lo) := by simpa using hc
  exact List.mem_of_mem_drop (List.mem_of_mem_take hc')
theorem Tk.sign {n : Nat} {x : Str} {ch : Nat} (h : Tk n x) {i : Nat} (hi : x.cps.toList[i]? = some ch) : Tk 1 ⟨#[ch]⟩ := by
  refine ⟨Nat.le_refl _, fun c hc => ?_⟩
  have e : c = ch := by simpa using hc
  rw [e]
  exact h.u ch (List.mem_of_getElem? hi)
theorem sum_le {m : Nat} : ∀ {ys : List Str}, (∀ y ∈ ys, Tk m y) → (ys.map (·.length)).sum ≤ ys.length * m
  | [], _ => Nat.zero_le _
  | y :: ys, h => by
    have h1 := sum_le (ys := ys) fun z hz => h z (List.mem_cons_of_mem _ hz)
    have h2 := (h y List.mem_cons_self).l
    rw [List.map_cons, List.sum_cons, List.length_cons, Nat.succ_mul]
    omega
theorem Tk.join {m k : Nat} {ys : List Str} (h : ∀ y ∈ ys, Tk m y) (l : ys.length ≤ k) : Tk (k * (m + 2)) (Txt.join (Str.ofString ", ") ys) := by
  rw [TL.join_eq]
  refine ⟨?_, Uok.join (Uok.of _) fun y hy => (h y hy).u⟩
  have h1 := join_len (Str.ofString ", ") ys
  have h2 := sum_le h
  have h3 : (Str.ofString ", ").length = 2 := by decide +kernel
  rw [h3] at h1
  have h4 := Nat.mul_le_mul_right (m + 2) l
  rw [Nat.mul_add] at h4
  omega
theorem Tk.bound {m k : Nat} {ys : List Str} (h : ∀ y ∈ ys, Tk m y) (l : ys.length ≤ k) (hk : k ≤ 100) (hm : m ≤ 100) : (ys.map (·.length)).sum + ys.length * (Str.ofString ", ").length ≤ 16777216 := by
  have h2 := sum_le h
  have h3 : (Str.ofString ", ").length = 2 := by decide +kernel
  rw [h3]
  have h4 : ys.length * m ≤ 100 * 100 := Nat.mul_le_mul (by omega) hm
  omega
theorem uok_sub {x : Str} (h : Uok x) (i j : Nat) : Uok (Builtin.Str.strSub x i j) := fun c hc => by
  rw [StrLaws.strSub_toList] at hc
  exact h c (List.mem_of_mem_drop (List.mem_of_mem_take hc))
theorem uok_replace {x y z : Str} (hx : Uok x) (hz : Uok z) : Uok (Txt.replace x y z) := by
  unfold Txt.replace
  split
  · exact hx
  · rw [StrLaws.glued_eq_join]
    refine Uok.join hz fun p hp => ?_
    unfold Builtin.Str.partsBetween at hp
    obtain ⟨q, _, rfl⟩ := List.mem_map.mp hp
    exact uok_sub hx _ _
theorem Tk.replace {n m : Nat} {x y z : Str} (h : Tk n x) (hz : Tk m z) (k : n + (n + 1) * m ≤ 900) : Tk 900 (Txt.replace x y z) := by
  refine ⟨?_, uok_replace h.u hz.u⟩
  have h1 := TK.replace_len x y z
  have h2 : (x.length + 1) * z.length ≤ (n + 1) * m := Nat.mul_le_mul (Nat.add_le_add_right h.l 1) hz.l
  have := h.l
  omega
theorem mem_upper {x : Str} {c : Nat} (h : c ∈ (Txt.upper x).cps.toList) : ∃ d, d ∈ x.cps.toList ∧ c ∈ Unicode.upperOf d := by
  have h1 : c ∈ (Txt.upper x).cps := by simpa using h
  have h2 : c ∈ (x.cps.mapIdx fun i c => (Unicode.upperOf c).toArray).flatten := h1
  obtain ⟨a, ha, hc⟩ := Array.mem_flatten.mp h2
  obtain ⟨i, hi, e⟩ := Array.mem_mapIdx.mp ha
  rw [← e] at hc
  exact ⟨x.cps[i], by simp, by simpa using hc⟩
def Asc (x : Str) : Prop := ∀ c ∈ x.cps.toList, c < 128
theorem up_asc : ∀ c : Fin 128, ∀ d ∈ Unicode.upperOf c.val, d < 128 := by decide +kernel
theorem Tk.upper {n : Nat} {x : Str} (h : Tk n x) (a : Asc x) (k : 3 * n ≤ 900) : Tk 900 (Txt.upper x) := by
  refine ⟨Nat.le_trans (PyProof.Rows.len_upper x) (Nat.le_trans (Nat.mul_le_mul_left 3 h.l) k), fun c hc => ?_⟩
  obtain ⟨d, hd, hc'⟩ := mem_upper hc
  have := up_asc ⟨d, a d hd⟩ c hc'
  omega
theorem asc_app {x y : Str} (h : Asc x) (k : Asc y) : Asc (x ++ y) := fun c hc => by
  have e : (x ++ y).cps.toList = x.cps.toList ++ y.cps.toList := by
    show (x.cps ++ y.cps).toList = _
    rw [Array.toList_append]
  rw [e] at hc
  exact (List.mem_append.mp hc).elim (h c) (k c)
theorem asc_join {y : Str} (hy : Asc y) : ∀ {l : List Str}, (∀ x ∈ l, Asc x) → Asc (Str.join y l)
  | [], _ => fun c hc => absurd (show c ∈ ([] : List Nat) from hc) (by simp)
  | [x], h => h x List.mem_cons_self
  | x :: z :: l, h => by
    show Asc (x ++ y ++ Str.join y (z :: l))
    exact asc_app (asc_app (h x List.mem_cons_self) hy) (asc_join hy fun a ha => h a (List.mem_cons_of_mem _ ha))
theorem ptx_asc_dec : ∀ r : Bool, ∀ i : Fin 12, (ptx (r, (i.val : Int) + 1)).cps.toList.all (fun c => decide (c < 128)) = true := by decide +kernel
theorem ptx_asc {p : Pc} (hp : PcOk p) : Asc (ptx p) := by
  obtain ⟨i, ei⟩ := pc_fin hp
  rw [ei]
  exact fun c hc => of_decide_eq_true (List.all_eq_true.mp (ptx_asc_dec p.1 i) c hc)
theorem rowTx_asc {r : List Pc} (ok : RowOk r) : Asc (rowTx r) := by
  unfold rowTx
  rw [TL.join_eq]
  refine asc_join (fun c hc => ?_) fun x hx => ?_
  · exact of_decide_eq_true (List.all_eq_true.mp (show (Str.ofString ", ").cps.toList.all (fun c => decide (c < 128)) = true by decide +kernel) c hc)
  · obtain ⟨p, hp, rfl⟩ := List.mem_map.mp hx
    exact ptx_asc (ok p hp)
theorem rowTx_tk {r : List Pc} (ok : RowOk r) (l8 : r.length ≤ 8) : Tk 100 (rowTx r) := ⟨rowTx_len ok l8, fun c hc => Nat.lt_trans (rowTx_asc ok c hc) (by decide)⟩
theorem ptx_tk {p : Pc} (hp : PcOk p) : Tk 7 (ptx p) := ⟨ptx_len hp, fun c hc => Nat.lt_trans (ptx_asc hp c hc) (by decide)⟩
end RL

set_option maxHeartbeats 4000000
namespace RL
open PySem L2 PySem.Spec PyProof.Rows
def spBent (K : PySem.W.Frag) : Sp := fun vs H Q _ => ∃ (cu : Addr) (r : List Pc), vs = [.ref cu, .str (rowTx r)] ∧ CupAt cu H ∧ RowOk r ∧ 1 ≤ r.length ∧ r.length ≤ 8 ∧ ∀ H' v, But cu H H' → CupAt cu H' → OddQ GoodD K cu cu H' v → Q v H'
theorem goodStr {K : PySem.W.Frag} {c l : Addr} {H : Hp} {n : Nat} {x : Str} (h : Tk n x) (k : n ≤ 900) : OddQ GoodD K c l H (.str x) := ⟨.str x, .dp (.str x) (by simp only [PyData.hasDict]), h.good k⟩
theorem goodLst {xs : List PyData} (h : ∀ d ∈ xs, ∃ x, d = .str x ∧ Tk 200 x) (l : xs.length ≤ 8) : GoodD (.list xs) ∧ GoodD (.tuple xs) := by
  have tm : ∀ d ∈ xs, Tame 200 0 d := fun d hd => by
    obtain ⟨x, rfl, t⟩ := h d hd
    obtain ⟨a, b⟩ := show_str t.ok
    exact ⟨by simp only [PyData.showable], by simp only [PyData.hasDict], a, b, by simp only [PyData.depth]; exact Nat.le_refl _⟩
  have hw : xs.length * (200 + 1) ≤ 8 * (200 + 1) := Nat.mul_le_mul_right _ l
  have cl : PyData.canLayAll0 xs = true := by
    clear tm hw l
    induction xs with
    | nil => rfl
    | cons d xs ih =>
      obtain ⟨x, rfl, t⟩ := h d List.mem_cons_self
      simp only [PyData.canLayAll0, PyData.canLay0, Bool.and_eq_true]
      exact ⟨strOk_of t.u, ih fun d hd => h d (List.mem_cons_of_mem _ hd)⟩
  have c1 : (PyData.list xs).canLay0 = true := by simp only [PyData.canLay0]; exact cl
  have c2 : (PyData.tuple xs).canLay0 = true := by simp only [PyData.canLay0]; exact cl
  have S1 := ((tame_lst tm).mono hw (Nat.le_refl 1)).shows (by decide) (by decide)
  have S2 := ((tame_tup tm).mono hw (Nat.le_refl 1)).shows (by decide) (by decide)
  exact ⟨⟨S1.s, S1.p, S1.l, strOk_shown c1 S1.n, (fun _ e => nomatch e)⟩, ⟨S2.s, S2.p, S2.l, strOk_shown c2 S2.n, (fun _ e => nomatch e)⟩⟩
theorem dpStrs {K : PySem.W.Frag} {H : Hp} : ∀ ys : List Str, DpAll K H (ys.map V.str) (ys.map PyData.str)
  | [] => .nil
  | y :: ys => .cons (.str y) (dpStrs ys)
theorem nodict_strs : ∀ ys : List Str, PyData.hasDictAll (ys.map PyData.str) = false
  | [] => rfl
  | y :: ys => by simp [PyData.hasDictAll, PyData.hasDict, nodict_strs ys]
theorem cut_to' {ws : List V} {i : Nat} (h : i ≤ ws.length) : cutV ws none (some (i : Int)) = ws.take i := by
  unfold cutV
  rw [HT.sIx_none, HT.sIx_nat, Nat.min_eq_left (by omega), Nat.sub_zero, List.drop_zero]
theorem cut_from' {ws : List V} {i : Nat} (h : i ≤ ws.length) : cutV ws (some (i : Int)) none = ws.drop i := by
  unfold cutV
  rw [HT.sIx_none, HT.sIx_nat, Nat.min_eq_left h, List.take_of_length_le (by rw [List.length_drop]; omega)]
def sgT : Str := Str.ofString "0123456789 ,railunghx/-+.RU" ++ Str.ofString "\n"
theorem sg_tk : Tk 100 sgT := ((Tk.of "0123456789 ,railunghx/-+.RU").app (Tk.of "\n")).mono (by decide)
theorem sg_len : 0 < sgT.length := by decide +kernel
theorem sm200 {n : Int} (h0 : 0 ≤ n) (h : n ≤ 1000) : Sm 200 n := sm_lt h0 (Int.lt_of_lt_of_le (show n < 1024 by omega) (by decide +kernel))
section
variable {P : Program} {w : World} {K : PySem.W.Frag} {mg : Str → Option Value} {base : Heap}
abbrev s_law_bent : Stmt := top 59
theorem sc_law_bent : FnScope ["_law_cup_here", "_law_words_here", "_law_way", "_law_at", "_law_signs", "_law_sign", "_law_parts", "_law_k", "_law_odd", "_law_things"] ["_law_cup_here", "_law_words_here"] (defScope s_law_bent) := ⟨rfl, rfl, rfl, by decide +kernel, rfl, by decide +kernel, by decide +kernel⟩

theorem ok_bent {f : Addr} {fd : FuncData} (F : Fun K "_law_bent" "_law_bent" s_law_bent f fd) (T : Txt K mg) (D_law_sip : Df P w K mg base 1 "_law_sip" ["_law_cup_here", "_law_many"] spSip) (D_law_pick : Df P w K mg base 2 "_law_pick" ["_law_cup_here", "_law_things"] spPick) : FnOk P w K mg base CX0 3 f fd ["_law_cup_here", "_law_words_here"] (spBent K) := by
  refine F.ok sc_law_bent (fun vs H Q E h => ?_) (fun cdv A outer s H vs Q E hr h => ?_)
  · obtain ⟨cu, r, rfl, _⟩ := h
    rfl
  · obtain ⟨cu, r, rfl, hc, ok, l1, l8, k⟩ := h
    refine ⟨_, (C8.pss_cut (ps_par (by rfl) sc_law_bent.nd (i := 2) (j := 3) rfl rfl (by decide) rfl rfl (pa_cons (pe_df D_law_sip (hr.mono (by decide)) (by rfl) (pa_cons (pv 0) (pa_cons pe_int pa_nil))) (pa_cons (pe_df D_law_sip (hr.mono (by decide)) (by rfl) (pa_cons (pv 0) (pa_cons (pe_op op_add (pe_callB call_len_str (by rfl) T.len (by decide +kernel) (pa_cons (pv 1) pa_nil)) pe_int) pa_nil))) pa_nil)) (by rfl))
      (C8.pss_cut (ps_set (i := 4) sc_law_bent.nd rfl (.inl rfl) (pe_op op_add_str pe_str pe_str))
      (C8.pss_cut (ps_set (i := 5) sc_law_bent.nd rfl (.inl rfl) (pe_ix ix_str (pv 4) (pe_df D_law_sip (hr.mono (by decide)) (by rfl) (pa_cons (pv 0) (pa_cons (pe_callB call_len_str (by rfl) T.len (by decide +kernel) (pa_cons (pv 4) pa_nil)) pa_nil))) (fun _ _ => rfl)))
      (C8.pss_cut (ps_if (pt_cmpR op_lt (pv 2) pe_int (nomark _)) (pss_one (ps_ret (pe_op op_add_str (pe_op op_add_str (pe_slice sl_str (pv 1) po_none (po_some (pv 3))) (pv 5)) (pe_slice sl_str (pv 1) (po_some (pe_op op_add (pv 3) (pe_op op_mod (pv 2) pe_int))) po_none)))) pss_nil)
      (C8.pss_cut (ps_if (pt_cmpR op_eq (pv 2) pe_int (nomark _)) (pss_one (ps_ret (pe_op op_add_str (pe_slice sl_str (pv 1) po_none (po_some (pv 3))) (pe_slice sl_str (pv 1) (po_some (pe_op op_add (pv 3) pe_int)) po_none)))) pss_nil)
      (C8.pss_cut (ps_set (i := 6) sc_law_bent.nd rfl (.inl rfl) (pe_split (pv 1) pe_str))
      (C8.pss_cut (ps_set (i := 7) sc_law_bent.nd rfl (.inl rfl) (pe_df D_law_sip (hr.mono (by decide)) (by rfl) (pa_cons (pv 0) (pa_cons (pe_callB call_len_seq (by rfl) T.len (by decide +kernel) (pa_cons (pv 6) pa_nil)) pa_nil))))
      (C8.pss_cut (ps_if (pt_cmpR op_lt (pv 2) pe_int (nomark _)) (pss_one (ps_ret (pe_join pe_str (pe_op op_cat (pe_op op_cat (pe_slice sl_list (pv 6) po_none (po_some (pv 7))) (pe_ix ix_list (pe_lst (pa_cons (pe_lst (pa_cons (pe_ix ix_list (pv 6) (pv 7) (fun _ _ => rfl)) (pa_cons (pe_ix ix_list (pv 6) (pv 7) (fun _ _ => rfl)) pa_nil))) (pa_cons (pe_lst pa_nil) pa_nil))) (pe_op op_sub (pv 2) pe_int) (fun _ _ => rfl))) (pe_slice sl_list (pv 6) (po_some (pe_op op_add (pv 7) pe_int)) po_none))))) pss_nil)
      (C8.pss_cut (ps_if (pt_cmpR op_eq (pv 2) pe_int (nomark _)) (pss_cons (ps_set (i := 8) sc_law_bent.nd rfl (.inl rfl) (pe_lst (pa_cons pe_str (pa_cons pe_str (pa_cons pe_str (pa_cons pe_str (pa_cons pe_str (pa_cons pe_str (pa_cons pe_str (pa_cons pe_str pa_nil))))))))))
      (pss_one (ps_ret (pe_join pe_str (pe_op op_cat (pe_slice sl_list (pv 6) po_none (po_some (pv 7))) (pe_lst (pa_cons (pe_df D_law_pick (hr.mono (by decide)) (by rfl) (pa_cons (pv 0) (pa_cons (pv 8) pa_nil))) pa_nil))))))) pss_nil)
      (C8.pss_cut (ps_set (i := 9) sc_law_bent.nd rfl (.inl rfl) (pe_lst (pa_cons pe_non (pa_cons pe_int (pa_cons pe_bl (pa_cons (pv 6) (pa_cons (pe_callTy call_tuple_of (by rfl) T.tuple_ (by decide +kernel) (pa_cons (pv 6) pa_nil)) (pa_cons (pe_lst (pa_cons (pv 1) pa_nil)) (pa_cons pe_dnewK (pa_cons (pe_tup pa_nil) (pa_cons pe_str (pa_cons pe_str (pa_cons (pe_op op_add_str (pv 1) pe_str) (pa_cons (pe_op op_add_str pe_str (pv 1)) (pa_cons (pe_op op_add_str pe_str (pv 1)) pa_nil)))))))))))))))
      (pss_one (ps_ret (pe_df D_law_pick (hr.mono (by decide)) (by rfl) (pa_cons (pv 0) (pa_cons (pe_op op_cat (pv 9) (pe_lst (pa_lead (pv 1) (pat_cons (CwR.pet_replC (pv 1)) (pat_of (pa_cons (pe_upper (pv 1)) (pa_cons (pe_op op_add_str (pe_op op_add_str pe_str (pv 1)) pe_str) pa_nil))))))) pa_nil))))))))))))))), ?_⟩
    have hx : Tk 100 (rowTx r) := rowTx_tk ok l8
    have ha : Asc (rowTx r) := rowTx_asc ok
    have hs := parts_split ok l1
    generalize rowTx r = x at *
    have lx : x.length ≤ sizeLine := Nat.le_trans hx.l (by decide)
    have kS : ∀ {H' : Hp} {n : Nat} {y : Str}, But cu H H' → CupAt cu H' → Tk n y → n ≤ 900 → Q (.str y) H' := fun b c t l => k _ _ b c (goodStr t l)
    -- way, at
    refine ⟨fun σ' H' => ∃ way at_ : Nat, σ' = [some (.ref cu), some (.str x), some (.int (way : Int)), some (.int (at_ : Int)), none, none, none, none, none, none] ∧ But cu H H' ∧ CupAt cu H' ∧ way < 9 ∧ at_ ≤ x.length, ?_, ?_⟩
    · refine ⟨_, rfl, cu, 9, rfl, hc, by decide, (by unfold Sm; decide), fun H1 w1 b1 hc1 w10 w19 => ?_⟩
      refine ⟨_, rfl, _, rfl, _, rfl, lx, _, _, rfl, rfl, cu, _, rfl, hc1, by omega, sm200 (by omega) (by have := hx.l; omega), fun H2 a1 b2 hc2 a10 a19 => ?_⟩
      have ew : w1 = (w1.toNat : Int) := (Int.toNat_of_nonneg w10).symm
      have ea : a1 = (a1.toNat : Int) := (Int.toNat_of_nonneg a10).symm
      exact ⟨_, _, rfl, w1.toNat, a1.toNat, by rw [← ew, ← ea]; rfl, b1.trans b2, hc2, by omega, by omega⟩
    rintro σ1 H1 ⟨way, at_, rfl, b1, hc1, w9, hat⟩
    -- the signs
    refine ⟨fun σ' H' => σ' = [some (.ref cu), some (.str x), some (.int (way : Int)), some (.int (at_ : Int)), some (.str sgT), none, none, none, none, none] ∧ But cu H H' ∧ CupAt cu H', ?_, ?_⟩
    · exact ⟨_, _, rfl, rfl, (by decide +kernel), rfl, b1, hc1⟩
    rintro σ1 H2 ⟨rfl, b2, hc2⟩
    clear b1 hc1
    -- the sign
    refine ⟨fun σ' H' => ∃ y, σ' = [some (.ref cu), some (.str x), some (.int (way : Int)), some (.int (at_ : Int)), some (.str sgT), some (.str y), none, none, none, none] ∧ Tk 1 y ∧ But cu H H' ∧ CupAt cu H', ?_, ?_⟩
    · refine ⟨_, rfl, _, rfl, _, rfl, _, rfl, Nat.le_trans sg_tk.l (by decide), cu, _, rfl, hc2, by have := sg_len; omega, sm200 (by omega) (by have := sg_tk.l; omega), fun H3 i b3 hc3 i0 i1 => ?_⟩
      obtain ⟨m, rfl⟩ := Int.eq_ofNat_of_zero_le i0
      have il : m < sgT.cps.toList.length := by
        rw [Array.length_toList]
        show m < sgT.length
        omega
      have hi := List.getElem?_eq_getElem il
      exact ⟨_, _, _, rfl, rfl, Nat.le_trans sg_tk.l (by decide), atI_nat hi, _, rfl, sg_tk.sign hi, b2.trans b3, hc3⟩
    rintro σ1 H3 ⟨y, rfl, hy, b3, hc3⟩
    clear b2 hc2
    have ly := hy.l
    -- a sign put in
    refine ⟨fun σ' H' => σ' = [some (.ref cu), some (.str x), some (.int (way : Int)), some (.int (at_ : Int)), some (.str sgT), some (.str y), none, none, none, none] ∧ H' = H3 ∧ ¬ way < 3, ?_, ?_⟩
    · refine ⟨_, rfl, _, _, rfl, rfl, _, rfl, ite2 (fun e => ?_) (fun e => ⟨rfl, rfl, fun z => e (decide_eq_true (by omega))⟩)⟩
      have c1 := hx.cut none (some (at_ : Int))
      have c2 := hx.cut (some ((at_ : Int) + (way : Int) % 2)) none
      have c3 := c1.app hy
      exact ⟨_, rfl, _, rfl, _, rfl, _, rfl, lx, _, rfl, _, _, rfl, rfl, Nat.le_trans (Nat.add_le_add c1.l ly) (by decide), _, rfl, _, rfl, _, rfl, _, _, rfl, rfl, (by show (0 : Int) < 2; decide), _, _, rfl, rfl, _, rfl, _, rfl, lx, _, _, rfl, rfl, Nat.le_trans (Nat.add_le_add c3.l c2.l) (by decide), kS b3 hc3 (c3.app c2) (by decide)⟩
    rintro σ1 H4 ⟨rfl, rfl, nw3⟩
    -- a sign put away
    refine ⟨fun σ' H' => σ' = [some (.ref cu), some (.str x), some (.int (way : Int)), some (.int (at_ : Int)), some (.str sgT), some (.str y), none, none, none, none] ∧ H' = H4 ∧ way ≠ 3, ?_, ?_⟩
    · refine ⟨_, rfl, rfl, _, rfl, ite2 (fun e => ?_) (fun e => ⟨rfl, rfl, fun z => e (decide_eq_true (by rw [z]; rfl))⟩)⟩
      have c1 := hx.cut none (some (at_ : Int))
      have c2 := hx.cut (some ((at_ : Int) + 1)) none
      exact ⟨_, rfl, _, rfl, _, rfl, _, rfl, lx, _, rfl, _, rfl, _, _, rfl, rfl, _, rfl, _, rfl, lx, _, _, rfl, rfl, Nat.le_trans (Nat.add_le_add c1.l c2.l) (by decide), kS b3 hc3 (c1.app c2) (by decide)⟩
    rintro σ1 H5 ⟨rfl, rfl, nw4⟩
    -- the parts
    have hys : ∀ z ∈ r.map ptx, Tk 7 z := fun z hz => by
      obtain ⟨p, hp, rfl⟩ := List.mem_map.mp hz
      exact ptx_tk (ok p hp)
    have y8 : (r.map ptx).length ≤ 8 := by rw [List.length_map]; exact l8
    have y1 : 1 ≤ (r.map ptx).length := by rw [List.length_map]; exact l1
    refine ⟨fun σ' H' => ∃ l, σ' = [some (.ref cu), some (.str x), some (.int (way : Int)), some (.int (at_ : Int)), some (.str sgT), some (.str y), some (.ref l), none, none, none] ∧ But cu H H' ∧ CupAt cu H' ∧ l ≠ cu ∧ H' l = some (.lst ((r.map ptx).map V.str)), ?_, ?_⟩
    · refine ⟨_, rfl, ⟨_, rfl⟩, _, _, rfl, rfl, by decide +kernel, Nat.le_trans (Nat.add_le_add_right hx.l 2) (by decide), fun l nl => ?_⟩
      rw [hs]
      have s1 := same_upd (o := .lst ((r.map ptx).map V.str)) nl
      exact ⟨l, rfl, b3.trans (.of s1), hc3.same s1, (CupAt.ne hc3 nl).symm, upd_same⟩
    generalize r.map ptx = ys at *
    rintro σ1 H6 ⟨l, rfl, b6, hc6, nl, hl⟩
    clear b3 hc3
    have yl : (ys.map V.str).length = ys.length := List.length_map ..
    -- the place
    refine ⟨fun σ' H' => ∃ n : Nat, σ' = [some (.ref cu), some (.str x), some (.int (way : Int)), some (.int (at_ : Int)), some (.str sgT), some (.str y), some (.ref l), some (.int (n : Int)), none, none] ∧ n < ys.length ∧ But cu H H' ∧ CupAt cu H' ∧ H' l = some (.lst (ys.map V.str)), ?_, ?_⟩
    · refine ⟨_, rfl, _, rfl, l, _, rfl, .inl (SqL.of hl), cu, _, rfl, hc6, by omega, sm200 (by omega) (by omega), fun H7 i b7 hc7 i0 i1 => ?_⟩
      have ei : i = (i.toNat : Int) := (Int.toNat_of_nonneg i0).symm
      exact ⟨i.toNat, by rw [← ei]; rfl, by omega, b6.trans b7, hc7, b7 _ _ nl hl⟩
    rintro σ1 H7 ⟨n, rfl, hn, b7, hc7, hl7⟩
    clear b6 hc6 hl
    have en1 : ((n : Int) + 1) = ((n + 1 : Nat) : Int) := rfl
    have ctak : cutV (ys.map V.str) none (some (n : Int)) = (ys.take n).map V.str := by rw [cut_to' (by omega), List.map_take]
    have cdro : cutV (ys.map V.str) (some ((n : Int) + 1)) none = (ys.drop (n + 1)).map V.str := by rw [en1, cut_from' (by omega), List.map_drop]
    have hyn : (ys.map V.str)[n]? = some (.str (ys[n]'hn)) := by rw [List.getElem?_map, List.getElem?_eq_getElem hn]; rfl
    have tt : ∀ z ∈ ys.take n, Tk 7 z := fun z hz => hys z (List.mem_of_mem_take hz)
    have td : ∀ z ∈ ys.drop (n + 1), Tk 7 z := fun z hz => hys z (List.mem_of_mem_drop hz)
    have lt : (ys.take n).length ≤ 8 := by rw [List.length_take]; omega
    have ld : (ys.drop (n + 1)).length ≤ 8 := by rw [List.length_drop]; omega
    -- a piece twice, or away
    refine ⟨fun σ' H' => σ' = [some (.ref cu), some (.str x), some (.int (way : Int)), some (.int (at_ : Int)), some (.str sgT), some (.str y), some (.ref l), some (.int (n : Int)), none, none] ∧ H' = H7 ∧ ¬ way < 6, ?_, ?_⟩
    · refine ⟨_, rfl, _, _, rfl, rfl, _, rfl, ite2 (fun e => ?_) (fun e => ⟨rfl, rfl, fun z => e (decide_eq_true (by omega))⟩)⟩
      have w6 : way < 6 := by
        have := of_decide_eq_true e
        omega
      refine ⟨⟨_, rfl⟩, _, rfl, _, rfl, _, rfl, l, _, rfl, SqL.of hl7, fun p1 n1 => ?_⟩
      rw [ctak]
      have s1 := same_upd (o := .lst ((ys.take n).map V.str)) n1
      refine ⟨_, rfl, _, rfl, l, _, _, _, rfl, rfl, SqL.of (s1 _ _ hl7), atI_nat hyn, _, rfl, _, rfl, l, _, _, _, rfl, rfl, SqL.of (s1 _ _ hl7), atI_nat hyn, (by show 2 ≤ sizeLine; decide), fun p2 n2 => ⟨(by show 0 ≤ sizeLine; decide), fun p3 n3 => ⟨(by show 2 ≤ sizeLine; decide), fun p4 n4 => ?_⟩⟩⟩
      have s2 := same_upd (o := .lst [.str (ys[n]'hn), .str (ys[n]'hn)]) n2
      have s3 := same_upd (o := .lst []) n3
      have s4 := same_upd (o := .lst [.ref p2, .ref p3]) n4
      have h2 := (s3.trans s4) _ _ (upd_at (o := .lst [.str (ys[n]'hn), .str (ys[n]'hn)]) n2)
      have h3 := s4 _ _ (upd_at (o := .lst []) n3)
      have h1 := ((s2.trans s3).trans s4) _ _ (upd_at (o := .lst ((ys.take n).map V.str)) n1)
      have h4 := upd_at (o := .lst [.ref p2, .ref p3]) n4
      have s14 := ((s1.trans s2).trans s3).trans s4
      have hl8 := s14 _ _ hl7
      have b8 := b7.trans (.of s14)
      have hc8 := hc7.same s14
      clear s1 s2 s3 s4 n1 n2 n3 n4
      generalize upd (upd (upd (upd H7 p1 (.lst ((ys.take n).map V.str))) p2 (.lst [.str (ys[n]'hn), .str (ys[n]'hn)])) p3 (.lst [])) p4 (.lst [.ref p2, .ref p3]) = H8 at *
      rcases (show way = 4 ∨ way = 5 by omega) with hw | hw
      · have e0 : ((way : Int) - 4) = ((0 : Nat) : Int) := by omega
        refine ⟨_, rfl, _, _, rfl, rfl, p4, _, _, _, rfl, rfl, SqL.of h4, (by rw [e0]; exact atI_nat (j := 0) rfl), ?_⟩
        refine ⟨p1, p2, _, _, rfl, rfl, h1, h2, (by rw [List.length_map]; exact Nat.le_of_lt (small1000 (by simp only [List.length_cons, List.length_nil]; omega))), fun p5 n5 => ?_⟩
        have s5 := same_upd (o := .lst ((ys.take n).map V.str ++ [.str (ys[n]'hn), .str (ys[n]'hn)])) n5
        refine ⟨_, rfl, _, rfl, _, _, rfl, rfl, _, rfl, l, _, rfl, SqL.of (s5 _ _ hl8), fun p6 n6 => ?_⟩
        rw [cdro]
        have s6 := same_upd (o := .lst ((ys.drop (n + 1)).map V.str)) n6
        refine ⟨p5, p6, _, _, rfl, rfl, s6 _ _ upd_same, upd_same, (by rw [List.length_append, List.length_map, List.length_map]; exact Nat.le_of_lt (small1000 (by simp only [List.length_cons, List.length_nil]; omega))), fun p7 n7 => ?_⟩
        have s7 := same_upd (o := .lst ((ys.take n).map V.str ++ [.str (ys[n]'hn), .str (ys[n]'hn)] ++ (ys.drop (n + 1)).map V.str)) n7
        have em : (ys.take n).map V.str ++ [.str (ys[n]'hn), .str (ys[n]'hn)] ++ (ys.drop (n + 1)).map V.str = (ys.take n ++ [ys[n]'hn, ys[n]'hn] ++ ys.drop (n + 1)).map V.str := by rw [List.map_append, List.map_append]; rfl
        rw [em] at s7 ⊢
        have ta : ∀ z ∈ ys.take n ++ [ys[n]'hn, ys[n]'hn] ++ ys.drop (n + 1), Tk 7 z := fun z hz => by
          rcases List.mem_append.mp hz with hz | hz
          · rcases List.mem_append.mp hz with hz | hz
            · exact tt z hz
            · simp only [List.mem_cons, List.not_mem_nil, or_false, or_self] at hz
              rw [hz]
              exact hys _ (List.getElem_mem hn)
          · exact td z hz
        have la : (ys.take n ++ [ys[n]'hn, ys[n]'hn] ++ ys.drop (n + 1)).length ≤ 18 := by
          rw [List.length_append, List.length_append]
          simp only [List.length_cons, List.length_nil]
          omega
        exact ⟨_, p7, _, rfl, rfl, .inl (SqL.of upd_same), Tk.bound ta la (by decide) (by decide), kS (b8.trans (.of ((s5.trans s6).trans s7))) (hc8.same ((s5.trans s6).trans s7)) (Tk.join ta la) (by decide)⟩
      · have e0 : ((way : Int) - 4) = ((1 : Nat) : Int) := by omega
        refine ⟨_, rfl, _, _, rfl, rfl, p4, _, _, _, rfl, rfl, SqL.of h4, (by rw [e0]; exact atI_nat (j := 1) rfl), ?_⟩
        refine ⟨p1, p3, _, _, rfl, rfl, h1, h3, (by rw [List.length_map]; exact Nat.le_of_lt (small1000 (by simp only [List.length_cons, List.length_nil]; omega))), fun p5 n5 => ?_⟩
        have s5 := same_upd (o := .lst ((ys.take n).map V.str ++ [])) n5
        refine ⟨_, rfl, _, rfl, _, _, rfl, rfl, _, rfl, l, _, rfl, SqL.of (s5 _ _ hl8), fun p6 n6 => ?_⟩
        rw [cdro]
        have s6 := same_upd (o := .lst ((ys.drop (n + 1)).map V.str)) n6
        refine ⟨p5, p6, _, _, rfl, rfl, s6 _ _ upd_same, upd_same, (by rw [List.length_append, List.length_map, List.length_map]; exact Nat.le_of_lt (small1000 (by simp only [List.length_cons, List.length_nil]; omega))), fun p7 n7 => ?_⟩
        have s7 := same_upd (o := .lst ((ys.take n).map V.str ++ [] ++ (ys.drop (n + 1)).map V.str)) n7
        have em : (ys.take n).map V.str ++ [] ++ (ys.drop (n + 1)).map V.str = (ys.take n ++ [] ++ ys.drop (n + 1)).map V.str := by rw [List.map_append, List.map_append]; rfl
        rw [em] at s7 ⊢
        have ta : ∀ z ∈ ys.take n ++ [] ++ ys.drop (n + 1), Tk 7 z := fun z hz => by
          rcases List.mem_append.mp hz with hz | hz
          · rcases List.mem_append.mp hz with hz | hz
            · exact tt z hz
            · simp only [List.mem_cons, List.not_mem_nil, or_false, or_self] at hz
              try exact hz.elim
              
          · exact td z hz
        have la : (ys.take n ++ [] ++ ys.drop (n + 1)).length ≤ 18 := by
          rw [List.length_append, List.length_append]
          simp only [List.length_cons, List.length_nil]
          omega
        exact ⟨_, p7, _, rfl, rfl, .inl (SqL.of upd_same), Tk.bound ta la (by decide) (by decide), kS (b8.trans (.of ((s5.trans s6).trans s7))) (hc8.same ((s5.trans s6).trans s7)) (Tk.join ta la) (by decide)⟩
    rintro σ1 H8 ⟨rfl, rfl, nw6⟩
    -- an odd piece
    refine ⟨fun σ' H' => σ' = [some (.ref cu), some (.str x), some (.int (way : Int)), some (.int (at_ : Int)), some (.str sgT), some (.str y), some (.ref l), some (.int (n : Int)), none, none] ∧ H' = H8, ?_, ?_⟩
    · refine ⟨_, rfl, rfl, _, rfl, ite2 (fun e => ?_) (fun e => ⟨rfl, rfl⟩)⟩
      refine ⟨(by show 8 ≤ sizeLine; decide), fun p0 n0 => ?_⟩
      have s0 := same_upd (o := .lst [.str (Str.ofString "rail 01"), .str (Str.ofString "rail 0"), .str (Str.ofString "rung 13"), .str (Str.ofString "rail"), .str (Str.ofString "rail 1.0"), .str (Str.ofString "rung  3"), .str (Str.ofString "rail 3 "), .str (Str.ofString "rail 1/2")]) n0
      have hl9 := s0 _ _ hl7
      have hc9 := hc7.same s0
      have b9 := b7.trans (.of s0)
      refine ⟨⟨_, rfl⟩, _, rfl, _, rfl, _, rfl, l, _, rfl, SqL.of hl9, fun p1 n1 => ?_⟩
      rw [ctak]
      have s1 := same_upd (o := .lst ((ys.take n).map V.str)) n1
      have hc10 := hc9.same s1
      refine ⟨_, rfl, _, rfl, cu, p0, _, rfl, hc10, (CupAt.ne hc7 n0), s1 _ _ upd_same, (by show 0 < 8; decide), (by show 8 ≤ 100; decide), fun H11 v b11 hc11 hv => ?_⟩
      obtain ⟨z, rfl, hz⟩ : ∃ z, v = .str z ∧ Tk 8 z := by
        simp only [List.mem_cons, List.not_mem_nil, or_false] at hv
        rcases hv with rfl | rfl | rfl | rfl | rfl | rfl | rfl | rfl <;> exact ⟨_, rfl, (Tk.of _).mono (by decide)⟩
      have np1 : p1 ≠ cu := (CupAt.ne hc9 n1).symm
      have h1 := b11 _ _ np1 (upd_at (o := .lst ((ys.take n).map V.str)) n1)
      refine ⟨(by show 1 ≤ sizeLine; decide), fun p2 n2 => ?_⟩
      have s2 := same_upd (o := .lst [.str z]) n2
      refine ⟨p1, p2, _, _, rfl, rfl, s2 _ _ h1, upd_same, (by rw [List.length_map]; exact Nat.le_of_lt (small1000 (by simp only [List.length_cons, List.length_nil]; omega))), fun p3 n3 => ?_⟩
      have s3 := same_upd (o := .lst ((ys.take n).map V.str ++ [.str z])) n3
      have em : (ys.take n).map V.str ++ [.str z] = (ys.take n ++ [z]).map V.str := by simp
      rw [em] at s3 ⊢
      have ta : ∀ u ∈ ys.take n ++ [z], Tk 8 u := fun u hu => by
        rcases List.mem_append.mp hu with hu | hu
        · exact (tt u hu).mono (by decide)
        · rw [List.mem_singleton] at hu
          rw [hu]
          exact hz
      have la : (ys.take n ++ [z]).length ≤ 9 := by
        rw [List.length_append]
        simp only [List.length_cons, List.length_nil]
        omega
      have bE := ((b9.trans (.of s1)).trans b11).trans (.of (s2.trans s3))
      exact ⟨_, p3, _, rfl, rfl, .inl (SqL.of upd_same), Tk.bound ta la (by decide) (by decide), kS bE (hc11.same (s2.trans s3)) (Tk.join ta la) (by decide)⟩
    rintro σ1 H9 ⟨rfl, rfl⟩
    -- the odd things
    have o1 := hx.app (Tk.of ", ")
    have o2 := (Tk.of ", ").app hx
    have o3 := (Tk.of " ").app hx
    have o4 := hx.app (Tk.of "\n")
    have o5 := hx.replace (y := Str.ofString ", ") (z := Str.ofString ",") (Tk.of ",") (by decide)
    have o6 := hx.upper ha (by decide)
    have o7 := ((Tk.of "Pattern(").app hx).app (Tk.of ")")
    have good1 : GoodD (.list (ys.map PyData.str)) ∧ GoodD (.tuple (ys.map PyData.str)) := goodLst (fun d hd => by
      obtain ⟨z, hz, rfl⟩ := List.mem_map.mp hd
      exact ⟨z, rfl, (hys z hz).mono (by decide)⟩) (by rw [List.length_map]; exact y8)
    have good2 : GoodD (.list [.str x]) := (goodLst (xs := [.str x]) (fun d hd => by
      rw [List.mem_singleton] at hd
      exact ⟨x, hd, hx.mono (by decide)⟩) (by show 1 ≤ 8; decide)).1
    refine ⟨fun σ' H' => ∃ (q : Addr) (xs : List V), σ' = [some (.ref cu), some (.str x), some (.int (way : Int)), some (.int (at_ : Int)), some (.str sgT), some (.str y), some (.ref l), some (.int (n : Int)), none, some (.ref q)] ∧ But cu H H' ∧ CupAt cu H' ∧ q ≠ cu ∧ H' q = some (.lst xs) ∧ xs.length = 13 ∧ ∀ v ∈ xs, OddQ GoodD K cu cu H' v, ?_, ?_⟩
    · refine ⟨_, rfl, _, rfl, l, _, rfl, .inl ⟨SqL.of hl7, fun t nt => ?_⟩⟩
      have s1 := same_upd (o := .tup (ys.map V.str)) nt
      refine ⟨_, rfl, (by show 1 ≤ sizeLine; decide), fun p2 n2 => ?_⟩
      have s2 := same_upd (o := .lst [.str x]) n2
      refine fun dd ndd => ?_
      have s3 := same_upd (o := .dK []) ndd
      refine ⟨(by show 0 ≤ sizeLine; decide), fun p4 n4 => ?_⟩
      have s4 := same_upd (o := .tup []) n4
      refine ⟨_, rfl, _, _, rfl, rfl, hx.sz (Tk.of ", ") (by decide), _, rfl, _, _, rfl, rfl, (Tk.of ", ").sz hx (by decide), _, rfl, _, _, rfl, rfl, (Tk.of " ").sz hx (by decide), (by show 13 ≤ sizeLine; decide), fun q nq => ?_⟩
      have s5 := same_upd (o := .lst [.non, .int 3, .bl true, .ref l, .ref t, .ref p2, .ref dd, .ref p4, .str (Str.ofString ""), .str (Str.ofString " "), .str (x ++ Str.ofString ", "), .str (Str.ofString ", " ++ x), .str (Str.ofString " " ++ x)]) nq
      have sA := ((((s1.trans s2).trans s3).trans s4).trans s5)
      have h1 := ((s2.trans s3).trans (s4.trans s5)) _ _ (upd_at (o := .tup (ys.map V.str)) nt)
      have h2 := (s3.trans (s4.trans s5)) _ _ (upd_at (o := .lst [.str x]) n2)
      have h3 := (s4.trans s5) _ _ (upd_at (o := .dK []) ndd)
      have h4 := s5 _ _ (upd_at (o := .tup []) n4)
      have hl8 := sA _ _ hl7
      have hc8 := hc7.same sA
      have ne : ∀ {b : Addr} {o : HO}, _ = some o → (∀ us : Int × Int, o ≠ .lst [.int us.1, .int us.2]) → b ≠ cu := fun {b o} (h : (upd (upd (upd (upd (upd H9 t (.tup (ys.map V.str))) p2 (.lst [.str x])) dd (.dK [])) p4 (.tup [])) q _) b = some o) nn z => by
        obtain ⟨u, v, hcu, _⟩ := hc8
        rw [z, hcu] at h
        exact nn (u, v) (Option.some.inj h).symm
      have g0 := hs_of hl8 nl nl (by intro ps z; cases z)
      have n1' := ne h1 (by intro us z; cases z)
      have n2' := ne h2 (by intro us z; cases z)
      have n3' := ne h3 (by intro us z; cases z)
      have n4' := ne h4 (by intro us z; cases z)
      have g1 := hs_of h1 n1' n1' (by intro ps z; cases z)
      have g2 := hs_of h2 n2' n2' (by intro ps z; cases z)
      have g3 := hs_of h3 n3' n3' (by intro ps z; cases z)
      have g4 := hs_of h4 n4' n4' (by intro ps z; cases z)
      refine ⟨q, _, rfl, b7.trans (.of sA), hc8, (CupAt.ne (hc7.same (((s1.trans s2).trans s3).trans s4)) nq).symm, upd_same, rfl, fun v hv => ?_⟩
      have gd : ∀ d : PyData, d.showable = true → d.depth ≤ 40 → d.shown.length ≤ sizeLine → PyData.strOk d.shown = true → (∀ z, d ≠ .str z) → GoodD d := fun d a b c e g => ⟨a, b, c, e, fun z h => absurd h (g z)⟩
      simp only [List.mem_cons, List.not_mem_nil, or_false] at hv
      rcases hv with rfl | rfl | rfl | rfl | rfl | rfl | rfl | rfl | rfl | rfl | rfl | rfl | rfl
      · exact ⟨.none, .dp .non rfl, gd _ (by decide +kernel) (by decide +kernel) (by decide +kernel) (by decide +kernel) (by intro z e; cases e)⟩
      · exact ⟨.int 3, .dp (.int 3) rfl, gd _ (by decide +kernel) (by decide +kernel) (by decide +kernel) (by decide +kernel) (by intro z e; cases e)⟩
      · exact ⟨.bool true, .dp (.bl true) rfl, gd _ (by decide +kernel) (by decide +kernel) (by decide +kernel) (by decide +kernel) (by intro z e; cases e)⟩
      · exact ⟨.list (ys.map PyData.str), .dp (.lst (SqL.of g0) (dpStrs ys)) (by simp only [PyData.hasDict]; exact nodict_strs ys), good1.1⟩
      · exact ⟨.tuple (ys.map PyData.str), .dp (.tup (SqT.of g1) (dpStrs ys)) (by simp only [PyData.hasDict]; exact nodict_strs ys), good1.2⟩
      · exact ⟨.list [.str x], .dp (.lst (SqL.of g2) (.cons (.str x) .nil)) (by simp [PyData.hasDict, PyData.hasDictAll]), good2⟩
      · exact ⟨.dict [], .dk (kvs := []) g3, gd _ (by decide +kernel) (by decide +kernel) (by decide +kernel) (by decide +kernel) (by intro z e; cases e)⟩
      · exact ⟨.tuple [], .dp (.tup (SqT.of g4) .nil) (by simp [PyData.hasDict, PyData.hasDictAll]), gd _ (by decide +kernel) (by decide +kernel) (by decide +kernel) (by decide +kernel) (by intro z e; cases e)⟩
      · exact goodStr (Tk.of "") (by decide)
      · exact goodStr (Tk.of " ") (by decide)
      · exact goodStr o1 (by decide)
      · exact goodStr o2 (by decide)
      · exact goodStr o3 (by decide)
    rintro σ1 H10 ⟨q, xs, rfl, b10, hc10, nq, hq, lxs, gx⟩
    have rb : x.length + (x.length + 1) * (Str.ofString ",").length ≤ 16777216 := by
      have e1 : (Str.ofString ",").length = 1 := by decide +kernel
      have := hx.l
      rw [e1]
      omega
    refine ⟨_, rfl, _, rfl, _, rfl, _, _, rfl, rfl, hx.sz (Tk.of "\n") (by decide), _, rfl, _, rfl, rb, _, rfl, ⟨_, rfl⟩, _, rfl, rfl, Nat.le_trans hx.l (by decide), _, rfl, _, _, rfl, rfl, (Tk.of "Pattern(").sz hx (by decide), _, _, rfl, rfl, ((Tk.of "Pattern(").app hx).sz (Tk.of ")") (by decide), (by show 4 ≤ sizeLine; decide), fun p2 n2 => ?_⟩
    have s2 := same_upd (o := .lst [.str (x ++ Str.ofString "\n"), .str (Txt.replace x (Str.ofString ", ") (Str.ofString ",")), .str (Txt.upper x), .str (Str.ofString "Pattern(" ++ x ++ Str.ofString ")")]) n2
    refine ⟨q, p2, _, _, rfl, rfl, s2 _ _ hq, upd_same, (by rw [lxs]; show 13 + 4 ≤ sizeLine; decide), fun p3 n3 => ?_⟩
    have s3 := same_upd (o := .lst (xs ++ [.str (x ++ Str.ofString "\n"), .str (Txt.replace x (Str.ofString ", ") (Str.ofString ",")), .str (Txt.upper x), .str (Str.ofString "Pattern(" ++ x ++ Str.ofString ")")])) n3
    have s23 := s2.trans s3
    refine ⟨cu, p3, _, rfl, hc10.same s23, CupAt.ne (hc10.same s2) n3, upd_same, (by rw [List.length_append, lxs]; show 0 < 13 + 4; decide), (by rw [List.length_append, lxs]; show 13 + 4 ≤ 100; decide), fun H11 v b11 hc11 hv => ?_⟩
    refine k H11 v ((b10.trans (.of s23)).trans b11) hc11 ?_
    rcases List.mem_append.mp hv with hv | hv
    · exact ((gx v hv).same s23).mono (hs_but fun b o nb _ _ e => b11 b o nb e)
    · simp only [List.mem_cons, List.not_mem_nil, or_false] at hv
      rcases hv with rfl | rfl | rfl | rfl
      · exact goodStr o4 (by decide)
      · exact goodStr o5 (by decide)
      · exact goodStr o6 (by decide)
      · exact goodStr o7 (by decide)
end
end RL

/-! a def whose code object is known (it makes lambdas) -/
namespace RL
open PySem L2 PySem.Spec PyProof.Rows
structure FunC (K : PySem.W.Frag) (x qual : Str) (st : Stmt) (f : Addr) (fd : FuncData) (cA : Addr) : Prop where
  ex : ∃ (oc : Value) (od : Option Addr) (kV doc pm : Value) (an : Option Addr) (ct : Value) (osl : Array (Option Value)),
    fd = PySem.W.fnOf x qual (defArgs st) (defBody st) (defScope st) .none kV doc pm an (.ref cA) ct ∧ K.lookup f = some ⟨oc, od, .func fd, osl⟩ ∧ PySem.W.codeIn K (.ref cA) qual = true
section
variable {P : Program} {w : World} {K : PySem.W.Frag} {mg : Str → Option Value} {base : Heap}
theorem okGC {x qual : Str} {st : Stmt} {f cA : Addr} {fd : FuncData} {N ps : List Str} {k : Nat} {sp : Sp} (F : FunC K x qual st f fd cA) (S : FnScope N ps (defScope st)) (len : ∀ vs H Q E, sp vs H Q E → vs.length = ps.length)
    (bd : ∀ (A : Around) (outer : List Env) (s : Shared) (H : Hp) (vs : List V) (Q : VK) (E : XK), A.guards = some [] → Room k (A.deeper (envOfC qual (defScope st) s.heap.objs.size f (.ref cA))) → sp vs H Q E →
      ∃ t, PSs (cxOf CX0 P w K mg base N qual (defScope st) f (.ref cA) A outer s H E).nox (defBody st) t ∧ t { nx := fun _ H' => Q .non H', rt := Q } (start N vs) H) : FnG P w K mg base (k + 1) f fd ps sp := by
  obtain ⟨oc, od, kV, doc, pm, an, ct, osl, rfl, lk, hcd⟩ := F.ex
  refine ⟨len, fun A outer s H args us vs Q E hg hr e0 hb r hsp => ?_⟩
  have KX : K.In s.heap := e0.mod.kin.keeps fun b o e => (e0.bs b o e).1
  have lim := e0.mod.nolimit.keeps fun b o e => (e0.bs b o e).1
  refine codeAny_call_function hr.depth (KX _ _ lk) rfl S.co S.gen rfl (PySem.W.codeRec_of KX hcd) (hb _ _ _ _ (wpAny_newFunctionEnv_cells S.kind (fun ⟨n, v⟩ hy => ?_) fun env he s1 x => ?_))
  · exact (S.par n (List.of_mem_zip hy).1).imp id fun q => ⟨q, PySem.W.cellsFrom_some _ _ _ (.inl q)⟩
  · subst he
    obtain ⟨t, ht, hq⟩ := bd A outer s H vs Q E hg (hr.deeper _) hsp
    have I : Inv (cxOf CX0 P w K mg base N qual (defScope st) f (.ref cA) A outer s H E) [] (start N vs) H s1 := inv_start S hr.hd e0 (len _ _ _ _ hsp) r x
    refine ⟨lim.keeps x.toInCall.keep, codeAny_func (wpAny_mono (ht.nox.run [] s1 _ H _ I hq) (fun fl s' hs => ?_) fun _ _ z => z)⟩
    cases fl with
    | ret u =>
      obtain ⟨v, σ', H', J, rv, q⟩ := hs
      exact ⟨v, H', J.os, J.bare, J.base, J.hok, rv, q⟩
    | next =>
      obtain ⟨σ', H', J, q⟩ := hs
      exact ⟨V.non, H', J.os, J.bare, J.base, J.hok, rfl, q⟩
    | brk => exact hs.elim fun _ z => z.elim fun _ y => False.elim y.2
    | cont => exact hs.elim fun _ z => z.elim fun _ y => False.elim y.2
end
end RL

set_option maxHeartbeats 1000000
/-! An own unary operator; `x in o` by an own __contains__; C(*y). -/
namespace RL
open PySem L2 PySem.Spec PyProof.Rows PySem.W
section
variable {X : Cx} {k : Nat} {ps : List Str} {sp : Sp} {C g : Addr} {fd : FuncData}
def rUnOwn (C : Addr) (sp : Sp) : V → Hp → VK → Prop := fun x H Q => ∃ a dx fs, x = .ref a ∧ H a = some (.ins C dx fs) ∧ sp [x] H Q E0
theorem un_invOwn (hs : PySem.W.findIn X.K (.ref C) "__invert__" = some (some (.ref g))) (hf : PySem.W.isFn X.K (.ref g) = true) (F : FnOk X.prog X.w X.K X.mg X.base CX0 k g fd ps sp) (hb : Binds X.K fd ps []) (hr : Room k X.A) :
    UnR X (unaryOp .Invert) (rUnOwn C sp) := by
  intro pins s σ H x v Q I rx h
  obtain ⟨a, dx, fs, rfl, ha, q⟩ := h
  cases (show v = Value.ref a from rx)
  obtain ⟨mA, O, _⟩ := ins_get I.hok ha
  obtain ⟨od, J, _⟩ := O.look
  obtain ⟨m, hF⟩ := I.fr
  refine PySem.W.ksp_inv hF I.ok.mod.kin J hs hf ?_
  have q0 : sp ([.ref a] ++ []) H Q E0 := q
  exact run_fn (us := [.ref a]) (vs := [.ref a]) F hr hb .nil pass0 I (.cons rfl .nil) q0
def rInOwn (C : Addr) (sp : Sp) : R2 := fun x y H Q => ∃ a dx fs, y = .ref a ∧ H a = some (.ins C dx fs) ∧ sp [y, x] H (fun z H' => ∃ b : Bool, z = .bl b ∧ Q (.bl b) H') E0
theorem op_inOwn (hs : PySem.W.findIn X.K (.ref C) "__contains__" = some (some (.ref g))) (hf : PySem.W.isFn X.K (.ref g) = true) (F : FnOk X.prog X.w X.K X.mg X.base CX0 k g fd ps sp) (hb : Binds X.K fd ps []) (hr : Room k X.A) :
    OpR X (compareOp .In) (rInOwn C sp) := by
  intro pins s σ H x y v u Q I rx ry h
  obtain ⟨a, dx, fs, rfl, ha, q⟩ := h
  cases (show u = Value.ref a from ry)
  obtain ⟨mA, O, _⟩ := ins_get I.hok ha
  obtain ⟨od, J, _⟩ := O.look
  obtain ⟨m, hF⟩ := I.fr
  refine PySem.W.in_K hF I.ok.mod.kin J hs hf ?_
  have q0 : sp ([.ref a, x] ++ []) H _ E0 := q
  refine wpAny_mono (run_fn (us := [.ref a, v]) (vs := [.ref a, x]) F hr hb .nil pass0 I (.cons rfl (.cons rx .nil)) q0) (fun w s' z => ?_) fun _ _ z => z
  obtain ⟨z', H', I', rz, b, rfl, qz⟩ := z
  cases (show w = Value.bool b from rz)
  exact wpAny_truthy_bool ⟨.bl b, H', I', rfl, qz⟩
end
section
variable {X : Cx} {CX : CXT} {k : Nat} {f C : Addr} {sp : Sp} {E : XK} {x : Str} {e : Expr} {te : TE} {p pos sp_ : Pos}
theorem pe_makeS1 (M : Mk X.K C f) (F : FnR X.prog X.w X.K X.mg X.base CX k f sp) (hr : Room (k + 1) X.A) (hg : Gl X x) (hm : X.mg x = some (.ref C)) (hx : Passes CX X E) (he : PE X e te) (hd : (x == ("__debug__" : Str)) = false := by decide)
    (hst : starEach [.Starred e sp_] X.env = [(true, eval e X.env)] := by rfl) :
    PE X (.Call (.Name x p) [.Starred e sp_] [] pos) (fun σ H Q => te σ H fun y H1 => ∃ a xs, y = V.ref a ∧ (SqT X.K H1 a xs ∨ SqL X.K H1 a xs) ∧ ∀ z dz, H1 z = Option.none → H1 dz = Option.none → dz ≠ z → sp (V.ref z :: xs) (upd (upd H1 dz (.own z)) z (.ins C dz [])) (fun v H2 => v = .non ∧ Q (.ref z) H2) E) := by
  refine ⟨fun pins s σ H Q I h => ?_⟩
  refine wpAny_Call_Name_kw (ld_glob I hg hm ?_ hd)
  refine PySem.W.callWith_S (h₀ := X.base) I.ok.mod.kin M.kp (thn (he.run pins s σ H _ I h) fun v s1 ⟨y, H1, I1, ry, a, xs, ey, hxs, q⟩ => ?_) hst
  subst ey
  obtain rfl : v = Value.ref a := ry
  exact StX.star_any I1 hxs fun us s2 I2 rv => ⟨I2.kIn, StX.run_makeR M F hr hx I2 rv q⟩
theorem pe_makeR0 (M : Mk X.K C f) (F : FnR X.prog X.w X.K X.mg X.base CX k f sp) (hr : Room (k + 1) X.A) (hg : Gl X x) (hm : X.mg x = some (.ref C)) (hx : Passes CX X E)
    (hdb : (x == ("__debug__" : Str)) = false := by decide) : PE X (.Call (.Name x p) [] [] pos) (StX.tMakeR C sp E tNil) := by
  refine ⟨fun pins s σ H Q I h => ?_⟩
  refine wpAny_Call_Name_kw (ld_glob I hg hm ?_ hdb)
  exact PySem.W.callWith_K0 I.kIn M.kp (StX.run_makeR M F hr hx I .nil h)
end
end RL

set_option maxHeartbeats 4000000
namespace RL
open PySem L2 PySem.Spec PyProof.Rows
def spRight (T : List (Addr × Str)) : Sp := fun vs H Q _ => ∃ c : Addr, vs = [.ref c] ∧ CupAt c H ∧ LamX.Tabs T H ∧ ∀ H', ButT c H H' → LamX.Tabs T H' → Q (.bl true) H'
theorem tabs_upd {TT : List (Addr × Str)} {H : Hp} {D : Addr} {xs : List V} {o : HO} (t : LamX.Tabs TT H) (h : H D = some (.lst xs)) : LamX.Tabs TT (upd H D o) := fun p hp => by
  obtain ⟨ps, h1, h2, h3⟩ := t p hp
  refine ⟨ps, (upd_ne (ne_of h1 h (by intro z; cases z))).trans h1, h2, fun pos cv hcv => ?_⟩
  obtain ⟨c', e1, e2⟩ := h3 pos cv hcv
  exact ⟨c', e1, (upd_ne (ne_of e2 h (by intro z; unfold LamX.CodeO at z; cases z))).trans e2⟩
def givT (x : Str) : PyData := .list [.str (Str.ofString "given"), .str x]
def errT (x : Str) : PyData := .list [.int 5, .int 20, .int 23, .str x]
theorem sh_two {d : PyData} (h : d.canLay0 = true) (k : d.depth ≤ 10) : SeqAt.shaped (.list [d, d]) = true := by
  refine sh_lst (by simp only [PyData.canLayAll0, h, Bool.and_true]) ?_
  simp only [PyData.depth, PyData.depthAll]
  omega
theorem cl_giv {x : Str} (h : PyData.strOk x = true) : (givT x).canLay0 = true ∧ (givT x).depth ≤ 10 := by
  have g : PyData.strOk (Str.ofString "given") = true := strOk_of (Uok.of _)
  constructor
  · simp only [givT, PyData.canLay0, PyData.canLayAll0, g, h, Bool.and_true]
  · simp only [givT, PyData.depth, PyData.depthAll]
    omega
theorem cl_err {x : Str} (h : PyData.strOk x = true) : (errT x).canLay0 = true ∧ (errT x).depth ≤ 10 := by
  constructor
  · simp only [errT, PyData.canLay0, PyData.canLayAll0, h, Bool.and_true]
  · simp only [errT, PyData.depth, PyData.depthAll]
    omega
theorem ne_two {d : PyData} (h : PyData.eqv d d = true) : ¬ (!PyData.eqv (.list [d, d]) (.list [d, d])) = true := by
  have : PyData.eqv (.list [d, d]) (.list [d, d]) = true := by simp [PyData.eqv, PyData.eqvAll, h]
  rw [this]
  decide
theorem eqv_giv (x : Str) : PyData.eqv (givT x) (givT x) = true := by simp [givT, PyData.eqv, PyData.eqvAll]
theorem eqv_err (x : Str) : PyData.eqv (errT x) (errT x) = true := by simp [errT, PyData.eqv, PyData.eqvAll]
theorem dp_giv {K : PySem.W.Frag} {H : Hp} {a : Addr} {x : Str} (h : H a = some (.lst [.str (Str.ofString "given"), .str x])) : Dp K H (.ref a) (givT x) := .lst (SqL.of h) (.cons (.str _) (.cons (.str _) .nil))
theorem dp_err {K : PySem.W.Frag} {H : Hp} {a : Addr} {x : Str} (h : H a = some (.lst [.int 5, .int 20, .int 23, .str x])) : Dp K H (.ref a) (errT x) := .lst (SqL.of h) (.cons (.int _) (.cons (.int _) (.cons (.int _) (.cons (.str _) .nil))))
theorem cl_row : ∀ r : List Pc, PyData.canLayAll0 (r.map pcD) = true
  | [] => rfl
  | p :: r => by
    have g : PyData.strOk (wd p.1) = true := by cases p.1 <;> exact strOk_of (Uok.of _)
    simp [PyData.canLayAll0, PyData.canLay0, pcD, g, cl_row r]
theorem ok_rowShown {r : List Pc} (h : (PyData.tuple (r.map pcD)).hasDict = false) : PyData.strOk (PyData.shown (.tuple (r.map pcD))) = true := strOk_shown (by simp only [PyData.canLay0]; exact cl_row r) h
theorem ins_of {C : Addr} {H : Hp} {x : Addr} {r : List Pc} (h : PatAt C H x r) : ∃ dx fs, H x = some (.ins C dx fs) := by
  obtain ⟨dx, q, m, f, ws, f1, f2, f3, f4, h1, _⟩ := h
  exact ⟨dx, _, h1⟩
structure OwPi (P : Program) (w : World) (K : PySem.W.Frag) (mg : Str → Option Value) (base : Heap) (C p g : Addr) (fd : FuncData) : Prop where
  pr : PropOf K C "pieces" p g
  ok : FnOk P w K mg base CX0 1 g fd ["self"] (spPcs C)
  b : Binds K fd ["self"] []
/-- what is due: the pieces, or None -/
def DueAt (H : Hp) (d : PyData) (v : V) : Prop := (∃ r q ws, RdD d r ∧ v = .ref q ∧ H q = some (.tup ws) ∧ PiecesAt H ws r) ∨ ((¬ ∃ r, RdD d r) ∧ v = .non)
theorem DueAt.butT {c : Addr} {H H' : Hp} {d : PyData} {v : V} (h : DueAt H d v) (hc : CupAt c H) (s : ButT c H H') : DueAt H' d v := by
  rcases h with ⟨r, q, ws, h1, e, h2, h3⟩ | h
  · exact .inl ⟨r, q, ws, h1, e, s.tup hc h2, h3.butT hc s⟩
  · exact .inr h
/-- what is told in either way -/
def dueTx (d : PyData) (r : Option (List Pc)) : List V := match r with
  | some r => [.str (Str.ofString "given"), .str (PyData.shown (.tuple (r.map pcD)))]
  | none => [.int 5, .int 20, .int 23, .str d.shown]
noncomputable def dueR (d : PyData) : Option (List Pc) := open Classical in if h : ∃ r, RdD d r then some h.choose else none
theorem dueR_some {d : PyData} {r : List Pc} (h : RdD d r) : dueR d = some r := by
  unfold dueR
  have k : ∃ r, RdD d r := ⟨r, h⟩
  rw [dif_pos k]
  obtain ⟨x, e, h1⟩ := h
  obtain ⟨x', e', h2⟩ := k.choose_spec
  rw [e] at e'
  cases e'
  rw [rd_inj h1 h2]
theorem dueR_none {d : PyData} (h : ¬ ∃ r, RdD d r) : dueR d = none := dif_neg h
section
variable {P : Program} {w : World} {K : PySem.W.Frag} {mg : Str → Option Value} {base : Heap} {tG t1 t2 t3 : Tok} {aO aW J C fP fJ : Addr} {fdJ : FuncData} {pP gp pR gR gT : Addr} {fdP fdR fdT : FuncData} {c : Nat → Addr}
abbrev s_law_right : Stmt := top 60
theorem sc_law_right : FnScope ["_law_cup_here", "_law_turn", "_law_words_here", "_law_again", "_law_some", "_law_due_here", "_law_told", "_law_right_here"] ["_law_cup_here"] (defScope s_law_right) := ⟨rfl, rfl, rfl, by decide +kernel, rfl, by decide +kernel, by decide +kernel⟩

theorem ok_right {f cA PA : Addr} {fd : FuncData} {TT : List (Addr × Str)} (F : FunC K "_law_right" "_law_right" s_law_right f fd cA) (T : Txt3 K mg tG t1 t2 t3 aO aW J C) (OW : SmN P w K mg base C 7 "read" "text" (spReadN K C (c 5))) (OR : OwR P w K mg base C pR gR fdR) (OT2 : OwT2 P w K mg base C gT fdT) (OPi : OwPi P w K mg base C pP gp fdP)
    (CG : CgtD P w K mg base c 1 (rRp K)) (EC5 : EC K c (c 5) 5 [5, 20, 23]) (TBR : LamX.TabB base mg cA PA) (TMR : (PA, ("_law_right" : Str) ++ ".<locals>.<lambda>") ∈ TT) (TUR : ∀ p ∈ TT, p.1 = PA → p.2 = ("_law_right" : Str) ++ ".<locals>.<lambda>")
    (D_law_row : Df P w K mg base 3 "_law_row" ["_law_cup_here", "_law_most"] spRow) (D_law_words : Df P w K mg base 1 "_law_words" ["_law_row_here"] spWords) (D_law_due : Df P w K mg base 2 "_law_due" ["_law_thing"] (spDue K)) (D_law_bent : Df P w K mg base 3 "_law_bent" ["_law_cup_here", "_law_words_here"] (spBent K)) : FnG P w K mg base 12 f fd ["_law_cup_here"] (spRight TT) := by
  refine okGC F sc_law_right (fun vs H Q E h => ?_) (fun A outer s H vs Q E hg hr h => ?_)
  · obtain ⟨c, rfl, _⟩ := h
    rfl
  · obtain ⟨cu, rfl, hc, ht, k⟩ := h
    refine ⟨_, (pss_cons (ps_for PassesOwn.never rfl (pi_range1 rfl T.range (pa_cons pe_int pa_nil)) (pg_name (i := 1) sc_law_right.nd rfl (.inl rfl)) (C8.pss_cut (ps_set (i := 2) sc_law_right.nd rfl (.inl rfl) (pe_df D_law_words (hr.mono (by decide)) (by rfl) (pa_cons (pe_df D_law_row (hr.mono (by decide)) (by rfl) (pa_cons (pv 0) (pa_cons pe_int pa_nil))) pa_nil)))
      (pss_one (ps_for PassesOwn.never rfl (pi_range1 rfl T.range (pa_cons pe_int pa_nil)) (pg_name (i := 3) sc_law_right.nd rfl (.inl rfl)) (C8.pss_cut (ps_set (i := 4) sc_law_right.nd rfl (.inr rfl) (pe_ifExp (pt_cmpR op_eq (pv 3) pe_int (nomark _)) (pv 2) (pe_df D_law_bent (hr.mono (by decide)) (by rfl) (pa_cons (pv 0) (pa_cons (pv 2) pa_nil)))))
      (C8.pss_cut (ps_set (i := 5) sc_law_right.nd rfl (.inl rfl) (pe_df D_law_due (hr.mono (by decide)) (by rfl) (pa_cons (pv 4) pa_nil)))
      (C8.pss_cut (ps_set (i := 6) sc_law_right.nd rfl (.inl rfl) (pe_lst (pa_cons (pe_cgt (k := 9) CG hg (by decide) (by decide) TBR rfl TMR TUR (hr.mono (by decide)) rfl (fun A2 outer2 s2 H2 E2 f2 c2 hg2 hr2 => (pe_prop (pe_smethN (pe_glob (v := .ref C) rfl T.mgC rfl) OW (hr2.mono (by decide)) (passN lamN_takes fun _ _ _ _ h => h) (pa_cons (pv 4) pa_nil)) T.cl OPi.pr OPi.ok (hr2.mono (by decide)) OPi.b .nil pass0 rfl))) pa_nil)))
      (C8.pss_cut (ps_expr (pe_bm PySem.F.plainAttrs_list PySem.F.slot_list_append PySem.F.type_list_append mt_append (pv 6) (pa_cons (pe_cgt (k := 9) CG hg (by decide) (by decide) TBR rfl TMR TUR (hr.mono (by decide)) rfl (fun A2 outer2 s2 H2 E2 f2 c2 hg2 hr2 => (pe_prop (pe_smethKN (pe_glob (v := .ref C) rfl T.mgC rfl) OW (hr2.mono (by decide)) (passN lamN_takes fun _ _ _ _ h => h) (pk_cons (pv 4) pk_nil)) T.cl OPi.pr OPi.ok (hr2.mono (by decide)) OPi.b .nil pass0 rfl))) pa_nil)))
      (C8.pss_cut (ps_set (i := 7) sc_law_right.nd rfl (.inl rfl) (pe_ifExp (pt_cmpR op_notN (pv 5) pe_non (nomark _)) (pe_lst (pa_cons pe_str (pa_cons (pe_callB (cr_rpK (K := K) hg hr.units) (by rfl) T.repr (by decide +kernel) (pa_cons (pv 5) pa_nil)) pa_nil))) (pe_lst (pa_cons pe_int (pa_cons pe_int (pa_cons pe_int (pa_cons (pe_callB (cr_rpK (K := K) hg hr.units) (by rfl) T.repr (by decide +kernel) (pa_cons (pv 4) pa_nil)) pa_nil)))))))
      (C8.pss_cut (ps_if (pt_cmpR (op_neD hr.units) (pv 6) (pe_lst (pa_cons (pv 7) (pa_cons (pv 7) pa_nil))) (nomark _)) (pss_one (ps_ret pe_bl)) pss_nil)
      (pss_one (ps_if (PW.pt (pw_and (pt_cmpR op_notN (pv 5) pe_non (nomark _)) (pw_and1 (pt_cmpR op_ne (pe_callTy (cr_strOwn OT2.at_ OT2.fn OT2.ok OT2.b (hr.mono (by decide))) (by rfl) T.str_ (by decide +kernel) (pa_cons (pe_smeth (pe_glob (v := .ref C) rfl T.mgC rfl) OR.rd OR.sm OR.ok OR.b (hr.mono (by decide)) (pa_cons (pv 4) pa_nil)) pa_nil)) (pv 4) (nomark _))))) (pss_one (ps_ret pe_bl)) pss_nil))))))))))))
      (pss_one (ps_ret pe_bl))), ?_⟩
    refine ⟨4, rfl, by decide, by decide, ?_⟩
    refine for_range (lo := 0) (n := Int.toNat 4) (fun i σ H' => (∃ v1 v2 v3 v4 v5 v6 v7, σ = [some (.ref cu), v1, v2, v3, v4, v5, v6, v7]) ∧ ButT cu H H' ∧ CupAt cu H' ∧ LamX.Tabs TT H') ⟨⟨none, none, none, none, none, none, none, rfl⟩, ButT.refl _ _, hc, ht⟩ ?_ ?_
    · rintro i σ H1 hi ⟨⟨v1, v2, v3, v4, v5, v6, v7, rfl⟩, b1, hc1, t1⟩
      -- the words
      refine ⟨fun σ' H' => ∃ r, σ' = [some (.ref cu), some (.int (0 + i)), some (.str (rowTx r)), v3, v4, v5, v6, v7] ∧ ButT cu H H' ∧ CupAt cu H' ∧ LamX.Tabs TT H' ∧ RowOk r ∧ 1 ≤ r.length ∧ r.length ≤ 8, ?_, ?_⟩
      · refine ⟨_, rfl, cu, 8, rfl, hc1, by decide, by decide, fun H2 a r b2 hc2 _ na hA ok l1 l8 => ?_⟩
        have l8' : r.length ≤ 8 := by omega
        refine ⟨a, r, rfl, hA, ok, l8', fun H3 s3 => ?_⟩
        exact ⟨r, rfl, b1.trans (.but (b2.trans (.of s3))), hc2.same s3, tabs_same (tabs_but t1 hc1 b2) s3, ok, l1, l8'⟩
      rintro σ1 H2 ⟨r, rfl, b2, hc2, t2, ok, l1, l8⟩
      clear b1 hc1 t1
      refine ⟨5, rfl, by decide, by decide, ?_⟩
      refine for_range (lo := 0) (n := Int.toNat 5) (fun j σ H' => (∃ v3 v4 v5 v6 v7, σ = [some (.ref cu), some (.int (0 + i)), some (.str (rowTx r)), v3, v4, v5, v6, v7]) ∧ ButT cu H H' ∧ CupAt cu H' ∧ LamX.Tabs TT H') ⟨⟨_, _, _, _, _, rfl⟩, b2, hc2, t2⟩ ?_ ?_
      · clear b2 hc2 t2
        rintro j σ H3 hj ⟨⟨v3, v4, v5, v6, v7, rfl⟩, b3, hc3, t3⟩
        -- the thing
        refine ⟨fun σ' H' => ∃ v, σ' = [some (.ref cu), some (.int (0 + i)), some (.str (rowTx r)), some (.int (0 + j)), some v, v5, v6, v7] ∧ ButT cu H H' ∧ CupAt cu H' ∧ LamX.Tabs TT H' ∧ OddQ GoodD K cu cu H' v, ?_, ?_⟩
        · refine ⟨_, rfl, rfl, _, rfl, ite2 (fun e => ?_) (fun e => ?_)⟩
          · exact ⟨_, rfl, _, rfl, b3, hc3, t3, goodStr (rowTx_tk ok l8) (by decide)⟩
          · exact ⟨_, rfl, _, rfl, cu, r, rfl, hc3, ok, l1, l8, fun H4 v b4 hc4 hv => ⟨v, rfl, b3.trans (.but b4), hc4, tabs_but t3 hc3 b4, hv⟩⟩
        rintro σ2 H4 ⟨v, rfl, b4, hc4, t4, ⟨d, hd, gd⟩⟩
        clear b3 hc3 t3
        have dqv : ∀ {HX : Hp}, Dq K (hidS cu cu HX) v d → Dq K HX v d := fun h => h.same (fun b o e => (hs_get e).2.2.1)
        have dqs : ∀ {HX HY : Hp}, Dq K (hidS cu cu HX) v d → ButT cu HX HY → Dq K (hidS cu cu HY) v d := fun h s => h.same (hs_but fun b o n _ t e => s b o n t e)
        -- what is due
        refine ⟨fun σ' H' => ∃ u, σ' = [some (.ref cu), some (.int (0 + i)), some (.str (rowTx r)), some (.int (0 + j)), some v, some u, v6, v7] ∧ ButT cu H H' ∧ CupAt cu H' ∧ LamX.Tabs TT H' ∧ Dq K (hidS cu cu H') v d ∧ DueAt H' d u, ?_, ?_⟩
        · refine ⟨_, rfl, v, d, rfl, dqv hd, gd.x, fun r' hr' H5 q ws s5 hq hw => ?_, fun hn H5 s5 => ?_⟩
          · exact ⟨_, rfl, b4.trans (.of s5), hc4.same s5, tabs_same t4 s5, dqs hd (.of s5), .inl ⟨r', q, ws, hr', rfl, hq, hw⟩⟩
          · exact ⟨_, rfl, b4.trans (.of s5), hc4.same s5, tabs_same t4 s5, dqs hd (.of s5), .inr ⟨hn, rfl⟩⟩
        rintro σ3 H5 ⟨u, rfl, b5, hc5, t5, hd5, du5⟩
        clear b4 hc4 t4 hd
        -- told, by position
        refine ⟨fun σ' H' => ∃ l a1, σ' = [some (.ref cu), some (.int (0 + i)), some (.str (rowTx r)), some (.int (0 + j)), some v, some u, some (.ref l), v7] ∧ ButT cu H H' ∧ CupAt cu H' ∧ LamX.Tabs TT H' ∧ Dq K (hidS cu cu H') v d ∧ DueAt H' d u ∧ H' l = some (.lst [.ref a1]) ∧ H' a1 = some (.lst (dueTx d (dueR d))) ∧ l ≠ cu ∧ (∀ b o, b ≠ cu → (∀ ps, o ≠ .tbl ps) → H5 b = some o → b ≠ l) ∧ ButT cu H5 H', ?_, ?_⟩
        · refine ⟨t5, fun H6 x6 t6 => ?_⟩
          have bt6 : ButT cu H5 H6 := .ext x6
          have fin : ∀ (H7 : Hp) (a1 : Addr), Same H6 H7 → H7 a1 = some (.lst (dueTx d (dueR d))) → ∀ l, H7 l = none → ∃ l' a1', [some (V.ref cu), some (.int (0 + i)), some (.str (rowTx r)), some (.int (0 + j)), some v, some u, some (.ref l), v7] = [some (.ref cu), some (.int (0 + i)), some (.str (rowTx r)), some (.int (0 + j)), some v, some u, some (.ref l'), v7] ∧ ButT cu H (upd H7 l (.lst [.ref a1])) ∧ CupAt cu (upd H7 l (.lst [.ref a1])) ∧ LamX.Tabs TT (upd H7 l (.lst [.ref a1])) ∧ Dq K (hidS cu cu (upd H7 l (.lst [.ref a1]))) v d ∧ DueAt (upd H7 l (.lst [.ref a1])) d u ∧ (upd H7 l (.lst [.ref a1])) l' = some (.lst [.ref a1']) ∧ (upd H7 l (.lst [.ref a1])) a1' = some (.lst (dueTx d (dueR d))) ∧ l' ≠ cu ∧ (∀ b o, b ≠ cu → (∀ ps, o ≠ .tbl ps) → H5 b = some o → b ≠ l') ∧ ButT cu H5 (upd H7 l (.lst [.ref a1])) := fun H7 a1 s7 ha l nl => by
            have sl := same_upd (o := .lst [.ref a1]) nl
            have bx := bt6.trans (.of (s7.trans sl))
            exact ⟨l, a1, rfl, b5.trans bx, ((hc5.ext x6).same s7).same sl, tabs_same t6 (s7.trans sl), dqs hd5 bx, du5.butT hc5 bx, upd_same, sl _ _ ha, (CupAt.ne ((hc5.ext x6).same s7) nl).symm, fun b o nb nt e => ne_of_none ((bt6.trans (.of s7)) b o nb nt e) nl, bx⟩
          have hd6 := dqv (dqs hd5 bt6)
          refine ⟨rfl, _, rfl, v, d, rfl, hd6, gd.x, fun r' hr' H7 z s7 hz => ?_, fun hn H7 dx s7 hdx => ?_⟩
          · obtain ⟨dz, fz, hiz⟩ := ins_of hz
            have rd := hr'
            obtain ⟨x, _, _, okr, l1r, l8r⟩ := rd
            refine ⟨z, dz, _, rfl, hiz, z, _, rfl, hz, fun q2 ws2 hq2 hw2 => ?_⟩
            have Sh := (tame_row okr l8r).shows (by decide) (by decide)
            refine ⟨.ref q2, _, rfl, .dp (.tup (SqT.of hq2) (dp_pcs hw2)) Sh.n, Sh.s, Sh.p, Sh.l, (by show 2 ≤ sizeLine; decide), fun a1 na => ⟨(by show 1 ≤ sizeLine; decide), fun l nl => ?_⟩⟩
            refine fin _ a1 (s7.trans (same_upd na)) ?_ l nl
            rw [dueR_some hr']
            exact upd_same
          · refine ⟨c 5, 5, [5, 20, 23], dx, v, d, rfl, EC5, rfl, hdx, hd6.same s7, gd.s, gd.p, gd.l, fun H8 a1 s8 ha => ⟨(by show 1 ≤ sizeLine; decide), fun l nl => ?_⟩⟩
            refine fin _ a1 (s7.trans s8) ?_ l nl
            rw [dueR_none hn]
            exact ha
        rintro σ4 H6 ⟨l, a1, rfl, b6, hc6, t6, hd6, du6, hl6, ha6, nlc, fr6, b56⟩
        -- told, by keyword
        refine ⟨fun σ' H' => ∃ a2, σ' = [some (.ref cu), some (.int (0 + i)), some (.str (rowTx r)), some (.int (0 + j)), some v, some u, some (.ref l), v7] ∧ ButT cu H H' ∧ CupAt cu H' ∧ LamX.Tabs TT H' ∧ Dq K H' v d ∧ DueAt H' d u ∧ H' l = some (.lst [.ref a1, .ref a2]) ∧ H' a1 = some (.lst (dueTx d (dueR d))) ∧ H' a2 = some (.lst (dueTx d (dueR d))), ?_, ?_⟩
        · refine ⟨_, rfl, .inl ⟨rfl, _, SqL.of hl6⟩, t6, fun H7 x7 t7 => ?_⟩
          have bt7 : ButT cu H6 H7 := .ext x7
          have hc7 := hc6.ext x7
          have hd7 := dqv (dqs hd6 bt7)
          have fin : ∀ (H8 : Hp) (a2 : Addr), Same H7 H8 → H8 a2 = some (.lst (dueTx d (dueR d))) → ∃ (l' : Addr) (xs : List V) (y : V), V.ref l = .ref l' ∧ [V.ref a2] = [y] ∧ H8 l' = some (.lst xs) ∧ xs.length < sizeLine ∧ (∃ a2', [some (V.ref cu), some (.int (0 + i)), some (.str (rowTx r)), some (.int (0 + j)), some v, some u, some (.ref l), v7] = [some (.ref cu), some (.int (0 + i)), some (.str (rowTx r)), some (.int (0 + j)), some v, some u, some (.ref l), v7] ∧ ButT cu H (upd H8 l' (.lst (xs ++ [y]))) ∧ CupAt cu (upd H8 l' (.lst (xs ++ [y]))) ∧ LamX.Tabs TT (upd H8 l' (.lst (xs ++ [y]))) ∧ Dq K (upd H8 l' (.lst (xs ++ [y]))) v d ∧ DueAt (upd H8 l' (.lst (xs ++ [y]))) d u ∧ (upd H8 l' (.lst (xs ++ [y]))) l = some (.lst [.ref a1, .ref a2']) ∧ (upd H8 l' (.lst (xs ++ [y]))) a1 = some (.lst (dueTx d (dueR d))) ∧ (upd H8 l' (.lst (xs ++ [y]))) a2' = some (.lst (dueTx d (dueR d)))) := fun H8 a2 s8 ha => by
            have bx := bt7.trans (.of s8)
            have hl8 := s8 _ _ (x7 _ _ hl6 (by intro ps z; cases z))
            have ha8 := s8 _ _ (x7 _ _ ha6 (by intro ps z; cases z))
            have dl : (dueTx d (dueR d)) ≠ [.ref a1] := by
              unfold dueTx
              split <;> intro z <;> cases z
            have n1 : a1 ≠ l := ne_of ha8 hl8 (fun z => dl (HO.lst.inj z))
            have n2 : a2 ≠ l := ne_of ha hl8 (fun z => dl (HO.lst.inj z))
            have sL : Same (hidS cu cu H5) (upd H8 l (.lst ([.ref a1] ++ [.ref a2]))) := fun b o e => by
              obtain ⟨nb, _, h, nt⟩ := hs_get e
              exact (upd_ne (fr6 b o nb nt h)).trans (bx b o nb nt (b56 b o nb nt h))
            refine ⟨l, [.ref a1], .ref a2, rfl, rfl, hl8, by show 1 < sizeLine; decide, a2, rfl, ?_, ?_, tabs_upd (tabs_same t7 s8) hl8, hd5.same sL, ?_, upd_same, (upd_ne n1).trans ha8, (upd_ne n2).trans ha⟩
            · exact fun b o nb nt e => (upd_ne (fr6 b o nb nt (b5 b o nb nt e))).trans (bx b o nb nt (b56 b o nb nt (b5 b o nb nt e)))
            · obtain ⟨p, q, hcc, z⟩ := hc7.same s8
              exact ⟨p, q, (upd_ne nlc.symm).trans hcc, z⟩
            · rcases du5 with ⟨r', q, ws, h1, e, h2, h3⟩ | h
              · have tu : ∀ {t : Addr} {xs : List V}, H5 t = some (.tup xs) → (upd H8 l (.lst ([.ref a1] ++ [.ref a2]))) t = some (.tup xs) := fun {t xs} h => by
                  have nc : t ≠ cu := by
                    obtain ⟨p, q, hcc, _⟩ := hc5
                    exact ne_of h hcc (by intro z; cases z)
                  exact sL _ _ (hs_of h nc nc (by intro ps z; cases z))
                exact .inl ⟨r', q, ws, h1, e, tu h2, h3.1, fun i p hp => let ⟨v, hv, t, e, ht⟩ := h3.2 i p hp; ⟨v, hv, t, e, tu ht⟩⟩
              · exact .inr h
          refine ⟨rfl, _, rfl, v, d, rfl, hd7, gd.x, fun r' hr' H8 z s8 hz => ?_, fun hn H8 dx s8 hdx => ?_⟩
          · obtain ⟨dz, fz, hiz⟩ := ins_of hz
            have rd := hr'
            obtain ⟨x, _, _, okr, l1r, l8r⟩ := rd
            refine ⟨z, dz, _, rfl, hiz, z, _, rfl, hz, fun q2 ws2 hq2 hw2 => ?_⟩
            have Sh := (tame_row okr l8r).shows (by decide) (by decide)
            refine ⟨.ref q2, _, rfl, .dp (.tup (SqT.of hq2) (dp_pcs hw2)) Sh.n, Sh.s, Sh.p, Sh.l, (by show 2 ≤ sizeLine; decide), fun a2 na => ?_⟩
            refine fin _ a2 (s8.trans (same_upd na)) ?_
            rw [dueR_some hr']
            exact upd_same
          · refine ⟨c 5, 5, [5, 20, 23], dx, v, d, rfl, EC5, rfl, hdx, hd7.same s8, gd.s, gd.p, gd.l, fun H9 a2 s9 ha => ?_⟩
            refine fin _ a2 (s8.trans s9) ?_
            rw [dueR_none hn]
            exact ha
        rintro σ5 H7 ⟨a2, rfl, b7, hc7, t7, hd7, du7, hl7, ha7, hb7⟩
        clear hc6 t6 hd6 du6 hl6 ha6 b6 fr6 b56 hc5 t5 hd5 du5 b5
        -- what is right
        refine ⟨fun σ' H' => ∃ q, σ' = [some (.ref cu), some (.int (0 + i)), some (.str (rowTx r)), some (.int (0 + j)), some v, some u, some (.ref l), some (.ref q)] ∧ ButT cu H H' ∧ CupAt cu H' ∧ LamX.Tabs TT H' ∧ Dq K H' v d ∧ DueAt H' d u ∧ H' l = some (.lst [.ref a1, .ref a2]) ∧ H' a1 = some (.lst (dueTx d (dueR d))) ∧ H' a2 = some (.lst (dueTx d (dueR d))) ∧ H' q = some (.lst (dueTx d (dueR d))), ?_, ?_⟩
        · rcases du7 with ⟨r', q, ws, h1, rfl, h2, h3⟩ | ⟨hn, rfl⟩
          · have rd := h1
            obtain ⟨x, _, _, okr, l1r, l8r⟩ := rd
            have Sh := (tame_row okr l8r).shows (by decide) (by decide)
            refine ⟨_, rfl, rfl, _, rfl, iteT ⟨_, rfl, _, _, rfl, .dp (.tup (SqT.of h2) (dp_pcs h3)) Sh.n, Sh.s, Sh.p, Sh.l, (by show 2 ≤ sizeLine; decide), fun p np => ?_⟩⟩
            have sp := same_upd (o := .lst [.str (Str.ofString "given"), .str (PyData.shown (.tuple (r'.map pcD)))]) np
            refine ⟨p, rfl, b7.trans (.of sp), hc7.same sp, tabs_same t7 sp, hd7.same sp, .inl ⟨r', q, ws, h1, rfl, sp _ _ h2, h3.same sp⟩, sp _ _ hl7, sp _ _ ha7, sp _ _ hb7, ?_⟩
            rw [dueR_some h1]
            exact upd_same
          · refine ⟨_, rfl, rfl, _, rfl, iteF ⟨_, rfl, v, d, rfl, hd7, gd.s, gd.p, gd.l, (by show 4 ≤ sizeLine; decide), fun p np => ?_⟩⟩
            have sp := same_upd (o := .lst [.int 5, .int 20, .int 23, .str d.shown]) np
            refine ⟨p, rfl, b7.trans (.of sp), hc7.same sp, tabs_same t7 sp, hd7.same sp, .inr ⟨hn, rfl⟩, sp _ _ hl7, sp _ _ ha7, sp _ _ hb7, ?_⟩
            rw [dueR_none hn]
            exact upd_same
        rintro σ6 H8 ⟨q, rfl, b8, hc8, t8, hd8, du8, hl8, ha8, hb8, hq8⟩
        clear b7 hc7 t7 hd7 du7 hl7 ha7 hb7
        -- it is told
        refine ⟨fun σ' H' => σ' = [some (.ref cu), some (.int (0 + i)), some (.str (rowTx r)), some (.int (0 + j)), some v, some u, some (.ref l), some (.ref q)] ∧ ButT cu H H' ∧ CupAt cu H' ∧ LamX.Tabs TT H' ∧ Dq K H' v d ∧ DueAt H' d u, ?_, ?_⟩
        · refine ⟨_, rfl, _, rfl, _, rfl, (by show 2 ≤ sizeLine; decide), fun p np => ?_⟩
          have sp := same_upd (o := .lst [.ref q, .ref q]) np
          have ew : ∃ D : PyData, D.canLay0 = true ∧ D.depth ≤ 10 ∧ PyData.eqv D D = true ∧ ∀ {HX : Hp} {a : Addr}, HX a = some (.lst (dueTx d (dueR d))) → Dp K HX (.ref a) D := by
            by_cases hr : ∃ r, RdD d r
            · obtain ⟨r', h1⟩ := hr
              have rd := h1
              obtain ⟨x, _, _, okr, l1r, l8r⟩ := rd
              have Sh := (tame_row okr l8r).shows (by decide) (by decide)
              have cg := cl_giv (ok_rowShown Sh.n)
              refine ⟨_, cg.1, cg.2, eqv_giv _, fun {HX a} h => ?_⟩
              rw [dueR_some h1] at h
              exact dp_giv h
            · have ce := cl_err gd.u
              refine ⟨_, ce.1, ce.2, eqv_err _, fun {HX a} h => ?_⟩
              rw [dueR_none hr] at h
              exact dp_err h
          obtain ⟨D, c1, c2, c3, c4⟩ := ew
          refine ⟨.list [D, D], .list [D, D], .lst (SqL.of (sp _ _ hl8)) (.cons (c4 (sp _ _ ha8)) (.cons (c4 (sp _ _ hb8)) .nil)), .lst (SqL.of upd_same) (.cons (c4 (sp _ _ hq8)) (.cons (c4 (sp _ _ hq8)) .nil)), sh_two c1 c2, sh_two c1 c2, _, rfl, ite2 (fun z => absurd z (ne_two c3)) (fun _ => ⟨rfl, b8.trans (.of sp), hc8.same sp, tabs_same t8 sp, hd8.same sp, du8.butT hc8 (.of sp)⟩)⟩
        rintro σ7 H9 ⟨rfl, b9, hc9, t9, hd9, du9⟩
        clear b8 hc8 t8 hd8 du8 hl8 ha8 hb8 hq8
        -- the text
        rcases du9 with ⟨r', q', ws, h1, rfl, h2, h3⟩ | ⟨hn, rfl⟩
        · obtain ⟨x, rfl, rfl, okr, l1r, l8r⟩ := h1
          cases dq_str hd9
          refine ⟨_, rfl, rfl, _, rfl, iteT ⟨rfl, _, rfl, r', rfl, okr, l1r, l8r, fun H10 z s10 nz hz => ?_⟩⟩
          obtain ⟨dz, fz, hiz⟩ := ins_of hz
          exact ⟨z, dz, fz, rfl, hiz, z, r', rfl, hz, okr, l8r, fun H11 s11 => ⟨_, rfl, _, rfl, rfl, _, rfl, ite2 (fun e => absurd e (neStr rfl)) (fun _ => ⟨⟨_, _, _, _, _, rfl⟩, b9.trans (.of (s10.trans s11)), hc9.same (s10.trans s11), tabs_same t9 (s10.trans s11)⟩)⟩⟩
        · exact ⟨_, rfl, rfl, _, rfl, iteF ⟨⟨_, _, _, _, _, rfl⟩, b9, hc9, t9⟩⟩
      · rintro σ H' ⟨⟨v3, v4, v5, v6, v7, rfl⟩, b3, hc3, t3⟩
        exact ⟨⟨_, _, _, _, _, _, _, rfl⟩, b3, hc3, t3⟩
    · rintro σ H' ⟨⟨v1, v2, v3, v4, v5, v6, v7, rfl⟩, b1, hc1, t1⟩
      exact k _ b1 t1
end
end RL

set_option maxHeartbeats 2000000
namespace RL
open PySem L2 PySem.Spec PyProof.Rows
def spLaw (K : PySem.W.Frag) (TT : List (Addr × Str)) : Sp := fun vs H Q _ => ∃ (a : Addr) (ns : List Int), vs = [.ref a] ∧ SqL K H a (ns.map V.int) ∧ ns.length ≤ 63 ∧ LamX.Tabs TT H ∧ ∀ H', Q (.bl true) H'
theorem seq_butT {K : PySem.W.Frag} {H H' : Hp} {D a : Addr} {xs : List V} (h : SqL K H a xs) (n : H D = none) (b : ButT D H H') : SqL K H' a xs := by
  rcases h with (h | ⟨o, h⟩) | h
  · exact .inl (.inl (b _ _ (ne_of_none h n) (by intro ps z; cases z) h))
  · exact .inl (.inr ⟨o, b _ _ (ne_of_none h n) (by intro ps z; cases z) h⟩)
  · exact .inr h
structure OwLn (P : Program) (w : World) (K : PySem.W.Frag) (mg : Str → Option Value) (base : Heap) (C g : Addr) (fd : FuncData) : Prop where
  at_ : PySem.W.findIn K (.ref C) "__len__" = some (some (.ref g))
  fn : PySem.W.isFn K (.ref g) = true
  ok : FnOk P w K mg base CX0 1 g fd ["self"] (spPLen C)
  b : Binds K fd ["self"] []
def w8 : List Pc := [(true, 1), (true, 1), (true, 1), (true, 1), (true, 1), (true, 1), (true, 1), (false, 12)]
def w9 : List Pc := (true, 2) :: w8
theorem ok9 : RowOk w9 := fun p hp => by
  simp only [w9, w8, List.mem_cons, List.not_mem_nil, or_false] at hp
  rcases hp with rfl | rfl | rfl | rfl | rfl | rfl | rfl | rfl | rfl <;> exact ⟨by decide, by decide⟩
theorem ok8 : RowOk w8 := fun p hp => ok9 p (List.mem_cons_of_mem _ hp)
theorem tx8 : repS (Str.ofString "rail 1, ") (Int.toNat 7) ++ Str.ofString "rung 12" = rowTx w8 := by decide +kernel
theorem tx9 : Str.ofString "rail 2, " ++ rowTx w8 = rowTx w9 := by decide +kernel
theorem no9 : ¬ ∃ r, RdD (.str (rowTx w9)) r := fun ⟨r, x, e, h⟩ => by
  cases e
  refine rd_long ?_ ⟨r, h⟩
  rw [parts_split ok9 (by decide)]
  decide
theorem good9 : GoodD (.str (rowTx w9)) := by
  have t : Tk 200 (rowTx w9) := ⟨by decide +kernel, fun c hc => Nat.lt_trans (rowTx_asc ok9 c hc) (by decide)⟩
  exact t.good (by decide)
section
variable {P : Program} {w : World} {K : PySem.W.Frag} {mg : Str → Option Value} {base : Heap} {tG t1 t2 t3 : Tok} {aO aW J C fP fJ : Addr} {fdJ : FuncData} {pR gR gl : Addr} {fdR fdL : FuncData} {c : Nat → Addr}
abbrev s_law : Stmt := top 61
theorem sc_law : FnScope ["_law_script", "_law_words_here", "_law_more", "_law_spot"] ["_law_script"] (defScope s_law) := ⟨rfl, rfl, rfl, by decide +kernel, rfl, by decide +kernel, by decide +kernel⟩

theorem ok_law {f cL PL : Addr} {fd : FuncData} {TT : List (Addr × Str)} (F : FunC K "law" "law" s_law f fd cL) (T : Txt3 K mg tG t1 t2 t3 aO aW J C) (OW : SmN P w K mg base C 7 "read" "text" (spReadN K C (c 5))) (OR : OwR P w K mg base C pR gR fdR) (OLn : OwLn P w K mg base C gl fdL)
    (CG : CgtD P w K mg base c 1 (rRp K)) (EC5 : EC K c (c 5) 5 [5, 20, 23]) (TBL : LamX.TabB base mg cL PL) (TML : (PL, ("law" : Str) ++ ".<locals>.<lambda>") ∈ TT) (TUL : ∀ p ∈ TT, p.1 = PL → p.2 = ("law" : Str) ++ ".<locals>.<lambda>")
    (D_law_cup : Df P w K mg base 1 "_law_cup" ["_law_script", "_law_spot"] (spCup K)) (D_law_right : DfG P w K mg base 12 "_law_right" ["_law_cup_here"] (spRight TT)) : FnG P w K mg base 13 f fd ["_law_script"] (spLaw K TT) := by
  refine okGC F sc_law (fun vs H Q E h => ?_) (fun A outer s H vs Q E hg hr h => ?_)
  · obtain ⟨a, ns, rfl, _⟩ := h
    rfl
  · obtain ⟨a, ns, rfl, hS, hlen, ht, k⟩ := h
    refine ⟨_, (C8.pss_cut (ps_set (i := 1) sc_law.nd rfl (.inl rfl) (pe_op op_add_str (pe_op op_strmul pe_str pe_int) pe_str))
      (C8.pss_cut (ps_set (i := 2) sc_law.nd rfl (.inr rfl) (pe_op op_add_str pe_str (pv 1)))
      (C8.pss_cut (ps_if (PW.pt (pw_or (pt_cmpR op_ne (pe_callB (call_lenOwn OLn.at_ OLn.fn OLn.ok OLn.b (hr.mono (by decide))) (by rfl) T.len PySem.boot_len (pa_cons (pe_smeth (pe_glob (v := .ref C) rfl T.mgC rfl) OR.rd OR.sm OR.ok OR.b (hr.mono (by decide)) (pa_cons (pv 1) pa_nil)) pa_nil)) pe_int (nomark _)) (pw_or1 (pt_cmpR (op_neD hr.units) (pe_cgt (k := 9) CG hg (by decide) (by decide) TBL rfl TML TUL (hr.mono (by decide)) rfl (fun A2 outer2 s2 H2 E2 f2 c2 hg2 hr2 => (pe_smethN (pe_glob (v := .ref C) rfl T.mgC rfl) OW (hr2.mono (by decide)) (passN lamN_takes fun _ _ _ _ h => h) (pa_cons (pv 2) pa_nil)))) (pe_lst (pa_cons pe_int (pa_cons pe_int (pa_cons pe_int (pa_cons (pe_callB (cr_rpK (K := K) hg hr.units) (by rfl) T.repr (by decide +kernel) (pa_cons (pv 2) pa_nil)) pa_nil))))) (nomark _))))) (pss_one (ps_ret pe_bl)) pss_nil)
      (pss_one (ps_ret (pe_callB (cr_all rfl) (by rfl) T.all (by decide +kernel) (pa_cons (pe_lc (own := [("_law_spot", 3)]) (g := gName 3) (tt := tYes) rfl sc_law.nd (pi_range1 rfl T.range (pa_cons (pe_callB (call_max2 rfl) (by rfl) T.max (by decide +kernel) (pa_cons pe_int (pa_cons (pe_callB (call_min2 rfl) (by rfl) T.min (by decide +kernel) (pa_cons (pe_callB call_len_seq (by rfl) T.len (by decide +kernel) (pa_cons (pv 0) pa_nil)) (pa_cons pe_int pa_nil))) pa_nil))) pa_nil)) (blkOk_by (N := ["_law_script", "_law_words_here", "_law_more", "_law_spot"]) (sc := defScope s_law) (by decide +kernel)) (fun _ _ _ _ _ => pg_name (i := 3) sc_law.nd rfl (Or.inl rfl)) (fun _ _ _ _ _ => pts_nil) (fun _ _ _ _ _ => (pe_dfG D_law_right hg (hr.mono (by decide)) (by rfl) (pa_cons (pe_df D_law_cup (hr.mono (by decide)) (by rfl) (pa_cons (pv 0) (pa_cons (pv 3) pa_nil))) pa_nil)))) pa_nil))))))), ?_⟩
    refine ⟨fun σ' H' => σ' = [some (.ref a), some (.str (rowTx w8)), none, none] ∧ H' = H, ?_, ?_⟩
    · refine ⟨_, _, rfl, rfl, by decide, by decide, by decide +kernel, by decide +kernel, by decide +kernel, _, _, rfl, rfl, by decide +kernel, ?_⟩
      rw [tx8]
      exact ⟨rfl, rfl⟩
    rintro σ1 H1 ⟨rfl, rfl⟩
    refine ⟨fun σ' H' => σ' = [some (.ref a), some (.str (rowTx w8)), some (.str (rowTx w9)), none] ∧ H' = H1, ?_, ?_⟩
    · refine ⟨_, rfl, _, _, rfl, rfl, by decide +kernel, ?_⟩
      rw [tx9]
      exact ⟨rfl, rfl⟩
    rintro σ1 H1' ⟨rfl, rfl⟩
    refine ⟨fun σ' H' => σ' = [some (.ref a), some (.str (rowTx w8)), some (.str (rowTx w9)), none] ∧ SqL K H' a (ns.map V.int) ∧ LamX.Tabs TT H', ?_, ?_⟩
    · refine ⟨rfl, _, rfl, w8, rfl, ok8, by decide, by decide, fun H2 z s2 nz hz => ?_⟩
      obtain ⟨dz, fz, hiz⟩ := ins_of hz
      refine ⟨z, dz, _, rfl, hiz, z, _, rfl, hz, 8, rfl, by decide, rfl, _, rfl, ite2 (fun e => absurd e (by decide +kernel)) (fun _ => ?_)⟩
      refine ⟨tabs_same ht s2, fun H3 x3 t3 => ?_⟩
      refine ⟨rfl, _, rfl, .str (rowTx w9), .str (rowTx w9), rfl, .dp (.str _) rfl, good9.x, fun r' hr' => absurd ⟨r', hr'⟩ no9, fun hn H4 dx s4 hdx => ?_⟩
      refine ⟨c 5, 5, [5, 20, 23], dx, .str (rowTx w9), .str (rowTx w9), rfl, EC5, rfl, hdx, .dp (.str _) rfl, good9.s, good9.p, good9.l, fun H5 q s5 hq => ?_⟩
      refine ⟨_, rfl, _, _, rfl, .dp (.str (rowTx w9)) rfl, good9.s, good9.p, good9.l, (by show 4 ≤ sizeLine; decide), fun p np => ?_⟩
      have sp := same_upd (o := .lst [.int 5, .int 20, .int 23, .str (PyData.shown (.str (rowTx w9)))]) np
      have sx := (s4.trans s5).trans sp
      have ce := cl_err good9.u
      refine ⟨errT _, errT _, dp_err (sp _ _ hq), dp_err upd_same, ?_, ?_, _, rfl, ite2 (fun z => absurd z ?_) (fun _ => ⟨rfl, sx.seq (sql_ext (s2.seq hS) x3), tabs_same t3 sx⟩)⟩
      · unfold SeqAt.shaped
        rw [ce.1, decide_eq_true (Nat.le_trans ce.2 (by decide))]
        rfl
      · unfold SeqAt.shaped
        rw [ce.1, decide_eq_true (Nat.le_trans ce.2 (by decide))]
        rfl
      · rw [eqv_err]
        decide
    rintro σ' H3 ⟨rfl, hSg, t3⟩
    refine ⟨_, rfl, a, _, rfl, .inl hSg, _, _, rfl, _, _, rfl, _, rfl, ?_, ?_, fun D hD => ?_⟩
    · split <;> split <;> omega
    · have : (List.map V.int ns).length = ns.length := List.length_map ..
      split <;> split <;> omega
    · refine lc_range (lo := 0) (fun i H' => ButT D _ H' ∧ LamX.Tabs TT H' ∧ H' D = some (.lst (List.replicate i (.bl true)))) ⟨.but But.upd, tabs_same t3 (same_upd hD), upd_same⟩ ?_ ?_
      · rintro i H1' hi ⟨bD, tD, hDi⟩
        have hi63 : i ≤ 100 := by
          have : (List.map V.int ns).length = ns.length := List.length_map ..
          split at hi <;> split at hi <;> omega
        refine ⟨rfl, ?_⟩
        unfold tYes
        refine iteT ?_
        refine ⟨_, rfl, _, rfl, a, ns, i, ?_, seq_butT hSg hD bD, hi63, hlen, fun H2' c sc nc hc => ?_⟩
        · show [V.ref a, V.int (0 + (i : Int))] = _
          rw [Int.zero_add]
        refine ⟨c, rfl, hc, tabs_same tD sc, fun H3' b3 t3' => ?_⟩
        have nDc : D ≠ c := ne_of_none hDi nc
        have hD3 := b3 D _ nDc (by intro ps z; cases z) (sc _ _ hDi)
        refine ⟨_, hD3, ?_, ?_, tabs_upd t3' hD3, ?_⟩
        · rw [List.length_replicate]
          exact small1000 (by omega)
        · intro y o ny nt e
          rw [upd_ne ny]
          have hy1 := bD _ _ ny nt e
          exact b3 _ _ (ne_of_none hy1 nc) nt (sc _ _ hy1)
        · rw [upd_same, List.replicate_succ']
      · rintro H1' ⟨bD, _, hDn⟩
        refine ⟨D, List.replicate _ true, rfl, SqL.of (by rw [List.map_replicate]; exact hDn), ?_⟩
        have ea : ∀ n : Nat, (List.replicate n true).all id = true := fun n => by
          rw [List.all_eq_true]
          intro z hz
          rw [List.eq_of_mem_replicate hz]
          rfl
        rw [ea]
        exact k _
end
end RL

namespace RL
open PySem L2
set_option maxHeartbeats 4000000 in
theorem all_mk {l : PySem.W.OpenLaw} {w : World} {K : PySem.W.Frag} {h : Heap} {mg : Str → Option Value} (X : K.In h) (G : h.Ns mainGlobals mg) {fa aO aW J C f_JoinedRow_init f_Pattern_init f_Pattern_call f_Pattern_add f_Pattern_numbers pr_Pattern_numbers f_Pattern_read pr_Pattern_read f_is_integer f_is_integer_within f_is_pair_of_integers f_is_resistance f_pair_of f_common_divisor f_lowest_terms f_lowest_pair f_is_piece f_checked_row f_matrix_and_scale f_shown_before f_piece_text f_piece_with_text f_law_cup f_law_sip f_law_pick X0 X1 X2 X3 X4 X5 X6 X7 X8 X9 X10 X11 X12 X13 X14 X15 X16 X17 X18 X19 X20 X21 f_WrongValue_init f_InvalidText_init f_law_classes f_law_caught f_row_text f_Pattern_str f_Pattern_len f_Pattern_pieces pr_Pattern_pieces f_law_row f_law_words f_law_piece f_law_due f_law_bent f_law_right cA_law_right PA_law_right f_law cA_law PA_law : Addr}
    {od_JoinedRow_init an_JoinedRow_init od_Pattern_init an_Pattern_init od_Pattern_call an_Pattern_call od_Pattern_add an_Pattern_add od_Pattern_numbers an_Pattern_numbers od_Pattern_read an_Pattern_read od_is_integer an_is_integer od_is_integer_within an_is_integer_within od_is_pair_of_integers an_is_pair_of_integers od_is_resistance an_is_resistance od_pair_of an_pair_of od_common_divisor an_common_divisor od_lowest_terms an_lowest_terms od_lowest_pair an_lowest_pair od_is_piece an_is_piece od_checked_row an_checked_row od_matrix_and_scale an_matrix_and_scale od_shown_before an_shown_before od_piece_text an_piece_text od_piece_with_text an_piece_with_text od_law_cup an_law_cup od_law_sip an_law_sip od_law_pick an_law_pick od_WrongValue_init an_WrongValue_init od_InvalidText_init an_InvalidText_init od_law_classes an_law_classes od_law_caught an_law_caught od_row_text an_row_text od_Pattern_str an_Pattern_str od_Pattern_len an_Pattern_len od_Pattern_pieces an_Pattern_pieces od_law_row an_law_row od_law_words an_law_words od_law_piece an_law_piece od_law_due an_law_due od_law_bent an_law_bent od_law_right an_law_right od_law an_law : Option Addr} {sl_JoinedRow_init sl_Pattern_init sl_Pattern_call sl_Pattern_add sl_Pattern_numbers sl_Pattern_read sl_is_integer sl_is_integer_within sl_is_pair_of_integers sl_is_resistance sl_pair_of sl_common_divisor sl_lowest_terms sl_lowest_pair sl_is_piece sl_checked_row sl_matrix_and_scale sl_shown_before sl_piece_text sl_piece_with_text sl_law_cup sl_law_sip sl_law_pick sl_WrongValue_init sl_InvalidText_init sl_law_classes sl_law_caught sl_row_text sl_Pattern_str sl_Pattern_len sl_Pattern_pieces sl_law_row sl_law_words sl_law_piece sl_law_due sl_law_bent sl_law_right sl_law : Array (Option Value)}
    {oc_JoinedRow_init kV_JoinedRow_init dc_JoinedRow_init pm_JoinedRow_init cd_JoinedRow_init ct_JoinedRow_init oc_Pattern_init kV_Pattern_init dc_Pattern_init pm_Pattern_init cd_Pattern_init ct_Pattern_init oc_Pattern_call kV_Pattern_call dc_Pattern_call pm_Pattern_call cd_Pattern_call ct_Pattern_call oc_Pattern_add kV_Pattern_add dc_Pattern_add pm_Pattern_add cd_Pattern_add ct_Pattern_add oc_Pattern_numbers kV_Pattern_numbers dc_Pattern_numbers pm_Pattern_numbers cd_Pattern_numbers ct_Pattern_numbers oc_Pattern_read kV_Pattern_read dc_Pattern_read pm_Pattern_read cd_Pattern_read ct_Pattern_read oc_is_integer kV_is_integer dc_is_integer pm_is_integer cd_is_integer ct_is_integer oc_is_integer_within kV_is_integer_within dc_is_integer_within pm_is_integer_within cd_is_integer_within ct_is_integer_within oc_is_pair_of_integers kV_is_pair_of_integers dc_is_pair_of_integers pm_is_pair_of_integers cd_is_pair_of_integers ct_is_pair_of_integers oc_is_resistance kV_is_resistance dc_is_resistance pm_is_resistance cd_is_resistance ct_is_resistance oc_pair_of kV_pair_of dc_pair_of pm_pair_of cd_pair_of ct_pair_of oc_common_divisor kV_common_divisor dc_common_divisor pm_common_divisor cd_common_divisor ct_common_divisor oc_lowest_terms kV_lowest_terms dc_lowest_terms pm_lowest_terms cd_lowest_terms ct_lowest_terms oc_lowest_pair kV_lowest_pair dc_lowest_pair pm_lowest_pair cd_lowest_pair ct_lowest_pair oc_is_piece kV_is_piece dc_is_piece pm_is_piece cd_is_piece ct_is_piece oc_checked_row kV_checked_row dc_checked_row pm_checked_row cd_checked_row ct_checked_row oc_matrix_and_scale kV_matrix_and_scale dc_matrix_and_scale pm_matrix_and_scale cd_matrix_and_scale ct_matrix_and_scale oc_shown_before kV_shown_before dc_shown_before pm_shown_before cd_shown_before ct_shown_before oc_piece_text kV_piece_text dc_piece_text pm_piece_text cd_piece_text ct_piece_text oc_piece_with_text kV_piece_with_text dc_piece_with_text pm_piece_with_text cd_piece_with_text ct_piece_with_text oc_law_cup kV_law_cup dc_law_cup pm_law_cup cd_law_cup ct_law_cup oc_law_sip kV_law_sip dc_law_sip pm_law_sip cd_law_sip ct_law_sip oc_law_pick kV_law_pick dc_law_pick pm_law_pick cd_law_pick ct_law_pick oc_WrongValue_init kV_WrongValue_init dc_WrongValue_init pm_WrongValue_init cd_WrongValue_init ct_WrongValue_init oc_InvalidText_init kV_InvalidText_init dc_InvalidText_init pm_InvalidText_init cd_InvalidText_init ct_InvalidText_init oc_law_classes kV_law_classes dc_law_classes pm_law_classes cd_law_classes ct_law_classes oc_law_caught kV_law_caught dc_law_caught pm_law_caught cd_law_caught ct_law_caught oc_row_text kV_row_text dc_row_text pm_row_text cd_row_text ct_row_text oc_Pattern_str kV_Pattern_str dc_Pattern_str pm_Pattern_str cd_Pattern_str ct_Pattern_str oc_Pattern_len kV_Pattern_len dc_Pattern_len pm_Pattern_len cd_Pattern_len ct_Pattern_len oc_Pattern_pieces kV_Pattern_pieces dc_Pattern_pieces pm_Pattern_pieces cd_Pattern_pieces ct_Pattern_pieces oc_law_row kV_law_row dc_law_row pm_law_row cd_law_row ct_law_row oc_law_words kV_law_words dc_law_words pm_law_words cd_law_words ct_law_words oc_law_piece kV_law_piece dc_law_piece pm_law_piece cd_law_piece ct_law_piece oc_law_due kV_law_due dc_law_due pm_law_due cd_law_due ct_law_due oc_law_bent kV_law_bent dc_law_bent pm_law_bent cd_law_bent ct_law_bent oc_law_right kV_law_right dc_law_right pm_law_right cd_law_right ct_law_right oc_law kV_law dc_law pm_law cd_law ct_law : Value} {tG : Tok} {t1 : Tok} {t2 : Tok} {t3 : Tok} {aO_k0 aO_k1 : Tok} {od_aO : Option Addr} {nn_aO : Nat} {sl_aO : Array (Option Value)} {aW_k0 aW_k1 : Tok} {od_aW : Option Addr} {nn_aW : Nat} {sl_aW : Array (Option Value)} {rest_Pattern_numbers : List Value} {rest_Pattern_read : List Value} {rest_Pattern_pieces : List Value} {dC_law_right : Option Addr} {vC_law_right : Array Value} {sC_law_right : Array (Option Value)} {dC_law : Option Addr} {vC_law : Array Value} {sC_law : Array (Option Value)} (hfa : mg "law" = some (.ref fa))
    (aG : PySem.W.nsIn K mainGlobals "GREATEST" = some (some (.int 1000000000000 tG)))
    (aOh : PySem.W.nsIn K mainGlobals "MOST_OHMS" = some (some (.int 12 t1)))
    (aPi : PySem.W.nsIn K mainGlobals "MOST_PIECES" = some (some (.int 4 t2)))
    (aJo : PySem.W.nsIn K mainGlobals "MOST_JOINED" = some (some (.int 8 t3)))
    (aOp : PySem.W.nsIn K mainGlobals "OPEN" = some (some (.ref aO)))
    (laOp : K.lookup aO = some ⟨.type "tuple", od_aO, .seq #[.int 1 aO_k0, .int 0 aO_k1] nn_aO, sl_aO⟩)
    (aWo : PySem.W.nsIn K mainGlobals "WORDS" = some (some (.ref aW)))
    (laWo : K.lookup aW = some ⟨.type "tuple", od_aW, .seq #[.str (Str.ofString "rail") aW_k0, .str (Str.ofString "rung") aW_k1] nn_aW, sl_aW⟩)
    (aJ : PySem.W.nsIn K mainGlobals "JoinedRow" = some (some (.ref J)))
    (pgJ : PySem.W.plainGet K J Str.empty = true)
    (hdJ : PySem.W.hasDictIn K J = true)
    (poJ : PySem.W.plainOver K J = true)
    (saJ : PySem.W.findIn K (.ref J) "__setattr__" = some (some (.builtin "object.__setattr__")))
    (mkJ : PySem.W.makesIn K J = true)
    (kcJ : PySem.W.keepIn K (.ref J) = true)
    (nJ_row : PySem.W.findIn K (.ref J) "row" = some none)
    (caJ : PySem.W.findIn K (.ref J) "__class__" = some (some (.builtin "object.__class__")))
    (cmJ : PySem.W.mroIn K J (.type "object") = some true)
    (cn : PySem.W.specialIn K (.builtin "object.__class__") "__get__" = some (some (.builtin "getset_descriptor.__get__")))
    (ct : PySem.W.takesIn K (.builtin "object.__class__") = some true)
    (aC : PySem.W.nsIn K mainGlobals "Pattern" = some (some (.ref C)))
    (pgC : PySem.W.plainGet K C Str.empty = true)
    (hdC : PySem.W.hasDictIn K C = true)
    (poC : PySem.W.plainOver K C = true)
    (saC : PySem.W.findIn K (.ref C) "__setattr__" = some (some (.builtin "object.__setattr__")))
    (mkC : PySem.W.makesIn K C = true)
    (kcC : PySem.W.keepIn K (.ref C) = true)
    (nC_row : PySem.W.findIn K (.ref C) "row" = some none)
    (nC_matrix : PySem.W.findIn K (.ref C) "matrix" = some none)
    (nC_scale : PySem.W.findIn K (.ref C) "scale" = some none)
    (nC_four : PySem.W.findIn K (.ref C) "four" = some none)
    (kt_J : PySem.W.kitOne K (.type "tuple") (.ref J) = some false)
    (sfC : PySem.W.selfFirst K C = true)
    (rdC : PySem.W.readsIn K C (.type "type") = true)
    (gaC : PySem.W.specialIn K (.ref C) "__getattribute__" = some (some (.builtin "type.__getattribute__")))
    (a_JoinedRow_init : PySem.W.findIn K (.ref J) "__init__" = some (some (.ref f_JoinedRow_init)))
    (i_JoinedRow_init : PySem.W.isFn K (.ref f_JoinedRow_init) = true)
    (l_JoinedRow_init : K.lookup f_JoinedRow_init = some ⟨oc_JoinedRow_init, od_JoinedRow_init, .func (PySem.W.fnOf "__init__" "JoinedRow.__init__" (defArgs s_JoinedRow_init) (defBody s_JoinedRow_init) (defScope s_JoinedRow_init) .none kV_JoinedRow_init dc_JoinedRow_init pm_JoinedRow_init an_JoinedRow_init cd_JoinedRow_init ct_JoinedRow_init), sl_JoinedRow_init⟩)
    (c_JoinedRow_init : PySem.W.codeIn K cd_JoinedRow_init "JoinedRow.__init__" = true)
    (k_JoinedRow_init : PySem.W.keepIn K (.ref f_JoinedRow_init) = true)
    (a_Pattern_init : PySem.W.findIn K (.ref C) "__init__" = some (some (.ref f_Pattern_init)))
    (i_Pattern_init : PySem.W.isFn K (.ref f_Pattern_init) = true)
    (l_Pattern_init : K.lookup f_Pattern_init = some ⟨oc_Pattern_init, od_Pattern_init, .func (PySem.W.fnOf "__init__" "Pattern.__init__" (defArgs s_Pattern_init) (defBody s_Pattern_init) (defScope s_Pattern_init) .none kV_Pattern_init dc_Pattern_init pm_Pattern_init an_Pattern_init cd_Pattern_init ct_Pattern_init), sl_Pattern_init⟩)
    (c_Pattern_init : PySem.W.codeIn K cd_Pattern_init "Pattern.__init__" = true)
    (k_Pattern_init : PySem.W.keepIn K (.ref f_Pattern_init) = true)
    (a_Pattern_call : PySem.W.findIn K (.ref C) "__call__" = some (some (.ref f_Pattern_call)))
    (i_Pattern_call : PySem.W.isFn K (.ref f_Pattern_call) = true)
    (l_Pattern_call : K.lookup f_Pattern_call = some ⟨oc_Pattern_call, od_Pattern_call, .func (PySem.W.fnOf "__call__" "Pattern.__call__" (defArgs s_Pattern_call) (defBody s_Pattern_call) (defScope s_Pattern_call) .none kV_Pattern_call dc_Pattern_call pm_Pattern_call an_Pattern_call cd_Pattern_call ct_Pattern_call), sl_Pattern_call⟩)
    (c_Pattern_call : PySem.W.codeIn K cd_Pattern_call "Pattern.__call__" = true)
    (k_Pattern_call : PySem.W.keepIn K (.ref f_Pattern_call) = true)
    (fi_call : PySem.W.fnIn K f_Pattern_call = true)
    (a_Pattern_add : PySem.W.findIn K (.ref C) "__add__" = some (some (.ref f_Pattern_add)))
    (i_Pattern_add : PySem.W.isFn K (.ref f_Pattern_add) = true)
    (l_Pattern_add : K.lookup f_Pattern_add = some ⟨oc_Pattern_add, od_Pattern_add, .func (PySem.W.fnOf "__add__" "Pattern.__add__" (defArgs s_Pattern_add) (defBody s_Pattern_add) (defScope s_Pattern_add) .none kV_Pattern_add dc_Pattern_add pm_Pattern_add an_Pattern_add cd_Pattern_add ct_Pattern_add), sl_Pattern_add⟩)
    (c_Pattern_add : PySem.W.codeIn K cd_Pattern_add "Pattern.__add__" = true)
    (k_Pattern_add : PySem.W.keepIn K (.ref f_Pattern_add) = true)
    (pa_Pattern_numbers : PySem.W.findIn K (.ref C) "numbers" = some (some (.ref pr_Pattern_numbers)))
    (pg_Pattern_numbers : PySem.W.specialIn K (.ref pr_Pattern_numbers) "__get__" = some (some (.builtin "property.__get__")))
    (pt_Pattern_numbers : PySem.W.takesIn K (.ref pr_Pattern_numbers) = some true)
    (pc_Pattern_numbers : PySem.W.recIn K pr_Pattern_numbers "property" = some (.ref f_Pattern_numbers :: rest_Pattern_numbers))
    (l_Pattern_numbers : K.lookup f_Pattern_numbers = some ⟨oc_Pattern_numbers, od_Pattern_numbers, .func (PySem.W.fnOf "numbers" "Pattern.numbers" (defArgs s_Pattern_numbers) (defBody s_Pattern_numbers) (defScope s_Pattern_numbers) .none kV_Pattern_numbers dc_Pattern_numbers pm_Pattern_numbers an_Pattern_numbers cd_Pattern_numbers ct_Pattern_numbers), sl_Pattern_numbers⟩)
    (c_Pattern_numbers : PySem.W.codeIn K cd_Pattern_numbers "Pattern.numbers" = true)
    (k_Pattern_numbers : PySem.W.keepIn K (.ref f_Pattern_numbers) = true)
    (sa_Pattern_read : PySem.W.findCls K (.ref C) (.type "type") "read" = some (.get (.builtin "staticmethod.__get__") (.ref pr_Pattern_read) .none (.ref C)))
    (sc_Pattern_read : PySem.W.recIn K pr_Pattern_read "staticmethod" = some (.ref f_Pattern_read :: rest_Pattern_read))
    (l_Pattern_read : K.lookup f_Pattern_read = some ⟨oc_Pattern_read, od_Pattern_read, .func (PySem.W.fnOf "read" "Pattern.read" (defArgs s_Pattern_read) (defBody s_Pattern_read) (defScope s_Pattern_read) .none kV_Pattern_read dc_Pattern_read pm_Pattern_read an_Pattern_read cd_Pattern_read ct_Pattern_read), sl_Pattern_read⟩)
    (c_Pattern_read : PySem.W.codeIn K cd_Pattern_read "Pattern.read" = true)
    (k_Pattern_read : PySem.W.keepIn K (.ref f_Pattern_read) = true)
    (z_len : PySem.W.nsIn K mainGlobals "len" = some none)
    (z_abs : PySem.W.nsIn K mainGlobals "abs" = some none)
    (z_int : PySem.W.nsIn K mainGlobals "int" = some none)
    (z_bool : PySem.W.nsIn K mainGlobals "bool" = some none)
    (z_tuple : PySem.W.nsIn K mainGlobals "tuple" = some none)
    (z_isinstance : PySem.W.nsIn K mainGlobals "isinstance" = some none)
    (z_divmod : PySem.W.nsIn K mainGlobals "divmod" = some none)
    (z_max : PySem.W.nsIn K mainGlobals "max" = some none)
    (z_min : PySem.W.nsIn K mainGlobals "min" = some none)
    (z_range : PySem.W.nsIn K mainGlobals "range" = some none)
    (z_all : PySem.W.nsIn K mainGlobals "all" = some none)
    (z_repr : PySem.W.nsIn K mainGlobals "repr" = some none)
    (z_str : PySem.W.nsIn K mainGlobals "str" = some none)
    (z_enumerate : PySem.W.nsIn K mainGlobals "enumerate" = some none)
    (a_is_integer : PySem.W.nsIn K mainGlobals "is_integer" = some (some (.ref f_is_integer)))
    (l_is_integer : K.lookup f_is_integer = some ⟨oc_is_integer, od_is_integer, .func (PySem.W.fnOf "is_integer" "is_integer" (defArgs s_is_integer) (defBody s_is_integer) (defScope s_is_integer) .none kV_is_integer dc_is_integer pm_is_integer an_is_integer cd_is_integer ct_is_integer), sl_is_integer⟩)
    (c_is_integer : PySem.W.codeIn K cd_is_integer "is_integer" = true)
    (k_is_integer : PySem.W.keepIn K (.ref f_is_integer) = true)
    (a_is_integer_within : PySem.W.nsIn K mainGlobals "is_integer_within" = some (some (.ref f_is_integer_within)))
    (l_is_integer_within : K.lookup f_is_integer_within = some ⟨oc_is_integer_within, od_is_integer_within, .func (PySem.W.fnOf "is_integer_within" "is_integer_within" (defArgs s_is_integer_within) (defBody s_is_integer_within) (defScope s_is_integer_within) .none kV_is_integer_within dc_is_integer_within pm_is_integer_within an_is_integer_within cd_is_integer_within ct_is_integer_within), sl_is_integer_within⟩)
    (c_is_integer_within : PySem.W.codeIn K cd_is_integer_within "is_integer_within" = true)
    (k_is_integer_within : PySem.W.keepIn K (.ref f_is_integer_within) = true)
    (a_is_pair_of_integers : PySem.W.nsIn K mainGlobals "is_pair_of_integers" = some (some (.ref f_is_pair_of_integers)))
    (l_is_pair_of_integers : K.lookup f_is_pair_of_integers = some ⟨oc_is_pair_of_integers, od_is_pair_of_integers, .func (PySem.W.fnOf "is_pair_of_integers" "is_pair_of_integers" (defArgs s_is_pair_of_integers) (defBody s_is_pair_of_integers) (defScope s_is_pair_of_integers) .none kV_is_pair_of_integers dc_is_pair_of_integers pm_is_pair_of_integers an_is_pair_of_integers cd_is_pair_of_integers ct_is_pair_of_integers), sl_is_pair_of_integers⟩)
    (c_is_pair_of_integers : PySem.W.codeIn K cd_is_pair_of_integers "is_pair_of_integers" = true)
    (k_is_pair_of_integers : PySem.W.keepIn K (.ref f_is_pair_of_integers) = true)
    (a_is_resistance : PySem.W.nsIn K mainGlobals "is_resistance" = some (some (.ref f_is_resistance)))
    (l_is_resistance : K.lookup f_is_resistance = some ⟨oc_is_resistance, od_is_resistance, .func (PySem.W.fnOf "is_resistance" "is_resistance" (defArgs s_is_resistance) (defBody s_is_resistance) (defScope s_is_resistance) .none kV_is_resistance dc_is_resistance pm_is_resistance an_is_resistance cd_is_resistance ct_is_resistance), sl_is_resistance⟩)
    (c_is_resistance : PySem.W.codeIn K cd_is_resistance "is_resistance" = true)
    (k_is_resistance : PySem.W.keepIn K (.ref f_is_resistance) = true)
    (a_pair_of : PySem.W.nsIn K mainGlobals "pair_of" = some (some (.ref f_pair_of)))
    (l_pair_of : K.lookup f_pair_of = some ⟨oc_pair_of, od_pair_of, .func (PySem.W.fnOf "pair_of" "pair_of" (defArgs s_pair_of) (defBody s_pair_of) (defScope s_pair_of) .none kV_pair_of dc_pair_of pm_pair_of an_pair_of cd_pair_of ct_pair_of), sl_pair_of⟩)
    (c_pair_of : PySem.W.codeIn K cd_pair_of "pair_of" = true)
    (k_pair_of : PySem.W.keepIn K (.ref f_pair_of) = true)
    (a_common_divisor : PySem.W.nsIn K mainGlobals "common_divisor" = some (some (.ref f_common_divisor)))
    (l_common_divisor : K.lookup f_common_divisor = some ⟨oc_common_divisor, od_common_divisor, .func (PySem.W.fnOf "common_divisor" "common_divisor" (defArgs s_common_divisor) (defBody s_common_divisor) (defScope s_common_divisor) .none kV_common_divisor dc_common_divisor pm_common_divisor an_common_divisor cd_common_divisor ct_common_divisor), sl_common_divisor⟩)
    (c_common_divisor : PySem.W.codeIn K cd_common_divisor "common_divisor" = true)
    (k_common_divisor : PySem.W.keepIn K (.ref f_common_divisor) = true)
    (a_lowest_terms : PySem.W.nsIn K mainGlobals "lowest_terms" = some (some (.ref f_lowest_terms)))
    (l_lowest_terms : K.lookup f_lowest_terms = some ⟨oc_lowest_terms, od_lowest_terms, .func (PySem.W.fnOf "lowest_terms" "lowest_terms" (defArgs s_lowest_terms) (defBody s_lowest_terms) (defScope s_lowest_terms) .none kV_lowest_terms dc_lowest_terms pm_lowest_terms an_lowest_terms cd_lowest_terms ct_lowest_terms), sl_lowest_terms⟩)
    (c_lowest_terms : PySem.W.codeIn K cd_lowest_terms "lowest_terms" = true)
    (k_lowest_terms : PySem.W.keepIn K (.ref f_lowest_terms) = true)
    (a_lowest_pair : PySem.W.nsIn K mainGlobals "lowest_pair" = some (some (.ref f_lowest_pair)))
    (l_lowest_pair : K.lookup f_lowest_pair = some ⟨oc_lowest_pair, od_lowest_pair, .func (PySem.W.fnOf "lowest_pair" "lowest_pair" (defArgs s_lowest_pair) (defBody s_lowest_pair) (defScope s_lowest_pair) .none kV_lowest_pair dc_lowest_pair pm_lowest_pair an_lowest_pair cd_lowest_pair ct_lowest_pair), sl_lowest_pair⟩)
    (c_lowest_pair : PySem.W.codeIn K cd_lowest_pair "lowest_pair" = true)
    (k_lowest_pair : PySem.W.keepIn K (.ref f_lowest_pair) = true)
    (a_is_piece : PySem.W.nsIn K mainGlobals "is_piece" = some (some (.ref f_is_piece)))
    (l_is_piece : K.lookup f_is_piece = some ⟨oc_is_piece, od_is_piece, .func (PySem.W.fnOf "is_piece" "is_piece" (defArgs s_is_piece) (defBody s_is_piece) (defScope s_is_piece) .none kV_is_piece dc_is_piece pm_is_piece an_is_piece cd_is_piece ct_is_piece), sl_is_piece⟩)
    (c_is_piece : PySem.W.codeIn K cd_is_piece "is_piece" = true)
    (k_is_piece : PySem.W.keepIn K (.ref f_is_piece) = true)
    (a_checked_row : PySem.W.nsIn K mainGlobals "checked_row" = some (some (.ref f_checked_row)))
    (l_checked_row : K.lookup f_checked_row = some ⟨oc_checked_row, od_checked_row, .func (PySem.W.fnOf "checked_row" "checked_row" (defArgs s_checked_row) (defBody s_checked_row) (defScope s_checked_row) .none kV_checked_row dc_checked_row pm_checked_row an_checked_row cd_checked_row ct_checked_row), sl_checked_row⟩)
    (c_checked_row : PySem.W.codeIn K cd_checked_row "checked_row" = true)
    (k_checked_row : PySem.W.keepIn K (.ref f_checked_row) = true)
    (a_matrix_and_scale : PySem.W.nsIn K mainGlobals "matrix_and_scale" = some (some (.ref f_matrix_and_scale)))
    (l_matrix_and_scale : K.lookup f_matrix_and_scale = some ⟨oc_matrix_and_scale, od_matrix_and_scale, .func (PySem.W.fnOf "matrix_and_scale" "matrix_and_scale" (defArgs s_matrix_and_scale) (defBody s_matrix_and_scale) (defScope s_matrix_and_scale) .none kV_matrix_and_scale dc_matrix_and_scale pm_matrix_and_scale an_matrix_and_scale cd_matrix_and_scale ct_matrix_and_scale), sl_matrix_and_scale⟩)
    (c_matrix_and_scale : PySem.W.codeIn K cd_matrix_and_scale "matrix_and_scale" = true)
    (k_matrix_and_scale : PySem.W.keepIn K (.ref f_matrix_and_scale) = true)
    (a_shown_before : PySem.W.nsIn K mainGlobals "shown_before" = some (some (.ref f_shown_before)))
    (l_shown_before : K.lookup f_shown_before = some ⟨oc_shown_before, od_shown_before, .func (PySem.W.fnOf "shown_before" "shown_before" (defArgs s_shown_before) (defBody s_shown_before) (defScope s_shown_before) .none kV_shown_before dc_shown_before pm_shown_before an_shown_before cd_shown_before ct_shown_before), sl_shown_before⟩)
    (c_shown_before : PySem.W.codeIn K cd_shown_before "shown_before" = true)
    (k_shown_before : PySem.W.keepIn K (.ref f_shown_before) = true)
    (a_piece_text : PySem.W.nsIn K mainGlobals "piece_text" = some (some (.ref f_piece_text)))
    (l_piece_text : K.lookup f_piece_text = some ⟨oc_piece_text, od_piece_text, .func (PySem.W.fnOf "piece_text" "piece_text" (defArgs s_piece_text) (defBody s_piece_text) (defScope s_piece_text) .none kV_piece_text dc_piece_text pm_piece_text an_piece_text cd_piece_text ct_piece_text), sl_piece_text⟩)
    (c_piece_text : PySem.W.codeIn K cd_piece_text "piece_text" = true)
    (k_piece_text : PySem.W.keepIn K (.ref f_piece_text) = true)
    (a_piece_with_text : PySem.W.nsIn K mainGlobals "piece_with_text" = some (some (.ref f_piece_with_text)))
    (l_piece_with_text : K.lookup f_piece_with_text = some ⟨oc_piece_with_text, od_piece_with_text, .func (PySem.W.fnOf "piece_with_text" "piece_with_text" (defArgs s_piece_with_text) (defBody s_piece_with_text) (defScope s_piece_with_text) .none kV_piece_with_text dc_piece_with_text pm_piece_with_text an_piece_with_text cd_piece_with_text ct_piece_with_text), sl_piece_with_text⟩)
    (c_piece_with_text : PySem.W.codeIn K cd_piece_with_text "piece_with_text" = true)
    (k_piece_with_text : PySem.W.keepIn K (.ref f_piece_with_text) = true)
    (a_law_cup : PySem.W.nsIn K mainGlobals "_law_cup" = some (some (.ref f_law_cup)))
    (l_law_cup : K.lookup f_law_cup = some ⟨oc_law_cup, od_law_cup, .func (PySem.W.fnOf "_law_cup" "_law_cup" (defArgs s_law_cup) (defBody s_law_cup) (defScope s_law_cup) .none kV_law_cup dc_law_cup pm_law_cup an_law_cup cd_law_cup ct_law_cup), sl_law_cup⟩)
    (c_law_cup : PySem.W.codeIn K cd_law_cup "_law_cup" = true)
    (k_law_cup : PySem.W.keepIn K (.ref f_law_cup) = true)
    (a_law_sip : PySem.W.nsIn K mainGlobals "_law_sip" = some (some (.ref f_law_sip)))
    (l_law_sip : K.lookup f_law_sip = some ⟨oc_law_sip, od_law_sip, .func (PySem.W.fnOf "_law_sip" "_law_sip" (defArgs s_law_sip) (defBody s_law_sip) (defScope s_law_sip) .none kV_law_sip dc_law_sip pm_law_sip an_law_sip cd_law_sip ct_law_sip), sl_law_sip⟩)
    (c_law_sip : PySem.W.codeIn K cd_law_sip "_law_sip" = true)
    (k_law_sip : PySem.W.keepIn K (.ref f_law_sip) = true)
    (a_law_pick : PySem.W.nsIn K mainGlobals "_law_pick" = some (some (.ref f_law_pick)))
    (l_law_pick : K.lookup f_law_pick = some ⟨oc_law_pick, od_law_pick, .func (PySem.W.fnOf "_law_pick" "_law_pick" (defArgs s_law_pick) (defBody s_law_pick) (defScope s_law_pick) .none kV_law_pick dc_law_pick pm_law_pick an_law_pick cd_law_pick ct_law_pick), sl_law_pick⟩)
    (c_law_pick : PySem.W.codeIn K cd_law_pick "_law_pick" = true)
    (k_law_pick : PySem.W.keepIn K (.ref f_law_pick) = true)
    (aX0 : PySem.W.nsIn K mainGlobals "NotAPattern" = some (some (.ref X0)))
    (aX1 : PySem.W.nsIn K mainGlobals "NotARun" = some (some (.ref X1)))
    (aX2 : PySem.W.nsIn K mainGlobals "InvalidResistance" = some (some (.ref X2)))
    (aX3 : PySem.W.nsIn K mainGlobals "InvalidCount" = some (some (.ref X3)))
    (aX4 : PySem.W.nsIn K mainGlobals "InvalidNumber" = some (some (.ref X4)))
    (aX5 : PySem.W.nsIn K mainGlobals "InvalidText" = some (some (.ref X5)))
    (aX6 : PySem.W.nsIn K mainGlobals "InvalidName" = some (some (.ref X6)))
    (aX7 : PySem.W.nsIn K mainGlobals "InvalidClaim" = some (some (.ref X7)))
    (aX8 : PySem.W.nsIn K mainGlobals "InvalidIndex" = some (some (.ref X8)))
    (aX9 : PySem.W.nsIn K mainGlobals "InvalidPieces" = some (some (.ref X9)))
    (aX10 : PySem.W.nsIn K mainGlobals "InvalidKinds" = some (some (.ref X10)))
    (aX11 : PySem.W.nsIn K mainGlobals "InvalidStretches" = some (some (.ref X11)))
    (aX12 : PySem.W.nsIn K mainGlobals "InvalidDeeds" = some (some (.ref X12)))
    (aX13 : PySem.W.nsIn K mainGlobals "UnknownName" = some (some (.ref X13)))
    (aX14 : PySem.W.nsIn K mainGlobals "InUse" = some (some (.ref X14)))
    (aX15 : PySem.W.nsIn K mainGlobals "TooMany" = some (some (.ref X15)))
    (aX16 : PySem.W.nsIn K mainGlobals "Broken" = some (some (.ref X16)))
    (aX17 : PySem.W.nsIn K mainGlobals "NoLimit" = some (some (.ref X17)))
    (aX18 : PySem.W.nsIn K mainGlobals "NothingToUndo" = some (some (.ref X18)))
    (aX19 : PySem.W.nsIn K mainGlobals "WrongValue" = some (some (.ref X19)))
    (aX20 : PySem.W.nsIn K mainGlobals "WrongName" = some (some (.ref X20)))
    (aX21 : PySem.W.nsIn K mainGlobals "NoAnswer" = some (some (.ref X21)))
    (z_ValueError : PySem.W.nsIn K mainGlobals "ValueError" = some none)
    (z_LookupError : PySem.W.nsIn K mainGlobals "LookupError" = some none)
    (z_ArithmeticError : PySem.W.nsIn K mainGlobals "ArithmeticError" = some none)
    (a_WrongValue_init : PySem.W.findIn K (.ref X19) "__init__" = some (some (.ref f_WrongValue_init)))
    (i_WrongValue_init : PySem.W.isFn K (.ref f_WrongValue_init) = true)
    (l_WrongValue_init : K.lookup f_WrongValue_init = some ⟨oc_WrongValue_init, od_WrongValue_init, .func (PySem.W.fnOf "__init__" "WrongValue.__init__" (defArgs s_WrongValue_init) (defBody s_WrongValue_init) (defScope s_WrongValue_init) .none kV_WrongValue_init dc_WrongValue_init pm_WrongValue_init an_WrongValue_init cd_WrongValue_init ct_WrongValue_init), sl_WrongValue_init⟩)
    (c_WrongValue_init : PySem.W.codeIn K cd_WrongValue_init "WrongValue.__init__" = true)
    (k_WrongValue_init : PySem.W.keepIn K (.ref f_WrongValue_init) = true)
    (rd_19 : PySem.W.readsIn K X19 (.type "type") = true)
    (ga_19 : PySem.W.specialIn K (.ref X19) "__getattribute__" = some (some (.builtin "type.__getattribute__")))
    (fc_19 : PySem.W.findCls K (.ref X19) (.type "type") "__init__" = some (.val (.ref f_WrongValue_init)))
    (a_InvalidText_init : PySem.W.findIn K (.ref X5) "__init__" = some (some (.ref f_InvalidText_init)))
    (i_InvalidText_init : PySem.W.isFn K (.ref f_InvalidText_init) = true)
    (l_InvalidText_init : K.lookup f_InvalidText_init = some ⟨oc_InvalidText_init, od_InvalidText_init, .func (PySem.W.fnOf "__init__" "InvalidText.__init__" (defArgs s_InvalidText_init) (defBody s_InvalidText_init) (defScope s_InvalidText_init) .none kV_InvalidText_init dc_InvalidText_init pm_InvalidText_init an_InvalidText_init cd_InvalidText_init ct_InvalidText_init), sl_InvalidText_init⟩)
    (c_InvalidText_init : PySem.W.codeIn K cd_InvalidText_init "InvalidText.__init__" = true)
    (k_InvalidText_init : PySem.W.keepIn K (.ref f_InvalidText_init) = true)
    (xb_5 : xcB K X5 [.type "ValueError", .type "Exception", .type "BaseException", .type "object"] "ValueError.__new__" = true)
    (ro_5 : rowB K [X0, X1, X2, X3, X4, X5, X6, X7, X8, X9, X10, X11, X12, X13, X14, X15, X16, X17, X18, X19, X20, X21] 5 = true)
    (any_5 : PySem.W.exmAny K (.ref X5) [.ref X19, .ref X20, .ref X21] = some true)
    (ty_5 : PySem.W.typeIn K (.ref X5) = some (.type "type"))
    (no_5 : PySem.W.findIn K (.ref X5) "given" = some none)
    (a_law_classes : PySem.W.nsIn K mainGlobals "_law_classes" = some (some (.ref f_law_classes)))
    (l_law_classes : K.lookup f_law_classes = some ⟨oc_law_classes, od_law_classes, .func (PySem.W.fnOf "_law_classes" "_law_classes" (defArgs s_law_classes) (defBody s_law_classes) (defScope s_law_classes) .none kV_law_classes dc_law_classes pm_law_classes an_law_classes cd_law_classes ct_law_classes), sl_law_classes⟩)
    (c_law_classes : PySem.W.codeIn K cd_law_classes "_law_classes" = true)
    (k_law_classes : PySem.W.keepIn K (.ref f_law_classes) = true)
    (a_law_caught : PySem.W.nsIn K mainGlobals "_law_caught" = some (some (.ref f_law_caught)))
    (l_law_caught : K.lookup f_law_caught = some ⟨oc_law_caught, od_law_caught, .func (PySem.W.fnOf "_law_caught" "_law_caught" (defArgs s_law_caught) (defBody s_law_caught) (defScope s_law_caught) .none kV_law_caught dc_law_caught pm_law_caught an_law_caught cd_law_caught ct_law_caught), sl_law_caught⟩)
    (c_law_caught : PySem.W.codeIn K cd_law_caught "_law_caught" = true)
    (k_law_caught : PySem.W.keepIn K (.ref f_law_caught) = true)
    (a_row_text : PySem.W.nsIn K mainGlobals "row_text" = some (some (.ref f_row_text)))
    (l_row_text : K.lookup f_row_text = some ⟨oc_row_text, od_row_text, .func (PySem.W.fnOf "row_text" "row_text" (defArgs s_row_text) (defBody s_row_text) (defScope s_row_text) .none kV_row_text dc_row_text pm_row_text an_row_text cd_row_text ct_row_text), sl_row_text⟩)
    (c_row_text : PySem.W.codeIn K cd_row_text "row_text" = true)
    (k_row_text : PySem.W.keepIn K (.ref f_row_text) = true)
    (a_Pattern_str : PySem.W.findIn K (.ref C) "__str__" = some (some (.ref f_Pattern_str)))
    (i_Pattern_str : PySem.W.isFn K (.ref f_Pattern_str) = true)
    (l_Pattern_str : K.lookup f_Pattern_str = some ⟨oc_Pattern_str, od_Pattern_str, .func (PySem.W.fnOf "__str__" "Pattern.__str__" (defArgs s_Pattern_str) (defBody s_Pattern_str) (defScope s_Pattern_str) .none kV_Pattern_str dc_Pattern_str pm_Pattern_str an_Pattern_str cd_Pattern_str ct_Pattern_str), sl_Pattern_str⟩)
    (c_Pattern_str : PySem.W.codeIn K cd_Pattern_str "Pattern.__str__" = true)
    (k_Pattern_str : PySem.W.keepIn K (.ref f_Pattern_str) = true)
    (a_Pattern_len : PySem.W.findIn K (.ref C) "__len__" = some (some (.ref f_Pattern_len)))
    (i_Pattern_len : PySem.W.isFn K (.ref f_Pattern_len) = true)
    (l_Pattern_len : K.lookup f_Pattern_len = some ⟨oc_Pattern_len, od_Pattern_len, .func (PySem.W.fnOf "__len__" "Pattern.__len__" (defArgs s_Pattern_len) (defBody s_Pattern_len) (defScope s_Pattern_len) .none kV_Pattern_len dc_Pattern_len pm_Pattern_len an_Pattern_len cd_Pattern_len ct_Pattern_len), sl_Pattern_len⟩)
    (c_Pattern_len : PySem.W.codeIn K cd_Pattern_len "Pattern.__len__" = true)
    (k_Pattern_len : PySem.W.keepIn K (.ref f_Pattern_len) = true)
    (pa_Pattern_pieces : PySem.W.findIn K (.ref C) "pieces" = some (some (.ref pr_Pattern_pieces)))
    (pg_Pattern_pieces : PySem.W.specialIn K (.ref pr_Pattern_pieces) "__get__" = some (some (.builtin "property.__get__")))
    (pt_Pattern_pieces : PySem.W.takesIn K (.ref pr_Pattern_pieces) = some true)
    (pc_Pattern_pieces : PySem.W.recIn K pr_Pattern_pieces "property" = some (.ref f_Pattern_pieces :: rest_Pattern_pieces))
    (l_Pattern_pieces : K.lookup f_Pattern_pieces = some ⟨oc_Pattern_pieces, od_Pattern_pieces, .func (PySem.W.fnOf "pieces" "Pattern.pieces" (defArgs s_Pattern_pieces) (defBody s_Pattern_pieces) (defScope s_Pattern_pieces) .none kV_Pattern_pieces dc_Pattern_pieces pm_Pattern_pieces an_Pattern_pieces cd_Pattern_pieces ct_Pattern_pieces), sl_Pattern_pieces⟩)
    (c_Pattern_pieces : PySem.W.codeIn K cd_Pattern_pieces "Pattern.pieces" = true)
    (k_Pattern_pieces : PySem.W.keepIn K (.ref f_Pattern_pieces) = true)
    (a_law_row : PySem.W.nsIn K mainGlobals "_law_row" = some (some (.ref f_law_row)))
    (l_law_row : K.lookup f_law_row = some ⟨oc_law_row, od_law_row, .func (PySem.W.fnOf "_law_row" "_law_row" (defArgs s_law_row) (defBody s_law_row) (defScope s_law_row) .none kV_law_row dc_law_row pm_law_row an_law_row cd_law_row ct_law_row), sl_law_row⟩)
    (c_law_row : PySem.W.codeIn K cd_law_row "_law_row" = true)
    (k_law_row : PySem.W.keepIn K (.ref f_law_row) = true)
    (a_law_words : PySem.W.nsIn K mainGlobals "_law_words" = some (some (.ref f_law_words)))
    (l_law_words : K.lookup f_law_words = some ⟨oc_law_words, od_law_words, .func (PySem.W.fnOf "_law_words" "_law_words" (defArgs s_law_words) (defBody s_law_words) (defScope s_law_words) .none kV_law_words dc_law_words pm_law_words an_law_words cd_law_words ct_law_words), sl_law_words⟩)
    (c_law_words : PySem.W.codeIn K cd_law_words "_law_words" = true)
    (k_law_words : PySem.W.keepIn K (.ref f_law_words) = true)
    (a_law_piece : PySem.W.nsIn K mainGlobals "_law_piece" = some (some (.ref f_law_piece)))
    (l_law_piece : K.lookup f_law_piece = some ⟨oc_law_piece, od_law_piece, .func (PySem.W.fnOf "_law_piece" "_law_piece" (defArgs s_law_piece) (defBody s_law_piece) (defScope s_law_piece) .none kV_law_piece dc_law_piece pm_law_piece an_law_piece cd_law_piece ct_law_piece), sl_law_piece⟩)
    (c_law_piece : PySem.W.codeIn K cd_law_piece "_law_piece" = true)
    (k_law_piece : PySem.W.keepIn K (.ref f_law_piece) = true)
    (a_law_due : PySem.W.nsIn K mainGlobals "_law_due" = some (some (.ref f_law_due)))
    (l_law_due : K.lookup f_law_due = some ⟨oc_law_due, od_law_due, .func (PySem.W.fnOf "_law_due" "_law_due" (defArgs s_law_due) (defBody s_law_due) (defScope s_law_due) .none kV_law_due dc_law_due pm_law_due an_law_due cd_law_due ct_law_due), sl_law_due⟩)
    (c_law_due : PySem.W.codeIn K cd_law_due "_law_due" = true)
    (k_law_due : PySem.W.keepIn K (.ref f_law_due) = true)
    (a_law_bent : PySem.W.nsIn K mainGlobals "_law_bent" = some (some (.ref f_law_bent)))
    (l_law_bent : K.lookup f_law_bent = some ⟨oc_law_bent, od_law_bent, .func (PySem.W.fnOf "_law_bent" "_law_bent" (defArgs s_law_bent) (defBody s_law_bent) (defScope s_law_bent) .none kV_law_bent dc_law_bent pm_law_bent an_law_bent cd_law_bent ct_law_bent), sl_law_bent⟩)
    (c_law_bent : PySem.W.codeIn K cd_law_bent "_law_bent" = true)
    (k_law_bent : PySem.W.keepIn K (.ref f_law_bent) = true)
    (a_law_right : PySem.W.nsIn K mainGlobals "_law_right" = some (some (.ref f_law_right)))
    (l_law_right : K.lookup f_law_right = some ⟨oc_law_right, od_law_right, .func (PySem.W.fnOf "_law_right" "_law_right" (defArgs s_law_right) (defBody s_law_right) (defScope s_law_right) .none kV_law_right dc_law_right pm_law_right an_law_right cd_law_right ct_law_right), sl_law_right⟩)
    (c_law_right : PySem.W.codeIn K cd_law_right "_law_right" = true)
    (k_law_right : PySem.W.keepIn K (.ref f_law_right) = true)
    (e_law_right : cd_law_right = .ref cA_law_right)
    (lc_law_right : K.lookup cA_law_right = some ⟨.type "code", dC_law_right, .fields vC_law_right, sC_law_right⟩)
    (pl_law_right : (vC_law_right[11]? : Option Value) = some (.ref PA_law_right))
    (ch_law_right : PySem.W.codeHdIn K cA_law_right PA_law_right = true)
    (tt_law_right : h.get? PA_law_right = some (PySem.W.tabObj #[]))
    (kn_law_right : K.lookup PA_law_right = none)
    (a_law : PySem.W.nsIn K mainGlobals "law" = some (some (.ref f_law)))
    (l_law : K.lookup f_law = some ⟨oc_law, od_law, .func (PySem.W.fnOf "law" "law" (defArgs s_law) (defBody s_law) (defScope s_law) .none kV_law dc_law pm_law an_law cd_law ct_law), sl_law⟩)
    (c_law : PySem.W.codeIn K cd_law "law" = true)
    (k_law : PySem.W.keepIn K (.ref f_law) = true)
    (e_law : cd_law = .ref cA_law)
    (lc_law : K.lookup cA_law = some ⟨.type "code", dC_law, .fields vC_law, sC_law⟩)
    (pl_law : (vC_law[11]? : Option Value) = some (.ref PA_law))
    (ch_law : PySem.W.codeHdIn K cA_law PA_law = true)
    (tt_law : h.get? PA_law = some (PySem.W.tabObj #[]))
    (kn_law : K.lookup PA_law = none)
    (ne_law_right_law : PA_law_right ≠ PA_law)
    (ne_law_law_right : PA_law ≠ PA_law_right) :
    LawT l w K 13 63 "_law_script" mg fa h := by
  have e := hfa.symm.trans (PySem.W.mg_of X G a_law)
  cases e
  subst e_law_right
  subst e_law
  have T : Txt3 K mg tG t1 t2 t3 aO aW J C := { len := PySem.W.mg_none_of X G z_len, abs := PySem.W.mg_none_of X G z_abs, int_ := PySem.W.mg_none_of X G z_int, bool_ := PySem.W.mg_none_of X G z_bool, tuple_ := PySem.W.mg_none_of X G z_tuple, isinstance := PySem.W.mg_none_of X G z_isinstance, divmod := PySem.W.mg_none_of X G z_divmod, max := PySem.W.mg_none_of X G z_max, min := PySem.W.mg_none_of X G z_min, range := PySem.W.mg_none_of X G z_range, all := PySem.W.mg_none_of X G z_all, repr := PySem.W.mg_none_of X G z_repr, str_ := PySem.W.mg_none_of X G z_str, enumerate := PySem.W.mg_none_of X G z_enumerate, mgG := PySem.W.mg_of X G aG, mgO := PySem.W.mg_of X G aOp, opn := ⟨_, _, _, laOp, rfl, rfl, (by show 2 ≤ sizeLine; decide), .cons ⟨_, rfl⟩ (.cons ⟨_, rfl⟩ .nil)⟩, mgOh := PySem.W.mg_of X G aOh, mgPi := PySem.W.mg_of X G aPi, mgJo := PySem.W.mg_of X G aJo, mgW := PySem.W.mg_of X G aWo, wds := ⟨_, _, _, laWo, rfl, rfl, (by show 2 ≤ sizeLine; decide), .cons ⟨_, rfl⟩ (.cons ⟨_, rfl⟩ .nil)⟩, mgJ := PySem.W.mg_of X G aJ, mgC := PySem.W.mg_of X G aC, clJ := ⟨pgJ, hdJ, poJ, saJ⟩, nJ := nJ_row, caJ := caJ, cnJ := cn, ctJ := ct, cmJ := cmJ, isJ := (by unfold PySem.W.kitOne; simp), ktJ := kt_J, cl := ⟨pgC, hdC, poC, saC⟩, nRow := nC_row, nMat := nC_matrix, nScl := nC_scale, nFour := nC_four }
  refine ⟨PySem.W.fnOf "law" "law" (defArgs s_law) (defBody s_law) (defScope s_law) .none kV_law dc_law pm_law an_law (.ref cA_law) ct_law, [(cA_law_right, PA_law_right), (cA_law, PA_law)], spLaw K [(PA_law_right, ("_law_right" : Str) ++ ".<locals>.<lambda>"), (PA_law, ("law" : Str) ++ ".<locals>.<lambda>")], List.forall_mem_cons.mpr ⟨tt_law_right, List.forall_mem_cons.mpr ⟨tt_law, fun _ z => nomatch z⟩⟩, List.forall_mem_cons.mpr ⟨kn_law_right, List.forall_mem_cons.mpr ⟨kn_law, fun _ z => nomatch z⟩⟩, List.forall_mem_cons.mpr ⟨PySem.W.codeHd_of_K X ch_law_right, List.forall_mem_cons.mpr ⟨PySem.W.codeHd_of_K X ch_law, fun _ z => nomatch z⟩⟩, fun s v => .of_eq rfl, fun H a ns hl hT hS => ⟨a, ns, rfl, hS, hl, ?_, fun _ => rfl⟩, fun base _ _ hTB => ?_⟩
  · exact List.forall_mem_cons.mpr ⟨LamX.TabS.nil (hT (cA_law_right, PA_law_right) (by simp)), List.forall_mem_cons.mpr ⟨LamX.TabS.nil (hT (cA_law, PA_law) (by simp)), fun _ z => nomatch z⟩⟩
  have TB_law_right := hTB (cA_law_right, PA_law_right) (by simp)
  have TM_law_right : (PA_law_right, ("_law_right" : Str) ++ ".<locals>.<lambda>") ∈ ([(PA_law_right, ("_law_right" : Str) ++ ".<locals>.<lambda>"), (PA_law, ("law" : Str) ++ ".<locals>.<lambda>")] : List (Addr × Str)) := by simp
  have TU_law_right : ∀ p ∈ ([(PA_law_right, ("_law_right" : Str) ++ ".<locals>.<lambda>"), (PA_law, ("law" : Str) ++ ".<locals>.<lambda>")] : List (Addr × Str)), p.1 = PA_law_right → p.2 = ("_law_right" : Str) ++ ".<locals>.<lambda>" := List.forall_mem_cons.mpr ⟨fun _ => rfl, List.forall_mem_cons.mpr ⟨fun z => absurd z ne_law_law_right, fun _ z => nomatch z⟩⟩
  have FC_law_right : FunC K "_law_right" "_law_right" s_law_right f_law_right _ cA_law_right := ⟨_, _, _, _, _, _, _, _, rfl, l_law_right, c_law_right⟩
  have TB_law := hTB (cA_law, PA_law) (by simp)
  have TM_law : (PA_law, ("law" : Str) ++ ".<locals>.<lambda>") ∈ ([(PA_law_right, ("_law_right" : Str) ++ ".<locals>.<lambda>"), (PA_law, ("law" : Str) ++ ".<locals>.<lambda>")] : List (Addr × Str)) := by simp
  have TU_law : ∀ p ∈ ([(PA_law_right, ("_law_right" : Str) ++ ".<locals>.<lambda>"), (PA_law, ("law" : Str) ++ ".<locals>.<lambda>")] : List (Addr × Str)), p.1 = PA_law → p.2 = ("law" : Str) ++ ".<locals>.<lambda>" := List.forall_mem_cons.mpr ⟨fun z => absurd z ne_law_right_law, List.forall_mem_cons.mpr ⟨fun _ => rfl, fun _ z => nomatch z⟩⟩
  have FC_law : FunC K "law" "law" s_law fa _ cA_law := ⟨_, _, _, _, _, _, _, _, rfl, l_law, c_law⟩
  have F_is_integer := fun_mk (st := s_is_integer) l_is_integer c_is_integer k_is_integer
  have b_is_integer := F_is_integer.binds (ps := ["value"]) fun _ _ _ _ _ _ us hl => match us, hl with | [_], _ => rfl
  have D_is_integer : Df l.prog w K mg base 1 "is_integer" ["value"] spIsInt := ⟨_, _, ok_isint F_is_integer T.toTxt, PySem.W.mg_of X G a_is_integer, k_is_integer, b_is_integer⟩
  have F_is_integer_within := fun_mk (st := s_is_integer_within) l_is_integer_within c_is_integer_within k_is_integer_within
  have b_is_integer_within := F_is_integer_within.binds (ps := ["value", "least", "most"]) fun _ _ _ _ _ _ us hl => match us, hl with | [_, _, _], _ => rfl
  have D_is_integer_within : Df l.prog w K mg base 2 "is_integer_within" ["value", "least", "most"] spWithin := ⟨_, _, ok_within F_is_integer_within D_is_integer, PySem.W.mg_of X G a_is_integer_within, k_is_integer_within, b_is_integer_within⟩
  have F_is_pair_of_integers := fun_mk (st := s_is_pair_of_integers) l_is_pair_of_integers c_is_pair_of_integers k_is_pair_of_integers
  have b_is_pair_of_integers := F_is_pair_of_integers.binds (ps := ["value"]) fun _ _ _ _ _ _ us hl => match us, hl with | [_], _ => rfl
  have D_is_pair_of_integers : Df l.prog w K mg base 2 "is_pair_of_integers" ["value"] spIsPair := ⟨_, _, ok_ispair F_is_pair_of_integers T.toTxt D_is_integer, PySem.W.mg_of X G a_is_pair_of_integers, k_is_pair_of_integers, b_is_pair_of_integers⟩
  have F_is_resistance := fun_mk (st := s_is_resistance) l_is_resistance c_is_resistance k_is_resistance
  have b_is_resistance := F_is_resistance.binds (ps := ["value"]) fun _ _ _ _ _ _ us hl => match us, hl with | [_], _ => rfl
  have D_is_resistance : Df l.prog w K mg base 3 "is_resistance" ["value"] spIsRes := ⟨_, _, ok_isres F_is_resistance T.toTxt2 D_is_integer D_is_pair_of_integers, PySem.W.mg_of X G a_is_resistance, k_is_resistance, b_is_resistance⟩
  have F_pair_of := fun_mk (st := s_pair_of) l_pair_of c_pair_of k_pair_of
  have b_pair_of := F_pair_of.binds (ps := ["fraction_or_open"]) fun _ _ _ _ _ _ us hl => match us, hl with | [_], _ => rfl
  have D_pair_of : Df l.prog w K mg base 2 "pair_of" ["fraction_or_open"] spPairOf := ⟨_, _, ok_pairof F_pair_of D_is_integer, PySem.W.mg_of X G a_pair_of, k_pair_of, b_pair_of⟩
  have F_common_divisor := fun_mk (st := s_common_divisor) l_common_divisor c_common_divisor k_common_divisor
  have b_common_divisor := F_common_divisor.binds (ps := ["first", "second"]) fun _ _ _ _ _ _ us hl => match us, hl with | [_, _], _ => rfl
  have D_common_divisor : Df l.prog w K mg base 1 "common_divisor" ["first", "second"] spGcd := ⟨_, _, ok_gcd F_common_divisor T.toTxt, PySem.W.mg_of X G a_common_divisor, k_common_divisor, b_common_divisor⟩
  have F_lowest_terms := fun_mk (st := s_lowest_terms) l_lowest_terms c_lowest_terms k_lowest_terms
  have b_lowest_terms := F_lowest_terms.binds (ps := ["top", "bottom"]) fun _ _ _ _ _ _ us hl => match us, hl with | [_, _], _ => rfl
  have D_lowest_terms : Df l.prog w K mg base 2 "lowest_terms" ["top", "bottom"] spLow := ⟨_, _, ok_low F_lowest_terms D_common_divisor, PySem.W.mg_of X G a_lowest_terms, k_lowest_terms, b_lowest_terms⟩
  have F_lowest_pair := fun_mk (st := s_lowest_pair) l_lowest_pair c_lowest_pair k_lowest_pair
  have b_lowest_pair := F_lowest_pair.binds (ps := ["fraction_or_open"]) fun _ _ _ _ _ _ us hl => match us, hl with | [_], _ => rfl
  have D_lowest_pair : Df l.prog w K mg base 3 "lowest_pair" ["fraction_or_open"] spLowP := ⟨_, _, ok_lowp F_lowest_pair D_pair_of D_lowest_terms, PySem.W.mg_of X G a_lowest_pair, k_lowest_pair, b_lowest_pair⟩
  have F_is_piece := fun_mk (st := s_is_piece) l_is_piece c_is_piece k_is_piece
  have b_is_piece := F_is_piece.binds (ps := ["value"]) fun _ _ _ _ _ _ us hl => match us, hl with | [_], _ => rfl
  have D_is_piece : Df l.prog w K mg base 3 "is_piece" ["value"] spIsPiece := ⟨_, _, ok_ispiece F_is_piece T D_is_integer_within, PySem.W.mg_of X G a_is_piece, k_is_piece, b_is_piece⟩
  have F_checked_row := fun_mk (st := s_checked_row) l_checked_row c_checked_row k_checked_row
  have b_checked_row := F_checked_row.binds (ps := ["pieces"]) fun _ _ _ _ _ _ us hl => match us, hl with | [_], _ => rfl
  have D_checked_row : Df l.prog w K mg base 4 "checked_row" ["pieces"] (spChk J) := ⟨_, _, ok_chk F_checked_row T D_is_piece, PySem.W.mg_of X G a_checked_row, k_checked_row, b_checked_row⟩
  have F_matrix_and_scale := fun_mk (st := s_matrix_and_scale) l_matrix_and_scale c_matrix_and_scale k_matrix_and_scale
  have b_matrix_and_scale := F_matrix_and_scale.binds (ps := ["row"]) fun _ _ _ _ _ _ us hl => match us, hl with | [_], _ => rfl
  have D_matrix_and_scale : Df l.prog w K mg base 1 "matrix_and_scale" ["row"] spMat := ⟨_, _, ok_mat F_matrix_and_scale, PySem.W.mg_of X G a_matrix_and_scale, k_matrix_and_scale, b_matrix_and_scale⟩
  have F_shown_before := fun_mk (st := s_shown_before) l_shown_before c_shown_before k_shown_before
  have b_shown_before := F_shown_before.binds (ps := ["matrix", "pair"]) fun _ _ _ _ _ _ us hl => match us, hl with | [_, _], _ => rfl
  have D_shown_before : Df l.prog w K mg base 1 "shown_before" ["matrix", "pair"] spShown := ⟨_, _, ok_shown F_shown_before, PySem.W.mg_of X G a_shown_before, k_shown_before, b_shown_before⟩
  have F_piece_text := fun_mk (st := s_piece_text) l_piece_text c_piece_text k_piece_text
  have b_piece_text := F_piece_text.binds (ps := ["word", "ohms"]) fun _ _ _ _ _ _ us hl => match us, hl with | [_, _], _ => rfl
  have D_piece_text : Df l.prog w K mg base 1 "piece_text" ["word", "ohms"] spPtx := ⟨_, _, ok_ptx F_piece_text, PySem.W.mg_of X G a_piece_text, k_piece_text, b_piece_text⟩
  have F_piece_with_text := fun_mk (st := s_piece_with_text) l_piece_with_text c_piece_with_text k_piece_with_text
  have b_piece_with_text := F_piece_with_text.binds (ps := ["text"]) fun _ _ _ _ _ _ us hl => match us, hl with | [_], _ => rfl
  have D_piece_with_text : Df l.prog w K mg base 2 "piece_with_text" ["text"] spPwt := ⟨_, _, ok_pwt F_piece_with_text T D_piece_text, PySem.W.mg_of X G a_piece_with_text, k_piece_with_text, b_piece_with_text⟩
  have F_law_cup := fun_mk (st := s_law_cup) l_law_cup c_law_cup k_law_cup
  have b_law_cup := F_law_cup.binds (ps := ["_law_script", "_law_spot"]) fun _ _ _ _ _ _ us hl => match us, hl with | [_, _], _ => rfl
  have D_law_cup : Df l.prog w K mg base 1 "_law_cup" ["_law_script", "_law_spot"] (spCup K) := ⟨_, _, ok_cup F_law_cup T.toTxt, PySem.W.mg_of X G a_law_cup, k_law_cup, b_law_cup⟩
  have F_law_sip := fun_mk (st := s_law_sip) l_law_sip c_law_sip k_law_sip
  have b_law_sip := F_law_sip.binds (ps := ["_law_cup_here", "_law_many"]) fun _ _ _ _ _ _ us hl => match us, hl with | [_, _], _ => rfl
  have D_law_sip : Df l.prog w K mg base 1 "_law_sip" ["_law_cup_here", "_law_many"] spSip := ⟨_, _, ok_sip F_law_sip T.toTxt, PySem.W.mg_of X G a_law_sip, k_law_sip, b_law_sip⟩
  have F_law_pick := fun_mk (st := s_law_pick) l_law_pick c_law_pick k_law_pick
  have b_law_pick := F_law_pick.binds (ps := ["_law_cup_here", "_law_things"]) fun _ _ _ _ _ _ us hl => match us, hl with | [_, _], _ => rfl
  have D_law_pick : Df l.prog w K mg base 2 "_law_pick" ["_law_cup_here", "_law_things"] spPick := ⟨_, _, ok_pick F_law_pick T.toTxt D_law_sip, PySem.W.mg_of X G a_law_pick, k_law_pick, b_law_pick⟩
  have F_JoinedRow_init := fun_mk (st := s_JoinedRow_init) l_JoinedRow_init c_JoinedRow_init k_JoinedRow_init
  have b_JoinedRow_init := F_JoinedRow_init.binds (ps := ["self", "row"]) fun _ _ _ _ _ _ us hl => match us, hl with | [_, _], _ => rfl
  have F_Pattern_call := fun_mk (st := s_Pattern_call) l_Pattern_call c_Pattern_call k_Pattern_call
  have b_Pattern_call := F_Pattern_call.binds (ps := ["self", "load"]) fun _ _ _ _ _ _ us hl => match us, hl with | [_, _], _ => rfl
  have F_Pattern_add := fun_mk (st := s_Pattern_add) l_Pattern_add c_Pattern_add k_Pattern_add
  have b_Pattern_add := F_Pattern_add.binds (ps := ["self", "other"]) fun _ _ _ _ _ _ us hl => match us, hl with | [_, _], _ => rfl
  have F_Pattern_numbers := fun_mk (st := s_Pattern_numbers) l_Pattern_numbers c_Pattern_numbers k_Pattern_numbers
  have b_Pattern_numbers := F_Pattern_numbers.binds (ps := ["self"]) fun _ _ _ _ _ _ us hl => match us, hl with | [_], _ => rfl
  have F_Pattern_read := fun_mk (st := s_Pattern_read) l_Pattern_read c_Pattern_read k_Pattern_read
  have b_Pattern_read := F_Pattern_read.binds (ps := ["text"]) fun _ _ _ _ _ _ us hl => match us, hl with | [_], _ => rfl
  have F_Pattern_init := fun_mk (st := s_Pattern_init) l_Pattern_init c_Pattern_init k_Pattern_init
  have X_join : JoinD l.prog w K mg base J f_JoinedRow_init _ := ⟨⟨mkJ, a_JoinedRow_init, i_JoinedRow_init, kcJ⟩, ok_join F_JoinedRow_init T, b_JoinedRow_init⟩
  have X_pat : PatD l.prog w K mg base C J f_Pattern_init := ⟨⟨mkC, a_Pattern_init, i_Pattern_init, kcC⟩, ok_pinit F_Pattern_init T D_checked_row D_matrix_and_scale D_lowest_terms⟩
  have G_call := ok_call (P := l.prog) (w := w) (base := base) F_Pattern_call T D_is_resistance D_pair_of D_shown_before D_lowest_pair
  have OC : OwC l.prog w K mg base C f_Pattern_call _ := ⟨⟨a_Pattern_call, i_Pattern_call, fi_call⟩, G_call, fnR_mk G_call b_Pattern_call, fun _ _ _ _ => .of_eq rfl⟩
  have OR : OwR l.prog w K mg base C pr_Pattern_read f_Pattern_read _ := ⟨⟨rdC, gaC⟩, ⟨sa_Pattern_read, ⟨_, sc_Pattern_read⟩, k_Pattern_read⟩, ok_read F_Pattern_read T X_pat X_join D_piece_with_text, b_Pattern_read⟩
  have e_add : PySem.dunder Operator.Add.info.2 = ("__add__" : Str) := by decide +kernel
  have OA : OwA l.prog w K mg base C f_Pattern_add _ := ⟨sfC, (by rw [e_add]; exact a_Pattern_add), i_Pattern_add, ok_add F_Pattern_add T X_pat X_join, b_Pattern_add⟩
  have ON : OwN l.prog w K mg base C pr_Pattern_numbers f_Pattern_numbers _ := ⟨⟨pa_Pattern_numbers, pg_Pattern_numbers, pt_Pattern_numbers, _, pc_Pattern_numbers⟩, ok_num F_Pattern_numbers T, b_Pattern_numbers⟩
  have TE : TxE mg (cF [X0, X1, X2, X3, X4, X5, X6, X7, X8, X9, X10, X11, X12, X13, X14, X15, X16, X17, X18, X19, X20, X21]) := { m0 := PySem.W.mg_of X G aX0, m1 := PySem.W.mg_of X G aX1, m2 := PySem.W.mg_of X G aX2, m3 := PySem.W.mg_of X G aX3, m4 := PySem.W.mg_of X G aX4, m5 := PySem.W.mg_of X G aX5, m6 := PySem.W.mg_of X G aX6, m7 := PySem.W.mg_of X G aX7, m8 := PySem.W.mg_of X G aX8, m9 := PySem.W.mg_of X G aX9, m10 := PySem.W.mg_of X G aX10, m11 := PySem.W.mg_of X G aX11, m12 := PySem.W.mg_of X G aX12, m13 := PySem.W.mg_of X G aX13, m14 := PySem.W.mg_of X G aX14, m15 := PySem.W.mg_of X G aX15, m16 := PySem.W.mg_of X G aX16, m17 := PySem.W.mg_of X G aX17, m18 := PySem.W.mg_of X G aX18, m19 := PySem.W.mg_of X G aX19, m20 := PySem.W.mg_of X G aX20, m21 := PySem.W.mg_of X G aX21, vV := PySem.W.mg_none_of X G z_ValueError, vL := PySem.W.mg_none_of X G z_LookupError, vA := PySem.W.mg_none_of X G z_ArithmeticError }
  have Z : XK0 K := ⟨cn, ct⟩
  have F_WrongValue_init := fun_mk (st := s_WrongValue_init) l_WrongValue_init c_WrongValue_init k_WrongValue_init
  have b_WrongValue_init := F_WrongValue_init.binds (ps := ["self"]) fun _ _ _ _ _ _ us hl => match us, hl with | [_], _ => rfl
  have B19 : Bi l.prog w K mg base "WrongValue" := ⟨X19, f_WrongValue_init, .type "type", _, PySem.W.mg_of X G aX19, ⟨rd_19, ga_19⟩, fc_19, k_WrongValue_init, ok_WrongValue_init F_WrongValue_init, b_WrongValue_init⟩
  have F_InvalidText_init := fun_mk (st := s_InvalidText_init) l_InvalidText_init c_InvalidText_init k_InvalidText_init
  have b_InvalidText_init := F_InvalidText_init.binds (ps := ["self", "given"]) fun _ _ _ _ _ _ us hl => match us, hl with | [_, _], _ => rfl
  have x5 : XC K X5 := xcB_ok PySem.F.excBase_ValueError PySem.F.store_ValueError xb_5
  have M5 : XM l.prog w K mg base 2 X5 ["self", "given"] (spI K "given") := ⟨x5, f_InvalidText_init, _, a_InvalidText_init, i_InvalidText_init, ok_InvalidText_init F_InvalidText_init B19, b_InvalidText_init, fun y z e => by
    cases e
    exact ⟨fun s us ws _ h1 h2 => match us, h1, ws, h2 with | [_], _, [_], _ => BindsTo.of_eq (fd := PySem.W.fnOf "__init__" "InvalidText.__init__" (defArgs s_InvalidText_init) (defBody s_InvalidText_init) (defScope s_InvalidText_init) .none kV_InvalidText_init dc_InvalidText_init pm_InvalidText_init an_InvalidText_init cd_InvalidText_init ct_InvalidText_init) rfl, fun r1 r2 => r1.append r2⟩⟩
  have RZ5 : Rz l.prog w K mg base (cF [X0, X1, X2, X3, X4, X5, X6, X7, X8, X9, X10, X11, X12, X13, X14, X15, X16, X17, X18, X19, X20, X21]) 5 "given" := ⟨M5, ty_5, no_5⟩
  have EC5 : EC K (cF [X0, X1, X2, X3, X4, X5, X6, X7, X8, X9, X10, X11, X12, X13, X14, X15, X16, X17, X18, X19, X20, X21]) (cF [X0, X1, X2, X3, X4, X5, X6, X7, X8, X9, X10, X11, X12, X13, X14, X15, X16, X17, X18, X19, X20, X21] 5) 5 [5, 20, 23] := ec_5 x5 ro_5 any_5 no_5
  have F_law_classes := fun_mk (st := s_law_classes) l_law_classes c_law_classes k_law_classes
  have b_law_classes := F_law_classes.binds (ps := ["_law_e"]) fun _ _ _ _ _ _ us hl => match us, hl with | [_], _ => rfl
  have D_law_classes : DfE l.prog w K mg base 1 "_law_classes" ["_law_e"] (spClsP K (cF [X0, X1, X2, X3, X4, X5, X6, X7, X8, X9, X10, X11, X12, X13, X14, X15, X16, X17, X18, X19, X20, X21])) := ⟨_, _, ok_clsP F_law_classes T.toTxt TE Z, PySem.W.mg_of X G a_law_classes, k_law_classes, b_law_classes⟩
  have F_law_caught := fun_mk (st := s_law_caught) l_law_caught c_law_caught k_law_caught
  have b_law_caught := F_law_caught.binds (ps := ["_law_act"]) fun _ _ _ _ _ _ us hl => match us, hl with | [_], _ => rfl
  have CG : CgtD l.prog w K mg base (cF [X0, X1, X2, X3, X4, X5, X6, X7, X8, X9, X10, X11, X12, X13, X14, X15, X16, X17, X18, X19, X20, X21]) 1 (rRp K) := ⟨T.toTxt, TE, ⟨_, _, F_law_caught, PySem.W.mg_of X G a_law_caught⟩, D_law_classes, fun Y _ _ e _ _ hg hr => by
    subst e
    exact cr_rpK hg hr.units⟩
  have F_row_text := fun_mk (st := s_row_text) l_row_text c_row_text k_row_text
  have b_row_text := F_row_text.binds (ps := ["row"]) fun _ _ _ _ _ _ us hl => match us, hl with | [_], _ => rfl
  have D_row_text : Df l.prog w K mg base 2 "row_text" ["row"] spRowT := ⟨_, _, ok_rowt F_row_text T.toTxt D_piece_text, PySem.W.mg_of X G a_row_text, k_row_text, b_row_text⟩
  have F_Pattern_str := fun_mk (st := s_Pattern_str) l_Pattern_str c_Pattern_str k_Pattern_str
  have b_Pattern_str := F_Pattern_str.binds (ps := ["self"]) fun _ _ _ _ _ _ us hl => match us, hl with | [_], _ => rfl
  have OT2 : OwT2 l.prog w K mg base C f_Pattern_str _ := ⟨a_Pattern_str, i_Pattern_str, ok_pstr F_Pattern_str T D_row_text, b_Pattern_str⟩
  have F_Pattern_len := fun_mk (st := s_Pattern_len) l_Pattern_len c_Pattern_len k_Pattern_len
  have b_Pattern_len := F_Pattern_len.binds (ps := ["self"]) fun _ _ _ _ _ _ us hl => match us, hl with | [_], _ => rfl
  have OLn : OwLn l.prog w K mg base C f_Pattern_len _ := ⟨a_Pattern_len, i_Pattern_len, ok_plen F_Pattern_len T, b_Pattern_len⟩
  have F_Pattern_pieces := fun_mk (st := s_Pattern_pieces) l_Pattern_pieces c_Pattern_pieces k_Pattern_pieces
  have b_Pattern_pieces := F_Pattern_pieces.binds (ps := ["self"]) fun _ _ _ _ _ _ us hl => match us, hl with | [_], _ => rfl
  have OPi : OwPi l.prog w K mg base C pr_Pattern_pieces f_Pattern_pieces _ := ⟨⟨pa_Pattern_pieces, pg_Pattern_pieces, pt_Pattern_pieces, _, pc_Pattern_pieces⟩, ok_pcs F_Pattern_pieces T, b_Pattern_pieces⟩
  have D_piece_with_textG : Df l.prog w K mg base 2 "piece_with_text" ["text"] spPwtG := ⟨_, _, ok_pwtG F_piece_with_text T D_piece_text, PySem.W.mg_of X G a_piece_with_text, k_piece_with_text, b_piece_with_text⟩
  have OW : SmN l.prog w K mg base C 7 "read" "text" (spReadN K C X5) := ⟨_, _, _, _, ⟨rdC, gaC⟩, ⟨sa_Pattern_read, ⟨_, sc_Pattern_read⟩, k_Pattern_read⟩, ok_readN (c := cF [X0, X1, X2, X3, X4, X5, X6, X7, X8, X9, X10, X11, X12, X13, X14, X15, X16, X17, X18, X19, X20, X21]) F_Pattern_read T TE RZ5 X_pat X_join D_piece_with_textG, b_Pattern_read, fun _ _ _ => .of_eq rfl⟩
  have F_law_row := fun_mk (st := s_law_row) l_law_row c_law_row k_law_row
  have b_law_row := F_law_row.binds (ps := ["_law_cup_here", "_law_most"]) fun _ _ _ _ _ _ us hl => match us, hl with | [_, _], _ => rfl
  have D_law_row : Df l.prog w K mg base 3 "_law_row" ["_law_cup_here", "_law_most"] spRow := ⟨_, _, ok_row F_law_row T.toTxt D_law_sip D_law_pick, PySem.W.mg_of X G a_law_row, k_law_row, b_law_row⟩
  have F_law_words := fun_mk (st := s_law_words) l_law_words c_law_words k_law_words
  have b_law_words := F_law_words.binds (ps := ["_law_row_here"]) fun _ _ _ _ _ _ us hl => match us, hl with | [_], _ => rfl
  have D_law_words : Df l.prog w K mg base 1 "_law_words" ["_law_row_here"] spWords := ⟨_, _, ok_words F_law_words T.toTxt, PySem.W.mg_of X G a_law_words, k_law_words, b_law_words⟩
  have F_law_piece := fun_mk (st := s_law_piece) l_law_piece c_law_piece k_law_piece
  have b_law_piece := F_law_piece.binds (ps := ["_law_part"]) fun _ _ _ _ _ _ us hl => match us, hl with | [_], _ => rfl
  have D_law_piece : Df l.prog w K mg base 1 "_law_piece" ["_law_part"] spPwtG := ⟨_, _, ok_lpiece F_law_piece T.toTxt, PySem.W.mg_of X G a_law_piece, k_law_piece, b_law_piece⟩
  have F_law_due := fun_mk (st := s_law_due) l_law_due c_law_due k_law_due
  have b_law_due := F_law_due.binds (ps := ["_law_thing"]) fun _ _ _ _ _ _ us hl => match us, hl with | [_], _ => rfl
  have D_law_due : Df l.prog w K mg base 2 "_law_due" ["_law_thing"] (spDue K) := ⟨_, _, ok_due F_law_due T.toTxt D_law_piece, PySem.W.mg_of X G a_law_due, k_law_due, b_law_due⟩
  have F_law_bent := fun_mk (st := s_law_bent) l_law_bent c_law_bent k_law_bent
  have b_law_bent := F_law_bent.binds (ps := ["_law_cup_here", "_law_words_here"]) fun _ _ _ _ _ _ us hl => match us, hl with | [_, _], _ => rfl
  have D_law_bent : Df l.prog w K mg base 3 "_law_bent" ["_law_cup_here", "_law_words_here"] (spBent K) := ⟨_, _, ok_bent F_law_bent T.toTxt D_law_sip D_law_pick, PySem.W.mg_of X G a_law_bent, k_law_bent, b_law_bent⟩
  have F_law_right := fun_mk (st := s_law_right) l_law_right c_law_right k_law_right
  have b_law_right := F_law_right.binds (ps := ["_law_cup_here"]) fun _ _ _ _ _ _ us hl => match us, hl with | [_], _ => rfl
  have D_law_right : DfG l.prog w K mg base 12 "_law_right" ["_law_cup_here"] (spRight [(PA_law_right, ("_law_right" : Str) ++ ".<locals>.<lambda>"), (PA_law, ("law" : Str) ++ ".<locals>.<lambda>")]) := ⟨_, _, ok_right FC_law_right T OW OR OT2 OPi CG EC5 TB_law_right TM_law_right TU_law_right D_law_row D_law_words D_law_due D_law_bent, PySem.W.mg_of X G a_law_right, k_law_right, b_law_right⟩
  exact ok_law FC_law T OW OR OLn CG EC5 TB_law TM_law TU_law D_law_cup D_law_right
end RL

open PySem PySem.W PyProof.Rows
set_option maxRecDepth 100000 in
set_option maxHeartbeats 0 in
theorem PySem.Challenge.cw_rungladders_k11_whole_texts_of_patterns_holds : PySem.Challenge.rw_rungladders_k11_whole_texts_of_patterns.Holds := by
  w_on; o_law; k_head; (case hw => w_witness2)
  k_fill
  refine RL.walk_ofT (l := PySem.Challenge.rw_rungladders_k11_whole_texts_of_patterns) (n := 63) (k := 13) (x := "_law_script") rfl (by decide) rfl ⟨rfl, by decide, by decide⟩ (fun w h Y => PySem.W.km_in_of Y) ?F
  case F =>
    intro w mg fa h Y KX G hmg
    have hT8 := PySem.W.km_tabs_of Y
    refine' RL.all_mk KX G hmg ?aG ?aOh ?aPi ?aJo ?aOp ?laOp ?aWo ?laWo ?aJ ?pgJ ?hdJ ?poJ ?saJ ?mkJ ?kcJ ?nJ_row ?caJ ?cmJ ?cn ?ct ?aC ?pgC ?hdC ?poC ?saC ?mkC ?kcC ?nC_row ?nC_matrix ?nC_scale ?nC_four ?kt_J ?sfC ?rdC ?gaC ?a_JoinedRow_init ?i_JoinedRow_init ?l_JoinedRow_init ?c_JoinedRow_init ?k_JoinedRow_init ?a_Pattern_init ?i_Pattern_init ?l_Pattern_init ?c_Pattern_init ?k_Pattern_init ?a_Pattern_call ?i_Pattern_call ?l_Pattern_call ?c_Pattern_call ?k_Pattern_call ?fi_call ?a_Pattern_add ?i_Pattern_add ?l_Pattern_add ?c_Pattern_add ?k_Pattern_add ?pa_Pattern_numbers ?pg_Pattern_numbers ?pt_Pattern_numbers ?pc_Pattern_numbers ?l_Pattern_numbers ?c_Pattern_numbers ?k_Pattern_numbers ?sa_Pattern_read ?sc_Pattern_read ?l_Pattern_read ?c_Pattern_read ?k_Pattern_read ?z_len ?z_abs ?z_int ?z_bool ?z_tuple ?z_isinstance ?z_divmod ?z_max ?z_min ?z_range ?z_all ?z_repr ?z_str ?z_enumerate ?a_is_integer ?l_is_integer ?c_is_integer ?k_is_integer ?a_is_integer_within ?l_is_integer_within ?c_is_integer_within ?k_is_integer_within ?a_is_pair_of_integers ?l_is_pair_of_integers ?c_is_pair_of_integers ?k_is_pair_of_integers ?a_is_resistance ?l_is_resistance ?c_is_resistance ?k_is_resistance ?a_pair_of ?l_pair_of ?c_pair_of ?k_pair_of ?a_common_divisor ?l_common_divisor ?c_common_divisor ?k_common_divisor ?a_lowest_terms ?l_lowest_terms ?c_lowest_terms ?k_lowest_terms ?a_lowest_pair ?l_lowest_pair ?c_lowest_pair ?k_lowest_pair ?a_is_piece ?l_is_piece ?c_is_piece ?k_is_piece ?a_checked_row ?l_checked_row ?c_checked_row ?k_checked_row ?a_matrix_and_scale ?l_matrix_and_scale ?c_matrix_and_scale ?k_matrix_and_scale ?a_shown_before ?l_shown_before ?c_shown_before ?k_shown_before ?a_piece_text ?l_piece_text ?c_piece_text ?k_piece_text ?a_piece_with_text ?l_piece_with_text ?c_piece_with_text ?k_piece_with_text ?a_law_cup ?l_law_cup ?c_law_cup ?k_law_cup ?a_law_sip ?l_law_sip ?c_law_sip ?k_law_sip ?a_law_pick ?l_law_pick ?c_law_pick ?k_law_pick ?aX0 ?aX1 ?aX2 ?aX3 ?aX4 ?aX5 ?aX6 ?aX7 ?aX8 ?aX9 ?aX10 ?aX11 ?aX12 ?aX13 ?aX14 ?aX15 ?aX16 ?aX17 ?aX18 ?aX19 ?aX20 ?aX21 ?z_ValueError ?z_LookupError ?z_ArithmeticError ?a_WrongValue_init ?i_WrongValue_init ?l_WrongValue_init ?c_WrongValue_init ?k_WrongValue_init ?rd_19 ?ga_19 ?fc_19 ?a_InvalidText_init ?i_InvalidText_init ?l_InvalidText_init ?c_InvalidText_init ?k_InvalidText_init ?xb_5 ?ro_5 ?any_5 ?ty_5 ?no_5 ?a_law_classes ?l_law_classes ?c_law_classes ?k_law_classes ?a_law_caught ?l_law_caught ?c_law_caught ?k_law_caught ?a_row_text ?l_row_text ?c_row_text ?k_row_text ?a_Pattern_str ?i_Pattern_str ?l_Pattern_str ?c_Pattern_str ?k_Pattern_str ?a_Pattern_len ?i_Pattern_len ?l_Pattern_len ?c_Pattern_len ?k_Pattern_len ?pa_Pattern_pieces ?pg_Pattern_pieces ?pt_Pattern_pieces ?pc_Pattern_pieces ?l_Pattern_pieces ?c_Pattern_pieces ?k_Pattern_pieces ?a_law_row ?l_law_row ?c_law_row ?k_law_row ?a_law_words ?l_law_words ?c_law_words ?k_law_words ?a_law_piece ?l_law_piece ?c_law_piece ?k_law_piece ?a_law_due ?l_law_due ?c_law_due ?k_law_due ?a_law_bent ?l_law_bent ?c_law_bent ?k_law_bent ?a_law_right ?l_law_right ?c_law_right ?k_law_right ?e_law_right ?lc_law_right ?pl_law_right ?ch_law_right ?tt_law_right ?kn_law_right ?a_law ?l_law ?c_law ?k_law ?e_law ?lc_law ?pl_law ?ch_law ?tt_law ?kn_law ?ne_law_right_law ?ne_law_law_right
    (case aJ => k_is)
    (case aC => k_is)
    (case aX0 => k_is)
    (case aX1 => k_is)
    (case aX2 => k_is)
    (case aX3 => k_is)
    (case aX4 => k_is)
    (case aX5 => k_is)
    (case aX6 => k_is)
    (case aX7 => k_is)
    (case aX8 => k_is)
    (case aX9 => k_is)
    (case aX10 => k_is)
    (case aX11 => k_is)
    (case aX12 => k_is)
    (case aX13 => k_is)
    (case aX14 => k_is)
    (case aX15 => k_is)
    (case aX16 => k_is)
    (case aX17 => k_is)
    (case aX18 => k_is)
    (case aX19 => k_is)
    (case aX20 => k_is)
    (case aX21 => k_is)
    (case aG => k_is)
    (case aOh => k_is)
    (case aPi => k_is)
    (case aJo => k_is)
    (case aOp => k_is)
    (case laOp => k_is)
    (case aWo => k_is)
    (case laWo => k_is)
    (case pgJ => k_is)
    (case hdJ => k_is)
    (case poJ => k_is)
    (case saJ => k_is)
    (case mkJ => k_is)
    (case kcJ => k_is)
    (case nJ_row => k_is)
    (case caJ => k_is)
    (case cmJ => k_is)
    (case cn => k_is)
    (case ct => k_is)
    (case pgC => k_is)
    (case hdC => k_is)
    (case poC => k_is)
    (case saC => k_is)
    (case mkC => k_is)
    (case kcC => k_is)
    (case nC_row => k_is)
    (case nC_matrix => k_is)
    (case nC_scale => k_is)
    (case nC_four => k_is)
    (case kt_J => kit_is)
    (case sfC => k_is)
    (case rdC => k_is)
    (case gaC => k_is)
    (case a_JoinedRow_init => k_is)
    (case i_JoinedRow_init => k_is)
    (case l_JoinedRow_init => k_is)
    (case c_JoinedRow_init => k_is)
    (case k_JoinedRow_init => k_is)
    (case a_Pattern_init => k_is)
    (case i_Pattern_init => k_is)
    (case l_Pattern_init => k_is)
    (case c_Pattern_init => k_is)
    (case k_Pattern_init => k_is)
    (case a_Pattern_call => k_is)
    (case i_Pattern_call => k_is)
    (case l_Pattern_call => k_is)
    (case c_Pattern_call => k_is)
    (case k_Pattern_call => k_is)
    (case fi_call => k_is)
    (case a_Pattern_add => k_is)
    (case i_Pattern_add => k_is)
    (case l_Pattern_add => k_is)
    (case c_Pattern_add => k_is)
    (case k_Pattern_add => k_is)
    (case pa_Pattern_numbers => k_is)
    (case pg_Pattern_numbers => k_is)
    (case pt_Pattern_numbers => k_is)
    (case pc_Pattern_numbers => k_is)
    (case l_Pattern_numbers => k_is)
    (case c_Pattern_numbers => k_is)
    (case k_Pattern_numbers => k_is)
    (case sa_Pattern_read => k_is)
    (case sc_Pattern_read => k_is)
    (case l_Pattern_read => k_is)
    (case c_Pattern_read => k_is)
    (case k_Pattern_read => k_is)
    (case z_len => k_is)
    (case z_abs => k_is)
    (case z_int => k_is)
    (case z_bool => k_is)
    (case z_tuple => k_is)
    (case z_isinstance => k_is)
    (case z_divmod => k_is)
    (case z_max => k_is)
    (case z_min => k_is)
    (case z_range => k_is)
    (case z_all => k_is)
    (case z_repr => k_is)
    (case z_str => k_is)
    (case z_enumerate => k_is)
    (case a_is_integer => k_is)
    (case l_is_integer => k_is)
    (case c_is_integer => k_is)
    (case k_is_integer => k_is)
    (case a_is_integer_within => k_is)
    (case l_is_integer_within => k_is)
    (case c_is_integer_within => k_is)
    (case k_is_integer_within => k_is)
    (case a_is_pair_of_integers => k_is)
    (case l_is_pair_of_integers => k_is)
    (case c_is_pair_of_integers => k_is)
    (case k_is_pair_of_integers => k_is)
    (case a_is_resistance => k_is)
    (case l_is_resistance => k_is)
    (case c_is_resistance => k_is)
    (case k_is_resistance => k_is)
    (case a_pair_of => k_is)
    (case l_pair_of => k_is)
    (case c_pair_of => k_is)
    (case k_pair_of => k_is)
    (case a_common_divisor => k_is)
    (case l_common_divisor => k_is)
    (case c_common_divisor => k_is)
    (case k_common_divisor => k_is)
    (case a_lowest_terms => k_is)
    (case l_lowest_terms => k_is)
    (case c_lowest_terms => k_is)
    (case k_lowest_terms => k_is)
    (case a_lowest_pair => k_is)
    (case l_lowest_pair => k_is)
    (case c_lowest_pair => k_is)
    (case k_lowest_pair => k_is)
    (case a_is_piece => k_is)
    (case l_is_piece => k_is)
    (case c_is_piece => k_is)
    (case k_is_piece => k_is)
    (case a_checked_row => k_is)
    (case l_checked_row => k_is)
    (case c_checked_row => k_is)
    (case k_checked_row => k_is)
    (case a_matrix_and_scale => k_is)
    (case l_matrix_and_scale => k_is)
    (case c_matrix_and_scale => k_is)
    (case k_matrix_and_scale => k_is)
    (case a_shown_before => k_is)
    (case l_shown_before => k_is)
    (case c_shown_before => k_is)
    (case k_shown_before => k_is)
    (case a_piece_text => k_is)
    (case l_piece_text => k_is)
    (case c_piece_text => k_is)
    (case k_piece_text => k_is)
    (case a_piece_with_text => k_is)
    (case l_piece_with_text => k_is)
    (case c_piece_with_text => k_is)
    (case k_piece_with_text => k_is)
    (case a_law_cup => k_is)
    (case l_law_cup => k_is)
    (case c_law_cup => k_is)
    (case k_law_cup => k_is)
    (case a_law_sip => k_is)
    (case l_law_sip => k_is)
    (case c_law_sip => k_is)
    (case k_law_sip => k_is)
    (case a_law_pick => k_is)
    (case l_law_pick => k_is)
    (case c_law_pick => k_is)
    (case k_law_pick => k_is)
    (case z_ValueError => k_is)
    (case z_LookupError => k_is)
    (case z_ArithmeticError => k_is)
    (case a_WrongValue_init => k_is)
    (case i_WrongValue_init => k_is)
    (case l_WrongValue_init => k_is)
    (case c_WrongValue_init => k_is)
    (case k_WrongValue_init => k_is)
    (case rd_19 => k_is)
    (case ga_19 => k_is)
    (case fc_19 => k_is)
    (case a_InvalidText_init => k_is)
    (case i_InvalidText_init => k_is)
    (case l_InvalidText_init => k_is)
    (case c_InvalidText_init => k_is)
    (case k_InvalidText_init => k_is)
    (case xb_5 => kernel_rfl)
    (case ro_5 => kernel_rfl)
    (case any_5 => kernel_rfl)
    (case ty_5 => k_is)
    (case no_5 => k_is)
    (case a_law_classes => k_is)
    (case l_law_classes => k_is)
    (case c_law_classes => k_is)
    (case k_law_classes => k_is)
    (case a_law_caught => k_is)
    (case l_law_caught => k_is)
    (case c_law_caught => k_is)
    (case k_law_caught => k_is)
    (case a_row_text => k_is)
    (case l_row_text => k_is)
    (case c_row_text => k_is)
    (case k_row_text => k_is)
    (case a_Pattern_str => k_is)
    (case i_Pattern_str => k_is)
    (case l_Pattern_str => k_is)
    (case c_Pattern_str => k_is)
    (case k_Pattern_str => k_is)
    (case a_Pattern_len => k_is)
    (case i_Pattern_len => k_is)
    (case l_Pattern_len => k_is)
    (case c_Pattern_len => k_is)
    (case k_Pattern_len => k_is)
    (case pa_Pattern_pieces => k_is)
    (case pg_Pattern_pieces => k_is)
    (case pt_Pattern_pieces => k_is)
    (case pc_Pattern_pieces => k_is)
    (case l_Pattern_pieces => k_is)
    (case c_Pattern_pieces => k_is)
    (case k_Pattern_pieces => k_is)
    (case a_law_row => k_is)
    (case l_law_row => k_is)
    (case c_law_row => k_is)
    (case k_law_row => k_is)
    (case a_law_words => k_is)
    (case l_law_words => k_is)
    (case c_law_words => k_is)
    (case k_law_words => k_is)
    (case a_law_piece => k_is)
    (case l_law_piece => k_is)
    (case c_law_piece => k_is)
    (case k_law_piece => k_is)
    (case a_law_due => k_is)
    (case l_law_due => k_is)
    (case c_law_due => k_is)
    (case k_law_due => k_is)
    (case a_law_bent => k_is)
    (case l_law_bent => k_is)
    (case c_law_bent => k_is)
    (case k_law_bent => k_is)
    (case a_law_right => k_is)
    (case l_law_right => k_is)
    (case c_law_right => k_is)
    (case k_law_right => k_is)
    (case e_law_right => rfl)
    (case lc_law_right => k_is)
    (case pl_law_right => rfl)
    (case ch_law_right => kernel_rfl)
    (case tt_law_right => exact hT8 _ (by k_mem))
    (case kn_law_right => kernel_rfl)
    (case a_law => k_is)
    (case l_law => k_is)
    (case c_law => k_is)
    (case k_law => k_is)
    (case e_law => rfl)
    (case lc_law => k_is)
    (case pl_law => rfl)
    (case ch_law => kernel_rfl)
    (case tt_law => exact hT8 _ (by k_mem))
    (case kn_law => kernel_rfl)
    (case ne_law_right_law => decide)
    (case ne_law_law_right => decide)

