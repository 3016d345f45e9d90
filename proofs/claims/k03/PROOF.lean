import PyProof.Rows.All
import Wide.All
import OpenK.AllK
import Wide.FinOn
import HandS.ForMost
import HandS.IsInst
import HandS.Wide
import HandS.WideBits
import HandS.MakeKwOnly
import HandS.SlotsOwn
import PyProof.ReprRoads
import HandS.Property
import HandS.FStr
import HandS.RaiseMore
import KE.KCallOwn
import PyProof.InstNe
import PyProof.ReprLen
import PyProof.Rows.ReprOcc
import HandS.Star
import HandS.ClsMeth
import HandS.Style
import HandS.TupAny
import HandS.Deep
import KE.KRevSl
import HandS.Exc
import KE.KExcInit
import HandS.ExcInit
import KE.KExcIs
import PyProof.CallFns
import HandS.Dict
import HandS.Iter
import HandS.HotCalls
import HandS.ExcInitHot
import HandS.Lambda
import HandS.Comp
import KE.KLam
import HandS.Codes
import PyProof.ExcBaseAll.LookupError
import PyProof.ExcBaseAll.ArithmeticError
import PyProof.ExcBaseAll.ValueError
import PyProof.InstStoreFacts
import PyProof.StrLawsRepr
import PyProof.EqLayable
import HandS.EndTab
import KE.KNestM
import KE.GoesMore
import OpenK.KOps
import HandS.TryOnly
import KE.RegKIsAll
import PySem.Challenge.RW_rungladders_k03_exact_numbers_refused
set_option Elab.async false
set_option linter.all false
set_option maxRecDepth 100000
/-! Defs that are called where no repr is under way: repr of lists and tuples within them; == by an own __eq__. -/
namespace RL
open PySem L2 PySem.Spec PyProof.Rows
structure FnG (P : Program) (w : World) (K : PySem.W.Frag) (mg : Str → Option Value) (base : Heap) (k : Nat) (f : Addr) (fd : FuncData) (ps : List Str) (sp : Sp) : Prop where
  len : ∀ vs H Q E, sp vs H Q E → vs.length = ps.length
  run : ∀ (A : Around) (outer : List Env) (s : Shared) (H : Hp) (args : Args) (us : List Value) (vs : List V) (Q : VK) (E : XK), A.guards = some [] → Room k A → Env0 P w K mg base A outer s H → BindsTo s fd args (ps.zip us) → Vals vs us → sp vs H Q E →
    codeAny (model P w) A (.call (.ref f) args) (CR CX0 outer P w H s Q E) s
section
variable {P : Program} {w : World} {K : PySem.W.Frag} {mg : Str → Option Value} {base : Heap}
theorem okG {x qual : Str} {st : Stmt} {f : Addr} {fd : FuncData} {N ps : List Str} {k : Nat} {sp : Sp} (F : Fun K x qual st f fd) (S : FnScope N ps (defScope st)) (len : ∀ vs H Q E, sp vs H Q E → vs.length = ps.length)
    (bd : ∀ (cdv : Value) (A : Around) (outer : List Env) (s : Shared) (H : Hp) (vs : List V) (Q : VK) (E : XK), A.guards = some [] → Room k (A.deeper (envOfC qual (defScope st) s.heap.objs.size f cdv)) → sp vs H Q E →
      ∃ t, PSs (cxOf CX0 P w K mg base N qual (defScope st) f cdv A outer s H E).nox (defBody st) t ∧ t { nx := fun _ H' => Q .non H', rt := Q } (start N vs) H) : FnG P w K mg base (k + 1) f fd ps sp := by
  obtain ⟨oc, od, kV, doc, pm, an, cdv, ct, osl, rfl, lk, hcd⟩ := F.ex
  refine ⟨len, fun A outer s H args us vs Q E hg hr e0 hb r hsp => ?_⟩
  have KX : K.In s.heap := e0.mod.kin.keeps fun b o e => (e0.bs b o e).1
  have lim := e0.mod.nolimit.keeps fun b o e => (e0.bs b o e).1
  refine codeAny_call_function hr.depth (KX _ _ lk) rfl S.co S.gen rfl (PySem.W.codeRec_of KX hcd) (hb _ _ _ _ (wpAny_newFunctionEnv_cells S.kind (fun ⟨n, v⟩ hy => ?_) fun env he s1 x => ?_))
  · exact (S.par n (List.of_mem_zip hy).1).imp id fun q => ⟨q, PySem.W.cellsFrom_some _ _ _ (.inl q)⟩
  · subst he
    obtain ⟨t, ht, hq⟩ := bd cdv A outer s H vs Q E hg (hr.deeper _) hsp
    have I : Inv (cxOf CX0 P w K mg base N qual (defScope st) f cdv A outer s H E) [] (start N vs) H s1 := inv_start S hr.hd e0 (len _ _ _ _ hsp) r x
    refine ⟨lim.keeps x.toInCall.keep, codeAny_func (wpAny_mono (ht.nox.run [] s1 _ H _ I hq) (fun fl s' hs => ?_) fun _ _ z => z)⟩
    cases fl with
    | ret u =>
      obtain ⟨v, σ', H', J, rv, q⟩ := hs
      exact ⟨v, H', J.os, J.bare, J.base, J.hok, rv, q⟩
    | next =>
      obtain ⟨σ', H', J, q⟩ := hs
      exact ⟨V.non, H', J.os, J.bare, J.base, J.hok, rfl, q⟩
    | brk => exact hs.elim fun _ z => z.elim fun _ y => False.elim y.2
    | cont => exact hs.elim fun _ z => z.elim fun _ y => False.elim y.2
end
structure DfG (P : Program) (w : World) (K : PySem.W.Frag) (mg : Str → Option Value) (base : Heap) (k : Nat) (x : Str) (ps : List Str) (sp : Sp) : Prop where
  ex : ∃ (f : Addr) (fd : FuncData), FnG P w K mg base k f fd ps sp ∧ mg x = some (.ref f) ∧ PySem.W.keepIn K (.ref f) = true ∧ Binds K fd ps []
section
variable {X : Cx} {k : Nat} {ps : List Str} {sp : Sp} {x : Str} {p pos : Pos} {e : Expr} {es : List Expr} {t : TA}
theorem pe_dfG (D : DfG X.prog X.w X.K X.mg X.base k x ps sp) (hG : X.A.guards = some []) (hr : Room k X.A) (hg : Gl X x)
    (ha : PA X (e :: es) t) (hdb : (x == ("__debug__" : Str)) = false := by decide) (he : starEach (e :: es) X.env = (false, eval e X.env) :: starEach es X.env := by rfl) (hpl : (backTo pos (starEach es X.env)).any (·.1) = false := by rfl) :
    PE X (.Call (.Name x p) (e :: es) [] pos) (tCall sp [] E0 t) := by
  obtain ⟨f, fd, F, hm, hk, hb⟩ := D.ex
  refine ⟨fun pins s σ H Q I h => wpAny_Call_Name_kw (ld_glob I hg hm (PySem.W.callWith_K (h₀ := X.base) I.ok.mod.kin hk (thn (ha.run pos pins s σ H _ I h) fun us s1 ⟨vs, H1, I1, r, q⟩ => ⟨I1.kIn, ?_⟩) he hpl) hdb)⟩
  have q0 : sp vs H1 Q E0 := by
    have q1 : sp (vs ++ []) H1 Q E0 := q
    rw [List.append_nil] at q1
    exact q1
  have hl : (us ++ []).length = ps.length := by
    rw [List.append_nil, ← r.length]
    exact F.len _ _ _ _ q0
  have hbb := hb s1 us I1.kIn hl
  rw [List.append_nil] at hbb
  refine wpAny_call (codeAny_mono (F.run X.A X.stack s1 H1 ⟨us, []⟩ us vs Q E0 hG hr I1.env0 hbb r q0) fun z s' hq => ?_)
  cases z with
  | error e => exact hq.elim
  | ok fl =>
    cases fl with
    | ret u => exact I1.after hq
    | next => exact hq.elim
    | brk => exact hq.elim
    | cont => exact hq.elim
/-! ### repr of a list or tuple of plain things -/
def rRepr (K : PySem.W.Frag) : List V → Hp → VK → Prop := fun vs H Q => ∃ (a : Addr) (d : PyData), vs = [.ref a] ∧ Dp K H (.ref a) d ∧ d.showable = true ∧ d.hasDict = false ∧ d.depth ≤ 40 ∧ d.shown.length ≤ sizeLine ∧ Q (.str d.shown) H
theorem cr_repr (hG : X.A.guards = some []) (hu : X.A.units + 64 < cLine) : CallR X (.builtin "repr") (rRepr X.K) := by
  intro pins s σ H vs us Q I r h
  obtain ⟨a, d, rfl, hd, h1, h2, h3, h4, q⟩ := h
  obtain ⟨as, rd⟩ := Dp.reads I d _ (.ref a) hd rfl
  rw [Vals.ref1 r]
  refine repr_of_reads' (h₀ := s.heap) rd h1 (fun z => by rw [h2] at z; cases z) hG (by omega) (fun _ _ z => z) (fun h' u tk hk => ?_) h4
  exact ⟨.str d.shown, H, I.kept hk, ⟨_, rfl⟩, q⟩
/-! ### == by an own __eq__ -/
def rEqOwn (K : PySem.W.Frag) (C : Addr) (sp : Sp) : R2 := fun x y H Q => ∃ a dx fs ty, x = .ref a ∧ H a = some (.ins C dx fs) ∧ TyX K H y ty ∧ PySem.W.notFirst K C ty = true ∧ sp [x, y] H Q E0
theorem op_eqOwn {C g : Addr} {fd : FuncData} (hs : PySem.W.findIn X.K (.ref C) "__eq__" = some (some (.ref g))) (hf : PySem.W.isFn X.K (.ref g) = true) (F : FnOk X.prog X.w X.K X.mg X.base CX0 k g fd ps sp) (hb : Binds X.K fd ps []) (hr : Room k X.A) :
    OpR X (compareOp .Eq) (rEqOwn X.K C sp) := by
  intro pins s σ H x y v u Q I rx ry h
  obtain ⟨a, dx, fs, ty, rfl, ha, hy, hn, q⟩ := h
  cases (show v = Value.ref a from rx)
  obtain ⟨mA, O, _⟩ := ins_get I.hok ha
  obtain ⟨od, J, _⟩ := O.look
  obtain ⟨PH, Z, ph, _⟩ := kit_of I ry hy
  obtain ⟨m, hF⟩ := I.fr
  show wpAny _ _ (richCompare .Eq (.ref a) u) _ _ _
  refine PySem.W.cmp_K (op := .Eq) hr.units0 hF I.ok.mod.kin J (Z.ty _ _ I.kIn ph) hn hs hf ?_
  have q0 : sp ([.ref a, y] ++ []) H Q E0 := q
  refine wpAny_mono (run_fn (us := [.ref a, u]) (vs := [.ref a, y]) F hr hb .nil pass0 I (.cons rfl (.cons ry .nil)) q0) (fun w s' z => ?_) fun _ _ z => z
  obtain ⟨z', H', I', rz, qz⟩ := z
  exact SlX.cmpback rz ⟨z', H', I', rz, qz⟩
end
end RL

/-! The end of a law whose own def is promised where no repr is under way. -/
namespace RL
open PySem L2 PySem.Spec PyProof.Rows
/-- the call, once the abstract heap is chosen -/
theorem law_runG {P : Program} {w : World} {K : PySem.W.Frag} {mg mb : Str → Option Value} {k : Nat} {fa a : Addr} {fd : FuncData} {x : Str} {sp : Sp} {s1 : Shared} {vs : List Value} {H : Hp}
    (KX : K.In s1.heap) (hns : s1.heap.Ns mainGlobals mg) (hb : s1.heap.Ns builtinsNs mb) (hbb : ∀ x : Str, x ≠ "__name__" → mb x = bootBuiltins x) (hlim : s1.heap.NoLimit) (hgen : s1.gens = #[])
    (ha : s1.heap.get? a = some { cls := .type "list", data := .seq vs.toArray }) (hr : Room k callerA)
    (F : ∀ base : Heap, K.In base → base.Ns mainGlobals mg → FnG P w K mg base k fa fd [x] sp) (hbind : ∀ (s : Shared) (u : Value), BindsTo s fd ⟨[u], []⟩ [(x, u)])
    (hO : Only H) (hsp : sp [.ref a] H (fun v _ => v = .bl true) fun _ _ _ => False) (hok : HOk P w H s1.heap) (hA : ∀ b u, H b = some u → b = a ∧ K.lookup a = none) :
    codeAny (model P w) callerA (.call (.ref fa) ⟨[.ref a], []⟩) (fun r s' => r = .ok (.ret (.bool true)) ∧ OldK s1.heap s'.heap ∧ s'.os = s1.os ∧ AllBare s'.gens) s1 := by
  have free : ∀ {b : Addr} {o : Obj}, s1.heap.get? b = some o → (b = a → o.data ≠ .seq vs.toArray) → H b = none := fun {b o} e n => by
    cases q : H b with
    | none => rfl
    | some u =>
      obtain ⟨rfl, _⟩ := hA b u q
      rw [ha] at e
      cases e
      exact absurd rfl (n rfl)
  have ns1 : ∀ {b : Addr} {m : Str → Option Value}, s1.heap.Ns b m → (hidT s1.heap H).Ns b m := fun {b m} ⟨o, es, ep, e, d, r⟩ => ⟨o, es, ep, hidT_get e (free e fun _ z => by rw [d] at z; cases z), d, r⟩
  have kin : K.In (hidT s1.heap H) := fun b o e => hidT_get (KX b o e) (by
    cases q : H b with
    | none => rfl
    | some u =>
      obtain ⟨rfl, z⟩ := hA b u q
      rw [z] at e
      cases e)
  obtain ⟨mc, c1, c2⟩ := hlim
  have e0 : Env0 P w K mg (hidT s1.heap H) callerA [] s1 H :=
    { frames := rfl, mod := ⟨kin, ns1 hns, ⟨mb, ns1 hb, hbb⟩, ⟨mc, ns1 c1, c2⟩⟩, bs := fun b o e => of_hidT e, bsz := Nat.le_of_eq (hidT_size _ _), funs := trivial, frf := fun b z => absurd (show b ∈ ([] : List Addr) from z) (by simp), hok := hok, bare := .of_eq hgen }
  refine codeAny_mono ((F _ kin (ns1 hns)).run callerA [] s1 H ⟨[.ref a], []⟩ [.ref a] [.ref a] _ _ rfl hr e0 (hbind s1 (.ref a)) (.cons rfl .nil) hsp) fun r s' h => ?_
  match r, h with
  | .ok (.ret u), ⟨v, H', os, bare, un, hok', r', q⟩ =>
    cases (show v = V.bl true from q)
    cases (show u = Value.bool true from r')
    refine ⟨rfl, OldK.of_keep fun b o e => ?_, os, bare⟩
    cases q2 : H b with
    | none => exact un.keep b o e q2 (fun z => absurd (show b ∈ ([] : List Addr) from z) (by simp)) (by simp)
    | some u =>
      rcases hO b with z | ⟨ob, xs, z⟩
      · rw [q2] at z
        cases z
      · obtain ⟨e1, _⟩ := hok b _ z
        obtain ⟨e2, _⟩ := hok' b _ (un.frzs b ob _ z)
        rw [e] at e1
        cases e1
        exact e2
theorem walk_ofG {l : PySem.W.OpenLaw} {n k : Nat} {q : Program} {loose : List Str} {XP : (Str → Option Value) → Heap → Prop} {YP : World → Heap → Prop} {d : DefRec} {K : Params → PySem.W.Frag} {sp : World → Sp} {x : Str}
    (hn : l.most = some n) (hn2 : n ≤ sizeLine) (hdf : d.params.defaults = []) (hr : Room k callerA) (hY : ∀ (w : World) (h : Heap), YP w h → (K w.params).In h)
    (F : ∀ (w : World) (mg : Str → Option Value) (fa : Addr) (h : Heap), (K w.params).In h → h.Ns mainGlobals mg → mg d.name = some (.ref fa) →
      ∃ fd : FuncData, (∀ (s : Shared) (u : Value), BindsTo s fd ⟨[u], []⟩ [(x, u)]) ∧ ∀ base : Heap, (K w.params).In base → base.Ns mainGlobals mg → FnG l.prog w (K w.params) mg base k fa fd [x] (sp w))
    (hsp : ∀ (w : World) (H : Hp) (a : Addr) (ns : List Int), ns.length ≤ n → Only H → SqL (K w.params) H a (ns.map V.int) → sp w [.ref a] H (fun v _ => v = .bl true) fun _ _ _ => False) :
    PySem.W.WalkO q loose XP YP l.row.toRowW d [] (fun f vs => PySem.call f vs) := by
  refine Att.attach_call hn hdf fun w s0 s1 mg mb fa o pm cd doc a vs ns G Y ho hd hcd hmg hobj hints hlen hgen => ?_
  have KX := hY w _ Y
  obtain ⟨fd, hb, hF⟩ := F w mg fa _ KX G.T.g hmg
  have rv := vals_ints hints
  have hl : ns.length ≤ sizeLine := Nat.le_trans hlen hn2
  have lenV := hints.length
  cases hk : (K w.params).lookup a with
  | some ob =>
    have e := KX a ob hk
    rw [hobj] at e
    cases e
    refine law_runG (H := fun _ => none) KX G.T.g G.T.b G.T.builtins G.T.nolimit hgen hobj hr hF hb (fun _ => .inl rfl) (hsp w _ a ns hlen (fun _ => .inl rfl) (.inr ⟨_, vs.toArray, _, hk, rfl, rfl, rfl, by rw [List.size_toArray, lenV]; exact hl, by simpa using rv⟩)) (fun b u z => ?_) fun b u z => ?_
    · cases (show (none : Option HO) = some u from z)
    · cases (show (none : Option HO) = some u from z)
  | none =>
    have only : Only (fun b => if b = a then some (HO.frz { cls := .type "list", data := .seq vs.toArray } (.lst (ns.map V.int))) else none) := fun b => by
      by_cases z : b = a
      · exact .inr ⟨_, _, if_pos z⟩
      · exact .inl (if_neg z)
    have at_ : ∀ {b : Addr} {u : HO}, (if b = a then some (HO.frz { cls := .type "list", data := .seq vs.toArray } (.lst (ns.map V.int))) else none) = some u → b = a ∧ u = HO.frz { cls := .type "list", data := .seq vs.toArray } (.lst (ns.map V.int)) := fun {b u} z => by
      by_cases y : b = a
      · rw [if_pos y] at z
        exact ⟨y, (Option.some.inj z).symm⟩
      · rw [if_neg y] at z
        cases z
    refine law_runG (H := fun b => if b = a then some (HO.frz { cls := .type "list", data := .seq vs.toArray } (.lst (ns.map V.int))) else none) KX G.T.g G.T.b G.T.builtins G.T.nolimit hgen hobj hr hF hb only (hsp w _ a ns hlen only (.inl (.inr ⟨_, if_pos rfl⟩))) (fun b u z => ?_) fun b u z => ⟨(at_ z).1, hk⟩
    obtain ⟨rfl, rfl⟩ := at_ z
    exact ⟨hobj, by rw [List.length_map]; exact hl, vs, _, rv, hobj⟩
end RL

/-! != of an own class with __eq__ alone; str and repr of its instances; a new one by keywords. -/
namespace RL
open PySem L2 PySem.Spec PyProof.Rows PySem.W Builtin
section
variable {prog : Program} {w : World} {A : Around} {E : Value → Shared → Prop} {s : Shared} {K : Frag} {x C L f : Addr} {h₀ : Heap} {m : Str → Option Value} {ox : Obj} {od : Option Obj} {b tb : Value}
/-- object.__ne__ asks the own __eq__ -/
theorem ne_entry {Q : Fin → Shared → Prop} (X : K.In s.heap) (I : InstAt s.heap x ox C od) (hs : findIn K (.ref C) "__eq__" = some (some (.ref f))) (hf : isFn K (.ref f) = true) (hu : A.units < cLine)
    (hc : wpAny (model prog w) A (call (.ref f) [.ref x, b]) (fun v s' => ∃ t, v = .bool t ∧ Q (.done (.ret (.bool (!t)))) s') E s) : wpAny (model prog w) A (Builtin.«object.__ne__» ⟨[.ref x, b], []⟩) Q E s := by
  unfold Builtin.«object.__ne__»
  repeat (first
    | with_reducible refine wpAny_cRoomFor hu ?_
    | (refine wpAny_bind (m := callSpecialIfBound? (.ref x) (Str.ofString "__eq__") [b])
        (ifBound_K X I hs hf (wpAny_mono hc (fun r s' hr => by
          obtain ⟨t, rfl, hq⟩ := hr
          repeat (first | exact hq | exact wpAny_pure hq | exact wpAny_truthy_bool hq | (refine wpAny_bind (m := truthy (.bool _)) (wpAny_truthy_bool ?_)) | wp_step)) fun _ _ z => z)))
    | wp_step)
theorem ne_try {Q : Value → Shared → Prop} (X : K.In s.heap) (I : InstAt s.heap x ox C od) (hne : findIn K (.ref C) "__ne__" = some (some (.builtin "object.__ne__"))) (hsub : subIn K (.ref C) (.type "object") = some true) (hs : findIn K (.ref C) "__eq__" = some (some (.ref f))) (hf : isFn K (.ref f) = true) (hu : A.units + 1 < cLine)
    (hc : wpAny (model prog w) A.in1 (call (.ref f) [.ref x, b]) (fun v s' => ∃ t, v = .bool t ∧ Q (.bool (!t)) s') E s) : wpAny (model prog w) A (tryCompare (.ref x) "__ne__" b) (fun r s' => ∃ v, r = some v ∧ Q v s') E s := by
  unfold tryCompare
  have go : wpAny (model prog w) A (call (.builtin "object.__ne__") [.ref x, b]) (fun v s' => ∃ t, v = .bool t ∧ Q v s') E s := by
    refine wpAny_call (codeAny_call_builtin PySem.F.cmp_object.ne.plain PySem.F.cmpEntry_ne (@check_slot (model prog w) _ _ s "object.__ne__" "object" "__ne__" (.ref x) [b] [] _ PySem.F.cmpKind_ne PySem.F.cmpSplit_ne (I.type.andThen (looks_subIn X hsub)) (PySem.F.cmpArgs_ne _ _) ?_))
    exact ne_entry (A := A.in1) X I hs hf hu (wpAny_mono hc (fun v s' hv => by obtain ⟨t, rfl, q⟩ := hv; exact ⟨t, rfl, ⟨_, rfl, q⟩⟩) fun _ _ z => z)
  have bd : wpAny (model prog w) A (callSpecialIfBound? (.ref x) "__ne__" [b]) (fun r s' => ∃ t, r = some (.bool t) ∧ Q (.bool t) s') E s := by
    simp only [callSpecialIfBound?, bindSpecialIfBound?]
    refine wpAny_holding (wpAny_bind (wpAny_bind (wpAny_bind (I.type.here ((looks_findIn X hne).here ?_)))))
    refine wpAny_bind (wpAny_askSetting (wpAny_ite ?_))
    have fin : wpAny (model prog w) A (call (.builtin "object.__ne__") ([.ref x] ++ [b]) >>= fun v => pure (some v)) (fun r s' => ∃ t, r = some (.bool t) ∧ Q (.bool t) s') E s := wpAny_bind (wpAny_mono go (fun v s' ⟨t, e, q⟩ => wpAny_pure ⟨t, by rw [e], e ▸ q⟩) fun _ _ z => z)
    have e := PySem.F.cmp_object.ne.bind (.ref x)
    split
    · exact wpAny_bind (wpAny_of_eq e (wpAny_pure (by exact fin)))
    · exact wpAny_tryCatch (wpAny_bind (wpAny_of_eq e (wpAny_pure (by exact fin))))
  refine wpAny_bind (wpAny_mono bd (fun r s' hr => ?_) fun _ _ z => z)
  obtain ⟨t, rfl, q⟩ := hr
  exact wpAny_pure ⟨_, rfl, q⟩
theorem ne_K {Q : Value → Shared → Prop} (hu : A.units + 1 < cLine) (F : Fr h₀ L s.heap m) (X₀ : K.In h₀) (I : InstAt s.heap x ox C od) (hb : Looks (model prog w) s.heap (typeOf b) tb) (hn : notFirst K C tb = true)
    (hne : findIn K (.ref C) "__ne__" = some (some (.builtin "object.__ne__"))) (hsub : subIn K (.ref C) (.type "object") = some true) (hs : findIn K (.ref C) "__eq__" = some (some (.ref f))) (hf : isFn K (.ref f) = true)
    (h : wpAny (model prog w) A.in1 (call (.ref f) [.ref x, b]) (fun v s' => ∃ t, v = .bool t ∧ Q (.bool (!t)) s') E s) : wpAny (model prog w) A (richCompare .NotEq (.ref x) b) Q E s := by
  have X := X₀.keeps F.keep
  have one := ne_try (A := A) (b := b) (Q := Q) X I hne hsub hs hf hu h
  have last : ∀ (r : Option Value) (s' : Shared), (∃ v, r = some v ∧ Q v s') → ∃ v, r = some v ∧ Q v s' := fun _ _ z => z
  unfold richCompare
  simp only [oneThing_ref]
  refine wpAny_holding (wpAny_bind (wpAny_cRoomFor (Nat.lt_of_succ_lt hu) (wpAny_bind (I.type.here (wpAny_bind (hb.here ?_))))))
  split
  · rename_i q
    have e : subIn K tb (.ref C) = some false := (Bool.or_eq_true_iff.mp hn).elim (fun z => by rw [beq_iff_eq.mp z] at q; simp at q) beq_iff_eq.mp
    refine wpAny_bind ((looks_subIn X e).here ?_)
    simp only [Bool.false_eq_true, if_false]
    exact wpAny_bind (wpAny_mono one (fun r s' ⟨v, e, hq⟩ => by subst e; exact wpAny_pure hq) fun _ _ z => z)
  · refine wpAny_bind (wpAny_pure ?_)
    simp only [Bool.false_eq_true, if_false]
    exact wpAny_bind (wpAny_mono one (fun r s' ⟨v, e, hq⟩ => by subst e; exact wpAny_pure hq) fun _ _ z => z)
end
section
variable {X : Cx} {k : Nat} {ps : List Str} {sp : Sp} {C g : Addr} {fd : FuncData}
def rNeOwn (K : PySem.W.Frag) (C : Addr) (sp : Sp) : R2 := fun x y H Q => ∃ a dx fs ty, x = .ref a ∧ H a = some (.ins C dx fs) ∧ TyX K H y ty ∧ PySem.W.notFirst K C ty = true ∧ sp [x, y] H (fun v H' => ∃ t, v = .bl t ∧ Q (.bl (!t)) H') E0
theorem op_neOwn (hne : PySem.W.findIn X.K (.ref C) "__ne__" = some (some (.builtin "object.__ne__"))) (hsub : PySem.W.subIn X.K (.ref C) (.type "object") = some true) (hs : PySem.W.findIn X.K (.ref C) "__eq__" = some (some (.ref g))) (hf : PySem.W.isFn X.K (.ref g) = true)
    (F : FnOk X.prog X.w X.K X.mg X.base CX0 k g fd ps sp) (hb : Binds X.K fd ps []) (hr : Room (k + 1) X.A) : OpR X (compareOp .NotEq) (rNeOwn X.K C sp) := by
  intro pins s σ H x y v u Q I rx ry h
  obtain ⟨a, dx, fs, ty, rfl, ha, hy, hn, q⟩ := h
  cases (show v = Value.ref a from rx)
  obtain ⟨mA, O, _⟩ := ins_get I.hok ha
  obtain ⟨od, J, _⟩ := O.look
  obtain ⟨PH, Z, ph, _⟩ := kit_of I ry hy
  obtain ⟨m, hF⟩ := I.fr
  show wpAny _ _ (richCompare .NotEq (.ref a) u) _ _ _
  refine ne_K (hu_of hr) hF I.ok.mod.kin J (Z.ty _ _ I.kIn ph) hn hne hsub hs hf ?_
  have hl : ([Value.ref a, u] ++ []).length = ps.length := F.len _ _ _ _ q
  have hbb := hb s [.ref a, u] I.kIn hl
  refine wpAny_call (codeAny_mono (F.run X.A.in1 X.stack s H ⟨[.ref a, u], []⟩ [.ref a, u] [.ref a, y] _ E0 hr.in1 I.env0.in1 hbb (.cons rfl (.cons ry .nil)) q) fun z s' hq => ?_)
  match z, hq with
  | .ok (.ret w'), hq =>
    obtain ⟨v', H', I', rv, t, e, qz⟩ := I.after hq
    subst e
    cases (show w' = Value.bool t from rv)
    exact ⟨t, rfl, .bl (!t), H', I', rfl, qz⟩
/-! ### str and repr of an instance -/
def rTextOwn (C : Addr) (sp : Sp) : List V → Hp → VK → Prop := fun vs H Q => ∃ a dx fs, vs = [.ref a] ∧ H a = some (.ins C dx fs) ∧ sp [.ref a] H (fun z H' => ∃ y : Str, z = .str y ∧ Q z H') E0
theorem cr_reprOwn (hs : PySem.W.findIn X.K (.ref C) "__repr__" = some (some (.ref g))) (hf : PySem.W.isFn X.K (.ref g) = true) (F : FnOk X.prog X.w X.K X.mg X.base CX0 k g fd ps sp) (hb : Binds X.K fd ps []) (hr : Room (k + 1) X.A) : CallR X (.builtin "repr") (rTextOwn C sp) := by
  intro pins s σ H vs us Q I r h
  obtain ⟨a, dx, fs, rfl, ha, q⟩ := h
  rw [Vals.ref1 r]
  obtain ⟨mA, O, _⟩ := ins_get I.hok ha
  obtain ⟨od, J, _⟩ := O.look
  obtain ⟨m, hF⟩ := I.fr
  refine PySem.W.repr_K (hu_of hr) hF I.ok.mod.kin J hs hf ?_
  have hl : ([Value.ref a] ++ []).length = ps.length := F.len _ _ _ _ q
  refine wpAny_call (codeAny_mono (F.run X.A.in1 X.stack s H ⟨[.ref a], []⟩ [.ref a] [.ref a] _ E0 hr.in1 I.env0.in1 (hb s [.ref a] I.kIn hl) (.cons rfl .nil) q) fun z s' hq => ?_)
  match z, hq with
  | .ok (.ret w'), hq =>
    obtain ⟨v', H', I', rv, y, e, qz⟩ := I.after hq
    subst e
    obtain ⟨t, e2⟩ := (show ∃ t, w' = Value.str y t from rv)
    subst e2
    exact ⟨.str y, H', I', ⟨t, rfl⟩, qz⟩
theorem cr_strOwn (hs : PySem.W.findIn X.K (.ref C) "__str__" = some (some (.ref g))) (hf : PySem.W.isFn X.K (.ref g) = true) (F : FnOk X.prog X.w X.K X.mg X.base CX0 k g fd ps sp) (hb : Binds X.K fd ps []) (hr : Room (k + 2) X.A) : CallR X (.type "str") (rTextOwn C sp) := by
  intro pins s σ H vs us Q I r h
  obtain ⟨a, dx, fs, rfl, ha, q⟩ := h
  rw [Vals.ref1 r]
  obtain ⟨mA, O, _⟩ := ins_get I.hok ha
  obtain ⟨od, J, _⟩ := O.look
  have hr2 : Room k X.A.in1.in1 := (show Room (k + 1) X.A.in1 from Room.in1 hr).in1
  refine PySem.W.kso_call (by have := hr2.units0; exact this) I.kIn J hs hf ?_
  have hl : ([Value.ref a] ++ []).length = ps.length := F.len _ _ _ _ q
  refine wpAny_call (codeAny_mono (F.run X.A.in1.in1 X.stack s H ⟨[.ref a], []⟩ [.ref a] [.ref a] _ E0 hr2 I.env0.in1.in1 (hb s [.ref a] I.kIn hl) (.cons rfl .nil) q) fun z s' hq => ?_)
  match z, hq with
  | .ok (.ret w'), hq =>
    obtain ⟨v', H', I', rv, y, e, qz⟩ := I.after hq
    subst e
    obtain ⟨t, e2⟩ := (show ∃ t, w' = Value.str y t from rv)
    subst e2
    exact ⟨.str y, H', I', ⟨t, rfl⟩, qz⟩
end
end RL

/-! The mathematics: whole roots, common divisors, the one equation of a number, its sign beside a fraction. -/
namespace RL
/-- small: fewer than 2 ^ n -/
def Sm (n : Nat) (x : Int) : Prop := x.natAbs < 2 ^ n
theorem Sm.mono {m n : Nat} {x : Int} (h : Sm m x) (l : m ≤ n) : Sm n x := Nat.lt_of_lt_of_le h (Nat.pow_le_pow_right (by decide) l)
theorem Sm.mul {m n : Nat} {x y : Int} (h : Sm m x) (k : Sm n y) : Sm (m + n) (x * y) := by
  unfold Sm at *
  rw [Int.natAbs_mul, Nat.pow_add]
  exact Nat.mul_lt_mul'' h k
theorem Sm.add {n : Nat} {x y : Int} (h : Sm n x) (k : Sm n y) : Sm (n + 1) (x + y) := by
  unfold Sm at *
  rw [Nat.pow_succ]
  omega
theorem Sm.sub {n : Nat} {x y : Int} (h : Sm n x) (k : Sm n y) : Sm (n + 1) (x - y) := by
  unfold Sm at *
  rw [Nat.pow_succ]
  omega
theorem Sm.neg {n : Nat} {x : Int} (h : Sm n x) : Sm n (-x) := by
  unfold Sm at *
  omega
theorem Sm.of {n : Nat} {x y : Int} (h : Sm n y) (a : -y ≤ x) (b : x ≤ y) : Sm n x := by
  unfold Sm at *
  omega
theorem Sm.div {n : Nat} {x y : Int} (h : Sm n x) (hy : 0 < y) : Sm n (x / y) := by
  unfold Sm at *
  have h1 : (x / y).natAbs ≤ x.natAbs := by
    rcases Int.le_total 0 x with hx | hx
    · have := Int.ediv_le_self y hx
      have := Int.ediv_nonneg hx (Int.le_of_lt hy)
      omega
    · have h3 : x / y ≤ 0 := by
        have := Int.ediv_le_ediv hy hx
        simpa using this
      have h2 : x ≤ x / y := by
        have h4 : x * y ≤ x := by
          have q := Int.mul_nonneg (a := -x) (b := y - 1) (by omega) (by omega)
          have e : -x * (y - 1) = x - x * y := by grind
          omega
        exact (Int.le_ediv_iff_mul_le hy).mpr h4
      omega
  omega
theorem sm40 {x : Int} (a : -(10 ^ 40) ≤ x) (b : x ≤ 10 ^ 40) : Sm 133 x := by
  unfold Sm
  have : (10 : Int) ^ 40 < 2 ^ 133 := by decide
  have e : ((2 ^ 133 : Nat) : Int) = 2 ^ 133 := by decide
  omega
/-! ### whole roots -/
def IsRt (w r : Int) : Prop := 0 ≤ r ∧ r * r ≤ w ∧ w < (r + 1) * (r + 1)
theorem IsRt.le {w r s : Int} (h : IsRt w r) (k : IsRt w s) : r ≤ s := by
  obtain ⟨h0, h1, h2⟩ := h
  obtain ⟨k0, k1, k2⟩ := k
  rcases Int.lt_or_le s r with l | l
  · have : (s + 1) * (s + 1) ≤ r * r := Int.mul_le_mul (by omega) (by omega) (by omega) (by omega)
    omega
  · exact l
theorem IsRt.eq {w r s : Int} (h : IsRt w r) (k : IsRt w s) : r = s := Int.le_antisymm (h.le k) (k.le h)
def rtN : Nat → Nat
  | 0 => 0
  | n + 1 => if (rtN n + 1) * (rtN n + 1) ≤ n + 1 then rtN n + 1 else rtN n
theorem rtN_is : ∀ n, rtN n * rtN n ≤ n ∧ n < (rtN n + 1) * (rtN n + 1)
  | 0 => ⟨Nat.le_refl _, by decide⟩
  | n + 1 => by
    have ih := rtN_is n
    unfold rtN
    split
    · rename_i h
      refine ⟨h, ?_⟩
      have : (rtN n + 1 + 1) * (rtN n + 1 + 1) = (rtN n + 1) * (rtN n + 1) + 2 * (rtN n + 1) + 1 := by grind
      omega
    · rename_i h
      omega
def rt (w : Int) : Int := (rtN w.toNat : Int)
theorem rt_is {w : Int} (h : 0 ≤ w) : IsRt w (rt w) := by
  have k := rtN_is w.toNat
  have e : (w.toNat : Int) = w := Int.toNat_of_nonneg h
  refine ⟨Int.natCast_nonneg _, ?_, ?_⟩
  · have := Int.ofNat_le.mpr k.1
    rw [Int.natCast_mul, e] at this
    exact this
  · have := Int.ofNat_lt.mpr k.2
    rw [Int.natCast_mul, e, Int.natCast_add] at this
    exact this
theorem rt_of {w r : Int} (h : IsRt w r) : r = rt w := h.eq (rt_is (Int.le_trans (Int.mul_nonneg h.1 h.1) h.2.1))
theorem rt_sm {n : Nat} {w : Int} (h0 : 0 ≤ w) (h : Sm (2 * n) w) : Sm n (rt w) := by
  obtain ⟨a, b, _⟩ := rt_is h0
  unfold Sm at *
  refine Nat.lt_of_not_le fun q => ?_
  have e : (2 : Nat) ^ (2 * n) = 2 ^ n * 2 ^ n := by rw [← Nat.pow_add]; congr 1; omega
  have : 2 ^ n * 2 ^ n ≤ (rt w).natAbs * (rt w).natAbs := Nat.mul_le_mul q q
  have e2 : (rt w * rt w).natAbs = (rt w).natAbs * (rt w).natAbs := Int.natAbs_mul _ _
  have : (rt w * rt w).natAbs ≤ w.natAbs := by
    have := Int.mul_nonneg a a
    omega
  omega
/-- a step of Newton's -/
theorem newton {n g : Int} (hn : 0 ≤ n) (hg : 0 ≤ g) (h : n < (g + 1) * (g + 1)) (l : n < g * g) :
    0 < g ∧ 0 ≤ (g + n / g) / 2 ∧ (g + n / g) / 2 < g ∧ n < ((g + n / g) / 2 + 1) * ((g + n / g) / 2 + 1) := by
  have g0 : 0 < g := by
    rcases Int.lt_or_le 0 g with q | q
    · exact q
    · have : g = 0 := by omega
      subst this
      omega
  have q0 : 0 ≤ n / g := Int.ediv_nonneg hn hg
  have q1 : n < g * (n / g + 1) := by
    have := Int.lt_mul_ediv_self_add (x := n) (k := g) g0
    rw [Int.mul_add, Int.mul_one]
    exact this
  have q2 : n / g < g := Int.ediv_lt_of_lt_mul g0 l
  generalize n / g = q at *
  have hm : g + q ≤ 2 * ((g + q) / 2) + 1 := by omega
  have h0 : 0 ≤ (g + q) / 2 := by omega
  have h1 : (g + q) / 2 < g := by omega
  generalize (g + q) / 2 = m at *
  refine ⟨g0, h0, h1, ?_⟩
  have a1 : (g + q + 1) * (g + q + 1) ≤ (2 * (m + 1)) * (2 * (m + 1)) := Int.mul_le_mul (by omega) (by omega) (by omega) (by omega)
  have a2 : 0 ≤ (g - q - 1) * (g - q - 1) := by
    rcases Int.le_total 0 (g - q - 1) with z | z
    · exact Int.mul_nonneg z z
    · exact Int.mul_nonneg_of_nonpos_of_nonpos z z
  have a3 : (g + q + 1) * (g + q + 1) = 4 * (g * (q + 1)) + (g - q - 1) * (g - q - 1) := by grind
  have a4 : (2 * (m + 1)) * (2 * (m + 1)) = 4 * ((m + 1) * (m + 1)) := by grind
  omega
/-! ### common divisors -/
def gc (a b : Int) : Int := (Int.gcd a b : Int)
theorem gc_nonneg (a b : Int) : 0 ≤ gc a b := Int.natCast_nonneg _
theorem gc_pos {a b : Int} (h : a ≠ 0 ∨ b ≠ 0) : 0 < gc a b := by
  unfold gc
  have : 0 < Int.gcd a b := by
    rcases Nat.eq_zero_or_pos (Int.gcd a b) with z | z
    · rw [Int.gcd_eq_zero_iff] at z
      omega
    · exact z
  omega
theorem gc_dvd1 (a b : Int) : gc a b ∣ a := Int.gcd_dvd_left ..
theorem gc_dvd2 (a b : Int) : gc a b ∣ b := Int.gcd_dvd_right ..
theorem gc_zero {a : Int} (h : 0 ≤ a) : gc a 0 = a := by
  unfold gc
  rw [Int.gcd_zero_right]
  omega
theorem gc_step {a b : Int} (ha : 0 ≤ a) (hb : 0 < b) : gc b (a % b) = gc a b := by
  obtain ⟨n, rfl⟩ := Int.eq_ofNat_of_zero_le ha
  obtain ⟨m, rfl⟩ := Int.eq_ofNat_of_zero_le (Int.le_of_lt hb)
  unfold gc
  congr 1
  rw [← Int.natCast_emod, Int.gcd_natCast_natCast, Int.gcd_natCast_natCast, Nat.gcd_comm, ← Nat.gcd_rec, Nat.gcd_comm]
theorem gc_abs (a b : Int) : gc (if a < 0 then -a else a) (if b < 0 then -b else b) = gc a b := by
  unfold gc
  congr 1
  split <;> split <;> simp
theorem gc_abs2 (a b : Int) : gc a (if b < 0 then -b else b) = gc a b := by
  unfold gc
  congr 1
  split <;> simp
theorem ex_mul {g a : Int} (h : g ∣ a) (hg : 0 < g) : a = g * (a / g) := (Int.mul_ediv_cancel' h).symm
/-! ### the one equation of a number -/
/-- the parts of an equation that is accepted -/
def Good (a b c : Int) : Prop := (a = 0 ∧ 1 ≤ b ∧ 0 ≤ c) ∨ (1 ≤ a ∧ 1 ≤ c)
structure Nrm (a b c s l w : Int) : Prop where
  good : Good s l w
  /-- the sign beside x / y -/
  sgn : ∀ x y : Int, 0 ≤ x → 1 ≤ y → (0 < w * y * y - l * x * y - s * x * x ↔ a * x * x + b * x * y - c * y * y < 0) ∧ (w * y * y - l * x * y - s * x * x = 0 ↔ a * x * x + b * x * y - c * y * y = 0)
/-- multiplied by a number above 0 -/
theorem pos_iff {k u : Int} (hk : 0 < k) : (0 < k * u ↔ 0 < u) ∧ (k * u = 0 ↔ u = 0) := by
  refine ⟨⟨fun h => ?_, fun h => Int.mul_pos hk h⟩, ⟨fun h => ?_, fun h => by rw [h, Int.mul_zero]⟩⟩
  · rcases Int.lt_or_le 0 u with z | z
    · exact z
    · have := Int.mul_nonpos_of_nonneg_of_nonpos (Int.le_of_lt hk) z
      omega
  · rcases Int.mul_eq_zero.mp h with z | z
    · omega
    · exact z
theorem nrm_div {a b c g : Int} (h : Good a b c) (hg : 0 < g) (da : g ∣ a) (db : g ∣ b) (dc : g ∣ c) : Nrm a b c (a / g) (b / g) (c / g) := by
  have ea := ex_mul da hg
  have eb := ex_mul db hg
  have ec := ex_mul dc hg
  generalize a / g = s at *
  generalize b / g = l at *
  generalize c / g = w at *
  subst ea eb ec
  refine ⟨?_, fun x y hx hy => ?_⟩
  · rcases h with ⟨h1, h2, h3⟩ | ⟨h1, h2⟩
    · refine .inl ⟨((pos_iff hg).2.mp h1), ?_, ?_⟩
      · have := (pos_iff (u := l) hg).1.mp (by omega)
        omega
      · rcases Int.lt_or_le w 0 with z | z
        · have := Int.mul_neg_of_pos_of_neg hg z
          omega
        · exact z
    · refine .inr ⟨?_, ?_⟩
      · have := (pos_iff (u := s) hg).1.mp (by omega)
        omega
      · have := (pos_iff (u := w) hg).1.mp (by omega)
        omega
  · have e : g * s * x * x + g * l * x * y - g * w * y * y = -(g * (w * y * y - l * x * y - s * x * x)) := by grind
    rw [e]
    have := pos_iff (k := g) (u := w * y * y - l * x * y - s * x * x) hg
    refine ⟨?_, ?_⟩
    · rw [← this.1]; omega
    · rw [← this.2]; omega
theorem rt_gt {b t r : Int} (ht : 0 < t) (hr : 0 ≤ r) (e : b * b + t = r * r) : 0 < r + b ∧ 0 < r - b := by
  refine ⟨?_, ?_⟩
  · rcases Int.lt_or_le 0 (r + b) with z | z
    · exact z
    · have h1 : 0 ≤ (-b - r) * (-b + r) := Int.mul_nonneg (by omega) (by omega)
      have h2 : (-b - r) * (-b + r) = b * b - r * r := by grind
      omega
  · rcases Int.lt_or_le 0 (r - b) with z | z
    · exact z
    · have h1 : 0 ≤ (b - r) * (b + r) := Int.mul_nonneg (by omega) (by omega)
      have h2 : (b - r) * (b + r) = b * b - r * r := by grind
      omega
theorem nrm_root {a b c r g : Int} (ha : 1 ≤ a) (hc : 1 ≤ c) (hr : 0 ≤ r) (e : b * b + 4 * a * c = r * r) (hg : 0 < g) (d1 : g ∣ r - b) (d2 : g ∣ 2 * a) : Nrm a b c 0 (2 * a / g) ((r - b) / g) := by
  have hac : 0 < 4 * a * c := Int.mul_pos (by omega) (by omega)
  obtain ⟨p1, p2⟩ := rt_gt hac hr e
  have e1 := ex_mul d1 hg
  have e2 := ex_mul d2 hg
  have l0 : 1 ≤ 2 * a / g := by
    have := (pos_iff (u := 2 * a / g) hg).1.mp (by omega)
    omega
  have w0 : 1 ≤ (r - b) / g := by
    have := (pos_iff (u := (r - b) / g) hg).1.mp (by omega)
    omega
  generalize 2 * a / g = l at *
  generalize (r - b) / g = w at *
  refine ⟨.inl ⟨rfl, l0, by omega⟩, fun x y hx hy => ?_⟩
  have k : 0 < r * y + b * y + 2 * a * x := by
    have h1 : 0 < (r + b) * y := Int.mul_pos p1 (by omega)
    have h2 : 0 ≤ 2 * a * x := Int.mul_nonneg (by omega) hx
    have h3 : (r + b) * y = r * y + b * y := by grind
    omega
  have y0 : 0 < y := by omega
  -- y * g * (w y - l x) = y * ((r - b) y - 2 a x)
  have f1 : g * (w * y * y - l * x * y - 0 * x * x) = y * ((r - b) * y - 2 * a * x) := by
    rw [e1, e2]; grind
  have f2 : 4 * a * (c * y * y - a * x * x - b * x * y) = (r * y + b * y + 2 * a * x) * ((r - b) * y - 2 * a * x) := by grind
  have q1 := pos_iff (u := w * y * y - l * x * y - 0 * x * x) hg
  have q2 := pos_iff (u := (r - b) * y - 2 * a * x) y0
  have q3 := pos_iff (k := 4 * a) (u := c * y * y - a * x * x - b * x * y) (by omega)
  have q4 := pos_iff (u := (r - b) * y - 2 * a * x) k
  rw [f1] at q1
  rw [f2] at q3
  refine ⟨?_, ?_⟩
  · rw [← q1.1, q2.1, ← q4.1, q3.1]; omega
  · rw [← q1.2, q2.2, ← q4.2, q3.2]; omega
/-- what the program keeps of an equation -/
def parts (a b c : Int) : Int × Int × Int :=
  if a = 0 then (0, b / gc c b, c / gc c b)
  else if rt (b * b + 4 * a * c) * rt (b * b + 4 * a * c) = b * b + 4 * a * c then
    (0, 2 * a / gc (rt (b * b + 4 * a * c) - b) (2 * a), (rt (b * b + 4 * a * c) - b) / gc (rt (b * b + 4 * a * c) - b) (2 * a))
  else (a / gc (gc a b) c, b / gc (gc a b) c, c / gc (gc a b) c)
theorem inside_pos {a b c : Int} (h : 1 ≤ a ∧ 1 ≤ c) : 0 < 4 * a * c ∧ 0 ≤ b * b + 4 * a * c := by
  have hac : 0 < 4 * a * c := Int.mul_pos (by omega) (by omega)
  have hb : 0 ≤ b * b := by
    rcases Int.le_total 0 b with z | z
    · exact Int.mul_nonneg z z
    · exact Int.mul_nonneg_of_nonpos_of_nonpos z z
  omega
theorem parts_nrm {a b c : Int} (h : Good a b c) : Nrm a b c (parts a b c).1 (parts a b c).2.1 (parts a b c).2.2 := by
  unfold parts
  rcases h with ⟨rfl, h2, h3⟩ | h
  · rw [if_pos rfl]
    have g0 : 0 < gc c b := gc_pos (.inr (by omega))
    have := nrm_div (a := 0) (b := b) (c := c) (.inl ⟨rfl, h2, h3⟩) g0 (Int.dvd_zero _) (gc_dvd2 _ _) (gc_dvd1 _ _)
    rw [Int.zero_ediv] at this
    exact this
  · rw [if_neg (by omega)]
    have k := inside_pos (b := b) h
    split
    · rename_i e
      exact nrm_root h.1 h.2 (rt_is k.2).1 e.symm (gc_pos (.inr (by omega))) (gc_dvd1 _ _) (gc_dvd2 _ _)
    · exact nrm_div (.inr h) (gc_pos (.inr (by omega))) (Int.dvd_trans (gc_dvd1 _ _) (gc_dvd1 _ _)) (Int.dvd_trans (gc_dvd1 _ _) (gc_dvd2 _ _)) (gc_dvd2 _ _)
theorem parts_sm {a b c : Int} (h : Good a b c) (ha : Sm 133 a) (hb : Sm 133 b) (hc : Sm 133 c) : Sm 150 (parts a b c).1 ∧ Sm 150 (parts a b c).2.1 ∧ Sm 150 (parts a b c).2.2 := by
  unfold parts
  rcases h with ⟨rfl, h2, h3⟩ | h
  · rw [if_pos rfl]
    have g0 : 0 < gc c b := gc_pos (.inr (by omega))
    exact ⟨show Sm 150 0 by unfold Sm; decide, (hb.div g0).mono (by decide), (hc.div g0).mono (by decide)⟩
  · rw [if_neg (by omega)]
    have k := inside_pos (b := b) h
    have hd : Sm 270 (b * b + 4 * a * c) := by
      have h4 : Sm 3 4 := by unfold Sm; decide
      have e1 : Sm (133 + 133) (b * b) := hb.mul hb
      have e2 : Sm (3 + 133 + 133) (4 * a * c) := (h4.mul ha).mul hc
      exact (Sm.add (n := 269) (e1.mono (by decide)) (e2.mono (by decide)))
    have hr : Sm 135 (rt (b * b + 4 * a * c)) := rt_sm (n := 135) k.2 hd
    have h2 : Sm 2 2 := by unfold Sm; decide
    split
    · have g0 : 0 < gc (rt (b * b + 4 * a * c) - b) (2 * a) := gc_pos (.inr (by omega))
      refine ⟨show Sm 150 0 by unfold Sm; decide, ?_, ?_⟩
      · exact ((h2.mul ha).div g0).mono (by decide)
      · exact ((hr.sub (hb.mono (by decide))).div g0).mono (by decide)
    · have g0 : 0 < gc (gc a b) c := gc_pos (.inr (by omega))
      exact ⟨(ha.div g0).mono (by decide), (hb.div g0).mono (by decide), (hc.div g0).mono (by decide)⟩
/-! ### beside a fraction -/
def sg (n : Int) : Int := if 0 < n then 1 else if n < 0 then -1 else 0
/-- the law's side -/
def side (a b c x y : Int) : Int := if y = 0 then -1 else sg (-(a * x * x + b * x * y - c * y * y))
def beside (s l w x y : Int) : Int := sg (w * y * y - l * x * y - s * x * x)
theorem Nrm.side {a b c s l w x y : Int} (h : Nrm a b c s l w) (hx : 0 ≤ x) (hy : 1 ≤ y) : beside s l w x y = RL.side a b c x y := by
  obtain ⟨k1, k2⟩ := h.sgn x y hx hy
  unfold beside RL.side sg
  rw [if_neg (show ¬ y = 0 by omega)]
  generalize w * y * y - l * x * y - s * x * x = u at *
  generalize a * x * x + b * x * y - c * y * y = v at *
  by_cases p : 0 < u
  · have := k1.mp p
    rw [if_pos p, if_pos (by omega)]
  · by_cases q : u = 0
    · have := k2.mp q
      rw [if_neg p, if_neg (by omega), if_neg (by omega), if_neg (by omega)]
    · have : ¬ v < 0 := fun z => p (k1.mpr z)
      have : ¬ v = 0 := fun z => q (k2.mpr z)
      rw [if_neg p, if_pos (by omega), if_neg (by omega), if_pos (by omega)]
/-- the same fraction written otherwise -/
theorem side_same {a b c x y k : Int} (hk : 1 ≤ k) (hy : 1 ≤ y) : RL.side a b c (k * x) (k * y) = RL.side a b c x y := by
  unfold RL.side
  have h0 : ¬ k * y = 0 := by
    have := Int.mul_pos (a := k) (b := y) (by omega) (by omega)
    omega
  rw [if_neg h0, if_neg (show ¬ y = 0 by omega)]
  have kk : 0 < k * k := Int.mul_pos (by omega) (by omega)
  have e : -(a * (k * x) * (k * x) + b * (k * x) * (k * y) - c * (k * y) * (k * y)) = k * k * (-(a * x * x + b * x * y - c * y * y)) := by grind
  rw [e]
  generalize -(a * x * x + b * x * y - c * y * y) = u
  have q := pos_iff (u := u) kk
  unfold sg
  by_cases p : 0 < u
  · rw [if_pos p, if_pos (q.1.mpr p)]
  · by_cases z : u = 0
    · subst z
      rw [Int.mul_zero]
    · have h1 : ¬ 0 < k * k * u := fun t => p (q.1.mp t)
      have h2 : ¬ k * k * u = 0 := fun t => z (q.2.mp t)
      rw [if_neg p, if_pos (show u < 0 by omega), if_neg h1, if_pos (show k * k * u < 0 by omega)]
/-! ### floors -/
def flo (s l w t : Int) : Int := if s = 0 then t * w / l else (rt (t * t * (l * l + 4 * s * w)) - t * l) / (2 * s)
theorem flo_is {s l w t : Int} (h : Good s l w) (ht : 1 ≤ t) : 0 ≤ flo s l w t ∧ 0 ≤ beside s l w (flo s l w t) t ∧ beside s l w (flo s l w t + 1) t = -1 := by
  have sgp : ∀ n : Int, 0 ≤ n → 0 ≤ sg n := fun n hn => by
    unfold sg
    split
    · decide
    · split
      · omega
      · decide
  have sgn : ∀ n : Int, n < 0 → sg n = -1 := fun n hn => by
    unfold sg
    rw [if_neg (by omega), if_pos hn]
  unfold flo
  rcases h with ⟨rfl, h2, h3⟩ | h
  · rw [if_pos rfl]
    have l0 : 0 < l := by omega
    have d1 := Int.mul_ediv_self_le (x := t * w) (k := l) (by omega)
    have d2 := Int.lt_mul_ediv_self_add (x := t * w) (k := l) l0
    have d0 : 0 ≤ t * w / l := Int.ediv_nonneg (Int.mul_nonneg (by omega) h3) (by omega)
    generalize t * w / l = q at *
    refine ⟨d0, sgp _ ?_, sgn _ ?_⟩
    · have : w * t * t - l * q * t - 0 * q * q = t * (t * w - l * q) := by grind
      rw [this]
      exact Int.mul_nonneg (by omega) (by omega)
    · have : w * t * t - l * (q + 1) * t - 0 * (q + 1) * (q + 1) = -(t * (l * q + l - t * w)) := by grind
      rw [this]
      have := Int.mul_pos (a := t) (b := l * q + l - t * w) (by omega) (by omega)
      omega
  · rw [if_neg (by omega)]
    have hsw : 0 < 4 * s * w := Int.mul_pos (by omega) (by omega)
    have ll : 0 ≤ l * l := by
      rcases Int.le_total 0 l with z | z
      · exact Int.mul_nonneg z z
      · exact Int.mul_nonneg_of_nonpos_of_nonpos z z
    have w0 : 0 ≤ t * t * (l * l + 4 * s * w) := Int.mul_nonneg (Int.mul_nonneg (by omega) (by omega)) (by omega)
    obtain ⟨r0, r1, r2⟩ := rt_is w0
    generalize er : rt (t * t * (l * l + 4 * s * w)) = r at *
    -- r is at least t * l either way
    have rl : -r ≤ t * l ∧ t * l ≤ r := by
      have h0 : t * l * (t * l) ≤ t * t * (l * l + 4 * s * w) := by
        have e : t * t * (l * l + 4 * s * w) = t * l * (t * l) + t * t * (4 * s * w) := by grind
        have := Int.mul_nonneg (a := t * t) (b := 4 * s * w) (Int.mul_nonneg (by omega) (by omega)) (by omega)
        omega
      refine ⟨?_, ?_⟩
      · rcases Int.lt_or_le (t * l) (-r) with z | z
        · have : (r + 1) * (r + 1) ≤ (-(t * l)) * (-(t * l)) := Int.mul_le_mul (by omega) (by omega) (by omega) (by omega)
          have e : (-(t * l)) * (-(t * l)) = t * l * (t * l) := by grind
          omega
        · exact z
      · rcases Int.lt_or_le r (t * l) with z | z
        · have : (r + 1) * (r + 1) ≤ (t * l) * (t * l) := Int.mul_le_mul (by omega) (by omega) (by omega) (by omega)
          omega
        · exact z
    have s0 : 0 < 2 * s := by omega
    have d1 := Int.mul_ediv_self_le (x := r - t * l) (k := 2 * s) (by omega)
    have d2 := Int.lt_mul_ediv_self_add (x := r - t * l) (k := 2 * s) s0
    have d0 : 0 ≤ (r - t * l) / (2 * s) := Int.ediv_nonneg (by omega) (by omega)
    generalize (r - t * l) / (2 * s) = q at *
    have f : ∀ z : Int, 4 * s * (w * t * t - l * z * t - s * z * z) = t * t * (l * l + 4 * s * w) - (2 * s * z + t * l) * (2 * s * z + t * l) := fun z => by grind
    have sp : 0 < 4 * s := by omega
    refine ⟨d0, sgp _ ?_, sgn _ ?_⟩
    · have u1 : 0 ≤ 2 * s * q := Int.mul_nonneg (by omega) d0
      have u2 : (2 * s * q + t * l) * (2 * s * q + t * l) ≤ r * r := by
        rcases Int.le_total 0 (2 * s * q + t * l) with z | z
        · exact Int.mul_le_mul (by omega) (by omega) (by omega) (by omega)
        · have := Int.mul_le_mul (a := -(2 * s * q + t * l)) (b := -(2 * s * q + t * l)) (c := r) (d := r) (by omega) (by omega) (by omega) (by omega)
          have e : (-(2 * s * q + t * l)) * (-(2 * s * q + t * l)) = (2 * s * q + t * l) * (2 * s * q + t * l) := by grind
          omega
      have u3 := f q
      have u4 := pos_iff (u := w * t * t - l * q * t - s * q * q) sp
      rcases Int.lt_or_le (w * t * t - l * q * t - s * q * q) 0 with z | z
      · have := Int.mul_neg_of_pos_of_neg sp z
        omega
      · exact z
    · have u0 : 2 * s * (q + 1) = 2 * s * q + 2 * s := by grind
      have u2 : (r + 1) * (r + 1) ≤ (2 * s * (q + 1) + t * l) * (2 * s * (q + 1) + t * l) := Int.mul_le_mul (by omega) (by omega) (by omega) (by omega)
      have u3 := f (q + 1)
      rcases Int.lt_or_le (w * t * t - l * (q + 1) * t - s * (q + 1) * (q + 1)) 0 with z | z
      · exact z
      · have := Int.mul_nonneg (Int.le_of_lt sp) z
        omega
end RL

/-! The order of two numbers: by the program's signs, and that unlike small ones differ within thirty figures. -/
namespace RL
theorem sq_nn (x : Int) : 0 ≤ x * x := by
  rcases Int.le_total 0 x with z | z
  · exact Int.mul_nonneg z z
  · exact Int.mul_nonneg_of_nonpos_of_nonpos z z
/-- above 0 just if the number is greater than x / y -/
def Fv (s l w x y : Int) : Int := w * y * y - l * x * y - s * x * x
/-- further right it stays less -/
theorem fv_down {s l w x y x' y' : Int} (g : Good s l w) (hx : 0 ≤ x) (hy : 1 ≤ y) (hx' : 0 ≤ x') (hy' : 1 ≤ y') (h : Fv s l w x y < 0) (c : x * y' ≤ x' * y) : Fv s l w x' y' < 0 := by
  refine Classical.byContradiction fun q => ?_
  have yy : 0 < y * y' := Int.mul_pos (by omega) (by omega)
  have h1 : y' * y' * Fv s l w x y = w * (y * y') * (y * y') - l * (x * y') * (y * y') - s * (x * y') * (x * y') := by unfold Fv; grind
  have h2 : y * y * Fv s l w x' y' = w * (y * y') * (y * y') - l * (x' * y) * (y * y') - s * (x' * y) * (x' * y) := by unfold Fv; grind
  have k1 : y' * y' * Fv s l w x y < 0 := Int.mul_neg_of_pos_of_neg (Int.mul_pos (by omega) (by omega)) h
  have k2 : 0 ≤ y * y * Fv s l w x' y' := Int.mul_nonneg (sq_nn y) (by omega)
  have u0 : 0 ≤ x * y' := Int.mul_nonneg hx (by omega)
  generalize x * y' = u at *
  generalize x' * y = v at *
  generalize y * y' = Y at *
  have d : (v - u) * (l * Y + s * (u + v)) = l * v * Y + s * v * v - (l * u * Y + s * u * u) := by grind
  have k3 : (v - u) * (l * Y + s * (u + v)) < 0 := by omega
  have k4 : 0 < v - u := by
    rcases Int.lt_or_le 0 (v - u) with z | z
    · exact z
    · have : v - u = 0 := by omega
      rw [this, Int.zero_mul] at k3
      omega
  have k5 : l * Y + s * (u + v) < 0 := by
    refine Classical.byContradiction fun z => ?_
    have := Int.mul_nonneg (Int.le_of_lt k4) (Int.not_lt.mp z)
    omega
  rcases g with ⟨rfl, l0, w0⟩ | ⟨s0, w0⟩
  · have := Int.mul_pos (a := l) (b := Y) (by omega) yy
    omega
  · have e : u * (l * Y + s * u) = l * u * Y + s * u * u := by grind
    have p : 0 < w * Y * Y := Int.mul_pos (Int.mul_pos (by omega) yy) yy
    have k6 : 0 < u * (l * Y + s * u) := by omega
    have k7 : 0 < l * Y + s * u := by
      refine Classical.byContradiction fun z => ?_
      have := Int.mul_nonpos_of_nonneg_of_nonpos u0 (Int.not_lt.mp z)
      omega
    have k8 : 0 ≤ s * v := Int.mul_nonneg (by omega) (by omega)
    have e2 : s * (u + v) = s * u + s * v := by grind
    omega
theorem fv_down' {s l w x y x' y' : Int} (g : Good s l w) (hx : 0 ≤ x) (hy : 1 ≤ y) (hx' : 0 ≤ x') (hy' : 1 ≤ y') (h : Fv s l w x y ≤ 0) (c : x * y' < x' * y) : Fv s l w x' y' < 0 := by
  refine Classical.byContradiction fun q => ?_
  have yy : 0 < y * y' := Int.mul_pos (by omega) (by omega)
  have h1 : y' * y' * Fv s l w x y = w * (y * y') * (y * y') - l * (x * y') * (y * y') - s * (x * y') * (x * y') := by unfold Fv; grind
  have h2 : y * y * Fv s l w x' y' = w * (y * y') * (y * y') - l * (x' * y) * (y * y') - s * (x' * y) * (x' * y) := by unfold Fv; grind
  have k1 : y' * y' * Fv s l w x y ≤ 0 := Int.mul_nonpos_of_nonneg_of_nonpos (sq_nn y') h
  have k2 : 0 ≤ y * y * Fv s l w x' y' := Int.mul_nonneg (sq_nn y) (by omega)
  have u0 : 0 ≤ x * y' := Int.mul_nonneg hx (by omega)
  generalize x * y' = u at *
  generalize x' * y = v at *
  generalize y * y' = Y at *
  have d : (v - u) * (l * Y + s * (u + v)) = l * v * Y + s * v * v - (l * u * Y + s * u * u) := by grind
  have k3 : (v - u) * (l * Y + s * (u + v)) ≤ 0 := by omega
  have k4 : 0 < v - u := by omega
  have k5 : l * Y + s * (u + v) ≤ 0 := by
    refine Classical.byContradiction fun z => ?_
    have := Int.mul_pos k4 (Int.not_le.mp z)
    omega
  rcases g with ⟨rfl, l0, w0⟩ | ⟨s0, w0⟩
  · have := Int.mul_pos (a := l) (b := Y) (by omega) yy
    omega
  · have e : u * (l * Y + s * u) = l * u * Y + s * u * u := by grind
    have p : 0 < w * Y * Y := Int.mul_pos (Int.mul_pos (by omega) yy) yy
    have k6 : 0 < u * (l * Y + s * u) := by omega
    have k7 : 0 < l * Y + s * u := by
      refine Classical.byContradiction fun z => ?_
      have := Int.mul_nonpos_of_nonneg_of_nonpos u0 (Int.not_lt.mp z)
      omega
    have k8 : 0 ≤ s * v := Int.mul_nonneg (by omega) (by omega)
    have e2 : s * (u + v) = s * u + s * v := by grind
    omega
/-- further left it stays greater -/
theorem fv_up {s l w x y x' y' : Int} (g : Good s l w) (hx : 0 ≤ x) (hy : 1 ≤ y) (hx' : 0 ≤ x') (hy' : 1 ≤ y') (h : 0 ≤ Fv s l w x y) (c : x' * y < x * y') : 0 < Fv s l w x' y' := by
  refine Classical.byContradiction fun q => ?_
  have := fv_down' g hx' hy' hx hy (Int.not_lt.mp q) c
  omega
/-! ### the program's order -/
def sal0 (s l w sl h : Int) : Int := if sl = 0 ∨ h < 0 then sg (-h) else beside s l w h sl
def sal (s l w sl h : Int) : Int := if sl < 0 then -(sal0 s l w (-sl) (-h)) else sal0 s l w sl h
def ord (s l w s' l' w' : Int) : Int := if s' = 0 then beside s l w w' l' else -(sal s' l' w' (l * s' - l' * s) (w * s' - w' * s))
theorem sg_neg {n : Int} (h : n < 0) : sg n = -1 := by unfold sg; rw [if_neg (by omega), if_pos h]
theorem sg_pos {n : Int} (h : 0 < n) : sg n = 1 := by unfold sg; rw [if_pos h]
theorem sg_zero : sg 0 = 0 := by decide
theorem lin {s l w s' l' w' x y : Int} : s * Fv s' l' w' x y - s' * Fv s l w x y = y * ((l * s' - l' * s) * x - (w * s' - w' * s) * y) := by unfold Fv; grind
theorem lin0 {s l w s' l' w' : Int} : s' * Fv s l w (w * s' - w' * s) (l * s' - l' * s) = s * Fv s' l' w' (w * s' - w' * s) (l * s' - l' * s) := by unfold Fv; grind
theorem lin0' {s l w s' l' w' : Int} : s' * Fv s l w (-(w * s' - w' * s)) (-(l * s' - l' * s)) = s * Fv s' l' w' (-(w * s' - w' * s)) (-(l * s' - l' * s)) := by unfold Fv; grind
theorem ord_lt {s l w s' l' w' x y : Int} (g : Good s l w) (g' : Good s' l' w') (hx : 0 ≤ x) (hy : 1 ≤ y) (h : Fv s l w x y < 0) (h' : 0 ≤ Fv s' l' w' x y) : ord s l w s' l' w' = -1 := by
  unfold ord
  split
  · rename_i z
    subst z
    rcases g' with ⟨_, l0, w0⟩ | ⟨z, _⟩
    · refine sg_neg (fv_down g hx hy w0 l0 h ?_)
      have e : Fv 0 l' w' x y = y * (w' * y - l' * x) := by unfold Fv; grind
      rw [e] at h'
      have : 0 ≤ w' * y - l' * x := by
        refine Classical.byContradiction fun z => ?_
        have := Int.mul_neg_of_pos_of_neg (a := y) (by omega) (Int.not_le.mp z)
        omega
      have e2 : x * l' = l' * x := Int.mul_comm _ _
      omega
    · omega
  · rename_i z
    have g2 := g'
    rcases g' with g' | ⟨s0', w0'⟩
    · exact absurd g'.1 z
    have s0 : 0 ≤ s := by rcases g with g | g <;> omega
    -- the line at x / y
    have L : 0 < (l * s' - l' * s) * x - (w * s' - w' * s) * y := by
      have e := lin (s := s) (l := l) (w := w) (s' := s') (l' := l') (w' := w') (x := x) (y := y)
      have a1 : 0 ≤ s * Fv s' l' w' x y := Int.mul_nonneg s0 h'
      have a2 : s' * Fv s l w x y < 0 := Int.mul_neg_of_pos_of_neg (by omega) h
      refine Classical.byContradiction fun q => ?_
      have := Int.mul_nonpos_of_nonneg_of_nonpos (a := y) (by omega) (Int.not_lt.mp q)
      omega
    have e0 := lin0 (s := s) (l := l) (w := w) (s' := s') (l' := l') (w' := w')
    have e0' := lin0' (s := s) (l := l) (w := w) (s' := s') (l' := l') (w' := w')
    generalize l * s' - l' * s = sl at *
    generalize w * s' - w' * s = hh at *
    have goal1 : sal s' l' w' sl hh = 1 := by
      unfold sal sal0
      split
      · rename_i q
        -- falling line
        have m1 : sl * x ≤ 0 := Int.mul_nonpos_of_nonpos_of_nonneg (by omega) hx
        have h0 : hh < 0 := by
          refine Classical.byContradiction fun t => ?_
          have := Int.mul_nonneg (a := hh) (b := y) (by omega) (by omega)
          omega
        rw [if_neg (by omega)]
        have c : x * -sl < -hh * y := by
          have e1 : x * -sl = -(sl * x) := by grind
          have e2 : -hh * y = -(hh * y) := by grind
          omega
        have f1 := fv_down g hx hy (show 0 ≤ -hh by omega) (show 1 ≤ -sl by omega) h (Int.le_of_lt c)
        have f2 : s * Fv s' l' w' (-hh) (-sl) < 0 := by
          rw [← e0']
          exact Int.mul_neg_of_pos_of_neg (by omega) f1
        have f3 : Fv s' l' w' (-hh) (-sl) < 0 := by
          refine Classical.byContradiction fun t => ?_
          have := Int.mul_nonneg s0 (Int.not_lt.mp t)
          omega
        have f4 : beside s' l' w' (-hh) (-sl) = -1 := sg_neg f3
        rw [f4]
        decide
      · rename_i q
        split
        · rename_i t
          refine sg_pos ?_
          rcases t with t | t
          · subst t
            rw [Int.zero_mul] at L
            refine Classical.byContradiction fun r => ?_
            have := Int.mul_nonneg (a := hh) (b := y) (by omega) (by omega)
            omega
          · omega
        · rename_i t
          refine sg_pos (fv_up g2 hx hy (by omega) (by omega) h' ?_)
          have e1 : x * sl = sl * x := Int.mul_comm _ _
          omega
    rw [goal1]
theorem ord_gt {s l w s' l' w' x y : Int} (g : Good s l w) (g' : Good s' l' w') (hx : 0 ≤ x) (hy : 1 ≤ y) (h : Fv s l w x y < 0) (h' : 0 ≤ Fv s' l' w' x y) : ord s' l' w' s l w = 1 := by
  unfold ord
  split
  · rename_i z
    subst z
    rcases g with ⟨_, l0, w0⟩ | ⟨z, _⟩
    · refine sg_pos (fv_up g' hx hy w0 l0 h' ?_)
      have e : Fv 0 l w x y = y * (w * y - l * x) := by unfold Fv; grind
      rw [e] at h
      have : w * y - l * x < 0 := by
        refine Classical.byContradiction fun z => ?_
        have := Int.mul_nonneg (a := y) (by omega) (Int.not_lt.mp z)
        omega
      have e2 : x * l = l * x := Int.mul_comm _ _
      omega
    · omega
  · rename_i z
    have g2 := g
    rcases g with g | ⟨s0, w0⟩
    · exact absurd g.1 z
    have s0' : 0 ≤ s' := by rcases g' with g | g <;> omega
    have goal1 : sal s l w (l' * s - l * s') (w' * s - w * s') = -1 := by
      rcases Int.lt_or_le 0 s' with sp | sp
      · have L : (l' * s - l * s') * x < (w' * s - w * s') * y := by
          have e := lin (s := s) (l := l) (w := w) (s' := s') (l' := l') (w' := w') (x := x) (y := y)
          have a1 : 0 ≤ s * Fv s' l' w' x y := Int.mul_nonneg (by omega) h'
          have a2 : s' * Fv s l w x y < 0 := Int.mul_neg_of_pos_of_neg sp h
          have a3 : 0 < (l * s' - l' * s) * x - (w * s' - w' * s) * y := by
            refine Classical.byContradiction fun q => ?_
            have := Int.mul_nonpos_of_nonneg_of_nonpos (a := y) (by omega) (Int.not_lt.mp q)
            omega
          have e1 : (l * s' - l' * s) * x = -((l' * s - l * s') * x) := by grind
          have e2 : (w * s' - w' * s) * y = -((w' * s - w * s') * y) := by grind
          omega
        have e0 := lin0' (s := s') (l := l') (w := w') (s' := s) (l' := l) (w' := w)
        generalize l' * s - l * s' = sl at *
        generalize w' * s - w * s' = hh at *
        unfold sal sal0
        split
        · rename_i q
          have goal2 : (if -sl = 0 ∨ -hh < 0 then sg (- -hh) else beside s l w (-hh) (-sl)) = 1 := by
            split
            · rename_i t
              refine sg_pos ?_
              omega
            · rename_i t
              have c : -hh * y < x * -sl := by
                have e1 : x * -sl = -(sl * x) := by grind
                have e2 : -hh * y = -(hh * y) := by grind
                omega
              have f1 := fv_up g' hx hy (show 0 ≤ -hh by omega) (show 1 ≤ -sl by omega) h' c
              have f2 : 0 < s' * Fv s l w (-hh) (-sl) := by
                rw [← e0]
                exact Int.mul_pos (by omega) f1
              refine sg_pos (show 0 < Fv s l w (-hh) (-sl) from ?_)
              refine Classical.byContradiction fun t => ?_
              have := Int.mul_nonpos_of_nonneg_of_nonpos s0' (Int.not_lt.mp t)
              omega
          rw [goal2]
        · rename_i q
          have m1 : 0 ≤ sl * x := Int.mul_nonneg (by omega) hx
          have h0 : 0 < hh := by
            refine Classical.byContradiction fun t => ?_
            have := Int.mul_nonpos_of_nonpos_of_nonneg (a := hh) (b := y) (by omega) (by omega)
            omega
          split
          · exact sg_neg (by omega)
          · rename_i t
            refine sg_neg (fv_down g2 hx hy (by omega) (by omega) h ?_)
            have e1 : x * sl = sl * x := Int.mul_comm _ _
            omega
      · have s1 : s' = 0 := by omega
        subst s1
        rcases g' with ⟨_, l0, w0⟩ | ⟨zz, _⟩
        · have p1 : 0 < l' * s := Int.mul_pos (by omega) (by omega)
          have p2 : 0 ≤ w' * s := Int.mul_nonneg w0 (by omega)
          rw [Int.mul_zero, Int.mul_zero, Int.sub_zero, Int.sub_zero]
          unfold sal sal0
          rw [if_neg (by omega), if_neg (by omega)]
          refine sg_neg (fv_down g2 hx hy p2 p1 h ?_)
          have e : Fv 0 l' w' x y = y * (w' * y - l' * x) := by unfold Fv; grind
          rw [e] at h'
          have q : 0 ≤ w' * y - l' * x := by
            refine Classical.byContradiction fun z => ?_
            have := Int.mul_neg_of_pos_of_neg (a := y) (by omega) (Int.not_le.mp z)
            omega
          have q2 := Int.mul_nonneg q (show 0 ≤ s by omega)
          have e3 : (w' * y - l' * x) * s = w' * s * y - x * (l' * s) := by grind
          omega
        · omega
    rw [goal1]
    decide
/-- a number beside itself -/
theorem ord_self {s l w : Int} (g : Good s l w) : ord s l w s l w = 0 := by
  unfold ord
  split
  · rename_i z
    subst z
    unfold beside
    have e : w * l * l - l * w * l - 0 * w * w = 0 := by grind
    rw [e, sg_zero]
  · have e1 : l * s - l * s = 0 := by omega
    have e2 : w * s - w * s = 0 := by omega
    rw [e1, e2]
    unfold sal sal0
    rw [if_neg (by decide), if_pos (.inl rfl)]
    decide
/-! ### lowest terms, and one equation for one number -/
theorem gc_mul {k a b : Int} (hk : 0 ≤ k) : gc (k * a) (k * b) = k * gc a b := by
  unfold gc
  rw [Int.gcd_mul_left, Int.natCast_mul]
  congr 1
  omega
theorem gc_comm (a b : Int) : gc a b = gc b a := by
  unfold gc
  rw [Int.gcd_comm]
theorem cancel {a b c : Int} (ha : 0 < a) (h : a * b = a * c) : b = c := Int.eq_of_mul_eq_mul_left (by omega) h
theorem low_eq {c b p q : Int} (hb : 0 < b) (hq : 0 < q) (h : c * q = p * b) : b / gc c b = q / gc p q ∧ c / gc c b = p / gc p q := by
  have g1 : 0 < gc c b := gc_pos (.inr (by omega))
  have g2 : 0 < gc p q := gc_pos (.inr (by omega))
  have e : q * gc c b = b * gc p q := by
    rw [← gc_mul (by omega), ← gc_mul (by omega)]
    congr 1
    · rw [Int.mul_comm q c, h, Int.mul_comm]
    · exact Int.mul_comm _ _
  have b1 := ex_mul (gc_dvd2 c b) g1
  have c1 := ex_mul (gc_dvd1 c b) g1
  have q1 := ex_mul (gc_dvd2 p q) g2
  have p1 := ex_mul (gc_dvd1 p q) g2
  generalize b / gc c b = B at *
  generalize c / gc c b = Cc at *
  generalize q / gc p q = Qq at *
  generalize p / gc p q = Pp at *
  generalize gc c b = G at *
  generalize gc p q = K at *
  have gk : 0 < G * K := Int.mul_pos g1 g2
  have e1 : B = Qq := by
    refine cancel gk ?_
    rw [b1, q1] at e
    grind
  refine ⟨e1, ?_⟩
  have bp : 0 < B := by
    refine Classical.byContradiction fun z => ?_
    have := Int.mul_nonpos_of_nonneg_of_nonpos (Int.le_of_lt g1) (Int.not_lt.mp z)
    omega
  refine cancel (Int.mul_pos gk bp) ?_
  rw [c1, q1, p1, b1] at h
  subst e1
  grind
theorem dvd_sq {q m : Int} (h : q * q ∣ m * m) : q ∣ m := by
  have h1 : q.natAbs ^ 2 ∣ m.natAbs ^ 2 := by
    have := Int.natAbs_dvd_natAbs.mpr h
    rw [Int.natAbs_mul, Int.natAbs_mul] at this
    rw [Nat.pow_two, Nat.pow_two]
    exact this
  exact Int.natAbs_dvd_natAbs.mp ((Nat.pow_dvd_pow_iff (by decide)).mp h1)
/-- a number that is a fraction -/
theorem rat_root {a b c p q : Int} (g : Good a b c) (hp : 0 ≤ p) (hq : 1 ≤ q) (h : a * p * p + b * p * q = c * q * q) : parts a b c = (0, q / gc p q, p / gc p q) := by
  rcases g with ⟨rfl, b0, c0⟩ | ⟨a0, c0⟩
  · unfold parts
    rw [if_pos rfl]
    have h2 : c * q = p * b := by
      refine cancel (a := q) (by omega) ?_
      grind
    obtain ⟨e1, e2⟩ := low_eq (c := c) (b := b) (p := p) (q := q) (by omega) (by omega) h2
    rw [e1, e2]
  · have k : (b * b + 4 * a * c) * (q * q) = (2 * a * p + b * q) * (2 * a * p + b * q) := by grind
    obtain ⟨m, hm⟩ : q ∣ (2 * a * p + b * q) := dvd_sq ⟨b * b + 4 * a * c, by rw [← k, Int.mul_comm]⟩
    have qq : 0 < q * q := Int.mul_pos (by omega) (by omega)
    have d : b * b + 4 * a * c = m * m := by
      refine cancel qq ?_
      rw [hm] at k
      grind
    have hac : 0 < 4 * a * c := Int.mul_pos (by omega) (by omega)
    -- the root is m itself
    have m0 : 0 ≤ m := by
      refine Classical.byContradiction fun z => ?_
      have r := rt_gt (b := b) (r := -m) hac (by omega) (by rw [d]; grind)
      have e1 : 2 * a * p = q * (m - b) := by
        have : q * (m - b) = q * m - b * q := by grind
        omega
      have e2 : 0 ≤ 2 * a * p := Int.mul_nonneg (by omega) hp
      have e3 : q * (m - b) < 0 := Int.mul_neg_of_pos_of_neg (by omega) (by omega)
      omega
    have er : rt (b * b + 4 * a * c) = m := by
      refine (rt_of ⟨m0, by omega, ?_⟩).symm
      have : (m + 1) * (m + 1) = m * m + 2 * m + 1 := by grind
      omega
    unfold parts
    rw [if_neg (by omega), er, if_pos (by omega)]
    have h2 : (m - b) * q = p * (2 * a) := by
      have : (m - b) * q = q * m - b * q := by grind
      have : p * (2 * a) = 2 * a * p := by grind
      omega
    obtain ⟨e1, e2⟩ := low_eq (c := m - b) (b := 2 * a) (p := p) (q := q) (by omega) (by omega) h2
    rw [e1, e2]
/-- one equation a multiple of the other -/
theorem parts_prop {a b c a' b' c' : Int} (g : Good a b c) (g' : Good a' b' c') (h1 : a' * b = a * b') (h2 : a' * c = a * c') (h3 : b' * c = b * c') : parts a b c = parts a' b' c' := by
  rcases g with ⟨rfl, b0, c0⟩ | ⟨a0, c0⟩
  · have a1 : a' = 0 := by
      rw [Int.zero_mul] at h1
      rcases Int.mul_eq_zero.mp h1 with z | z <;> omega
    subst a1
    rcases g' with ⟨_, b0', c0'⟩ | g'
    · rw [rat_root (p := c) (q := b) (.inl ⟨rfl, b0, c0⟩) c0 b0 (by grind), rat_root (p := c) (q := b) (.inl ⟨rfl, b0', c0'⟩) c0 b0 ?_]
      have : b' * c * b = b * c' * b := by rw [h3]
      grind
    · omega
  · have gg : 1 ≤ a' ∧ 1 ≤ c' := by
      rcases g' with ⟨rfl, b1, c1⟩ | g'
      · rw [Int.zero_mul] at h1
        rcases Int.mul_eq_zero.mp h1.symm with z | z <;> omega
      · exact g'
    obtain ⟨a0', c0'⟩ := gg
    have ip := inside_pos (b := b) ⟨a0, c0⟩
    have ip' := inside_pos (b := b') ⟨a0', c0'⟩
    -- a root that is a fraction serves both
    have one : ∀ {r : Int}, 0 ≤ r → b * b + 4 * a * c = r * r → parts a b c = parts a' b' c' := fun {r} r0 e => by
      have rg := rt_gt ip.1 r0 e
      rw [rat_root (p := r - b) (q := 2 * a) (.inr ⟨a0, c0⟩) (by omega) (by omega) (by grind), rat_root (p := r - b) (q := 2 * a) (.inr ⟨a0', c0'⟩) (by omega) (by omega) ?_]
      refine cancel (a := a) (by omega) ?_
      have k : a' * (a * (r - b) * (r - b) + b * (r - b) * (2 * a)) = a' * (c * (2 * a) * (2 * a)) := by
        congr 1
        grind
      grind
    have two : ∀ {r : Int}, 0 ≤ r → b' * b' + 4 * a' * c' = r * r → parts a b c = parts a' b' c' := fun {r} r0 e => by
      have rg := rt_gt ip'.1 r0 e
      rw [rat_root (p := r - b') (q := 2 * a') (.inr ⟨a0', c0'⟩) (by omega) (by omega) (by grind), rat_root (p := r - b') (q := 2 * a') (.inr ⟨a0, c0⟩) (by omega) (by omega) ?_]
      refine cancel (a := a') (by omega) ?_
      have k : a * (a' * (r - b') * (r - b') + b' * (r - b') * (2 * a')) = a * (c' * (2 * a') * (2 * a')) := by
        congr 1
        grind
      grind
    by_cases e : rt (b * b + 4 * a * c) * rt (b * b + 4 * a * c) = b * b + 4 * a * c
    · exact one (rt_is ip.2).1 e.symm
    · by_cases e' : rt (b' * b' + 4 * a' * c') * rt (b' * b' + 4 * a' * c') = b' * b' + 4 * a' * c'
      · exact two (rt_is ip'.2).1 e'.symm
      · unfold parts
        rw [if_neg (by omega), if_neg e, if_neg (by omega), if_neg e']
        have G0 : 0 < gc (gc a b) c := gc_pos (.inr (by omega))
        have G0' : 0 < gc (gc a' b') c' := gc_pos (.inr (by omega))
        have eg : a' * gc (gc a b) c = a * gc (gc a' b') c' := by
          rw [← gc_mul (by omega), ← gc_mul (by omega), ← gc_mul (by omega), ← gc_mul (by omega), h1, h2, Int.mul_comm a' a]
        have x1 := ex_mul (Int.dvd_trans (gc_dvd1 (gc a b) c) (gc_dvd1 a b)) G0
        have x2 := ex_mul (Int.dvd_trans (gc_dvd1 (gc a b) c) (gc_dvd2 a b)) G0
        have x3 := ex_mul (gc_dvd2 (gc a b) c) G0
        have y1 := ex_mul (Int.dvd_trans (gc_dvd1 (gc a' b') c') (gc_dvd1 a' b')) G0'
        have y2 := ex_mul (Int.dvd_trans (gc_dvd1 (gc a' b') c') (gc_dvd2 a' b')) G0'
        have y3 := ex_mul (gc_dvd2 (gc a' b') c') G0'
        generalize a / gc (gc a b) c = A at *
        generalize b / gc (gc a b) c = B at *
        generalize c / gc (gc a b) c = D at *
        generalize a' / gc (gc a' b') c' = A' at *
        generalize b' / gc (gc a' b') c' = B' at *
        generalize c' / gc (gc a' b') c' = D' at *
        generalize gc (gc a b) c = G at *
        generalize gc (gc a' b') c' = G' at *
        have gg : 0 < G * G' := Int.mul_pos G0 G0'
        have ea : A = A' := by
          refine cancel gg ?_
          rw [x1, y1] at eg
          grind
        subst ea
        have Ap : 0 < A := by
          refine Classical.byContradiction fun z => ?_
          have := Int.mul_nonpos_of_nonneg_of_nonpos (Int.le_of_lt G0) (Int.not_lt.mp z)
          omega
        have ga : 0 < G * G' * A := Int.mul_pos gg Ap
        have eb : B = B' := by
          refine cancel ga ?_
          rw [x1, x2, y1, y2] at h1
          grind
        have ed : D = D' := by
          refine cancel ga ?_
          rw [x1, x3, y1, y3] at h2
          grind
        rw [eb, ed]
end RL

namespace RL
theorem mul_ab {x y X Y : Int} (hx : -X ≤ x ∧ x ≤ X) (hy : -Y ≤ y ∧ y ≤ Y) : -(X * Y) ≤ x * y ∧ x * y ≤ X * Y := by
  have X0 : 0 ≤ X := by omega
  have Y0 : 0 ≤ Y := by omega
  have a1 := Int.mul_nonneg (show 0 ≤ X - x by omega) (show 0 ≤ Y - y by omega)
  have a2 := Int.mul_nonneg (show 0 ≤ X + x by omega) (show 0 ≤ Y + y by omega)
  have a3 := Int.mul_nonneg (show 0 ≤ X - x by omega) (show 0 ≤ Y + y by omega)
  have a4 := Int.mul_nonneg (show 0 ≤ X + x by omega) (show 0 ≤ Y - y by omega)
  have e1 : (X - x) * (Y - y) = X * Y - X * y - x * Y + x * y := by grind
  have e2 : (X + x) * (Y + y) = X * Y + X * y + x * Y + x * y := by grind
  have e3 : (X - x) * (Y + y) = X * Y + X * y - x * Y - x * y := by grind
  have e4 : (X + x) * (Y - y) = X * Y - X * y + x * Y - x * y := by grind
  constructor <;> omega
structure Tiny (a b c : Int) : Prop where
  good : Good a b c
  ha : a ≤ 60
  hb : -61 ≤ b ∧ b ≤ 61
  hc : c ≤ 60
theorem Tiny.nn {a b c : Int} (h : Tiny a b c) : 0 ≤ a ∧ 0 ≤ c := by
  rcases h.good with g | g <;> omega
/-- how far the integer below is off -/
theorem off {a b c n N : Int} (t : Tiny a b c) (hN : 1 ≤ N) (hn : 0 ≤ n) (h1 : 0 ≤ Fv a b c n N) (h2 : Fv a b c (n + 1) N < 0) : n ≤ 62 * N ∧ Fv a b c n N ≤ 8000 * N := by
  obtain ⟨a0, c0⟩ := t.nn
  have nb : n ≤ 62 * N := by
    refine Classical.byContradiction fun q => ?_
    have q' : 62 * N < n := by omega
    rcases t.good with ⟨rfl, b0, _⟩ | ⟨a1, c1⟩
    · have e : Fv 0 b c n N = N * (c * N - b * n) := by unfold Fv; grind
      have k1 : n ≤ b * n := by
        have := Int.mul_le_mul_of_nonneg_right (a := 1) (b := b) (c := n) b0 hn
        omega
      have k2 : c * N ≤ 60 * N := Int.mul_le_mul_of_nonneg_right t.hc (by omega)
      have := Int.mul_neg_of_pos_of_neg (a := N) (b := c * N - b * n) (by omega) (by omega)
      omega
    · have k1 : n * n ≤ a * (n * n) := by
        have := Int.mul_le_mul_of_nonneg_right (a := 1) (b := a) (c := n * n) a1 (Int.mul_nonneg hn hn)
        omega
      have k2 : -61 * (n * N) ≤ b * (n * N) := Int.mul_le_mul_of_nonneg_right t.hb.1 (Int.mul_nonneg hn (by omega))
      have k3 : c * (N * N) ≤ 60 * (N * N) := Int.mul_le_mul_of_nonneg_right t.hc (Int.mul_nonneg (by omega) (by omega))
      have k4 : 62 * N * N ≤ n * (n - 61 * N) := Int.mul_le_mul (by omega) (by omega) (by omega) hn
      have e1 : Fv a b c n N = c * (N * N) - b * (n * N) - a * (n * n) := by unfold Fv; grind
      have e2 : n * (n - 61 * N) = n * n - 61 * (n * N) := by grind
      have e3 : 62 * N * N = 62 * (N * N) := by grind
      have k5 : 0 < N * N := Int.mul_pos (by omega) (by omega)
      omega
  refine ⟨nb, ?_⟩
  have e : Fv a b c n N - Fv a b c (n + 1) N = a * (2 * n + 1) + b * N := by unfold Fv; grind
  have k1 : a * (2 * n + 1) ≤ 60 * (2 * n + 1) := Int.mul_le_mul_of_nonneg_right t.ha (by omega)
  have k2 : b * N ≤ 61 * N := Int.mul_le_mul_of_nonneg_right t.hb.2 (by omega)
  omega
theorem sep {a b c a' b' c' n : Int} (t : Tiny a b c) (t' : Tiny a' b' c') (hn : 0 ≤ n)
    (h1 : 0 ≤ Fv a b c n 1000000000000000000000000000000) (h2 : Fv a b c (n + 1) 1000000000000000000000000000000 < 0)
    (h1' : 0 ≤ Fv a' b' c' n 1000000000000000000000000000000) (h2' : Fv a' b' c' (n + 1) 1000000000000000000000000000000 < 0) : parts a b c = parts a' b' c' := by
  obtain ⟨nb, k1⟩ := off t (by decide) hn h1 h2
  obtain ⟨_, k1'⟩ := off t' (by decide) hn h1' h2'
  obtain ⟨a0, c0⟩ := t.nn
  obtain ⟨a0', c0'⟩ := t'.nn
  have bA := t.ha
  have bA' := t'.ha
  have bC := t.hc
  have bC' := t'.hc
  have e1 : a' * Fv a b c n 1000000000000000000000000000000 - a * Fv a' b' c' n 1000000000000000000000000000000 = -(1000000000000000000000000000000 * ((a' * b - a * b') * n - (a' * c - a * c') * 1000000000000000000000000000000)) := by unfold Fv; grind
  have m1 := mul_ab (x := a') (y := Fv a b c n 1000000000000000000000000000000) (X := 60) (Y := 8000 * 1000000000000000000000000000000) (by omega) (by omega)
  have m1' := mul_ab (x := a) (y := Fv a' b' c' n 1000000000000000000000000000000) (X := 60) (Y := 8000 * 1000000000000000000000000000000) (by omega) (by omega)
  have m1n : 0 ≤ a' * Fv a b c n 1000000000000000000000000000000 := Int.mul_nonneg a0' h1
  have m1n' : 0 ≤ a * Fv a' b' c' n 1000000000000000000000000000000 := Int.mul_nonneg a0 h1'
  -- the line's rest
  have eps : -480000 ≤ (a' * b - a * b') * n - (a' * c - a * c') * 1000000000000000000000000000000 ∧ (a' * b - a * b') * n - (a' * c - a * c') * 1000000000000000000000000000000 ≤ 480000 := by omega
  have s1 := mul_ab (x := a') (y := b) (X := 60) (Y := 61) (by omega) t.hb
  have s2 := mul_ab (x := a) (y := b') (X := 60) (Y := 61) (by omega) t'.hb
  have s3 := mul_ab (x := a') (y := c) (X := 60) (Y := 60) (by omega) (by omega)
  have s4 := mul_ab (x := a) (y := c') (X := 60) (Y := 60) (by omega) (by omega)
  have hs : -7320 ≤ a' * b - a * b' ∧ a' * b - a * b' ≤ 7320 := by omega
  have hh : -7200 ≤ a' * c - a * c' ∧ a' * c - a * c' ≤ 7200 := by omega
  -- the equation's own rest at the line's zero
  have rest : ∀ (u v w : Int), Tiny u v w → 0 ≤ Fv u v w n 1000000000000000000000000000000 → Fv u v w n 1000000000000000000000000000000 ≤ 8000 * 1000000000000000000000000000000 →
      w * (a' * b - a * b') * (a' * b - a * b') - v * (a' * c - a * c') * (a' * b - a * b') - u * (a' * c - a * c') * (a' * c - a * c') = 0 := fun u v w tt f0 f1 => by
    obtain ⟨u0, w0⟩ := tt.nn
    have bu := tt.ha
    have bv := tt.hb
    generalize a' * b - a * b' = S at *
    generalize a' * c - a * c' = T at *
    generalize ee : S * n - T * 1000000000000000000000000000000 = ε at *
    have key : 1000000000000000000000000000000 * (1000000000000000000000000000000 * (w * S * S - v * T * S - u * T * T)) = S * S * Fv u v w n 1000000000000000000000000000000 + 1000000000000000000000000000000 * (ε * (v * S + 2 * u * T)) + u * (ε * ε) := by
      unfold Fv
      subst ee
      grind
    have q1 := mul_ab (x := S) (y := S) hs hs
    have q2 := mul_ab (x := S * S) (y := Fv u v w n 1000000000000000000000000000000) (X := 7320 * 7320) (Y := 8000 * 1000000000000000000000000000000) q1 (by omega)
    have q3 := mul_ab (x := v) (y := S) bv hs
    have q4 := mul_ab (x := u) (y := T) (X := 60) (Y := 7200) (by omega) hh
    have q5 := mul_ab (x := ε) (y := v * S + 2 * u * T) (X := 480000) (Y := 61 * 7320 + 2 * (60 * 7200)) eps (by
      have : 2 * u * T = 2 * (u * T) := by grind
      omega)
    have q6 := mul_ab (x := ε) (y := ε) eps eps
    have q7 := mul_ab (x := u) (y := ε * ε) (X := 60) (Y := 480000 * 480000) (by omega) q6
    omega
  have R := rest a b c t h1 k1
  have R' := rest a' b' c' t' h1' k1'
  have g := t.good
  have g' := t'.good
  by_cases z : a' * b - a * b' = 0
  · rw [z] at eps
    have z2 : a' * c - a * c' = 0 := by
      generalize a' * c - a * c' = T at *
      omega
    rcases g with ⟨rfl, b0, _⟩ | ⟨a1, c1⟩
    · have az : a' = 0 := by
        have : a' * b = 0 := by omega
        rcases Int.mul_eq_zero.mp this with y | y <;> omega
      subst az
      rcases g' with ⟨_, b0', _⟩ | g'
      · -- two fractions
        have bb := t.hb
        have bb' := t'.hb
        have e2 : Fv 0 b c n 1000000000000000000000000000000 - Fv 0 b c (n + 1) 1000000000000000000000000000000 = b * 1000000000000000000000000000000 := by unfold Fv; grind
        have e2' : Fv 0 b' c' n 1000000000000000000000000000000 - Fv 0 b' c' (n + 1) 1000000000000000000000000000000 = b' * 1000000000000000000000000000000 := by unfold Fv; grind
        have e3 : b' * Fv 0 b c n 1000000000000000000000000000000 - b * Fv 0 b' c' n 1000000000000000000000000000000 = 1000000000000000000000000000000 * (1000000000000000000000000000000 * (b' * c - b * c')) := by unfold Fv; grind
        have w1 := mul_ab (x := b') (y := Fv 0 b c n 1000000000000000000000000000000) (X := 61) (Y := 61 * 1000000000000000000000000000000) (by omega) (by omega)
        have w2 := mul_ab (x := b) (y := Fv 0 b' c' n 1000000000000000000000000000000) (X := 61) (Y := 61 * 1000000000000000000000000000000) (by omega) (by omega)
        refine parts_prop t.good t'.good (by omega) (by omega) ?_
        generalize b' * c = M at *
        generalize b * c' = M' at *
        omega
      · omega
    · refine parts_prop t.good t'.good (by omega) (by omega) ?_
      refine cancel (a := a) (by omega) ?_
      have y1 : a' * b = a * b' := by omega
      have y2 : a' * c = a * c' := by omega
      have : a * (b' * c) = a * b' * c := by grind
      rw [this, ← y1]
      have : a * (b * c') = b * (a * c') := by grind
      rw [this, ← y2]
      grind
  · generalize a' * b - a * b' = S at *
    generalize a' * c - a * c' = T at *
    rcases Int.lt_or_le 0 S with sp | sp
    · have T0 : 0 ≤ T := by
        have := Int.mul_nonneg (Int.le_of_lt sp) hn
        omega
      rw [rat_root (p := T) (q := S) t.good T0 sp (by grind), rat_root (p := T) (q := S) t'.good T0 sp (by grind)]
    · have T0 : 0 ≤ -T := by
        have := Int.mul_nonneg (show 0 ≤ -S by omega) hn
        have e : -S * n = -(S * n) := by grind
        omega
      rw [rat_root (p := -T) (q := -S) t.good T0 (by omega) (by grind), rat_root (p := -T) (q := -S) t'.good T0 (by omega) (by grind)]
end RL

namespace RL
theorem Nrm.fv {a b c s l w x y : Int} (N : Nrm a b c s l w) (hx : 0 ≤ x) (hy : 1 ≤ y) : (Fv s l w x y < 0 ↔ Fv a b c x y < 0) ∧ (0 ≤ Fv s l w x y ↔ 0 ≤ Fv a b c x y) := by
  obtain ⟨k1, k2⟩ := N.sgn x y hx hy
  have e : Fv a b c x y = -(a * x * x + b * x * y - c * y * y) := by unfold Fv; omega
  have e2 : Fv s l w x y = w * y * y - l * x * y - s * x * x := rfl
  rw [e, e2]
  generalize w * y * y - l * x * y - s * x * x = u at *
  generalize a * x * x + b * x * y - c * y * y = v at *
  constructor <;> constructor <;> intro h <;> omega
theorem sg_nn {n : Int} (h : 0 ≤ sg n) : 0 ≤ n := by
  refine Classical.byContradiction fun z => ?_
  rw [sg_neg (by omega)] at h
  omega
theorem sg_m1 {n : Int} (h : sg n = -1) : n < 0 := by
  refine Classical.byContradiction fun z => ?_
  rcases Int.lt_or_le 0 n with q | q
  · rw [sg_pos q] at h
    omega
  · have : n = 0 := by omega
    subst this
    rw [sg_zero] at h
    omega
theorem flo_fv {a b c t : Int} (g : Good a b c) (ht : 1 ≤ t) : 0 ≤ flo a b c t ∧ 0 ≤ Fv a b c (flo a b c t) t ∧ Fv a b c (flo a b c t + 1) t < 0 := by
  obtain ⟨h0, h1, h2⟩ := flo_is g ht
  exact ⟨h0, sg_nn h1, sg_m1 h2⟩
abbrev ordP (p q : Int × Int × Int) : Int := ord p.1 p.2.1 p.2.2 q.1 q.2.1 q.2.2
theorem flo_lt {a b c a' b' c' t : Int} (g : Good a b c) (g' : Good a' b' c') (ht : 1 ≤ t) (h : flo a b c t < flo a' b' c' t) : ordP (parts a b c) (parts a' b' c') = -1 ∧ ordP (parts a' b' c') (parts a b c) = 1 := by
  obtain ⟨h0, h1, h2⟩ := flo_fv g ht
  obtain ⟨h0', h1', h2'⟩ := flo_fv g' ht
  have N := parts_nrm g
  have N' := parts_nrm g'
  have k : Fv a b c (flo a' b' c' t) t < 0 := fv_down g (by omega) ht h0' ht h2 (Int.mul_le_mul_of_nonneg_right (by omega) (by omega))
  have f := (N.fv h0' ht).1.mpr k
  have f' := (N'.fv h0' ht).2.mpr h1'
  exact ⟨ord_lt N.good N'.good h0' ht f f', ord_gt N.good N'.good h0' ht f f'⟩
def dueAt (a b c a' b' c' : Int) : List Nat → Int
  | [] => 0
  | n :: r => if flo a b c (10 ^ n) = flo a' b' c' (10 ^ n) then dueAt a b c a' b' c' r else if flo a b c (10 ^ n) < flo a' b' c' (10 ^ n) then -1 else 1
def dueV (a b c a' b' c' : Int) : Int := if parts a b c = parts a' b' c' then 0 else dueAt a b c a' b' c' [3, 12, 30]
theorem ten_pos (n : Nat) : (1 : Int) ≤ 10 ^ n := by
  have e : ((10 ^ n : Nat) : Int) = 10 ^ n := by rw [Int.natCast_pow]; rfl
  have : 0 < 10 ^ n := Nat.pow_pos (by decide)
  rw [← e]
  omega
theorem dueAt_ok {a b c a' b' c' : Int} (g : Good a b c) (g' : Good a' b' c') : ∀ ns : List Nat, (∃ n ∈ ns, flo a b c (10 ^ n) ≠ flo a' b' c' (10 ^ n)) →
    ordP (parts a b c) (parts a' b' c') = dueAt a b c a' b' c' ns ∧ ordP (parts a' b' c') (parts a b c) = -dueAt a b c a' b' c' ns ∧ dueAt a b c a' b' c' ns ≠ 0
  | [], h => by
    obtain ⟨n, hn, _⟩ := h
    cases hn
  | n :: r, h => by
    unfold dueAt
    split
    · rename_i e
      refine dueAt_ok g g' r ?_
      obtain ⟨m, hm, q⟩ := h
      rcases List.mem_cons.mp hm with rfl | hm
      · exact absurd e q
      · exact ⟨m, hm, q⟩
    · rename_i e
      split
      · rename_i l
        obtain ⟨q1, q2⟩ := flo_lt g g' (ten_pos n) l
        exact ⟨q1, q2, by decide⟩
      · rename_i l
        obtain ⟨q1, q2⟩ := flo_lt g' g (ten_pos n) (show flo a' b' c' (10 ^ n) < flo a b c (10 ^ n) by omega)
        exact ⟨q2, q1, by decide⟩
theorem due_ok {a b c a' b' c' : Int} (g : Good a b c) (g' : Good a' b' c') (t : parts a b c = parts a' b' c' ∨ (Tiny a b c ∧ Tiny a' b' c')) :
    ordP (parts a b c) (parts a' b' c') = dueV a b c a' b' c' ∧ ordP (parts a' b' c') (parts a b c) = -dueV a b c a' b' c' ∧ (dueV a b c a' b' c' = 0 ↔ parts a b c = parts a' b' c') := by
  unfold dueV
  by_cases e : parts a b c = parts a' b' c'
  · rw [if_pos e, ← e]
    have N := parts_nrm g
    refine ⟨ord_self N.good, ?_, fun _ => rfl, fun _ => rfl⟩
    show ord _ _ _ _ _ _ = -0
    rw [ord_self N.good]
    rfl
  · rw [if_neg e]
    rcases t with t | ⟨t, t'⟩
    · exact absurd t e
    · have k : ∃ n ∈ [3, 12, 30], flo a b c (10 ^ n) ≠ flo a' b' c' (10 ^ n) := by
        refine ⟨30, by simp, fun z => e ?_⟩
        have e30 : (10 : Int) ^ 30 = 1000000000000000000000000000000 := by decide
        rw [e30] at z
        obtain ⟨h0, h1, h2⟩ := flo_fv g (t := 1000000000000000000000000000000) (by decide)
        obtain ⟨h0', h1', h2'⟩ := flo_fv g' (t := 1000000000000000000000000000000) (by decide)
        rw [← z] at h1' h2'
        exact sep t t' h0 h1 h2 h1' h2'
      obtain ⟨q1, q2, q3⟩ := dueAt_ok g g' _ k
      exact ⟨q1, q2, fun z => absurd z q3, fun z => absurd z e⟩
/-! ### k + sqrt(k * k + 1) and sqrt(4 * k * k + 2) -/
theorem gc_one (x : Int) : gc 1 x = 1 := by
  unfold gc
  simp
theorem near1 {k : Int} (hk : 1 ≤ k) : parts 1 (-2 * k) 1 = (1, -2 * k, 1) := by
  have r : rt (-2 * k * (-2 * k) + 4 * 1 * 1) = 2 * k := by
    refine (rt_of ⟨by omega, ?_, ?_⟩).symm
    · have : 2 * k * (2 * k) = -2 * k * (-2 * k) := by grind
      omega
    · have e1 : (2 * k + 1) * (2 * k + 1) = -2 * k * (-2 * k) + 4 * k + 1 := by grind
      omega
  unfold parts
  rw [if_neg (by decide), r, if_neg ?_]
  · have g2 : gc 1 1 = 1 := by decide
    rw [gc_one, g2]
    simp
  · have : 2 * k * (2 * k) = -2 * k * (-2 * k) := by grind
    omega
theorem near2 {k : Int} (hk : 1 ≤ k) : parts 1 0 (4 * k * k + 2) = (1, 0, 4 * k * k + 2) := by
  have e0 : 0 * 0 + 4 * 1 * (4 * k * k + 2) = 16 * (k * k) + 8 := by grind
  have r : rt (0 * 0 + 4 * 1 * (4 * k * k + 2)) = 4 * k := by
    rw [e0]
    refine (rt_of ⟨by omega, ?_, ?_⟩).symm
    · have : 4 * k * (4 * k) = 16 * (k * k) := by grind
      omega
    · have e1 : (4 * k + 1) * (4 * k + 1) = 16 * (k * k) + 8 * k + 1 := by grind
      omega
  unfold parts
  rw [if_neg (by decide), r, if_neg ?_]
  · rw [gc_one, gc_one]
    simp
  · rw [e0]
    have : 4 * k * (4 * k) = 16 * (k * k) := by grind
    omega
theorem near_ord {k : Int} (hk : 1 ≤ k) : ord 1 (-2 * k) 1 1 0 (4 * k * k + 2) = -1 ∧ ord 1 0 (4 * k * k + 2) 1 (-2 * k) 1 = 1 := by
  have kk : 0 ≤ k * k := sq_nn k
  have e4 : 4 * k * k = 4 * (k * k) := by grind
  refine ⟨?_, ?_⟩
  · unfold ord
    rw [if_neg (by decide)]
    have a1 : -2 * k * 1 - 0 * 1 = -(2 * k) := by omega
    have a2 : 1 * 1 - (4 * k * k + 2) * 1 = -(4 * k * k + 1) := by omega
    rw [a1, a2]
    unfold sal sal0
    rw [if_pos (by omega), if_neg (by omega), Int.neg_neg, Int.neg_neg, Int.neg_neg]
    have f : beside 1 0 (4 * k * k + 2) (4 * k * k + 1) (2 * k) = -1 := by
      refine sg_neg ?_
      have : (4 * k * k + 2) * (2 * k) * (2 * k) - 0 * (4 * k * k + 1) * (2 * k) - 1 * (4 * k * k + 1) * (4 * k * k + 1) = -1 := by grind
      omega
    rw [f]
  · unfold ord
    rw [if_neg (by decide)]
    have a1 : 0 * 1 - -2 * k * 1 = 2 * k := by omega
    have a2 : (4 * k * k + 2) * 1 - 1 * 1 = 4 * k * k + 1 := by omega
    rw [a1, a2]
    unfold sal sal0
    rw [if_neg (by omega), if_neg (by omega)]
    have f : beside 1 (-2 * k) 1 (4 * k * k + 1) (2 * k) = -1 := by
      refine sg_neg ?_
      have : 1 * (2 * k) * (2 * k) - -2 * k * (4 * k * k + 1) * (2 * k) - 1 * (4 * k * k + 1) * (4 * k * k + 1) = -1 := by grind
      omega
    rw [f]
    decide
/-! ### a number and a fraction -/
theorem sg_scale {k u : Int} (hk : 0 < k) : sg (k * u) = sg u := by
  have q := pos_iff (u := u) hk
  unfold sg
  by_cases p : 0 < u
  · rw [if_pos p, if_pos (q.1.mpr p)]
  · by_cases z : u = 0
    · subst z
      rw [Int.mul_zero]
    · have h1 : ¬ 0 < k * u := fun t => p (q.1.mp t)
      have h2 : ¬ k * u = 0 := fun t => z (q.2.mp t)
      rw [if_neg p, if_pos (show u < 0 by omega), if_neg h1, if_pos (show k * u < 0 by omega)]
theorem sg_opp (u : Int) : sg (-u) = -sg u := by
  unfold sg
  by_cases p : 0 < u
  · rw [if_pos p, if_neg (by omega), if_pos (by omega)]
  · by_cases z : u < 0
    · rw [if_neg p, if_pos z, if_pos (by omega)]
      decide
    · rw [if_neg p, if_neg z, if_neg (by omega), if_neg (by omega)]
      decide
theorem ord_frac {a b c y v : Int} (g : Good a b c) (hy : 1 ≤ y) (hv : 0 ≤ v) : ordP (parts a b c) (parts 0 y v) = side a b c v y ∧ ordP (parts 0 y v) (parts a b c) = -side a b c v y := by
  have N := parts_nrm g
  have g0 : 0 < gc v y := gc_pos (.inr (by omega))
  have ey := ex_mul (gc_dvd2 v y) g0
  have ev := ex_mul (gc_dvd1 v y) g0
  have epr : parts 0 y v = (0, y / gc v y, v / gc v y) := by unfold parts; rw [if_pos rfl]
  rw [epr]
  have y1 : 1 ≤ y / gc v y := by
    refine Classical.byContradiction fun z => ?_
    have := Int.mul_nonpos_of_nonneg_of_nonpos (a := gc v y) (b := y / gc v y) (by omega) (by omega)
    omega
  have v1 : 0 ≤ v / gc v y := Int.ediv_nonneg hv (by omega)
  have es : side a b c v y = side a b c (v / gc v y) (y / gc v y) := by
    have := side_same (a := a) (b := b) (c := c) (x := v / gc v y) (y := y / gc v y) (k := gc v y) (by omega) y1
    rw [← ev, ← ey] at this
    exact this
  rw [es, ← N.side v1 y1]
  generalize y / gc v y = Y at *
  generalize v / gc v y = W at *
  have gd := N.good
  show ord (parts a b c).1 (parts a b c).2.1 (parts a b c).2.2 0 Y W = _ ∧ ord 0 Y W (parts a b c).1 (parts a b c).2.1 (parts a b c).2.2 = _
  generalize (parts a b c).1 = s at *
  generalize (parts a b c).2.1 = l at *
  generalize (parts a b c).2.2 = w at *
  refine ⟨?_, ?_⟩
  · unfold ord
    rw [if_pos rfl]
  · unfold ord
    split
    · rename_i z
      subst z
      rcases gd with ⟨_, l0, w0⟩ | ⟨zz, _⟩
      · unfold beside
        have e1 : W * l * l - Y * w * l - 0 * w * w = l * (W * l - Y * w) := by grind
        have e2 : w * Y * Y - l * W * Y - 0 * W * W = Y * -(W * l - Y * w) := by grind
        rw [e1, e2, sg_scale (by omega), sg_scale (by omega), sg_opp, Int.neg_neg]
      · omega
    · rename_i z
      have s0 : 1 ≤ s := by rcases gd with g | g <;> omega
      rw [Int.mul_zero, Int.mul_zero, Int.sub_zero, Int.sub_zero]
      have p1 : 0 < Y * s := Int.mul_pos (by omega) (by omega)
      have p2 : 0 ≤ W * s := Int.mul_nonneg v1 (by omega)
      unfold sal sal0
      rw [if_neg (by omega), if_neg (by omega)]
      unfold beside
      have e1 : w * (Y * s) * (Y * s) - l * (W * s) * (Y * s) - s * (W * s) * (W * s) = s * s * (w * Y * Y - l * W * Y - s * W * W) := by grind
      rw [e1, sg_scale (Int.mul_pos (by omega) (by omega))]
end RL

/-! The texts of numbers, and that repr of what is told fits. -/
namespace RL
open PySem L2
def ts (i : Int) : Str := Str.ofString (toString i)
structure OkT (n : Nat) (x : Str) : Prop where
  len : x.length ≤ n
  cps : ∀ c ∈ x.cps.toList, c < 16 ^ 8
theorem OkT.mono {m n : Nat} {x : Str} (h : OkT m x) (l : m ≤ n) : OkT n x := ⟨Nat.le_trans h.len l, h.cps⟩
theorem OkT.of (s : String) : OkT s.length (Str.ofString s) := by
  refine ⟨Nat.le_of_eq (ofString_length s), fun c hc => ?_⟩
  rw [PyProof.Rows.signs_ofString] at hc
  obtain ⟨ch, _, rfl⟩ := List.mem_map.mp hc
  have h1 : ch.toNat < 2 ^ 32 := ch.val.toNat_lt
  have h2 : (16 : Nat) ^ 8 = 2 ^ 32 := by decide
  omega
theorem OkT.app {m n : Nat} {x y : Str} (h : OkT m x) (k : OkT n y) : OkT (m + n) (x ++ y) := by
  refine ⟨?_, fun c hc => ?_⟩
  · rw [Str.length_append]
    have := h.len
    have := k.len
    omega
  · have e : (x ++ y).cps.toList = x.cps.toList ++ y.cps.toList := by
      show (x.cps ++ y.cps).toList = _
      rw [Array.toList_append]
    rw [e] at hc
    exact (List.mem_append.mp hc).elim (h.cps c) (k.cps c)
theorem log_sm {n : Nat} {i : Int} (hn : 0 < n) (h : Sm n i) : i.natAbs.log2 < n := PySem.Flt.log2_lt_of hn h
theorem ts_ok {i : Int} (h : Sm 200 i) : OkT 201 (ts i) := (OkT.of (toString i)).mono (int_text_length_le (by decide) (log_sm (by decide) h))
theorem show_int {i : Int} (h : Sm 200 i) : (PyData.int i).showable = true ∧ (PyData.int i).leavesShort 300 = true ∧ (PyData.int i).weight ≤ 200 := by
  have l := log_sm (by decide) h
  refine ⟨?_, ?_, ?_⟩
  · show decide (i.natAbs.log2 < 1920) = true
    exact decide_eq_true (by omega)
  · show decide ((PyData.shown (.int i)).length ≤ 300) = true
    refine decide_eq_true ?_
    have e : PyData.shown (.int i) = ts i := rfl
    rw [e]
    exact Nat.le_trans (ts_ok h).len (by decide)
  · show (if i == 0 then 0 else i.natAbs.log2 + 1) ≤ 200
    split <;> omega
theorem show_str {n : Nat} {x : Str} (h : OkT n x) : (PyData.str x).leavesShort 300 = true ∧ (PyData.str x).weight ≤ n := by
  refine ⟨?_, h.len⟩
  show (x.cps.toList.all fun c => decide (c < 16 ^ 8)) = true
  rw [List.all_eq_true]
  exact fun c hc => decide_eq_true (h.cps c hc)
structure Shows (d : PyData) : Prop where
  s : d.showable = true
  n : d.hasDict = false
  p : d.depth ≤ 40
  l : d.shown.length ≤ sizeLine
/-- the four things that are told of a number -/
theorem shows_root {a b c : Int} {x y : Str} (ha : Sm 200 a) (hb : Sm 200 b) (hc : Sm 200 c) (hx : OkT 2000 x) (hy : OkT 2000 y) : Shows (.list [.tuple [.int a, .int b, .int c], .none, .str x, .str y]) := by
  obtain ⟨a1, a2, a3⟩ := show_int ha
  obtain ⟨b1, b2, b3⟩ := show_int hb
  obtain ⟨c1, c2, c3⟩ := show_int hc
  obtain ⟨x1, x2⟩ := show_str hx
  obtain ⟨y1, y2⟩ := show_str hy
  refine ⟨?_, rfl, (by simp [PyData.depth, PyData.depthAll]), ?_⟩
  · simp only [PyData.showable, PyData.showableAll] at a1 b1 c1 ⊢
    simp [a1, b1, c1]
  · have hl : (PyData.list [.tuple [.int a, .int b, .int c], .none, .str x, .str y]).leavesShort 300 = true := by
      simp only [PyData.leavesShort, PyData.leavesShortAll] at a2 b2 c2 x1 y1 ⊢
      simp only [a2, b2, c2, x1, y1, Bool.and_self]
    have hw := PyData.shown_le 300 (by decide) _ hl
    have e : (PyData.list [.tuple [.int a, .int b, .int c], .none, .str x, .str y]).weight = ((PyData.int a).weight + 1 + ((PyData.int b).weight + 1 + ((PyData.int c).weight + 1 + 0))) + 1 + (0 + 1 + ((PyData.str x).weight + 1 + ((PyData.str y).weight + 1 + 0))) := rfl
    rw [e] at hw
    rw [sizeLine_eq]
    omega
theorem shows_frac {a b c d e : Int} {x y : Str} (ha : Sm 200 a) (hb : Sm 200 b) (hc : Sm 200 c) (hd : Sm 200 d) (he : Sm 200 e) (hx : OkT 2000 x) (hy : OkT 2000 y) : Shows (.list [.tuple [.int a, .int b, .int c], .tuple [.int d, .int e], .str x, .str y]) := by
  obtain ⟨a1, a2, a3⟩ := show_int ha
  obtain ⟨b1, b2, b3⟩ := show_int hb
  obtain ⟨c1, c2, c3⟩ := show_int hc
  obtain ⟨d1, d2, d3⟩ := show_int hd
  obtain ⟨e1, e2, e3⟩ := show_int he
  obtain ⟨x1, x2⟩ := show_str hx
  obtain ⟨y1, y2⟩ := show_str hy
  refine ⟨?_, rfl, (by simp [PyData.depth, PyData.depthAll]), ?_⟩
  · simp only [PyData.showable, PyData.showableAll] at a1 b1 c1 d1 e1 ⊢
    simp [a1, b1, c1, d1, e1]
  · have hl : (PyData.list [.tuple [.int a, .int b, .int c], .tuple [.int d, .int e], .str x, .str y]).leavesShort 300 = true := by
      simp only [PyData.leavesShort, PyData.leavesShortAll] at a2 b2 c2 d2 e2 x1 y1 ⊢
      simp only [a2, b2, c2, d2, e2, x1, y1, Bool.and_self]
    have hw := PyData.shown_le 300 (by decide) _ hl
    have e' : (PyData.list [.tuple [.int a, .int b, .int c], .tuple [.int d, .int e], .str x, .str y]).weight = ((PyData.int a).weight + 1 + ((PyData.int b).weight + 1 + ((PyData.int c).weight + 1 + 0))) + 1 + (((PyData.int d).weight + 1 + ((PyData.int e).weight + 1 + 0)) + 1 + ((PyData.str x).weight + 1 + ((PyData.str y).weight + 1 + 0))) := rfl
    rw [e'] at hw
    rw [sizeLine_eq]
    omega
/-! ### the texts -/
def commas (a b c : Int) : Str := ts a ++ ", " ++ ts b ++ ", " ++ ts c
theorem join3 (x y z : Str) : Txt.join ", " [x, y, z] = x ++ ", " ++ y ++ ", " ++ z := by
  show Builtin.Str.glued ", " [x, y, z] = _
  rw [StrLaws.glued_eq_join]
  show x ++ ", " ++ (y ++ ", " ++ z) = _
  simp only [Str.append_assoc]
def ftext (t b : Int) : Str := if b = 1 then ts t else ts t ++ "/" ++ ts b
def xtext (s l w : Int) : Str := if s = 0 then ftext w l else "root of " ++ commas s l w
def rtext (s l w : Int) : Str := "Exact(" ++ commas s l w ++ ")"
theorem commas_ok {a b c : Int} (ha : Sm 200 a) (hb : Sm 200 b) (hc : Sm 200 c) : OkT 700 (commas a b c) := ((((((ts_ok ha).app (OkT.of ", ")).app (ts_ok hb)).app (OkT.of ", ")).app (ts_ok hc))).mono (by decide)
theorem ftext_ok {t b : Int} (ht : Sm 200 t) (hb : Sm 200 b) : OkT 700 (ftext t b) := by
  unfold ftext
  split
  · exact (ts_ok ht).mono (by decide)
  · exact (((ts_ok ht).app (OkT.of "/")).app (ts_ok hb)).mono (by decide)
theorem xtext_ok {a b c : Int} (ha : Sm 200 a) (hb : Sm 200 b) (hc : Sm 200 c) : OkT 1000 (xtext a b c) := by
  unfold xtext
  split
  · exact (ftext_ok hc hb).mono (by decide)
  · exact ((OkT.of "root of ").app (commas_ok ha hb hc)).mono (by decide)
theorem rtext_ok {a b c : Int} (ha : Sm 200 a) (hb : Sm 200 b) (hc : Sm 200 c) : OkT 1000 (rtext a b c) := (((OkT.of "Exact(").app (commas_ok ha hb hc)).app (OkT.of ")")).mono (by decide)
theorem OkT.fits {n : Nat} {x : Str} (h : OkT n x) (l : n ≤ 100000 := by decide) : x.length ≤ sizeLine := by
  have := h.len
  rw [sizeLine_eq]
  omega
end RL

set_option maxHeartbeats 1000000
/-! Further rules: o.f as a target within a tuple; an own binary operator; a static method read off its class; an instance called by keyword; t[::-1] of a tuple; x in a tuple of data. -/
namespace RL
open PySem L2 PySem.Spec PyProof.Rows PySem.W
section
variable {X : Cx}
def gFld (K : PySem.W.Frag) (ta : TE) (f : Str) : TG := fun v σ H Q => ta σ H fun x H1 => ∃ a C dx fs, x = .ref a ∧ H1 a = some (.ins C dx fs) ∧ Cls K C ∧ NoAttr K C f ∧ fs.length < 1000 ∧ Q σ (upd H1 a (.ins C dx (putF f v fs)))
theorem pg_fld {o : Expr} {f : Str} {pos : Pos} {ta : TE} (ho : PE X o ta) (ha : ∀ v, assign (.Attribute o f pos) X.env v = (do
      let ov ← holding [v] (eval o X.env)
      standAt pos.atName
      holding [v, ov] (setAttr ov f v)
      release [v, ov] []) := by intro _; rfl) : PG X (.Attribute o f pos) (gFld X.K ta f) := by
  refine ⟨fun pins s σ H v u Q I r h => ?_⟩
  rw [ha]
  refine wpAny_bind (wpAny_holding (thn (ho.run pins s σ H _ I h) fun ov s1 ⟨x, H1, I1, r1, a, C, dx, fs, ex, ea, c, n, l, q⟩ => ?_))
  subst ex
  obtain rfl : ov = Value.ref a := r1
  refine wpAny_bind (wpAny_standAt (wpAny_bind (wpAny_holding (setattr_ok I1 ea c n l r fun s2 I2 => ?_))))
  exact wpAny_release ⟨σ, _, I2, q⟩
end
/-! ### an own binary operator -/
section
variable {X : Cx} {k : Nat} {ps : List Str} {sp : Sp} {C g : Addr} {fd : FuncData}
def rBinOwn (C : Addr) (sp : Sp) : R2 := fun x y H Q => ∃ a dx fs b dy gs, x = .ref a ∧ H a = some (.ins C dx fs) ∧ y = .ref b ∧ H b = some (.ins C dy gs) ∧ sp [x, y] H Q E0
theorem op_binOwn {op : Operator} (hc : PySem.W.selfFirst X.K C = true) (hs : PySem.W.findIn X.K (.ref C) (PySem.dunder op.info.2) = some (some (.ref g))) (hf : PySem.W.isFn X.K (.ref g) = true) (F : FnOk X.prog X.w X.K X.mg X.base CX0 k g fd ps sp) (hb : Binds X.K fd ps []) (hr : Room k X.A) :
    OpR X (binaryOp op) (rBinOwn C sp) := by
  intro pins s σ H x y v u Q I rx ry h
  obtain ⟨a, dx, fs, b, dy, gs, rfl, ha, rfl, hy, q⟩ := h
  cases (show v = Value.ref a from rx)
  cases (show u = Value.ref b from ry)
  obtain ⟨mA, O, _⟩ := ins_get I.hok ha
  obtain ⟨od, J, _⟩ := O.look
  obtain ⟨mB, O2, _⟩ := ins_get I.hok hy
  obtain ⟨od2, J2, _⟩ := O2.look
  obtain ⟨m, hF⟩ := I.fr
  refine PySem.W.binop_K hF I.ok.mod.kin J J2.type hc hs hf ?_
  have q0 : sp ([.ref a, .ref b] ++ []) H Q E0 := q
  refine wpAny_mono (run_fn (us := [.ref a, .ref b]) (vs := [.ref a, .ref b]) F hr hb .nil pass0 I (.cons rfl (.cons rfl .nil)) q0) (fun w s' z => ?_) fun _ _ z => z
  obtain ⟨z', H', I', rz, qz⟩ := z
  exact SlX.cmpback rz ⟨z', H', I', rz, qz⟩
end
/-! ### C.m(..), m a static method -/
structure SMet (K : PySem.W.Frag) (C : Addr) (mc : Value) (m : Str) (p g : Addr) : Prop where
  at_ : PySem.W.findCls K (.ref C) mc m = some (.get (.builtin "staticmethod.__get__") (.ref p) .none (.ref C))
  rc : ∃ rest, PySem.W.recIn K p "staticmethod" = some (.ref g :: rest)
  kp : PySem.W.keepIn K (.ref g) = true
def tSMeth (C : Addr) (sp : Sp) (ta : TE) (t : TA) : TE := fun σ H Q => ta σ H fun x H1 => x = .ref C ∧ t σ H1 fun vs H2 => sp vs H2 Q E0
section
variable {X : Cx} {k : Nat} {ps : List Str} {C p g : Addr} {mc : Value} {sp : Sp} {fd : FuncData} {o e : Expr} {es : List Expr} {m : Str} {pos apos : Pos} {ta : TE} {t : TA} {pl : Sem Bool}
theorem pe_smeth (he : PE X o ta) (r : ClX.CRead X.K C mc) (c : SMet X.K C mc m p g) (F : FnOk X.prog X.w X.K X.mg X.base CX0 k g fd ps sp) (hb : Binds X.K fd ps []) (hr : Room k X.A) (ha : PA X (e :: es) t)
    (hst : starEach (e :: es) X.env = (false, eval e X.env) :: starEach es X.env := by rfl) (hpl : (backTo pos (starEach es X.env)).any (·.1) = false := by rfl)
    (ht : eval (.Call (.Attribute o m apos) (e :: es) [] pos) X.env = (do
      let ov ← eval o X.env
      standAt apos.atName
      let (f, first) ← holding [ov] (getMethod ov m pl)
      callWith pos f first (backTo pos (starEach (e :: es) X.env)) (backToKw pos (keywordEach [] X.env))) := by rfl) :
    PE X (.Call (.Attribute o m apos) (e :: es) [] pos) (tSMeth C sp ta t) := by
  refine ⟨fun pins s σ H Q I h => ?_⟩
  refine PySem.W.methodCall_KW (pl := pl) (thn (he.run pins s σ H _ I h) fun u s1 ⟨x, H1, I1, rx, ex, q⟩ => ?_) ht
  subst ex
  obtain rfl : u = Value.ref C := rx
  obtain ⟨rest, hp⟩ := c.rc
  refine PySem.W.method_cls I1.kIn r.ga (PySem.W.cls_bind I1.kIn r.rd c.at_ (wpAny_call (PySem.W.sm_get (s := { s1 with toks := s1.toks + 1 }) I1.kIn hp (PySem.W.handed_on rfl ?_))))
  have I2 := I1.tok (s1.toks + 1)
  refine PySem.W.callWith_K (first := []) (h₀ := X.base) I.ok.mod.kin c.kp (thn (ha.run pos pins _ σ H1 _ I2 q) fun us s2 ⟨vs, H2, I3, rv, q2⟩ => ⟨I3.kIn, ?_⟩) hst hpl
  have q0 : sp (vs ++ []) H2 Q E0 := by
    rw [List.append_nil]
    exact q2
  exact run_fn (us := us) F hr hb .nil pass0 I3 rv q0
end
/-! ### an instance called by one keyword -/
theorem callOK_of {M : Model} {A : Around} {E : Value → Shared → Prop} {s : Shared} {a : Addr} {pos : Pos} {Q : Value → Shared → Prop} {args : List (Bool × Sem Value)} {kws : List (Option Str × Sem Value)} (hplain : (args.any (·.1) || kws.any (·.1.isNone)) = false)
    (h : wpAny M A (evalArgs (.ref a) true args kws) (fun z s₁ => (∃ C ox od, PySem.W.InstAt s₁.heap a ox C od ∧ ox.data = .plain) ∧ wpAny M A (call (.ref a) ([] ++ z.pos) z.kw) Q E s₁) E s) : wpAny M A (callWith pos (.ref a) [] args kws) Q E s := by
  unfold callWith
  refine wpAny_bind (wpAny_holding (wpAny_mono h (fun z s₁ h₁ => wpAny_bind (wpAny_standAt ?_)) fun _ _ y => y))
  obtain ⟨⟨C, ox, od, J, hd⟩, h₁⟩ := h₁
  have L := PySem.W.kco_keeper (M := M) J hd
  simp only [hplain]
  refine wpAny_bind (L.here ?_)
  have tail : ∀ {t : Sem Value}, wpAny M A t Q E s₁ → wpAny M A (t >>= fun r => holding [r] point >>= fun _ => pure r) Q E s₁ :=
    fun ht => wpAny_bind (wpAny_mono ht (fun r s₂ hr => wpAny_bind (wpAny_holding (wpAny_point (wpAny_pure hr)))) fun _ _ y => y)
  exact tail (wpAny_operateT h₁)
section
variable {X : Cx} {k : Nat} {C g : Addr} {sp : Sp} {fd : FuncData} {fe e : Expr} {es : List Expr} {pos kpos : Pos} {p1 kw : Str} {tf : TE} {tk : TA} {t : TA}
/-- f(kw=e), f an instance of C -/
def tCallOK (X : Cx) (C : Addr) (sp : Sp) (tf : TE) (tk : TA) : TE := fun σ H Q => tf σ H fun y H1 => ∃ a, y = V.ref a ∧ tk σ H1 fun vs H2 => (∃ dx fs, H2 a = some (.ins C dx fs)) ∧ sp (V.ref a :: vs) H2 Q E0
theorem pe_callOK (hf : PE X fe tf) (c : StX.CallO X.K C g) (F : FnOk X.prog X.w X.K X.mg X.base CX0 k g fd [p1, kw] sp) (hb : ∀ (s : Shared) (u v : Value), X.K.In s.heap → BindsTo s fd ⟨[u], [(kw, v)]⟩ [(p1, u), (kw, v)]) (hr : Room k X.A) (hkw : PK X [⟨some kw, e, kpos⟩] tk)
    (hall : (backToKw pos (keywordEach [⟨some kw, e, kpos⟩] X.env)).all (·.1.isSome) = true := by rfl) (hks : (backToKw pos (keywordEach [⟨some kw, e, kpos⟩] X.env)).filterMap (·.1) = [kw] := by rfl)
    (hpl : ((backTo pos (starEach [] X.env)).any (·.1) || (backToKw pos (keywordEach [⟨some kw, e, kpos⟩] X.env)).any (·.1.isNone)) = false := by rfl)
    (ht : eval (.Call fe [] [⟨some kw, e, kpos⟩] pos) X.env = (do callWith pos (← eval fe X.env) [] (backTo pos (starEach [] X.env)) (backToKw pos (keywordEach [⟨some kw, e, kpos⟩] X.env))) := by rfl) :
    PE X (.Call fe [] [⟨some kw, e, kpos⟩] pos) (tCallOK X C sp tf tk) := by
  refine ⟨fun pins s σ H Q I h => ?_⟩
  rw [ht]
  refine wpAny_bind (thn (hf.run pins s σ H _ I h) fun u s1 ⟨y, H1, I1, ry, a, ey, q⟩ => ?_)
  subst ey
  obtain rfl : u = Value.ref a := ry
  refine callOK_of hpl (PyProof.Rows.evalArgs_kw2_nil hall (thn (hkw.run pos pins s1 σ H1 _ I1 q) fun ws s2 ⟨zs, H2, I2, rz, ⟨dx, fs, hi⟩, q2⟩ => ?_))
  obtain ⟨ox, od, J, hd⟩ := StX.insC_at I2 (C := C) (.inr ⟨dx, fs, hi⟩)
  refine ⟨⟨C, ox, od, J, hd⟩, ?_⟩
  rw [hks]
  have hl := F.len _ _ _ _ q2
  cases rz with
  | nil => cases hl
  | @cons v u vs us rv rr =>
    cases rr with
    | cons _ _ => cases hl
    | nil =>
      refine wpAny_call (PySem.W.kco_code I2.kIn J hd c.at_ c.fn c.fi (codeAny_mono (F.run X.A X.stack s2 H2 ⟨[.ref a], [(kw, u)]⟩ [.ref a, u] [.ref a, v] Q E0 hr I2.env0 (hb s2 _ _ I2.kIn) (.cons rfl (.cons rv .nil)) q2) fun r s' hq => ?_))
      cases r with
      | error e => exact False.elim hq
      | ok fl =>
        cases fl with
        | ret u => exact I2.after hq
        | next => exact False.elim hq
        | brk => exact False.elim hq
        | cont => exact False.elim hq
/-- a def by position, as a promise of its arguments alone -/
theorem fnR_of {ps : List Str} (F : FnOk X.prog X.w X.K X.mg X.base CX0 k g fd ps sp) (hb : Binds X.K fd ps []) : FnR X.prog X.w X.K X.mg X.base CX0 k g sp := by
  intro A outer s H us vs Q E hr e0 r h
  have hl : (us ++ []).length = ps.length := by
    rw [List.append_nil, ← r.length]
    exact F.len _ _ _ _ h
  have KX : X.K.In s.heap := e0.mod.kin.keeps fun b o e => (e0.bs b o e).1
  have hbb := hb s us KX hl
  rw [List.append_nil] at hbb
  exact F.run A outer s H ⟨us, []⟩ us vs Q E hr e0 hbb r h
end
/-! ### t[::-1] -/
section
variable {prog : Program} {w : World} {A : Around} {E : Value → Shared → Prop} {s : Shared}
open HT
theorem sliceApplied_rev {sl : Addr} {vl vu vs : Value} {n : Nat} {Q : Int × Int × Nat → Shared → Prop} (hs : s.heap.IsSliceOf sl vl vu vs) (pl : IsPart vl none) (pu : IsPart vu none) (ps : IsPart vs (some (-1)))
    (h : Q ((n : Int) - 1, -1, n) s) : wpAny (model prog w) A (Builtin.Slice.sliceApplied (.ref sl) (pure (n : Int))) Q E s := by
  obtain ⟨os, hos, hcs, hds⟩ := id hs
  unfold Builtin.Slice.sliceApplied Builtin.Slice.sliceFields
  refine wpAny_bind (wpAny_bind (wpAny_field hos hds (x := vl) rfl (wpAny_bind (wpAny_field hos hds (x := vu) rfl (wpAny_bind (wpAny_field hos hds (x := vs) rfl (wpAny_pure ?_)))))))
  refine wpAny_bind (slicePart_ ps ?_)
  show wpAny _ _ (if ((-1 : Int) == 0) = true then _ else _) _ _ s
  rw [if_neg (by decide)]
  refine wpAny_bind (slicePart_ pl (wpAny_bind (slicePart_ pu (wpAny_bind (wpAny_pure ?_)))))
  show wpAny _ _ (match Builtin.Slice.sliceAdjust none none (-1) (n : Int) with | (lo, hi) => pure (lo, (-1 : Int), Builtin.Slice.slicePlaces lo hi (-1))) _ _ s
  have e1 : Builtin.Slice.sliceAdjust none none (-1) (n : Int) = ((n : Int) - 1, -1) := rfl
  rw [e1]
  have e2 : Builtin.Slice.slicePlaces ((n : Int) - 1) (-1) (-1) = n := by
    unfold Builtin.Slice.slicePlaces
    rw [if_neg (by decide)]
    split
    · rw [show (-(-1 : Int)) = 1 by decide, Int.ediv_one]
      omega
    · omega
  show wpAny _ _ (pure ((n : Int) - 1, (-1 : Int), Builtin.Slice.slicePlaces ((n : Int) - 1) (-1) (-1))) _ _ s
  rw [e2]
  exact wpAny_pure h
theorem fm_congr {α β : Type} {f g : α → Option β} : ∀ {l : List α}, (∀ a ∈ l, f a = g a) → l.filterMap f = l.filterMap g
  | [], _ => rfl
  | a :: l, h => by
    rw [List.filterMap_cons, List.filterMap_cons, h a List.mem_cons_self, fm_congr fun b hb => h b (List.mem_cons_of_mem _ hb)]
theorem pick_rev (xs : Array Value) : ((List.range xs.size).filterMap fun (m : Nat) => xs[(((xs.size : Int) - 1) + (m : Int) * (-1)).toNat]?).toArray = xs.toList.reverse.toArray := by
  have e : ∀ m ∈ List.range xs.size, xs[(((xs.size : Int) - 1) + (m : Int) * (-1)).toNat]? = xs[xs.size - 1 - m]? := fun m hm => by
    have : m < xs.size := List.mem_range.mp hm
    have : (((xs.size : Int) - 1) + (m : Int) * (-1)).toNat = xs.size - 1 - m := by omega
    rw [this]
  rw [fm_congr e]
  have e3 : (List.range xs.size).filterMap (fun m => xs[xs.size - 1 - m]?) = ((List.range xs.size).map fun k => xs.size - 1 - k).filterMap (xs[·]?) := by
    rw [List.filterMap_map]
    rfl
  rw [e3, PySem.W.krv_range, List.filterMap_reverse, PySem.W.krv_all]
theorem getItem_tuple_rev {t sl : Addr} {items : Array Value} {vl vu vs : Value} {Q : Value → Shared → Prop} (ht : IsTup s.heap t items) (hs : s.heap.IsSliceOf sl vl vu vs) (pl : IsPart vl none) (pu : IsPart vu none) (ps : IsPart vs (some (-1)))
    (h : Q (.ref s.heap.objs.size) { s with heap := s.heap.push { cls := .type "tuple", data := .seq items.toList.reverse.toArray } })
    (hsz : items.size ≤ sizeLine) : wpAny (model prog w) A (getItem (.ref t) (.ref sl)) Q E s := by
  have htake : sizeOk (.seq items.toList.reverse.toArray) := by
    show items.toList.reverse.toArray.size ≤ sizeLine
    rw [List.size_toArray, List.length_reverse, Array.length_toList]
    exact hsz
  obtain ⟨os, hos, hcs, hds⟩ := id hs
  have hTs : s.TypeIs (.ref sl) "slice" := ⟨os, hos, hcs⟩
  unfold getItem
  try with_reducible refine wpAny_holding ?_
  first | refine wpAny_bind (wpAny_pure ?_) | skip
  refine wpAny_bind (wpAny_sequenceKey ht.typeIs (by decide) ?_)
  refine wpAny_bind (wpAny_callSpecial?_slot (name := Str.ofString "__getitem__") ht.typeIs PyProof.Rows.slot_tuple_getitem
    (wpAny_call_entry PyProof.Rows.slot_tuple_getitem ht.typeIs entry_tuple_getitem ?_ (args_tuple_getitem _ _)))
  show wpAny _ _ (Builtin.Tuple.tupleItemsOf (.ref t) >>= _) _ _ s
  refine wpAny_bind (tupleItemsOf_ ht ?_)
  refine wpAny_bind (wpAny_typeOf hTs ?_)
  rw [if_pos (by decide)]
  refine wpAny_bind (sliceApplied_rev hs pl pu ps ?_)
  show wpAny _ _ (if ((((items.size : Int) - 1) == 0 && (-1 : Int) == 1 && items.size == items.size) = true) then _ else _) _ _ s
  rw [if_neg (by rw [show ((-1 : Int) == 1) = false by decide, Bool.and_false, Bool.false_and]; exact Bool.false_ne_true), pick_rev]
  first
    | exact wpAny_bind (m := Builtin.Tuple.tupleExact _) (wpAny_newObj_type (wpAny_pure ⟨_, rfl, wpAny_pure h⟩) htake)
    | exact wpAny_bind (m := Builtin.Tuple.tupleExact _) (wpAny_newObj_type (wpAny_bind (wpAny_pure (wpAny_pure ⟨_, rfl, wpAny_pure h⟩))) htake)
    | exact wpAny_bind (wpAny_bind (m := Builtin.Tuple.tupleExact _) (wpAny_newObj_type (wpAny_pure (wpAny_pure ⟨_, rfl, wpAny_pure h⟩)) htake))
    | exact wpAny_bind (wpAny_bind (m := Builtin.Tuple.tupleExact _) (wpAny_newObj_type (wpAny_pure ⟨_, rfl, wpAny_pure h⟩) htake))
end
section
variable {X : Cx}
def tRevT (K : PySem.W.Frag) (te : TE) : TE := fun σ H Q => te σ H fun x H1 => ∃ a xs, x = .ref a ∧ SqT K H1 a xs ∧ ∀ p, H1 p = none → Q (.ref p) (upd H1 p (.tup xs.reverse))
theorem pe_revT {e : Expr} {te : TE} {k : Nat} {p1 p2 p3 pos : Pos} (he : PE X e te) : PE X (.Subscript e (.Slice none none (some (.UnaryOp .USub (.Constant (.int 1) k p1) p2)) p3) pos) (tRevT X.K te) := by
  refine ⟨fun pins s σ H Q I h => ?_⟩
  refine Subscript_ (thn (he.run pins s σ H _ I h) fun v s1 ⟨x, H1, I1, r1, q1⟩ => ?_)
  obtain ⟨a, xs, ex, hx, q⟩ := q1
  subst ex
  cases r1
  have hst : PO X (some (.UnaryOp .USub (.Constant (.int 1) k p1) p2)) (tPart (tUn (rU fun i => .int (-i)) (tC (.int 1)))) := po_some (pe_un un_neg pe_int)
  refine wpAny_Slice (thn (po_none.run pins s1 σ H1 (fun o H2 => o = none ∧ H2 = H1) I1 ⟨rfl, rfl⟩) fun vl s2 ⟨l, H2, I2, pl, el, e2⟩ => ?_)
  subst el e2
  refine thn (po_none.run pins s2 σ H2 (fun o H3 => o = none ∧ H3 = H2) I2 ⟨rfl, rfl⟩) fun vu s3 ⟨u, H3, I3, pu, eu, e3⟩ => ?_
  subst eu e3
  refine thn (hst.run pins s3 σ H3 (fun o H4 => o = some (-1) ∧ H4 = H3) I3 ⟨1, rfl, -1, rfl, rfl, rfl⟩) fun vs s4 ⟨o, H4, I4, ps, eo, e4⟩ => ?_
  subst eo e4
  have I5 : Inv X pins σ H4 { s4 with heap := s4.heap.push { cls := .type "slice", data := .fields #[vl, vu, vs] } } := I4.kept (t' := s4.toks) fun b ob q => Heap.get?_push_of_some _ q
  obtain ⟨its, r, ht, hz⟩ := I5.tuple hx
  have hlen := r.length
  show wpAny (model X.prog X.w) X.A (subscriptTail e (.Slice none none (some (.UnaryOp .USub (.Constant (.int 1) k p1) p2)) p3) (.ref a) (.ref s4.heap.objs.size)) (EP X pins σ Q) X.xe { s4 with heap := s4.heap.push { cls := .type "slice", data := .fields #[vl, vu, vs] } }
  refine tail_any (ops := [.ref a, .ref s4.heap.objs.size]) ht.typeIs PyProof.Rows.slot_tuple_getitem.lookup ?_ (by with_unfolding_all rfl)
  refine getItem_tuple_rev ht (Heap.IsSliceOf.new _ vl vu vs) pl pu ps ?_ (by rw [List.size_toArray]; omega)
  refine ⟨.ref _, _, I5.laid (t' := s4.toks) (o := .tup xs.reverse) (fun b ob q => Heap.get?_push_of_some _ q) (Nat.le_refl _) ?_, rfl, q _ (I5.hok.fresh (Nat.le_refl _))⟩
  exact ⟨by rw [List.length_reverse]; exact hz, _, r.reverse, IsTup.new _ _⟩
/-! ### x in a tuple of data -/
def rInT (K : PySem.W.Frag) : R2 := fun x y H Q => ∃ d ds, Dp K H x d ∧ Dp K H y (.tuple ds) ∧ SeqAt.shaped d = true ∧ SeqAt.shaped (.tuple ds) = true ∧ Q (.bl (ds.any fun z => PyData.eqv z d)) H
theorem op_inT (hu : X.A.units + 65 < cLine) : OpR X (compareOp .In) (rInT X.K) := by
  intro pins s σ H x y v u Q I rx ry h
  obtain ⟨d, ds, hd, he, sd, se, q⟩ := h
  obtain ⟨as, r1⟩ := Dp.reads I d x v hd rx
  obtain ⟨bs, r2⟩ := Dp.reads I (.tuple ds) y u he ry
  exact SeqAt.in_tuple_reads r2 r1 (SeqAt.canLay_of_shaped se) (SeqAt.canLay_of_shaped sd) (room_in_shaped sd hu) ⟨.bl _, H, I, rfl, q⟩
end
end RL

/-! The mathematics of rows of pieces: their maps, what they show. -/
namespace RL
/-- a piece: is it a rail, its ohms -/
abbrev Pc := Bool × Int
def PcOk (p : Pc) : Prop := 1 ≤ p.2 ∧ p.2 ≤ 12
structure Mx where
  a : Int
  b : Int
  c : Int
  d : Int
def stepM (m : Mx) (p : Pc) : Mx := if p.1 = true then ⟨m.a, m.a * p.2 + m.b, m.c, m.c * p.2 + m.d⟩ else ⟨m.a * p.2 + m.b, m.b * p.2, m.c * p.2 + m.d, m.d * p.2⟩
def stepS (s : Int) (p : Pc) : Int := if p.1 = true then s else s * p.2
def m1 : Mx := ⟨1, 0, 0, 1⟩
def matR (r : List Pc) : Mx := r.foldl stepM m1
def sclR (r : List Pc) : Int := r.foldl stepS 1
/-- what a map makes of a pair -/
def Mx.app (m : Mx) (e : Int × Int) : Int × Int := (m.a * e.1 + m.b * e.2, m.c * e.1 + m.d * e.2)
def act (p : Pc) (e : Int × Int) : Int × Int := if p.1 = true then (e.1 + p.2 * e.2, e.2) else (p.2 * e.1, e.1 + p.2 * e.2)
def actR (r : List Pc) (e : Int × Int) : Int × Int := r.foldr act e
theorem app_step (m : Mx) (p : Pc) (e : Int × Int) : (stepM m p).app e = m.app (act p e) := by
  unfold stepM act Mx.app
  split <;> (ext <;> dsimp <;> grind)
theorem app_fold (r : List Pc) : ∀ (m : Mx) (e : Int × Int), (r.foldl stepM m).app e = m.app (actR r e) := by
  induction r with
  | nil => exact fun _ _ => rfl
  | cons p r ih =>
    intro m e
    rw [List.foldl_cons, ih, app_step]
    rfl
theorem app_one (e : Int × Int) : m1.app e = e := by
  unfold Mx.app m1
  ext <;> dsimp <;> omega
theorem mat_app (r : List Pc) (e : Int × Int) : (matR r).app e = actR r e := by
  unfold matR
  rw [app_fold, app_one]
theorem act_app (r r' : List Pc) (e : Int × Int) : actR (r ++ r') e = actR r (actR r' e) := List.foldr_append ..
/-- a pair that stands for a fraction or an open end -/
def Pos2 (e : Int × Int) : Prop := 0 ≤ e.1 ∧ 0 ≤ e.2 ∧ (0 < e.1 ∨ 0 < e.2)
def sc (k : Int) (e : Int × Int) : Int × Int := (k * e.1, k * e.2)
theorem act_pos {p : Pc} {e : Int × Int} (hp : PcOk p) (h : Pos2 e) : Pos2 (act p e) := by
  obtain ⟨h1, h2, h3⟩ := h
  obtain ⟨q1, q2⟩ := hp
  have m1 := Int.mul_nonneg (show 0 ≤ p.2 by omega) h1
  have m2 := Int.mul_nonneg (show 0 ≤ p.2 by omega) h2
  unfold act Pos2
  split
  · dsimp
    omega
  · dsimp
    refine ⟨m1, by omega, ?_⟩
    rcases h3 with h3 | h3
    · exact .inl (Int.mul_pos (by omega) h3)
    · have := Int.mul_pos (show 0 < p.2 by omega) h3
      exact .inr (by omega)
def RowOk (r : List Pc) : Prop := ∀ p ∈ r, PcOk p
theorem RowOk.tail {p : Pc} {r : List Pc} (h : RowOk (p :: r)) : RowOk r := fun q hq => h q (List.mem_cons_of_mem _ hq)
theorem RowOk.head {p : Pc} {r : List Pc} (h : RowOk (p :: r)) : PcOk p := h p List.mem_cons_self
theorem RowOk.app {r r' : List Pc} (h : RowOk r) (h' : RowOk r') : RowOk (r ++ r') := fun q hq => (List.mem_append.mp hq).elim (h q) (h' q)
theorem actR_pos {r : List Pc} {e : Int × Int} (hr : RowOk r) (h : Pos2 e) : Pos2 (actR r e) := by
  induction r with
  | nil => exact h
  | cons p r ih => exact act_pos hr.head (ih hr.tail)
theorem act_sc (p : Pc) (k : Int) (e : Int × Int) : act p (sc k e) = sc k (act p e) := by
  unfold act sc
  split <;> (ext <;> dsimp <;> grind)
theorem actR_sc (r : List Pc) (k : Int) (e : Int × Int) : actR r (sc k e) = sc k (actR r e) := by
  induction r with
  | nil => rfl
  | cons p r ih =>
    show act p (actR r (sc k e)) = _
    rw [ih, act_sc]
    rfl
/-- .. as the law walks -/
def frt (p : Pc) (e : Int × Int) : Int × Int := if p.1 = true then (e.1 + p.2 * e.2, e.2) else if e.2 = 0 then (p.2, 1) else (p.2 * e.1, p.2 * e.2 + e.1)
def frtR (r : List Pc) (e : Int × Int) : Int × Int := r.foldr frt e
theorem frt_act {p : Pc} {e : Int × Int} (hp : PcOk p) (h : Pos2 e) : ∃ k, 0 < k ∧ act p e = sc k (frt p e) := by
  unfold act frt sc
  split
  · exact ⟨1, by decide, by ext <;> dsimp <;> omega⟩
  · split
    · rename_i z
      refine ⟨e.1, by have := h.2.2; omega, ?_⟩
      ext
      · dsimp
        grind
      · dsimp
        rw [z]
        omega
    · exact ⟨1, by decide, by ext <;> dsimp <;> omega⟩
theorem frt_pos {p : Pc} {e : Int × Int} (hp : PcOk p) (h : Pos2 e) : Pos2 (frt p e) := by
  obtain ⟨k, hk, ek⟩ := frt_act hp h
  have := act_pos hp h
  rw [ek] at this
  unfold sc Pos2 at this
  obtain ⟨a, b, c⟩ := this
  have t1 : ∀ x : Int, 0 ≤ k * x → 0 ≤ x := fun x hx => by
    rcases Int.lt_or_le x 0 with z | z
    · have := Int.mul_neg_of_pos_of_neg hk z
      omega
    · exact z
  have t2 : ∀ x : Int, 0 < k * x → 0 < x := fun x hx => by
    rcases Int.lt_or_le 0 x with z | z
    · exact z
    · have := Int.mul_nonpos_of_nonneg_of_nonpos (Int.le_of_lt hk) z
      omega
  exact ⟨t1 _ a, t1 _ b, c.imp (t2 _) (t2 _)⟩
theorem frtR_pos {r : List Pc} {e : Int × Int} (hr : RowOk r) (h : Pos2 e) : Pos2 (frtR r e) := by
  induction r with
  | nil => exact h
  | cons p r ih => exact frt_pos hr.head (ih hr.tail)
theorem sc_sc (j k : Int) (e : Int × Int) : sc j (sc k e) = sc (j * k) e := by
  unfold sc
  ext <;> dsimp <;> grind
theorem frtR_act {r : List Pc} {e : Int × Int} (hr : RowOk r) (h : Pos2 e) : ∃ k, 0 < k ∧ actR r e = sc k (frtR r e) := by
  induction r with
  | nil => exact ⟨1, by decide, by unfold sc; ext <;> dsimp [actR, frtR] <;> omega⟩
  | cons p r ih =>
    obtain ⟨k, hk, ek⟩ := ih hr.tail
    obtain ⟨j, hj, ej⟩ := frt_act hr.head (frtR_pos hr.tail h)
    refine ⟨k * j, Int.mul_pos hk hj, ?_⟩
    show act p (actR r e) = sc (k * j) (frt p (frtR r e))
    rw [ek, act_sc, ej, sc_sc]
/-! ### lowest terms -/
def low (e : Int × Int) : Int × Int := (e.1 / gc e.1 e.2, e.2 / gc e.1 e.2)
theorem gc_pos2 {e : Int × Int} (h : Pos2 e) : 0 < gc e.1 e.2 := gc_pos (by have := h.2.2; omega)
theorem gc_sm {t b : Int} {n : Nat} (h : Pos2 (t, b)) (ht : Sm n t) (hb : Sm n b) : Sm n (gc t b) := by
  have g0 : 0 < gc t b := gc_pos2 h
  rcases h.2.2 with z | z
  · have := Int.le_of_dvd z (gc_dvd1 t b)
    exact ht.of (by omega) this
  · have := Int.le_of_dvd z (gc_dvd2 t b)
    exact hb.of (by omega) this
theorem low_sc {k : Int} (hk : 0 < k) (e : Int × Int) : low (sc k e) = low e := by
  unfold low sc
  dsimp
  rw [gc_mul (Int.le_of_lt hk), Int.mul_ediv_mul_of_pos _ _ hk, Int.mul_ediv_mul_of_pos _ _ hk]
theorem low_is {e : Int × Int} (h : Pos2 e) : e = sc (gc e.1 e.2) (low e) := by
  unfold low sc
  ext
  · exact ex_mul (gc_dvd1 _ _) (gc_pos2 h)
  · exact ex_mul (gc_dvd2 _ _) (gc_pos2 h)
theorem pos_sc {k : Int} {e : Int × Int} (hk : 0 < k) (h : Pos2 (sc k e)) : Pos2 e := by
  unfold sc Pos2 at h
  obtain ⟨a, b, c⟩ := h
  have t1 : ∀ x : Int, 0 ≤ k * x → 0 ≤ x := fun x hx => by
    rcases Int.lt_or_le x 0 with z | z
    · have := Int.mul_neg_of_pos_of_neg hk z
      omega
    · exact z
  have t2 : ∀ x : Int, 0 < k * x → 0 < x := fun x hx => by
    rcases Int.lt_or_le 0 x with z | z
    · exact z
    · have := Int.mul_nonpos_of_nonneg_of_nonpos (Int.le_of_lt hk) z
      omega
  exact ⟨t1 _ a, t1 _ b, c.imp (t2 _) (t2 _)⟩
theorem low_pos {e : Int × Int} (h : Pos2 e) : Pos2 (low e) := pos_sc (gc_pos2 h) (by rw [← low_is h]; exact h)
theorem low_low {e : Int × Int} (h : Pos2 e) : low (low e) = low e := by
  have := low_sc (gc_pos2 h) (low e)
  rw [← low_is h] at this
  exact this.symm
/-- what the map shows is what the walk shows -/
theorem shows_front {r : List Pc} {e : Int × Int} (hr : RowOk r) (h : Pos2 e) : low ((matR r).app e) = low (frtR r e) := by
  obtain ⟨k, hk, ek⟩ := frtR_act hr h
  rw [mat_app, ek, low_sc hk]
theorem shows_two {r r' : List Pc} {e : Int × Int} (hr : RowOk r) (hr' : RowOk r') (h : Pos2 e) : low ((matR (r ++ r')).app e) = low (frtR r (low (frtR r' e))) := by
  have p' := frtR_pos hr' h
  have pl := low_pos p'
  obtain ⟨k, hk, ek⟩ := frtR_act hr pl
  obtain ⟨j, hj, ej⟩ := frtR_act hr' h
  rw [mat_app, act_app, ej, actR_sc, low_sc hj]
  conv => lhs; rw [low_is p']
  rw [actR_sc, low_sc (gc_pos2 p'), ek, low_sc hk]
/-! ### the four fractions -/
theorem low_frac {x s : Int} (hs : 0 < s) : 0 < s / gc x s ∧ x / gc x s * s = s / gc x s * x := by
  have g0 : 0 < gc x s := gc_pos (.inr (by omega))
  have e1 := ex_mul (gc_dvd1 x s) g0
  have e2 := ex_mul (gc_dvd2 x s) g0
  refine ⟨?_, ?_⟩
  · rcases Int.lt_or_le 0 (s / gc x s) with z | z
    · exact z
    · have := Int.mul_nonpos_of_nonneg_of_nonpos (Int.le_of_lt g0) z
      omega
  · generalize x / gc x s = u at *
    generalize s / gc x s = v at *
    generalize gc x s = g at *
    subst e1
    rw [e2]
    grind
theorem by_numbers {m : Mx} {s : Int} {e : Int × Int} (hs : 0 < s) {a0 a1 b0 b1 c0 c1 d0 d1 : Int} (ha : 0 < a1 ∧ a0 * s = a1 * m.a) (hb : 0 < b1 ∧ b0 * s = b1 * m.b) (hc : 0 < c1 ∧ c0 * s = c1 * m.c) (hd : 0 < d1 ∧ d0 * s = d1 * m.d) :
    low ((a0 * b1 * e.1 + b0 * a1 * e.2) * c1 * d1, (c0 * d1 * e.1 + d0 * c1 * e.2) * a1 * b1) = low (m.app e) := by
  have hP : 0 < a1 * b1 * c1 * d1 := Int.mul_pos (Int.mul_pos (Int.mul_pos ha.1 hb.1) hc.1) hd.1
  rw [← low_sc hs, ← low_sc hP (m.app e)]
  congr 1
  unfold sc Mx.app
  obtain ⟨_, ha⟩ := ha
  obtain ⟨_, hb⟩ := hb
  obtain ⟨_, hc⟩ := hc
  obtain ⟨_, hd⟩ := hd
  ext
  · dsimp
    grind
  · dsimp
    grind
theorem by_numbers_pos {m : Mx} {s : Int} {e : Int × Int} (hs : 0 < s) {a0 a1 b0 b1 c0 c1 d0 d1 : Int} (ha : 0 < a1 ∧ a0 * s = a1 * m.a) (hb : 0 < b1 ∧ b0 * s = b1 * m.b) (hc : 0 < c1 ∧ c0 * s = c1 * m.c) (hd : 0 < d1 ∧ d0 * s = d1 * m.d) (hp : Pos2 (m.app e)) :
    Pos2 ((a0 * b1 * e.1 + b0 * a1 * e.2) * c1 * d1, (c0 * d1 * e.1 + d0 * c1 * e.2) * a1 * b1) := by
  have hP : 0 < a1 * b1 * c1 * d1 := Int.mul_pos (Int.mul_pos (Int.mul_pos ha.1 hb.1) hc.1) hd.1
  refine pos_sc hs ?_
  have e1 : sc s ((a0 * b1 * e.1 + b0 * a1 * e.2) * c1 * d1, (c0 * d1 * e.1 + d0 * c1 * e.2) * a1 * b1) = sc (a1 * b1 * c1 * d1) (m.app e) := by
    unfold sc Mx.app
    obtain ⟨_, ha⟩ := ha
    obtain ⟨_, hb⟩ := hb
    obtain ⟨_, hc⟩ := hc
    obtain ⟨_, hd⟩ := hd
    ext
    · dsimp
      grind
    · dsimp
      grind
  rw [e1]
  obtain ⟨p1, p2, p3⟩ := hp
  exact ⟨Int.mul_nonneg (Int.le_of_lt hP) p1, Int.mul_nonneg (Int.le_of_lt hP) p2, p3.imp (Int.mul_pos hP) (Int.mul_pos hP)⟩
/-! ### signs and sizes -/
def MxOk (m : Mx) : Prop := 0 ≤ m.a ∧ 0 ≤ m.b ∧ 0 ≤ m.c ∧ 0 ≤ m.d ∧ 0 < m.a * m.d - m.b * m.c
theorem step_ok {m : Mx} {p : Pc} (hp : PcOk p) (h : MxOk m) : MxOk (stepM m p) := by
  obtain ⟨h1, h2, h3, h4, h5⟩ := h
  have q0 : 0 ≤ p.2 := by have := hp.1; omega
  have z1 := Int.mul_nonneg h1 q0
  have z2 := Int.mul_nonneg h2 q0
  have z3 := Int.mul_nonneg h3 q0
  have z4 := Int.mul_nonneg h4 q0
  unfold stepM MxOk
  split
  · dsimp
    refine ⟨h1, by omega, h3, by omega, ?_⟩
    have : m.a * (m.c * p.2 + m.d) - (m.a * p.2 + m.b) * m.c = m.a * m.d - m.b * m.c := by grind
    omega
  · dsimp
    refine ⟨by omega, by omega, by omega, by omega, ?_⟩
    have : (m.a * p.2 + m.b) * (m.d * p.2) - m.b * p.2 * (m.c * p.2 + m.d) = p.2 * p.2 * (m.a * m.d - m.b * m.c) := by grind
    rw [this]
    have q1 : 0 < p.2 := by have := hp.1; omega
    exact Int.mul_pos (Int.mul_pos q1 q1) h5
theorem fold_ok {r : List Pc} : ∀ {m : Mx}, RowOk r → MxOk m → MxOk (r.foldl stepM m) := by
  induction r with
  | nil => exact fun _ h => h
  | cons p r ih => exact fun hr h => ih hr.tail (step_ok hr.head h)
theorem matR_ok {r : List Pc} (hr : RowOk r) : MxOk (matR r) := fold_ok hr ⟨by decide, by decide, by decide, by decide, by decide⟩
theorem scl_fold {r : List Pc} : ∀ {s : Int}, RowOk r → 0 < s → 0 < r.foldl stepS s := by
  induction r with
  | nil => exact fun _ h => h
  | cons p r ih =>
    intro s hr h
    refine ih hr.tail ?_
    unfold stepS
    split
    · exact h
    · exact Int.mul_pos h (by have := hr.head.1; omega)
theorem sclR_pos {r : List Pc} (hr : RowOk r) : 0 < sclR r := scl_fold hr (by decide)
def MxSm (n : Nat) (m : Mx) : Prop := Sm n m.a ∧ Sm n m.b ∧ Sm n m.c ∧ Sm n m.d
theorem ohm_sm {p : Pc} (hp : PcOk p) : Sm 4 p.2 := by
  obtain ⟨h1, h2⟩ := hp
  unfold Sm
  omega
theorem step_sm {m : Mx} {p : Pc} {n : Nat} (hp : PcOk p) (h : MxSm n m) : MxSm (n + 5) (stepM m p) := by
  obtain ⟨h1, h2, h3, h4⟩ := h
  have o := ohm_sm hp
  have up : ∀ {x : Int}, Sm n x → Sm (n + 4) x := fun z => z.mono (by omega)
  unfold stepM MxSm
  split
  · exact ⟨h1.mono (by omega), (h1.mul o).add (up h2), h3.mono (by omega), (h3.mul o).add (up h4)⟩
  · exact ⟨(h1.mul o).add (up h2), (h2.mul o).mono (by omega), (h3.mul o).add (up h4), (h4.mul o).mono (by omega)⟩
theorem fold_sm {r : List Pc} : ∀ {m : Mx} {n : Nat}, RowOk r → MxSm n m → MxSm (n + 5 * r.length) (r.foldl stepM m) := by
  induction r with
  | nil => exact fun _ h => h
  | cons p r ih =>
    intro m n hr h
    have := ih hr.tail (step_sm hr.head h)
    rw [List.foldl_cons, List.length_cons]
    have e : n + 5 * (r.length + 1) = n + 5 + 5 * r.length := by omega
    rw [e]
    exact this
theorem MxSm.mono {m n : Nat} {x : Mx} (h : MxSm m x) (l : m ≤ n) : MxSm n x := ⟨h.1.mono l, h.2.1.mono l, h.2.2.1.mono l, h.2.2.2.mono l⟩
theorem m1_sm : MxSm 1 m1 := ⟨by unfold Sm; decide, by unfold Sm; decide, by unfold Sm; decide, by unfold Sm; decide⟩
theorem matR_sm {r : List Pc} (hr : RowOk r) (hl : r.length ≤ 8) : MxSm 41 (matR r) := (fold_sm hr m1_sm).mono (by omega)
theorem scl_sm {r : List Pc} : ∀ {s : Int} {n : Nat}, RowOk r → Sm n s → Sm (n + 4 * r.length) (r.foldl stepS s) := by
  induction r with
  | nil => exact fun _ h => h
  | cons p r ih =>
    intro s n hr h
    rw [List.foldl_cons, List.length_cons]
    have e : n + 4 * (r.length + 1) = n + 4 + 4 * r.length := by omega
    rw [e]
    refine ih hr.tail ?_
    unfold stepS
    split
    · exact h.mono (by omega)
    · exact h.mul (ohm_sm hr.head)
theorem sclR_sm {r : List Pc} (hr : RowOk r) (hl : r.length ≤ 8) : Sm 41 (sclR r) := (scl_sm (n := 1) hr (by unfold Sm; decide)).mono (by omega)
theorem frt_sm {p : Pc} {e : Int × Int} {n : Nat} (hp : PcOk p) (h1 : Sm n e.1) (h2 : Sm n e.2) : Sm (n + 5) (frt p e).1 ∧ Sm (n + 5) (frt p e).2 := by
  have o := ohm_sm hp
  have up : ∀ {x : Int}, Sm n x → Sm (n + 4) x := fun z => z.mono (by omega)
  have c : ∀ {x y : Int}, Sm n x → Sm n y → Sm (n + 5) (x + p.2 * y) := fun hx hy => (up hx).add ((o.mul hy).mono (by omega))
  have c' : ∀ {x y : Int}, Sm n x → Sm n y → Sm (n + 5) (p.2 * y + x) := fun hx hy => by
    rw [Int.add_comm]
    exact c hx hy
  unfold frt
  split
  · exact ⟨c h1 h2, h2.mono (by omega)⟩
  · split
    · exact ⟨o.mono (by omega), Sm.mono (m := 1) (x := (1 : Int)) (by unfold Sm; decide) (by omega)⟩
    · exact ⟨(o.mul h1).mono (by omega), c' h1 h2⟩
theorem frtR_sm {r : List Pc} {e : Int × Int} {n : Nat} (hr : RowOk r) (h1 : Sm n e.1) (h2 : Sm n e.2) : Sm (n + 5 * r.length) (frtR r e).1 ∧ Sm (n + 5 * r.length) (frtR r e).2 := by
  induction r with
  | nil => exact ⟨h1, h2⟩
  | cons p r ih =>
    obtain ⟨a, b⟩ := ih hr.tail
    rw [List.length_cons]
    have e2 : n + 5 * (r.length + 1) = n + 5 * r.length + 5 := by omega
    rw [e2]
    exact frt_sm hr.head a b
theorem app_sm {m : Mx} {e : Int × Int} {j k : Nat} (h : MxSm j m) (h1 : Sm k e.1) (h2 : Sm k e.2) : Sm (j + k + 1) (m.app e).1 ∧ Sm (j + k + 1) (m.app e).2 :=
  ⟨(h.1.mul h1).add (h.2.1.mul h2), (h.2.2.1.mul h1).add (h.2.2.2.mul h2)⟩
theorem low_sm {e : Int × Int} {n : Nat} (h : Pos2 e) (h1 : Sm n e.1) (h2 : Sm n e.2) : Sm n (low e).1 ∧ Sm n (low e).2 := ⟨h1.div (gc_pos2 h), h2.div (gc_pos2 h)⟩
/-! ### what is shown rises with the load -/
def below (e f : Int × Int) : Bool := decide (e.1 * f.2 < f.1 * e.2)
theorem below_sc {j k : Int} (hj : 0 < j) (hk : 0 < k) (e f : Int × Int) : below (sc j e) (sc k f) = below e f := by
  unfold below sc
  rw [Bool.eq_iff_iff, decide_eq_true_iff, decide_eq_true_iff]
  dsimp
  have h : 0 < j * k := Int.mul_pos hj hk
  have e1 : j * e.1 * (k * f.2) = j * k * (e.1 * f.2) := by grind
  have e2 : k * f.1 * (j * e.2) = j * k * (f.1 * e.2) := by grind
  rw [e1, e2]
  exact ⟨fun z => Int.lt_of_mul_lt_mul_left z (Int.le_of_lt h), fun z => Int.mul_lt_mul_of_pos_left z h⟩
theorem below_app {m : Mx} (h : MxOk m) (e f : Int × Int) : below (m.app e) (m.app f) = below e f := by
  unfold below Mx.app
  rw [Bool.eq_iff_iff, decide_eq_true_iff, decide_eq_true_iff]
  dsimp
  obtain ⟨_, _, _, _, hd⟩ := h
  have e1 : (m.a * e.1 + m.b * e.2) * (m.c * f.1 + m.d * f.2) - (m.a * f.1 + m.b * f.2) * (m.c * e.1 + m.d * e.2) = (m.a * m.d - m.b * m.c) * (e.1 * f.2 - f.1 * e.2) := by grind
  constructor
  · intro z
    rcases Int.lt_or_le (e.1 * f.2 - f.1 * e.2) 0 with y | y
    · omega
    · have := Int.mul_nonneg (Int.le_of_lt hd) y
      omega
  · intro z
    have := Int.mul_neg_of_pos_of_neg hd (show e.1 * f.2 - f.1 * e.2 < 0 by omega)
    omega
theorem below_low {e f : Int × Int} (he : Pos2 e) (hf : Pos2 f) : below (low e) (low f) = below e f := by
  conv => rhs; rw [low_is he, low_is hf]
  rw [below_sc (gc_pos2 he) (gc_pos2 hf)]
theorem app_pos {r : List Pc} {e : Int × Int} (hr : RowOk r) (h : Pos2 e) : Pos2 ((matR r).app e) := by
  rw [mat_app]
  exact actR_pos hr h
theorem below_shows {r : List Pc} {e f : Int × Int} (hr : RowOk r) (he : Pos2 e) (hf : Pos2 f) : below (low (frtR r e)) (low (frtR r f)) = below e f := by
  rw [← shows_front hr he, ← shows_front hr hf, below_low (app_pos hr he) (app_pos hr hf), below_app (matR_ok hr)]
end RL

namespace RL
open PySem L2
def top (i : Nat) : Stmt := PySem.Challenge.pw_rungladders_k03_exact_numbers_refused.main.body.getD i (.Pass ⟨0, 0, 0, 0⟩)
/-! ### a def as its callers see it -/
structure Df (P : Program) (w : World) (K : PySem.W.Frag) (mg : Str → Option Value) (base : Heap) (k : Nat) (x : Str) (ps : List Str) (sp : Sp) : Prop where
  ex : ∃ (f : Addr) (fd : FuncData), FnOk P w K mg base CX0 k f fd ps sp ∧ mg x = some (.ref f) ∧ PySem.W.keepIn K (.ref f) = true ∧ Binds K fd ps []
section
variable {X : Cx} {k : Nat} {ps : List Str} {sp : Sp} {x : Str} {p pos : Pos} {e : Expr} {es : List Expr} {t : TA}
theorem pe_df (D : Df X.prog X.w X.K X.mg X.base k x ps sp) (hr : Room k X.A) (hg : Gl X x)
    (ha : PA X (e :: es) t) (hdb : (x == ("__debug__" : Str)) = false := by decide) (he : starEach (e :: es) X.env = (false, eval e X.env) :: starEach es X.env := by rfl) (hpl : (backTo pos (starEach es X.env)).any (·.1) = false := by rfl) :
    PE X (.Call (.Name x p) (e :: es) [] pos) (tCall sp [] E0 t) := by
  obtain ⟨f, fd, G, hm, hk, hb⟩ := D.ex
  exact pe_call G hr hg hm hk hb .nil pass0 ha hdb he hpl
end
theorem pe_fldK {X : Cx} {K : PySem.W.Frag} {e : Expr} {f : Str} {pos : Pos} {ta : TE} (he : PE X e ta) (hK : X.K = K := by rfl) (hb : attributeBase e f X.env (eval e X.env) = eval e X.env := by rfl) : PE X (.Attribute e f pos) (tFld K ta f) := by
  subst hK
  exact pe_fld he hb
structure Txt (K : PySem.W.Frag) (mg : Str → Option Value) : Prop where
  len : mg "len" = none
  abs : mg "abs" = none
  int_ : mg "int" = none
  bool_ : mg "bool" = none
  tuple_ : mg "tuple" = none
  isinstance : mg "isinstance" = none
  divmod : mg "divmod" = none
  max : mg "max" = none
  min : mg "min" = none
  range : mg "range" = none
  all : mg "all" = none
  repr : mg "repr" = none
  str_ : mg "str" = none
  enumerate : mg "enumerate" = none
/-! ### heaps -/
def But (c : Addr) (H H' : Hp) : Prop := ∀ b o, b ≠ c → H b = some o → H' b = some o
theorem But.refl (c : Addr) (H : Hp) : But c H H := fun _ _ _ h => h
theorem But.trans {c : Addr} {H H1 H2 : Hp} (a : But c H H1) (b : But c H1 H2) : But c H H2 := fun x o n h => b x o n (a x o n h)
theorem But.of {c : Addr} {H H' : Hp} (h : Same H H') : But c H H' := fun x o _ e => h x o e
theorem same_upd {H : Hp} {p : Addr} {o : HO} (h : H p = none) : Same H (upd H p o) := fun b x e => by
  rw [upd_ne (ne_of_none e h)]
  exact e
theorem But.upd {c : Addr} {H : Hp} {o : HO} : But c H (upd H c o) := fun b x n e => by
  rw [upd_ne n]
  exact e
theorem But.free {c : Addr} {H H' : Hp} (e : But c H H') {l : Addr} (n : l ≠ c) (h : H' l = none) : H l = none := by
  cases q : H l with
  | none => rfl
  | some o =>
    rw [e l o n q] at h
    cases h
def CupAt (c : Addr) (H : Hp) : Prop := ∃ x y : Int, H c = some (.lst [.int x, .int y]) ∧ 0 ≤ x ∧ x < 2147483629 ∧ 0 ≤ y
theorem CupAt.same {c : Addr} {H H' : Hp} (h : CupAt c H) (s : Same H H') : CupAt c H' := by
  obtain ⟨x, y, a, b⟩ := h
  exact ⟨x, y, s _ _ a, b⟩
theorem CupAt.ne {c b : Addr} {H : Hp} (h : CupAt c H) (n : H b = none) : c ≠ b := by
  obtain ⟨x, y, a, _⟩ := h
  exact ne_of_none a n
/-! ### promises -/
def spCup (K : PySem.W.Frag) : Sp := fun vs H Q _ => ∃ (a : Addr) (ns : List Int) (i : Nat), vs = [.ref a, .int (i : Int)] ∧ SqL K H a (ns.map V.int) ∧ i ≤ 100 ∧ ns.length ≤ 63 ∧
  ∀ H' c, Same H H' → H c = none → CupAt c H' → Q (.ref c) H'
def spSip : Sp := fun vs H Q _ => ∃ (c : Addr) (m : Int), vs = [.ref c, .int m] ∧ CupAt c H ∧ 0 < m ∧ Sm 200 m ∧
  ∀ H' r, But c H H' → CupAt c H' → 0 ≤ r → r < m → Q (.int r) H'
def spPick : Sp := fun vs H Q _ => ∃ (c l : Addr) (xs : List V), vs = [.ref c, .ref l] ∧ CupAt c H ∧ c ≠ l ∧ H l = some (.lst xs) ∧ 0 < xs.length ∧ xs.length ≤ 100 ∧
  ∀ H' v, But c H H' → CupAt c H' → v ∈ xs → Q v H'
def spPair : Sp := fun vs H Q _ => ∃ (t b : Int), vs = [.int t, .int b] ∧ Pos2 (t, b) ∧ Sm 4000 t ∧ Sm 4000 b ∧
  ∀ H' p, Same H H' → H p = none → H' p = some (.tup [.int (low (t, b)).1, .int (low (t, b)).2]) → Q (.ref p) H'
section
variable {P : Program} {w : World} {K : PySem.W.Frag} {mg : Str → Option Value} {base : Heap}
abbrev s_law_sip : Stmt := top 48
theorem sc_law_sip : FnScope ["_law_cup_here", "_law_many", "_law_part"] ["_law_cup_here", "_law_many"] (defScope s_law_sip) := ⟨rfl, rfl, rfl, by decide +kernel, rfl, by decide +kernel, by decide +kernel⟩

theorem ok_sip {f : Addr} {fd : FuncData} (F : Fun K "_law_sip" "_law_sip" s_law_sip f fd) (T : Txt K mg) : FnOk P w K mg base CX0 1 f fd ["_law_cup_here", "_law_many"] spSip := by
  refine F.ok sc_law_sip (fun vs H Q E h => ?_) (fun cdv A outer s H vs Q E hr h => ?_)
  · obtain ⟨c, m, rfl, _⟩ := h
    rfl
  · obtain ⟨c, m, rfl, ⟨x, y, hc, x0, x1, y0⟩, m0, ms, k⟩ := h
    refine ⟨_, (pss_cons (ps_asg (pe_op op_mod (pe_callTy call_int1 (by rfl) T.int_ (by decide +kernel) (pa_cons (pe_op op_add (pe_op op_mul (pe_ix ix_list (pv 0) pe_int (fun _ _ => rfl)) pe_int) pe_int) pa_nil)) pe_int) (pg_sub (pv 0) pe_int set_list))
      (pss_cons (ps_if (pt_cmpR op_gt (pe_ix ix_list (pv 0) pe_int (fun _ _ => rfl)) pe_int (nomark _)) (pss_cons (ps_asg (pe_callB call_divmodW (by rfl) T.divmod (by decide +kernel) (pa_cons (pe_ix ix_list (pv 0) pe_int (fun _ _ => rfl)) (pa_cons (pv 1) pa_nil))) (pg_tup rfl (pgs_cons (pg_sub (pv 0) pe_int set_list) (pgs_cons (pg_name (i := 2) sc_law_sip.nd rfl (.inl rfl)) pgs_nil))))
      (pss_one (ps_ret (pv 2)))) pss_nil)
      (pss_one (ps_ret (pe_op op_mod (pe_callTy call_int1 (by rfl) T.int_ (by decide +kernel) (pa_cons (pe_op op_fdivW (pe_ix ix_list (pv 0) pe_int (fun _ _ => rfl)) pe_int) pa_nil)) (pv 1)))))), ?_⟩
    -- cup[0] = ..
    refine ⟨_, rfl, c, _, _, _, rfl, rfl, SqL.of hc, atI_nat (j := 0) rfl, _, _, rfl, rfl, .inr ⟨by decide, by decide⟩, _, _, rfl, rfl, .inl ⟨_, rfl, _, _, rfl, rfl, (by decide : (0 : Int) < 2147483629), _, rfl, c, _, _, _, rfl, rfl, hc, rfl, ?_⟩⟩
    have z0 : 0 ≤ (x * 48271 + 11) % 2147483629 := Int.emod_nonneg _ (by decide)
    have z1 : (x * 48271 + 11) % 2147483629 < 2147483629 := Int.emod_lt_of_pos _ (by decide)
    have hc1 : (upd H c (HO.lst ([V.int x, V.int y].set 0 (V.int ((x * 48271 + 11) % 2147483629))))) c = some (.lst [.int ((x * 48271 + 11) % 2147483629), .int y]) := upd_same
    have b1 : But c H (upd H c (HO.lst ([V.int x, V.int y].set 0 (V.int ((x * 48271 + 11) % 2147483629))))) := But.upd
    -- if cup[1] > 0
    refine ⟨_, rfl, c, _, _, _, rfl, rfl, SqL.of hc1, atI_nat (j := 1) rfl, _, _, rfl, rfl, _, rfl, ite2 (fun e => ?_) (fun e => ?_)⟩
    · have e0 : 0 < y := of_decide_eq_true e
      refine ⟨_, rfl, c, _, _, _, rfl, rfl, SqL.of hc1, atI_nat (j := 1) rfl, _, rfl, _, _, rfl, ⟨m0, PyProof.noPylong_of_log2 (PySem.Flt.log2_lt_of (by decide) (Nat.lt_of_lt_of_le ms (Nat.pow_le_pow_right (by decide) (by decide : 200 ≤ 9000))))⟩, fun p hp => ?_⟩
      have ncp : c ≠ p := ne_of_none hc1 hp
      have hc2 : (upd (upd H c (HO.lst ([V.int x, V.int y].set 0 (V.int ((x * 48271 + 11) % 2147483629))))) p (HO.tup [V.int (y / m), V.int (y % m)])) c = some (.lst [.int ((x * 48271 + 11) % 2147483629), .int y]) := by
        rw [upd_ne ncp]
        exact hc1
      refine ⟨p, _, rfl, SqT.of upd_same, rfl, _, _, rfl, _, rfl, c, _, _, _, rfl, rfl, hc2, rfl, _, _, rfl, rfl, _, rfl, ?_⟩
      refine k _ _ ?_ ⟨_, y / m, upd_same, z0, z1, Int.ediv_nonneg y0 (by omega)⟩ (Int.emod_nonneg _ (by omega)) (Int.emod_lt_of_pos _ m0)
      exact (b1.trans (But.of (same_upd hp))).trans But.upd
    · refine ⟨_, rfl, c, _, _, _, rfl, rfl, SqL.of hc1, atI_nat (j := 0) rfl, _, _, rfl, rfl, ⟨by decide, by decide⟩, .inl ⟨_, rfl, _, rfl, _, _, rfl, rfl, m0, ?_⟩⟩
      exact k _ _ b1 ⟨_, y, hc1, z0, z1, y0⟩ (Int.emod_nonneg _ (by omega)) (Int.emod_lt_of_pos _ m0)
abbrev s_law_pick : Stmt := top 49
theorem sc_law_pick : FnScope ["_law_cup_here", "_law_things"] ["_law_cup_here", "_law_things"] (defScope s_law_pick) := ⟨rfl, rfl, rfl, by decide +kernel, rfl, by decide +kernel, by decide +kernel⟩

theorem ok_pick {f : Addr} {fd : FuncData} (F : Fun K "_law_pick" "_law_pick" s_law_pick f fd) (T : Txt K mg) (D_law_sip : Df P w K mg base 1 "_law_sip" ["_law_cup_here", "_law_many"] spSip) : FnOk P w K mg base CX0 2 f fd ["_law_cup_here", "_law_things"] spPick := by
  refine F.ok sc_law_pick (fun vs H Q E h => ?_) (fun cdv A outer s H vs Q E hr h => ?_)
  · obtain ⟨c, l, xs, rfl, _⟩ := h
    rfl
  · obtain ⟨c, l, xs, rfl, hc, ncl, hl, l0, l1, k⟩ := h
    refine ⟨_, (pss_one (ps_ret (pe_ix ix_list (pv 1) (pe_df D_law_sip (hr.mono (by decide)) (by rfl) (pa_cons (pv 0) (pa_cons (pe_callB call_len_seq (by rfl) T.len (by decide +kernel) (pa_cons (pv 1) pa_nil)) pa_nil))) (fun _ _ => rfl)))), ?_⟩
    refine ⟨_, rfl, _, rfl, _, rfl, l, _, rfl, .inl (SqL.of hl), c, _, rfl, hc, (by omega), ?_, fun H' r b hc' r0 r1 => ?_⟩
    · unfold Sm
      have : (2 : Nat) ^ 7 ≤ 2 ^ 200 := Nat.pow_le_pow_right (by decide) (by decide)
      have : (2 : Nat) ^ 7 = 128 := by decide
      omega
    · obtain ⟨n, rfl⟩ := Int.eq_ofNat_of_zero_le r0
      have hn : n < xs.length := by omega
      refine ⟨l, xs, _, _, rfl, rfl, SqL.of (b _ _ ncl.symm hl), atI_nat (List.getElem?_eq_getElem hn), ?_⟩
      exact k _ _ b hc' (List.getElem_mem hn)
end
end RL

namespace RL
open PySem L2
section
variable {P : Program} {w : World} {K : PySem.W.Frag} {mg : Str → Option Value} {base : Heap}
theorem cutV2 (xs : List V) : cutV xs none (some 2) = xs.take 2 := by
  unfold cutV
  rw [HT.sIx_none, show HT.sIx xs.length xs.length (some 2) = min 2 xs.length from HT.sIx_nat xs.length xs.length 2]
  rw [Nat.sub_zero, List.drop_zero]
  rcases Nat.le_total 2 xs.length with h | h
  · rw [Nat.min_eq_left h]
  · rw [Nat.min_eq_right h, List.take_length, List.take_of_length_le h]
abbrev s_law_cup : Stmt := top 47
theorem sc_law_cup : FnScope ["_law_script", "_law_spot", "_law_cell", "_law_one"] ["_law_script", "_law_spot"] (defScope s_law_cup) := ⟨rfl, rfl, rfl, by decide +kernel, rfl, by decide +kernel, by decide +kernel⟩

theorem ok_cup {f : Addr} {fd : FuncData} (F : Fun K "_law_cup" "_law_cup" s_law_cup f fd) (T : Txt K mg) : FnOk P w K mg base CX0 1 f fd ["_law_script", "_law_spot"] (spCup K) := by
  refine F.ok sc_law_cup (fun vs H Q E h => ?_) (fun cdv A outer s H vs Q E hr h => ?_)
  · obtain ⟨a, ns, i, rfl, _⟩ := h
    rfl
  · obtain ⟨a, ns, i, rfl, hS, hi, hn, k⟩ := h
    refine ⟨_, (pss_cons (ps_set (i := 2) sc_law_cup.nd rfl (.inl rfl) (pe_ifExp (pt_cmpR op_lt (pv 1) (pe_callB call_len_seq (by rfl) T.len (by decide +kernel) (pa_cons (pv 0) pa_nil)) (nomark _)) (pe_ix ix_list (pv 0) (pv 1) (fun _ _ => rfl)) (pe_op op_add (pe_op op_mul pe_int (pv 1)) pe_int)))
      (pss_cons (ps_for PassesOwn.never rfl (pi_list (pe_ifExp (pt_cmpR op_ge (pv 1) (pe_callB call_len_seq (by rfl) T.len (by decide +kernel) (pa_cons (pv 0) pa_nil)) (nomark _)) (pe_slice sl_list (pv 0) po_none (po_some pe_int)) (pe_lst pa_nil))) (pg_name (i := 3) sc_law_cup.nd rfl (.inl rfl)) (pss_one (ps_set (i := 2) sc_law_cup.nd rfl (.inl rfl) (pe_op op_mod (pe_callTy call_int1 (by rfl) T.int_ (by decide +kernel) (pa_cons (pe_op op_add (pe_op op_mul (pv 2) pe_int) (pv 3)) pa_nil)) pe_int))))
      (pss_one (ps_ret (pe_lst (pa_cons (pe_op op_mod (pe_callTy call_int1 (by rfl) T.int_ (by decide +kernel) (pa_cons (pe_op op_add (pe_op op_add (pe_op op_mul (pv 2) pe_int) (pe_op op_mul pe_int (pv 1))) pe_int) pa_nil)) pe_int) (pa_cons (pe_ifExp (PW.pt (pw_or (pt_cmpR op_lt (pv 2) pe_int (nomark _)) (pw_or1 (pt_cmpR op_ge (pv 2) (pe_op op_pow pe_int pe_int) (nomark _))))) (pe_callB call_abs (by rfl) T.abs (by decide +kernel) (pa_cons (pv 2) pa_nil)) pe_int) pa_nil))))))), ?_⟩
    have hlen : (ns.map V.int).length = ns.length := List.length_map ..
    have isI : ∀ (xs : List Int) (j : Nat) (y : V), (xs.map V.int)[j]? = some y → ∃ u, y = V.int u := fun xs j y hj => by
      rw [List.getElem?_map] at hj
      cases q : xs[j]? with
      | none =>
        rw [q] at hj
        cases hj
      | some u =>
        rw [q] at hj
        exact ⟨u, (Option.some.inj hj).symm⟩
    refine ⟨_, rfl, _, rfl, a, _, rfl, .inl hS, _, _, rfl, rfl, _, rfl, ite2 (fun e => ?_) (fun e => ?_)⟩
    · have e0 : (i : Int) < (ns.map V.int).length := of_decide_eq_true e
      have hin : i < ns.length := by omega
      refine ⟨_, rfl, _, rfl, a, _, _, _, rfl, rfl, hS, atI_nat (v := V.int ns[i]) (by rw [List.getElem?_map, List.getElem?_eq_getElem hin]; rfl), ?_⟩
      refine ⟨_, rfl, _, rfl, a, _, rfl, .inl hS, _, _, rfl, rfl, _, rfl, ite2 (fun e2 => absurd (of_decide_eq_true e2) (by omega)) (fun e2 => ?_)⟩
      refine ⟨Nat.zero_le _, fun l hl0 => ?_⟩
      have sm : Same H (upd H l (.lst [])) := same_upd hl0
      have hl : SqL K (upd H l (.lst [])) l (([] : List Int).map V.int) := SqL.of upd_same
      refine ⟨l, rfl, ⟨_, hl⟩, for_list (K := K) (a := l) (xs := ([] : List Int).map V.int) (fun j σ H' => ∃ (c2 : Int) (v3 : Option V), σ = [some (.ref a), some (.int i), some (.int c2), v3] ∧ H' = upd H l (.lst [])) ⟨ns[i], none, rfl, rfl⟩ (fun _ _ _ _ h => by obtain ⟨_, _, _, rfl⟩ := h; exact hl) ?_ ?_⟩
      · rintro j y σ H' hj ⟨c2, v3, rfl, rfl⟩
        obtain ⟨u, rfl⟩ := isI _ _ _ hj
        refine ⟨_, rfl, _, _, rfl, rfl, .inr ⟨by decide, by decide⟩, _, rfl, _, _, rfl, rfl, .inl ⟨_, rfl, _, _, rfl, rfl, (by decide : (0 : Int) < 1000000007), ?_⟩⟩
        exact ⟨_, _, rfl, rfl⟩
      · rintro σ H' ⟨c2, v3, rfl, rfl⟩
        refine ⟨_, rfl, _, _, rfl, rfl, .inr ⟨by decide, by decide⟩, _, rfl, _, _, rfl, rfl, .inl ⟨by decide, by decide⟩, _, _, rfl, rfl, _, _, rfl, rfl, .inl ⟨_, rfl, _, _, rfl, rfl, (by decide : (0 : Int) < 2147483629), ?_⟩⟩
        have z0 : 0 ≤ (c2 * 4099 + 271 * (i : Int) + 17) % 2147483629 := Int.emod_nonneg _ (by decide)
        have z1 : (c2 * 4099 + 271 * (i : Int) + 17) % 2147483629 < 2147483629 := Int.emod_lt_of_pos _ (by decide)
        refine ⟨_, rfl, _, _, rfl, rfl, _, rfl, ite2 (fun e3 => ?_) (fun e3 => ?_)⟩
        · refine iteT ⟨_, rfl, _, rfl, (by show 2 ≤ sizeLine; decide), fun p hp => ?_⟩
          refine k _ p (sm.trans (same_upd hp)) (sm.free hp) ⟨_, _, upd_same, z0, z1, ?_⟩
          split <;> omega
        · refine ⟨_, rfl, _, _, rfl, rfl, ⟨by decide, by decide, by decide⟩, _, _, rfl, rfl, _, rfl, ite2 (fun e4 => ?_) (fun e4 => ?_)⟩
          · refine ⟨_, rfl, _, rfl, (by show 2 ≤ sizeLine; decide), fun p hp => ?_⟩
            refine k _ p (sm.trans (same_upd hp)) (sm.free hp) ⟨_, _, upd_same, z0, z1, ?_⟩
            split <;> omega
          · refine ⟨(by show 2 ≤ sizeLine; decide), fun p hp => ?_⟩
            exact k _ p (sm.trans (same_upd hp)) (sm.free hp) ⟨_, _, upd_same, z0, z1, by decide⟩
    · have e0 : ¬ (i : Int) < (ns.map V.int).length := fun z => e (decide_eq_true z)
      refine ⟨_, rfl, _, _, rfl, rfl, .inl ⟨by decide, by decide⟩, _, _, rfl, rfl, ?_⟩
      refine ⟨_, rfl, _, rfl, a, _, rfl, .inl hS, _, _, rfl, rfl, _, rfl, ite2 (fun e2 => ?_) (fun e2 => absurd (decide_eq_true (show ((ns.map V.int).length : Int) ≤ (i : Int) by omega)) e2)⟩
      refine ⟨_, rfl, 2, rfl, a, _, rfl, hS, fun l hl0 => ?_⟩
      have sm := same_upd (o := .lst (cutV (ns.map V.int) none (some 2))) hl0
      have hl : SqL K (upd H l (.lst (cutV (ns.map V.int) none (some 2)))) l ((ns.take 2).map V.int) := by
        refine SqL.of ?_
        rw [upd_same, cutV2, List.map_take]
      refine ⟨l, rfl, ⟨_, hl⟩, for_list (K := K) (a := l) (xs := (ns.take 2).map V.int) (fun j σ H' => ∃ (c2 : Int) (v3 : Option V), σ = [some (.ref a), some (.int i), some (.int c2), v3] ∧ H' = upd H l (.lst (cutV (ns.map V.int) none (some 2)))) ⟨_, none, rfl, rfl⟩ (fun _ _ _ _ h => by obtain ⟨_, _, _, rfl⟩ := h; exact hl) ?_ ?_⟩
      · rintro j y σ H' hj ⟨c2, v3, rfl, rfl⟩
        obtain ⟨u, rfl⟩ := isI _ _ _ hj
        refine ⟨_, rfl, _, _, rfl, rfl, .inr ⟨by decide, by decide⟩, _, rfl, _, _, rfl, rfl, .inl ⟨_, rfl, _, _, rfl, rfl, (by decide : (0 : Int) < 1000000007), ?_⟩⟩
        exact ⟨_, _, rfl, rfl⟩
      · rintro σ H' ⟨c2, v3, rfl, rfl⟩
        refine ⟨_, rfl, _, _, rfl, rfl, .inr ⟨by decide, by decide⟩, _, rfl, _, _, rfl, rfl, .inl ⟨by decide, by decide⟩, _, _, rfl, rfl, _, _, rfl, rfl, .inl ⟨_, rfl, _, _, rfl, rfl, (by decide : (0 : Int) < 2147483629), ?_⟩⟩
        have z0 : 0 ≤ (c2 * 4099 + 271 * (i : Int) + 17) % 2147483629 := Int.emod_nonneg _ (by decide)
        have z1 : (c2 * 4099 + 271 * (i : Int) + 17) % 2147483629 < 2147483629 := Int.emod_lt_of_pos _ (by decide)
        refine ⟨_, rfl, _, _, rfl, rfl, _, rfl, ite2 (fun e3 => ?_) (fun e3 => ?_)⟩
        · refine iteT ⟨_, rfl, _, rfl, (by show 2 ≤ sizeLine; decide), fun p hp => ?_⟩
          refine k _ p (sm.trans (same_upd hp)) (sm.free hp) ⟨_, _, upd_same, z0, z1, ?_⟩
          split <;> omega
        · refine ⟨_, rfl, _, _, rfl, rfl, ⟨by decide, by decide, by decide⟩, _, _, rfl, rfl, _, rfl, ite2 (fun e4 => ?_) (fun e4 => ?_)⟩
          · refine ⟨_, rfl, _, rfl, (by show 2 ≤ sizeLine; decide), fun p hp => ?_⟩
            refine k _ p (sm.trans (same_upd hp)) (sm.free hp) ⟨_, _, upd_same, z0, z1, ?_⟩
            split <;> omega
          · refine ⟨(by show 2 ≤ sizeLine; decide), fun p hp => ?_⟩
            exact k _ p (sm.trans (same_upd hp)) (sm.free hp) ⟨_, _, upd_same, z0, z1, by decide⟩
end
end RL

namespace RL
open PySem L2
theorem mx {a b : Nat} {i j : Int} (hi : Sm a i) (hj : Sm b j) (h : a + b ≤ 134217728 := by decide) : CMulX i j := mulx_ok hi hj h
theorem dvw {b : Nat} {i j : Int} (h : 0 < j) (hb : Sm b j) (h0 : 0 < b := by decide) (h9 : b ≤ 9000 := by decide) : CDivW i j := wide_div h hb h0 h9
structure Txt2 (K : PySem.W.Frag) (mg : Str → Option Value) (tG : Tok) (aO : Addr) : Prop extends Txt K mg where
  mgG : mg "GREATEST" = some (.int 1000000000000 tG)
  mgO : mg "OPEN" = some (.ref aO)
  opn : ∃ (o : Obj) (its : Array Value) (n : Nat), K.lookup aO = some o ∧ o.cls = .type "tuple" ∧ o.data = .seq its n ∧ its.size ≤ sizeLine ∧ Vals [.int 1, .int 0] its.toList
/-- a resistance's two integers -/
def ResP (t b : Int) : Prop := (0 ≤ t ∧ t ≤ 1000000000000 ∧ 1 ≤ b ∧ b ≤ 1000000000000) ∨ (t = 1 ∧ b = 0)
def spIsInt : Sp := fun vs H Q _ => (∃ i, vs = [.int i] ∧ Q (.bl true) H) ∨ (∃ p xs, vs = [.ref p] ∧ H p = some (.tup xs) ∧ Q (.bl false) H)
def spWithin : Sp := fun vs H Q _ => ∃ v lo hi : Int, vs = [.int v, .int lo, .int hi] ∧ lo ≤ v ∧ v ≤ hi ∧ Q (.bl true) H
def spIsPair : Sp := fun vs H Q _ => ∃ (p : Addr) (t b : Int), vs = [.ref p] ∧ H p = some (.tup [.int t, .int b]) ∧ Q (.bl true) H
def spIsRes : Sp := fun vs H Q _ => (∃ i : Int, vs = [.int i] ∧ 0 ≤ i ∧ i ≤ 1000000000000 ∧ Q (.bl true) H) ∨ (∃ (p : Addr) (t b : Int), vs = [.ref p] ∧ H p = some (.tup [.int t, .int b]) ∧ ResP t b ∧ Q (.bl true) H)
def spPairOf : Sp := fun vs H Q _ => (∃ i, vs = [.int i] ∧ ∀ H' p, Same H H' → H p = none → H' p = some (.tup [.int i, .int 1]) → Q (.ref p) H') ∨ (∃ p xs, vs = [.ref p] ∧ H p = some (.tup xs) ∧ Q (.ref p) H)
def spGcd : Sp := fun vs H Q _ => ∃ x y : Int, vs = [.int x, .int y] ∧ Q (.int (gc x y)) H
def spLow : Sp := fun vs H Q _ => ∃ (t b : Int), vs = [.int t, .int b] ∧ Pos2 (t, b) ∧ Sm 4000 t ∧ Sm 4000 b ∧
  ∀ H' p, Same H H' → H p = none → H' p = some (.tup [.int (low (t, b)).1, .int (low (t, b)).2]) → Q (.ref p) H'
def spLowP : Sp := fun vs H Q _ => ∃ (v : V) (e : Int × Int), vs = [v] ∧ ((∃ i, v = .int i ∧ e = (i, 1)) ∨ (∃ p, v = .ref p ∧ H p = some (.tup [.int e.1, .int e.2]))) ∧ Pos2 e ∧ Sm 4000 e.1 ∧ Sm 4000 e.2 ∧
  ∀ H' p, Same H H' → H p = none → H' p = some (.tup [.int (low e).1, .int (low e).2]) → Q (.ref p) H'
section
variable {P : Program} {w : World} {K : PySem.W.Frag} {mg : Str → Option Value} {base : Heap} {tG : Tok} {aO : Addr}
abbrev s_is_integer : Stmt := top 4
theorem sc_is_integer : FnScope ["value"] ["value"] (defScope s_is_integer) := ⟨rfl, rfl, rfl, by decide +kernel, rfl, by decide +kernel, by decide +kernel⟩

theorem ok_isint {f : Addr} {fd : FuncData} (F : Fun K "is_integer" "is_integer" s_is_integer f fd) (T : Txt K mg) : FnOk P w K mg base CX0 1 f fd ["value"] spIsInt := by
  refine F.ok sc_is_integer (fun vs H Q E h => ?_) (fun cdv A outer s H vs Q E hr h => ?_)
  · rcases h with ⟨i, rfl, _⟩ | ⟨p, xs, rfl, _⟩ <;> rfl
  · refine ⟨_, (pss_one (ps_ret (pe_and (pe_callB call_isi (by rfl) T.isinstance (by decide +kernel) (pa_cons (pv 0) (pa_cons (pe_bltn (v := .ty "int") (by rfl) T.int_ (by decide +kernel) rfl) pa_nil))) (pe_one (pe_not (pe_callB call_isi (by rfl) T.isinstance (by decide +kernel) (pa_cons (pv 0) (pa_cons (pe_bltn (v := .ty "bool") (by rfl) T.bool_ (by decide +kernel) rfl) pa_nil)))))))), ?_⟩
    rcases h with ⟨i, rfl, k⟩ | ⟨p, xs, rfl, hp, k⟩
    · refine ⟨_, rfl, _, _, _, _, true, rfl, .ty _, .base (.int i), kit_ty (by decide +kernel), true, rfl, iteT ?_⟩
      exact ⟨_, rfl, _, _, _, _, false, rfl, .ty _, .base (.int i), kit_ty (by decide +kernel), false, rfl, k⟩
    · refine ⟨_, rfl, _, _, _, _, false, rfl, .ty _, .base (.tup hp), kit_ty (by decide +kernel), false, rfl, iteF ?_⟩
      exact k
abbrev s_is_integer_within : Stmt := top 5
theorem sc_is_integer_within : FnScope ["value", "least", "most"] ["value", "least", "most"] (defScope s_is_integer_within) := ⟨rfl, rfl, rfl, by decide +kernel, rfl, by decide +kernel, by decide +kernel⟩

theorem ok_within {f : Addr} {fd : FuncData} (F : Fun K "is_integer_within" "is_integer_within" s_is_integer_within f fd) (D_is_integer : Df P w K mg base 1 "is_integer" ["value"] spIsInt) : FnOk P w K mg base CX0 2 f fd ["value", "least", "most"] spWithin := by
  refine F.ok sc_is_integer_within (fun vs H Q E h => ?_) (fun cdv A outer s H vs Q E hr h => ?_)
  · obtain ⟨v, lo, hi, rfl, _⟩ := h
    rfl
  · obtain ⟨v, lo, hi, rfl, h1, h2, k⟩ := h
    refine ⟨_, (pss_one (ps_ret (pe_and (pe_df D_is_integer (hr.mono (by decide)) (by rfl) (pa_cons (pv 0) pa_nil)) (pe_one (pe_chain op_le op_le (pv 1) (pv 0) (pv 2)))))), ?_⟩
    refine ⟨_, rfl, .inl ⟨v, rfl, true, rfl, iteT ?_⟩⟩
    refine ⟨_, rfl, _, rfl, _, _, rfl, rfl, _, rfl, ite2 (fun _ => ?_) (fun e => absurd (decide_eq_true h1) e)⟩
    refine ⟨_, rfl, _, _, rfl, rfl, ?_⟩
    show Q (.bl (decide (v ≤ hi))) H
    rw [decide_eq_true h2]
    exact k
abbrev s_is_pair_of_integers : Stmt := top 6
theorem sc_is_pair_of_integers : FnScope ["value"] ["value"] (defScope s_is_pair_of_integers) := ⟨rfl, rfl, rfl, by decide +kernel, rfl, by decide +kernel, by decide +kernel⟩

theorem ok_ispair {f : Addr} {fd : FuncData} (F : Fun K "is_pair_of_integers" "is_pair_of_integers" s_is_pair_of_integers f fd) (T : Txt K mg) (D_is_integer : Df P w K mg base 1 "is_integer" ["value"] spIsInt) : FnOk P w K mg base CX0 2 f fd ["value"] spIsPair := by
  refine F.ok sc_is_pair_of_integers (fun vs H Q E h => ?_) (fun cdv A outer s H vs Q E hr h => ?_)
  · obtain ⟨p, t, b, rfl, _⟩ := h
    rfl
  · obtain ⟨p, t, b, rfl, hp, k⟩ := h
    refine ⟨_, (pss_one (ps_ret (pe_and (pe_callB call_isi (by rfl) T.isinstance (by decide +kernel) (pa_cons (pv 0) (pa_cons (pe_bltn (v := .ty "tuple") (by rfl) T.tuple_ (by decide +kernel) rfl) pa_nil))) (pe_and (pe_cmpR op_eq (pe_callB call_len_seq (by rfl) T.len (by decide +kernel) (pa_cons (pv 0) pa_nil)) pe_int (nomark _)) (pe_and (pe_df D_is_integer (hr.mono (by decide)) (by rfl) (pa_cons (pe_ix ix_tup (pv 0) pe_int (fun _ _ => rfl)) pa_nil)) (pe_one (pe_df D_is_integer (hr.mono (by decide)) (by rfl) (pa_cons (pe_ix ix_tup (pv 0) pe_int (fun _ _ => rfl)) pa_nil)))))))), ?_⟩
    refine ⟨_, rfl, _, _, _, _, true, rfl, .ty _, .base (.tup hp), kit_ty (by decide +kernel), true, rfl, iteT ?_⟩
    refine ⟨_, rfl, p, _, rfl, .inr (SqT.of hp), rfl, true, rfl, iteT ?_⟩
    refine ⟨_, rfl, p, _, _, _, rfl, rfl, SqT.of hp, atI_nat (j := 0) rfl, .inl ⟨t, rfl, true, rfl, iteT ?_⟩⟩
    exact ⟨_, rfl, p, _, _, _, rfl, rfl, SqT.of hp, atI_nat (j := 1) rfl, .inl ⟨b, rfl, k⟩⟩
abbrev s_is_resistance : Stmt := top 7
theorem sc_is_resistance : FnScope ["value", "top", "bottom"] ["value"] (defScope s_is_resistance) := ⟨rfl, rfl, rfl, by decide +kernel, rfl, by decide +kernel, by decide +kernel⟩

theorem ok_isres {f : Addr} {fd : FuncData} (F : Fun K "is_resistance" "is_resistance" s_is_resistance f fd) (T : Txt2 K mg tG aO) (D_is_integer : Df P w K mg base 1 "is_integer" ["value"] spIsInt) (D_is_pair_of_integers : Df P w K mg base 2 "is_pair_of_integers" ["value"] spIsPair) : FnOk P w K mg base CX0 3 f fd ["value"] spIsRes := by
  refine F.ok sc_is_resistance (fun vs H Q E h => ?_) (fun cdv A outer s H vs Q E hr h => ?_)
  · rcases h with ⟨i, rfl, _⟩ | ⟨p, t, b, rfl, _⟩ <;> rfl
  · refine ⟨_, (pss_cons (ps_if (pt_val (pe_df D_is_integer (hr.mono (by decide)) (by rfl) (pa_cons (pv 0) pa_nil))) (pss_one (ps_ret (pe_chain op_le op_le pe_int (pv 0) (pe_glob (v := .int 1000000000000) rfl T.mgG ⟨_, rfl⟩)))) pss_nil)
      (pss_cons (ps_if (pt_not (pt_val (pe_df D_is_pair_of_integers (hr.mono (by decide)) (by rfl) (pa_cons (pv 0) pa_nil)))) (pss_one (ps_ret pe_bl)) pss_nil)
      (pss_cons (ps_asg (pv 0) (pg_tup rfl (pgs_cons (pg_name (i := 1) sc_is_resistance.nd rfl (.inl rfl)) (pgs_cons (pg_name (i := 2) sc_is_resistance.nd rfl (.inl rfl)) pgs_nil))))
      (pss_one (ps_ret (pe_or (pe_cmpR (op_eqD hr.units) (pv 0) (pe_glob (v := .ref aO) rfl T.mgO rfl) (nomark _)) (pe_one (pe_and (pe_chain op_le op_le pe_int (pv 1) (pe_glob (v := .int 1000000000000) rfl T.mgG ⟨_, rfl⟩)) (pe_one (pe_chain op_le op_le pe_int (pv 2) (pe_glob (v := .int 1000000000000) rfl T.mgG ⟨_, rfl⟩))))))))))), ?_⟩
    rcases h with ⟨i, rfl, i0, i1, k⟩ | ⟨p, t, b, rfl, hp, hR, k⟩
    · refine ⟨_, rfl, .inl ⟨i, rfl, true, rfl, iteT ?_⟩⟩
      refine ⟨_, rfl, _, _, rfl, rfl, _, rfl, ite2 (fun _ => ?_) (fun e => absurd (decide_eq_true i0) e)⟩
      refine ⟨_, _, rfl, rfl, ?_⟩
      show Q (.bl (decide (i ≤ 1000000000000))) H
      rw [decide_eq_true i1]
      exact k
    · refine ⟨_, rfl, .inr ⟨p, _, rfl, hp, false, rfl, iteF ?_⟩⟩
      refine ⟨_, rfl, p, t, b, rfl, hp, true, rfl, iteF ?_⟩
      refine ⟨_, rfl, p, _, rfl, SqT.of hp, rfl, _, _, rfl, _, _, rfl, rfl, ?_⟩
      refine ⟨_, rfl, .tuple [.int t, .int b], .tuple [.int 1, .int 0], .tup (SqT.of hp) (.cons (.int _) (.cons (.int _) .nil)), .tup (.inr T.opn) (.cons (.int _) (.cons (.int _) .nil)), rfl, rfl, _, rfl, ite2 (fun _ => k) (fun e => ?_)⟩
      rcases hR with ⟨t0, t1, b0, b1⟩ | ⟨rfl, rfl⟩
      · refine ⟨_, rfl, _, _, rfl, rfl, _, rfl, ite2 (fun _ => ?_) (fun e => absurd (decide_eq_true t0) e)⟩
        refine ⟨_, _, rfl, rfl, _, rfl, ite2 (fun _ => ?_) (fun e => absurd (decide_eq_true t1) e)⟩
        refine ⟨_, rfl, _, _, rfl, rfl, _, rfl, ite2 (fun _ => ?_) (fun e => absurd (decide_eq_true b0) e)⟩
        refine ⟨_, _, rfl, rfl, ?_⟩
        show Q (.bl (decide (b ≤ 1000000000000))) H
        rw [decide_eq_true b1]
        exact k
      · exact absurd (SeqAt.eqv_refl _ (by decide +kernel)) e
abbrev s_pair_of : Stmt := top 8
theorem sc_pair_of : FnScope ["fraction_or_open"] ["fraction_or_open"] (defScope s_pair_of) := ⟨rfl, rfl, rfl, by decide +kernel, rfl, by decide +kernel, by decide +kernel⟩

theorem ok_pairof {f : Addr} {fd : FuncData} (F : Fun K "pair_of" "pair_of" s_pair_of f fd) (D_is_integer : Df P w K mg base 1 "is_integer" ["value"] spIsInt) : FnOk P w K mg base CX0 2 f fd ["fraction_or_open"] spPairOf := by
  refine F.ok sc_pair_of (fun vs H Q E h => ?_) (fun cdv A outer s H vs Q E hr h => ?_)
  · rcases h with ⟨i, rfl, _⟩ | ⟨p, xs, rfl, _⟩ <;> rfl
  · refine ⟨_, (pss_cons (ps_if (pt_val (pe_df D_is_integer (hr.mono (by decide)) (by rfl) (pa_cons (pv 0) pa_nil))) (pss_one (ps_ret (pe_tup (pa_cons (pv 0) (pa_cons pe_int pa_nil))))) pss_nil)
      (pss_one (ps_ret (pv 0)))), ?_⟩
    rcases h with ⟨i, rfl, k⟩ | ⟨p, xs, rfl, hp, k⟩
    · refine ⟨_, rfl, .inl ⟨i, rfl, true, rfl, iteT ?_⟩⟩
      exact ⟨_, rfl, (by show 2 ≤ sizeLine; decide), fun q hq => k _ q (same_upd hq) hq upd_same⟩
    · refine ⟨_, rfl, .inr ⟨p, _, rfl, hp, false, rfl, iteF ?_⟩⟩
      exact ⟨_, rfl, k⟩
abbrev s_common_divisor : Stmt := top 9
theorem sc_common_divisor : FnScope ["first", "second", "high", "low"] ["first", "second"] (defScope s_common_divisor) := ⟨rfl, rfl, rfl, by decide +kernel, rfl, by decide +kernel, by decide +kernel⟩

theorem ok_gcd {f : Addr} {fd : FuncData} (F : Fun K "common_divisor" "common_divisor" s_common_divisor f fd) (T : Txt K mg) : FnOk P w K mg base CX0 1 f fd ["first", "second"] spGcd := by
  refine F.ok sc_common_divisor (fun vs H Q E h => ?_) (fun cdv A outer s H vs Q E hr h => ?_)
  · obtain ⟨t, b, rfl, _⟩ := h
    rfl
  · obtain ⟨t, b, rfl, k⟩ := h
    refine ⟨_, (pss_cons (ps_par (by rfl) sc_common_divisor.nd (i := 2) (j := 3) rfl rfl (by decide) rfl rfl (pa_cons (pe_callB call_abs (by rfl) T.abs (by decide +kernel) (pa_cons (pv 0) pa_nil)) (pa_cons (pe_callB call_abs (by rfl) T.abs (by decide +kernel) (pa_cons (pv 1) pa_nil)) pa_nil)) (by rfl))
      (pss_cons (ps_while PassesOwn.never (pt_cmpR op_gt (pv 3) pe_int (nomark _)) (pss_one (ps_par (by rfl) sc_common_divisor.nd (i := 2) (j := 3) rfl rfl (by decide) rfl rfl (pa_cons (pv 3) (pa_cons (pe_op op_mod (pv 2) (pv 3)) pa_nil)) (by rfl))))
      (pss_one (ps_ret (pv 2))))), ?_⟩
    refine ⟨_, rfl, _, rfl, _, rfl, _, rfl, _, _, rfl, ?_⟩
    refine while_by (fun σ H' => H' = H ∧ ∃ x y : Int, σ = [some (.int t), some (.int b), some (.int x), some (.int y)] ∧ 0 ≤ x ∧ 0 ≤ y ∧ gc x y = gc t b) (fun σ _ => match σ with | [_, _, _, some (.int y)] => y.toNat | _ => 0) ⟨rfl, _, _, rfl, by split <;> omega, by split <;> omega, gc_abs _ _⟩ ?_ ?_
    · rintro σ H' ⟨rfl, x, y, rfl, x0, y0, eg⟩
      refine ⟨_, rfl, _, _, rfl, rfl, _, rfl, ite2 (fun e => ?_) (fun e => ?_)⟩
      · have e0 : 0 < y := of_decide_eq_true e
        refine ⟨_, rfl, _, rfl, _, rfl, _, _, rfl, rfl, e0, _, _, rfl, ?_⟩
        have q1 := Int.emod_nonneg x (show y ≠ 0 by omega)
        have q2 := Int.emod_lt_of_pos x e0
        refine ⟨⟨rfl, y, x % y, rfl, y0, q1, ?_⟩, ?_⟩
        · rw [gc_step x0 e0, eg]
        · show (x % y).toNat < y.toNat
          omega
      · have e0 : ¬ 0 < y := fun z => e (decide_eq_true z)
        have y1 : y = 0 := by omega
        subst y1
        rw [gc_zero x0] at eg
        subst eg
        exact ⟨_, rfl, k⟩
    · rintro σ H' Q1 Q2 hq h
      obtain ⟨v, e1, i, j, e2, e3, z⟩ := h
      exact ⟨v, e1, i, j, e2, e3, z.imp fun k z => ⟨z.1, hq _ _ z.2⟩⟩
abbrev s_lowest_terms : Stmt := top 10
theorem sc_lowest_terms : FnScope ["top", "bottom", "divisor"] ["top", "bottom"] (defScope s_lowest_terms) := ⟨rfl, rfl, rfl, by decide +kernel, rfl, by decide +kernel, by decide +kernel⟩

theorem ok_low {f : Addr} {fd : FuncData} (F : Fun K "lowest_terms" "lowest_terms" s_lowest_terms f fd) (D_common_divisor : Df P w K mg base 1 "common_divisor" ["first", "second"] spGcd) : FnOk P w K mg base CX0 2 f fd ["top", "bottom"] spLow := by
  refine F.ok sc_lowest_terms (fun vs H Q E h => ?_) (fun cdv A outer s H vs Q E hr h => ?_)
  · obtain ⟨t, b, rfl, _⟩ := h
    rfl
  · obtain ⟨t, b, rfl, tb, ts, bs, k⟩ := h
    refine ⟨_, (pss_cons (ps_set (i := 2) sc_lowest_terms.nd rfl (.inl rfl) (pe_df D_common_divisor (hr.mono (by decide)) (by rfl) (pa_cons (pv 0) (pa_cons (pv 1) pa_nil))))
      (pss_one (ps_ret (pe_tup (pa_cons (pe_op op_fdivW (pv 0) (pv 2)) (pa_cons (pe_op op_fdivW (pv 1) (pv 2)) pa_nil)))))), ?_⟩
    have g0 : 0 < gc t b := gc_pos2 tb
    have gs : Sm 4000 (gc t b) := gc_sm tb ts bs
    refine ⟨_, rfl, _, rfl, t, b, rfl, ?_⟩
    refine ⟨_, rfl, _, rfl, _, _, rfl, rfl, dvw g0 gs, _, rfl, _, rfl, _, _, rfl, rfl, dvw g0 gs, (by show 2 ≤ sizeLine; decide), fun p hp => ?_⟩
    exact k _ _ (same_upd hp) hp upd_same
end
end RL

namespace RL
open PySem L2 PySem.Spec PyProof.Rows
theorem both {R G : Prop} (f : R → G) (r : R) : G := f r
theorem But.tup {c a : Addr} {H H' : Hp} {xs : List V} (b : But c H H') (hc : CupAt c H) (h : H a = some (.tup xs)) : H' a = some (.tup xs) := by
  obtain ⟨u, v, hc, _⟩ := hc
  exact b _ _ (ne_of h hc (by intro z; cases z)) h
end RL

set_option maxHeartbeats 1000000
namespace RL
open PySem L2 PySem.Spec PyProof.Rows
structure Txt4 (K : PySem.W.Frag) (mg : Str → Option Value) (tG t1 t2 t3 tP tC : Tok) (aO aW J C Ce Cl : Addr) : Prop extends Txt2 K mg tG aO where
  mgP : mg "GREATEST_PART" = some (.int 10000000000000000000000000000000000000000 tP)
  mgE : mg "Exact" = some (.ref Ce)
  clE : Cls K Ce
  nP : NoAttr K Ce "parts"
def spRoot : Sp := fun vs H Q _ => ∃ n : Int, vs = [.int n] ∧ 0 ≤ n ∧ Sm 4000 n ∧ ∀ H', Same H H' → Q (.int (rt n)) H'
def spSign : Sp := fun vs H Q _ => ∃ n : Int, vs = [.int n] ∧ Q (.int (sg n)) H
def spUnder : Sp := fun vs H Q _ => ∃ s l w : Int, vs = [.int s, .int l, .int w] ∧ Sm 1000 s ∧ Sm 1000 l ∧ Sm 1000 w ∧ Q (.int (l * l + 4 * s * w)) H
def spEqF : Sp := fun vs H Q _ => ∃ (t b : Int), vs = [.int t, .int b] ∧ Pos2 (t, b) ∧ Sm 4000 t ∧ Sm 4000 b ∧
  ∀ H' p, Same H H' → H p = none → H' p = some (.tup [.int 0, .int (b / gc t b), .int (t / gc t b)]) → Q (.ref p) H'
def spSimp : Sp := fun vs H Q _ => ∃ a b c : Int, vs = [.int a, .int b, .int c] ∧ Good a b c ∧ Sm 133 a ∧ Sm 133 b ∧ Sm 133 c ∧
  ∀ H' p, Same H H' → H p = none → H' p = some (.tup [.int (parts a b c).1, .int (parts a b c).2.1, .int (parts a b c).2.2]) → Q (.ref p) H'
section
variable {P : Program} {w : World} {K : PySem.W.Frag} {mg : Str → Option Value} {base : Heap} {tG t1 t2 t3 tP tC : Tok} {aO aW J C Ce Cl fP fJ : Addr} {fdJ : FuncData}
theorem dbl {g w : Int} (h : 0 ≤ w) (l : g * g ≤ w) : g ≤ w := by
  rcases Int.lt_or_le w g with z | z
  · have : g * 1 ≤ g * g := Int.mul_le_mul_of_nonneg_left (by omega) (by omega)
    omega
  · exact z
theorem pow_up {a b : Nat} (h : a ≤ b) : (2 : Int) ^ a ≤ 2 ^ b := by
  have := Nat.pow_le_pow_right (n := 2) (by decide) h
  have e : ∀ k : Nat, ((2 ^ k : Nat) : Int) = 2 ^ k := fun k => by rw [Int.natCast_pow]; rfl
  rw [← e, ← e]
  omega
theorem bits_lt {n : Int} (h : 0 ≤ n) : n < 2 ^ (Builtin.Int.intBits n) := by
  unfold Builtin.Int.intBits
  by_cases z : n = 0
  · subst z
    decide
  · rw [if_neg (by simpa using z)]
    have := Nat.lt_log2_self (n := n.natAbs)
    have e : ((2 ^ (n.natAbs.log2 + 1) : Nat) : Int) = 2 ^ (n.natAbs.log2 + 1) := by rw [Int.natCast_pow]; rfl
    rw [← e]
    omega
theorem bits_le {n : Int} {m : Nat} (h : Sm m n) : Builtin.Int.intBits n ≤ m := PyProof.Rows.intBits_le h
abbrev s_square_root : Stmt := top 13
theorem sc_square_root : FnScope ["number", "guess"] ["number"] (defScope s_square_root) := ⟨rfl, rfl, rfl, by decide +kernel, rfl, by decide +kernel, by decide +kernel⟩

theorem ok_sqrt {f : Addr} {fd : FuncData} (F : Fun K "square_root" "square_root" s_square_root f fd) : FnOk P w K mg base CX0 1 f fd ["number"] spRoot := by
  refine F.ok sc_square_root (fun vs H Q E h => ?_) (fun cdv A outer s H vs Q E hr h => ?_)
  · obtain ⟨n, rfl, _⟩ := h
    rfl
  · obtain ⟨n, rfl, n0, ns, k⟩ := h
    refine ⟨_, (pss_cons (ps_set (i := 1) sc_square_root.nd rfl (.inl rfl) (pe_op op_oneShl pe_int (pe_op op_fdivW (pe_op op_add (pe_bits (pv 0)) pe_int) pe_int)))
      (pss_cons (ps_while PassesOwn.never (pt_cmpR op_gt (pe_op op_mulX (pv 1) (pv 1)) (pv 0) (nomark _)) (pss_one (ps_set (i := 1) sc_square_root.nd rfl (.inl rfl) (pe_op op_fdivW (pe_op op_add (pv 1) (pe_op op_fdivW (pv 0) (pv 1))) pe_int))))
      (pss_one (ps_ret (pv 1))))), ?_⟩
    have hb := bits_le ns
    have hl := bits_lt n0
    refine ⟨_, rfl, n, rfl, _, _, rfl, rfl, _, _, rfl, rfl, dvw (b := 3) (by decide) (by unfold Sm; decide), ?_⟩
    have ek : ((Builtin.Int.intBits n : Nat) + 1 : Int) / 2 = (((Builtin.Int.intBits n + 1) / 2 : Nat) : Int) := by omega
    generalize Builtin.Int.intBits n = b at *
    refine ⟨(b + 1) / 2, rfl, congrArg V.int ek, (by omega), ?_⟩
    have ks : (b + 1) / 2 ≤ 2000 := by omega
    have kb : b ≤ (b + 1) / 2 + (b + 1) / 2 := by omega
    generalize (b + 1) / 2 = q at *
    have p0 : (0 : Int) < 2 ^ q := Int.pow_pos (by decide)
    have hp : n < 2 ^ q * 2 ^ q := by
      rw [← Int.pow_add]
      exact Int.lt_of_lt_of_le hl (pow_up kb)
    have gs : Sm 2001 (2 ^ q) := by
      unfold Sm
      rw [Int.natAbs_pow]
      exact Nat.pow_lt_pow_right (by decide) (by omega)
    refine while_by (fun σ H' => H' = H ∧ ∃ g : Int, σ = [some (.int n), some (.int g)] ∧ 0 ≤ g ∧ n < (g + 1) * (g + 1) ∧ Sm 2001 g) (fun σ _ => match σ with | [_, some (.int g)] => g.toNat | _ => 0) ⟨rfl, 2 ^ q, rfl, by omega, ?_, gs⟩ ?_ ?_
    · have e : ((2 : Int) ^ q + 1) * (2 ^ q + 1) = 2 ^ q * 2 ^ q + 2 * 2 ^ q + 1 := by
        generalize (2 : Int) ^ q = u
        grind
      omega
    · rintro σ H' ⟨rfl, g, rfl, g0, g1, gs⟩
      refine ⟨_, rfl, _, rfl, _, _, rfl, rfl, mx gs gs, _, rfl, _, _, rfl, rfl, _, rfl, ite2 (fun e => ?_) (fun e => ?_)⟩
      · have e0 : n < g * g := of_decide_eq_true e
        obtain ⟨h1, h2, h3, h4⟩ := newton n0 g0 g1 e0
        refine ⟨_, rfl, _, rfl, _, rfl, _, _, rfl, rfl, dvw h1 gs, _, _, rfl, rfl, _, _, rfl, rfl, dvw (b := 3) (by decide) (by unfold Sm; decide), ⟨rfl, _, rfl, h2, h4, gs.of (by omega) (by omega)⟩, ?_⟩
        show ((g + n / g) / 2).toNat < g.toNat
        omega
      · have e0 : ¬ n < g * g := fun z => e (decide_eq_true z)
        refine ⟨_, rfl, ?_⟩
        rw [rt_of ⟨g0, by omega, g1⟩]
        exact k _ (Same.refl _)
    · rintro σ H' Q1 Q2 hq h
      obtain ⟨v, e1, v2, e2, i, j, e3, e4, cm, v3, e5, i2, j2, e6, e7, z⟩ := h
      exact ⟨v, e1, v2, e2, i, j, e3, e4, cm, v3, e5, i2, j2, e6, e7, z.imp fun k z => ⟨z.1, hq _ _ z.2⟩⟩
abbrev s_sign : Stmt := top 12
theorem sc_sign : FnScope ["number"] ["number"] (defScope s_sign) := ⟨rfl, rfl, rfl, by decide +kernel, rfl, by decide +kernel, by decide +kernel⟩

theorem ok_sign {f : Addr} {fd : FuncData} (F : Fun K "sign" "sign" s_sign f fd) : FnOk P w K mg base CX0 1 f fd ["number"] spSign := by
  refine F.ok sc_sign (fun vs H Q E h => ?_) (fun cdv A outer s H vs Q E hr h => ?_)
  · obtain ⟨n, rfl, _⟩ := h
    rfl
  · obtain ⟨n, rfl, k⟩ := h
    refine ⟨_, (pss_cons (ps_if (pt_cmpR op_gt (pv 0) pe_int (nomark _)) (pss_one (ps_ret pe_int)) pss_nil)
      (pss_cons (ps_if (pt_cmpR op_lt (pv 0) pe_int (nomark _)) (pss_one (ps_ret (pe_un un_neg pe_int))) pss_nil)
      (pss_one (ps_ret pe_int)))), ?_⟩
    unfold sg at k
    refine ⟨_, rfl, _, _, rfl, rfl, _, rfl, ite2 (fun e => ?_) (fun e => ?_)⟩
    · rw [if_pos (show 0 < n from of_decide_eq_true e)] at k
      exact k
    · rw [if_neg (show ¬ 0 < n from fun z => e (decide_eq_true z))] at k
      refine ⟨_, rfl, _, _, rfl, rfl, _, rfl, ite2 (fun e2 => ?_) (fun e2 => ?_)⟩
      · rw [if_pos (show n < 0 from of_decide_eq_true e2)] at k
        exact ⟨1, rfl, k⟩
      · rw [if_neg (show ¬ n < 0 from fun z => e2 (decide_eq_true z))] at k
        exact k
abbrev s_under_root : Stmt := top 40
theorem sc_under_root : FnScope ["square", "line", "whole"] ["square", "line", "whole"] (defScope s_under_root) := ⟨rfl, rfl, rfl, by decide +kernel, rfl, by decide +kernel, by decide +kernel⟩

theorem ok_under {f : Addr} {fd : FuncData} (F : Fun K "under_root" "under_root" s_under_root f fd) : FnOk P w K mg base CX0 1 f fd ["square", "line", "whole"] spUnder := by
  refine F.ok sc_under_root (fun vs H Q E h => ?_) (fun cdv A outer s H vs Q E hr h => ?_)
  · obtain ⟨a, b, c, rfl, _⟩ := h
    rfl
  · obtain ⟨a, b, c, rfl, ha, hb, hc, k⟩ := h
    refine ⟨_, (pss_one (ps_ret (pe_op op_add (pe_op op_mulX (pv 1) (pv 1)) (pe_op op_mulX (pe_op op_mul pe_int (pv 0)) (pv 2))))), ?_⟩
    have h4 : Sm 1003 (4 * a) := Sm.mul (m := 3) (n := 1000) (x := 4) (by unfold Sm; decide) ha
    exact ⟨_, rfl, _, rfl, _, _, rfl, rfl, mx hb hb, _, rfl, _, _, rfl, rfl, .inl ⟨by decide, by decide⟩, _, rfl, _, _, rfl, rfl, mx h4 hc, _, _, rfl, rfl, k⟩
abbrev s_equation_of_fraction : Stmt := top 42
theorem sc_equation_of_fraction : FnScope ["top", "bottom", "top_part", "bottom_part"] ["top", "bottom"] (defScope s_equation_of_fraction) := ⟨rfl, rfl, rfl, by decide +kernel, rfl, by decide +kernel, by decide +kernel⟩

theorem ok_eqf {f : Addr} {fd : FuncData} (F : Fun K "equation_of_fraction" "equation_of_fraction" s_equation_of_fraction f fd) (D_lowest_terms : Df P w K mg base 2 "lowest_terms" ["top", "bottom"] spLow) : FnOk P w K mg base CX0 3 f fd ["top", "bottom"] spEqF := by
  refine F.ok sc_equation_of_fraction (fun vs H Q E h => ?_) (fun cdv A outer s H vs Q E hr h => ?_)
  · obtain ⟨t, b, rfl, _⟩ := h
    rfl
  · obtain ⟨t, b, rfl, tb, ts, bs, k⟩ := h
    refine ⟨_, (pss_cons (ps_asg (pe_df D_lowest_terms (hr.mono (by decide)) (by rfl) (pa_cons (pv 0) (pa_cons (pv 1) pa_nil))) (pg_tup rfl (pgs_cons (pg_name (i := 2) sc_equation_of_fraction.nd rfl (.inl rfl)) (pgs_cons (pg_name (i := 3) sc_equation_of_fraction.nd rfl (.inl rfl)) pgs_nil))))
      (pss_one (ps_ret (pe_tup (pa_cons pe_int (pa_cons (pv 3) (pa_cons (pv 2) pa_nil))))))), ?_⟩
    refine ⟨_, rfl, _, rfl, t, b, rfl, tb, ts, bs, fun H1 p sm np hp => ?_⟩
    refine ⟨p, _, rfl, SqT.of hp, rfl, _, _, rfl, _, _, rfl, rfl, ?_⟩
    exact ⟨_, rfl, _, rfl, (by show 3 ≤ sizeLine; decide), fun q hq => k _ q (sm.trans (same_upd hq)) (sm.free hq) upd_same⟩
abbrev s_simplest_equation : Stmt := top 41
theorem sc_simplest_equation : FnScope ["square", "line", "whole", "inside", "root", "divisor"] ["square", "line", "whole"] (defScope s_simplest_equation) := ⟨rfl, rfl, rfl, by decide +kernel, rfl, by decide +kernel, by decide +kernel⟩

theorem ok_simp {f : Addr} {fd : FuncData} (F : Fun K "simplest_equation" "simplest_equation" s_simplest_equation f fd) (D_common_divisor : Df P w K mg base 1 "common_divisor" ["first", "second"] spGcd) (D_square_root : Df P w K mg base 1 "square_root" ["number"] spRoot)
    (D_under_root : Df P w K mg base 1 "under_root" ["square", "line", "whole"] spUnder) (D_equation_of_fraction : Df P w K mg base 3 "equation_of_fraction" ["top", "bottom"] spEqF) : FnOk P w K mg base CX0 4 f fd ["square", "line", "whole"] spSimp := by
  refine F.ok sc_simplest_equation (fun vs H Q E h => ?_) (fun cdv A outer s H vs Q E hr h => ?_)
  · obtain ⟨a, b, c, rfl, _⟩ := h
    rfl
  · obtain ⟨a, b, c, rfl, hG, ha, hb, hc, k⟩ := h
    refine ⟨_, (pss_cons (ps_if (pt_cmpR op_eq (pv 0) pe_int (nomark _)) (pss_one (ps_ret (pe_df D_equation_of_fraction (hr.mono (by decide)) (by rfl) (pa_cons (pv 2) (pa_cons (pv 1) pa_nil))))) pss_nil)
      (pss_cons (ps_set (i := 3) sc_simplest_equation.nd rfl (.inl rfl) (pe_df D_under_root (hr.mono (by decide)) (by rfl) (pa_cons (pv 0) (pa_cons (pv 1) (pa_cons (pv 2) pa_nil)))))
      (pss_cons (ps_set (i := 4) sc_simplest_equation.nd rfl (.inl rfl) (pe_df D_square_root (hr.mono (by decide)) (by rfl) (pa_cons (pv 3) pa_nil)))
      (pss_cons (ps_if (pt_cmpR op_eq (pe_op op_mulX (pv 4) (pv 4)) (pv 3) (nomark _)) (pss_one (ps_ret (pe_df D_equation_of_fraction (hr.mono (by decide)) (by rfl) (pa_cons (pe_op op_sub (pv 4) (pv 1)) (pa_cons (pe_op op_mul pe_int (pv 0)) pa_nil))))) pss_nil)
      (pss_cons (ps_set (i := 5) sc_simplest_equation.nd rfl (.inl rfl) (pe_df D_common_divisor (hr.mono (by decide)) (by rfl) (pa_cons (pe_df D_common_divisor (hr.mono (by decide)) (by rfl) (pa_cons (pv 0) (pa_cons (pv 1) pa_nil))) (pa_cons (pv 2) pa_nil))))
      (pss_one (ps_ret (pe_tup (pa_cons (pe_op op_fdivW (pv 0) (pv 5)) (pa_cons (pe_op op_fdivW (pv 1) (pv 5)) (pa_cons (pe_op op_fdivW (pv 2) (pv 5)) pa_nil))))))))))), ?_⟩
    unfold parts at k
    refine ⟨_, rfl, rfl, _, rfl, ite2 (fun e => ?_) (fun e => ?_)⟩
    · have a0 : a = 0 := V.int.inj (of_decide_eq_true e)
      rw [if_pos a0] at k
      have b0 : 1 ≤ b ∧ 0 ≤ c := by
        rcases hG with z | z
        · exact z.2
        · omega
      exact ⟨_, rfl, _, rfl, c, b, rfl, ⟨b0.2, by show 0 ≤ b; omega, .inr (by show 0 < b; omega)⟩, hc.mono (by decide), hb.mono (by decide), k⟩
    · have a0 : ¬ a = 0 := fun z => e (decide_eq_true (congrArg V.int z))
      rw [if_neg a0] at k
      have hg : 1 ≤ a ∧ 1 ≤ c := by
        rcases hG with z | z
        · exact absurd z.1 a0
        · exact z
      have ip := inside_pos (b := b) hg
      have hd : Sm 270 (b * b + 4 * a * c) := by
        have h4 : Sm 3 4 := by unfold Sm; decide
        have e1 : Sm (133 + 133) (b * b) := hb.mul hb
        have e2 : Sm (3 + 133 + 133) (4 * a * c) := (h4.mul ha).mul hc
        exact (Sm.add (n := 269) (e1.mono (by decide)) (e2.mono (by decide)))
      have hr0 : Sm 135 (rt (b * b + 4 * a * c)) := rt_sm (n := 135) ip.2 hd
      refine ⟨_, rfl, _, rfl, _, rfl, a, b, c, rfl, ha.mono (by decide), hb.mono (by decide), hc.mono (by decide), ?_⟩
      refine ⟨_, rfl, _, rfl, ip.2, hd.mono (by decide), fun H1 sm => ?_⟩
      refine ⟨_, rfl, _, rfl, _, _, rfl, rfl, mx hr0 hr0, _, rfl, rfl, _, rfl, ite2 (fun e2 => ?_) (fun e2 => ?_)⟩
      · have e3 : rt (b * b + 4 * a * c) * rt (b * b + 4 * a * c) = b * b + 4 * a * c := V.int.inj (of_decide_eq_true e2)
        rw [if_pos e3] at k
        have rg := rt_gt ip.1 (rt_is ip.2).1 e3.symm
        refine ⟨_, rfl, _, rfl, _, _, rfl, rfl, _, rfl, _, _, rfl, rfl, .inl ⟨by decide, by decide⟩, _, _, rfl, ⟨by show 0 ≤ rt (b * b + 4 * a * c) - b; omega, by show 0 ≤ 2 * a; omega, .inr (by show 0 < 2 * a; omega)⟩, ?_, ?_, fun H2 p sm2 np hp => ?_⟩
        · exact (hr0.sub (hb.mono (by decide))).mono (by decide)
        · exact (Sm.mul (m := 2) (n := 133) (x := 2) (by unfold Sm; decide) ha).mono (by decide)
        · exact k _ p (sm.trans sm2) (sm.free np) hp
      · have e3 : ¬ rt (b * b + 4 * a * c) * rt (b * b + 4 * a * c) = b * b + 4 * a * c := fun z => e2 (decide_eq_true (congrArg V.int z))
        rw [if_neg e3] at k
        have g0 : 0 < gc (gc a b) c := gc_pos (.inr (by omega))
        have gb : gc (gc a b) c ≤ c := Int.le_of_dvd (by omega) (gc_dvd2 _ _)
        have gs : Sm 133 (gc (gc a b) c) := hc.of (by omega) gb
        refine ⟨_, rfl, _, rfl, a, b, rfl, _, rfl, _, _, rfl, ?_⟩
        refine ⟨_, rfl, _, rfl, _, _, rfl, rfl, dvw g0 gs, _, rfl, _, rfl, _, _, rfl, rfl, dvw g0 gs, _, rfl, _, rfl, _, _, rfl, rfl, dvw g0 gs, (by show 3 ≤ sizeLine; decide), fun p hp => ?_⟩
        exact k _ _ (sm.trans (same_upd hp)) (sm.free hp) upd_same
end
end RL

set_option maxHeartbeats 1000000
namespace RL
open PySem L2 PySem.Spec PyProof.Rows
theorem sm12 {i : Int} (h1 : 0 ≤ i) (h2 : i ≤ 1000000000000) : Sm 1000 i := by
  have e : (10 : Int) ^ 40 = 10000000000000000000000000000000000000000 := by decide
  exact (sm40 (x := i) (by omega) (by omega)).mono (by decide)
def ExAt (C : Addr) (H : Hp) (x : Addr) (s l w : Int) : Prop := ∃ dx p : Addr, H x = some (.ins C dx [("parts", .ref p)]) ∧ H p = some (.tup [.int s, .int l, .int w])
def Big (a b c : Int) : Prop := Good a b c ∧ a ≤ 10000000000000000000000000000000000000000 ∧ -10000000000000000000000000000000000000000 ≤ b ∧ b ≤ 10000000000000000000000000000000000000000 ∧ c ≤ 10000000000000000000000000000000000000000
theorem Big.sm {a b c : Int} (h : Big a b c) : Sm 133 a ∧ Sm 133 b ∧ Sm 133 c := by
  obtain ⟨g, h1, h2, h3, h4⟩ := h
  have e : (10 : Int) ^ 40 = 10000000000000000000000000000000000000000 := by decide
  have a0 : 0 ≤ a ∧ 0 ≤ c := by
    rcases g with g | g <;> omega
  exact ⟨sm40 (by omega) (by omega), sm40 (by omega) (by omega), sm40 (by omega) (by omega)⟩
def spInit (C : Addr) : Sp := fun vs H Q _ => ∃ (x dx : Addr) (a b c : Int), vs = [.ref x, .int a, .int b, .int c] ∧ H x = some (.ins C dx []) ∧ Big a b c ∧
  ∀ H' : Hp, But x H H' → ExAt C H' x (parts a b c).1 (parts a b c).2.1 (parts a b c).2.2 → Q .non H'
theorem eqv3 {a b c d e f : Int} : PyData.eqv (.tuple [.int a, .int b, .int c]) (.tuple [.int d, .int e, .int f]) = decide ((a, b, c) = (d, e, f)) := by
  rw [Bool.eq_iff_iff]
  simp [PyData.eqv, PyData.eqvAll]
def spFt : Sp := fun vs H Q _ => ∃ t b : Int, vs = [.int t, .int b] ∧ Sm 200 t ∧ Sm 200 b ∧ Q (.str (ftext t b)) H
def spCm : Sp := fun vs H Q _ => ∃ (p : Addr) (a b c : Int), vs = [.ref p] ∧ H p = some (.tup [.int a, .int b, .int c]) ∧ Sm 200 a ∧ Sm 200 b ∧ Sm 200 c ∧ ∀ H', Same H H' → Q (.str (commas a b c)) H'
def spStr (C : Addr) : Sp := fun vs H Q _ => ∃ (x : Addr) (s l w : Int), vs = [.ref x] ∧ ExAt C H x s l w ∧ Sm 200 s ∧ Sm 200 l ∧ Sm 200 w ∧ ∀ H', Same H H' → Q (.str (xtext s l w)) H'
def spRep (C : Addr) : Sp := fun vs H Q _ => ∃ (x : Addr) (s l w : Int), vs = [.ref x] ∧ ExAt C H x s l w ∧ Sm 200 s ∧ Sm 200 l ∧ Sm 200 w ∧ ∀ H', Same H H' → Q (.str (rtext s l w)) H'
def spEqn (C : Addr) : Sp := fun vs H Q _ => ∃ (x dx p : Addr), vs = [.ref x] ∧ H x = some (.ins C dx [("parts", .ref p)]) ∧ Q (.ref p) H
def spFrac (C : Addr) : Sp := fun vs H Q _ => ∃ (x : Addr) (s l w : Int), vs = [.ref x] ∧ ExAt C H x s l w ∧ (s = 0 → ∀ H' q, Same H H' → H' q = some (.tup [.int w, .int l]) → Q (.ref q) H') ∧ (s ≠ 0 → Q .non H)
/-! ### a new Exact, by position and by keywords -/
structure ExD (P : Program) (w : World) (K : PySem.W.Frag) (mg : Str → Option Value) (base : Heap) (C : Addr) : Prop where
  ex : ∃ (fI : Addr) (fdI : FuncData), Mk K C fI ∧ FnOk P w K mg base CX0 5 fI fdI ["self", "square", "line", "whole"] (spInit C) ∧ Binds K fdI ["self", "square", "line", "whole"] []
theorem pe_exact {X : Cx} {C : Addr} {p pos : Pos} {e : Expr} {es : List Expr} {t : TA} (D : ExD X.prog X.w X.K X.mg X.base C) (hr : Room 6 X.A) (hg : Gl X "Exact") (hm : X.mg "Exact" = some (.ref C))
    (ha : PA X (e :: es) t) (he : starEach (e :: es) X.env = (false, eval e X.env) :: starEach es X.env := by rfl) (hpl : (backTo pos (starEach es X.env)).any (·.1) = false := by rfl) :
    PE X (.Call (.Name "Exact" p) (e :: es) [] pos) (tMake C (spInit C) [] E0 t) := by
  obtain ⟨fI, fdI, M, G, hb⟩ := D.ex
  exact pe_make M G hr hg hm hb .nil pass0 ha (by decide) he hpl
theorem ExAt.same {C x : Addr} {H H' : Hp} {s l w : Int} (h : ExAt C H x s l w) (sm : Same H H') : ExAt C H' x s l w := by
  obtain ⟨dx, p, a, b⟩ := h
  exact ⟨dx, p, sm _ _ a, sm _ _ b⟩
theorem ExAt.but {C x c : Addr} {H H' : Hp} {s l w : Int} (h : ExAt C H x s l w) (hc : CupAt c H) (sm : But c H H') : ExAt C H' x s l w := by
  obtain ⟨dx, p, a, b⟩ := h
  refine ⟨dx, p, ?_, sm.tup hc b⟩
  obtain ⟨u, v, e, _⟩ := hc
  exact sm _ _ (ne_of a e (by intro z; cases z)) a
theorem div_pos {b g : Int} (hb : 0 < b) (d : g ∣ b) (hg : 0 < g) : 1 ≤ b / g := by
  have e := ex_mul d hg
  rcases Int.lt_or_le 0 (b / g) with z | z
  · omega
  · have := Int.mul_nonpos_of_nonneg_of_nonpos (Int.le_of_lt hg) z
    omega
theorem div_div {a g : Int} (ha : 0 < a) (d : g ∣ a) (hg : 0 < g) : a / (a / g) = g := by
  have e := ex_mul d hg
  have p := div_pos ha d hg
  generalize a / g = q at *
  subst e
  exact Int.mul_ediv_cancel _ (by omega)
def spNormal : Sp := fun vs H Q _ => ∃ a b c : Int, vs = [.int a, .int b, .int c] ∧ Good a b c ∧ Sm 133 a ∧ Sm 133 b ∧ Sm 133 c ∧
  ∀ H' p, Same H H' → H' p = some (.tup [.int (parts a b c).1, .int (parts a b c).2.1, .int (parts a b c).2.2]) → Q (.ref p) H'
section
variable {P : Program} {w : World} {K : PySem.W.Frag} {mg : Str → Option Value} {base : Heap} {tG t1 t2 t3 tP tC : Tok} {aO aW J C Ce Cl fP fJ : Addr} {fdJ : FuncData}
abbrev s_Exact_init : Stmt := inClass (top 39) 0
theorem sc_Exact_init : FnScope ["self", "square", "line", "whole"] ["self", "square", "line", "whole"] (defScope s_Exact_init) := ⟨rfl, rfl, rfl, by decide +kernel, rfl, by decide +kernel, by decide +kernel⟩

theorem ok_init {f : Addr} {fd : FuncData} (F : Fun K "__init__" "Exact.__init__" s_Exact_init f fd) (T : Txt4 K mg tG t1 t2 t3 tP tC aO aW J C Ce Cl) (D_is_integer_within : Df P w K mg base 2 "is_integer_within" ["value", "least", "most"] spWithin) (D_simplest_equation : Df P w K mg base 4 "simplest_equation" ["square", "line", "whole"] spSimp) :
    FnOk P w K mg base CX0 5 f fd ["self", "square", "line", "whole"] (spInit Ce) := by
  refine F.ok sc_Exact_init (fun vs H Q E h => ?_) (fun cdv A outer s H vs Q E hr h => ?_)
  · obtain ⟨x, dx, a, b, c, rfl, _⟩ := h
    rfl
  · obtain ⟨x, dx, a, b, c, rfl, hx, hB, k⟩ := h
    refine ⟨_, (pss_cons (ps_if (pt_not (pt_val (pe_df D_is_integer_within (hr.mono (by decide)) (by rfl) (pa_cons (pv 1) (pa_cons pe_int (pa_cons (pe_glob (v := .int 10000000000000000000000000000000000000000) rfl T.mgP ⟨_, rfl⟩) pa_nil)))))) (pss_one ps_never) pss_nil)
      (pss_cons (ps_if (PW.pt (pw_or (pt_not (pt_val (pe_df D_is_integer_within (hr.mono (by decide)) (by rfl) (pa_cons (pv 2) (pa_cons (pe_un un_neg (pe_glob (v := .int 10000000000000000000000000000000000000000) rfl T.mgP ⟨_, rfl⟩)) (pa_cons (pe_glob (v := .int 10000000000000000000000000000000000000000) rfl T.mgP ⟨_, rfl⟩) pa_nil)))))) (pw_or1 (PW.pt (pw_and (pt_cmpR op_eq (pv 1) pe_int (nomark _)) (pw_and1 (pt_cmpR op_lt (pv 2) pe_int (nomark _)))))))) (pss_one ps_never) pss_nil)
      (pss_cons (ps_if (PW.pt (pw_or (pt_not (pt_val (pe_df D_is_integer_within (hr.mono (by decide)) (by rfl) (pa_cons (pv 3) (pa_cons pe_int (pa_cons (pe_glob (v := .int 10000000000000000000000000000000000000000) rfl T.mgP ⟨_, rfl⟩) pa_nil)))))) (pw_or1 (PW.pt (pw_and (pt_cmpR op_ne (pv 1) pe_int (nomark _)) (pw_and1 (pt_cmpR op_eq (pv 3) pe_int (nomark _)))))))) (pss_one ps_never) pss_nil)
      (pss_one (ps_fld (pv 0) (pe_df D_simplest_equation (hr.mono (by decide)) (by rfl) (pa_cons (pv 1) (pa_cons (pv 2) (pa_cons (pv 3) pa_nil)))) rfl))))), ?_⟩
    obtain ⟨sa, sb, sc⟩ := hB.sm
    obtain ⟨g, h1, h2, h3, h4⟩ := hB
    have a0 : 0 ≤ a ∧ 0 ≤ c := by
      rcases g with g | g <;> omega
    refine ⟨_, rfl, a, 0, _, rfl, a0.1, h1, true, rfl, iteF ?_⟩
    refine ⟨_, rfl, _, rfl, b, _, _, rfl, h2, h3, true, rfl, iteF ?_⟩
    refine both (fun rest => ⟨_, rfl, rfl, _, rfl, ite2 (fun e => ⟨_, rfl, _, _, rfl, rfl, _, rfl, ite2 (fun e2 => ?_) (fun _ => rest)⟩) (fun _ => iteF rest)⟩) ?_
    · have e3 : a = 0 := V.int.inj (of_decide_eq_true e)
      have e4 : b < 1 := of_decide_eq_true e2
      rcases g with g | g <;> omega
    refine ⟨_, rfl, c, 0, _, rfl, a0.2, h4, true, rfl, iteF ?_⟩
    refine both (fun rest => ⟨_, rfl, rfl, _, rfl, ite2 (fun e => ⟨_, rfl, rfl, _, rfl, ite2 (fun e2 => ?_) (fun _ => rest)⟩) (fun _ => iteF rest)⟩) ?_
    · have e3 : ¬ a = 0 := fun z => by
        have e5 : (!decide (V.int a = V.int 0)) = true := e
        rw [decide_eq_true (congrArg V.int z)] at e5
        cases e5
      have e4 : c = 0 := V.int.inj (of_decide_eq_true e2)
      rcases g with g | g <;> omega
    refine ⟨_, rfl, _, rfl, _, rfl, a, b, c, rfl, g, sa, sb, sc, fun H1 p sm np hp => ?_⟩
    have hx1 := sm _ _ hx
    have nxp : x ≠ p := ne_of hx1 hp (by intro z; cases z)
    refine ⟨_, rfl, x, Ce, dx, _, rfl, hx1, T.clE, T.nP, (by show 0 < 1000; decide), ?_⟩
    refine k _ ((But.of sm).trans But.upd) ⟨dx, p, upd_same, ?_⟩
    rw [upd_ne nxp.symm]
    exact hp
theorem lg {i : Int} (h : Sm 200 i) : i.natAbs.log2 < 1920 := Nat.lt_trans (log_sm (by decide) h) (by decide)
abbrev s_fraction_text : Stmt := top 11
theorem sc_fraction_text : FnScope ["top", "bottom"] ["top", "bottom"] (defScope s_fraction_text) := ⟨rfl, rfl, rfl, by decide +kernel, rfl, by decide +kernel, by decide +kernel⟩

theorem ok_ft {f : Addr} {fd : FuncData} (F : Fun K "fraction_text" "fraction_text" s_fraction_text f fd) (T : Txt K mg) : FnOk P w K mg base CX0 1 f fd ["top", "bottom"] spFt := by
  refine F.ok sc_fraction_text (fun vs H Q E h => ?_) (fun cdv A outer s H vs Q E hr h => ?_)
  · obtain ⟨t, b, rfl, _⟩ := h
    rfl
  · obtain ⟨t, b, rfl, ht, hb, k⟩ := h
    refine ⟨_, (pss_cons (ps_if (pt_cmpR op_eq (pv 1) pe_int (nomark _)) (pss_one (ps_ret (pe_callTy call_str_int (by rfl) T.str_ (by decide +kernel) (pa_cons (pv 0) pa_nil)))) pss_nil)
      (pss_one (ps_ret (pe_joined (PJ.cons (pe_fmt (pv 0)) (PJ.cons pe_str (PJ.cons (pe_fmt (pv 1)) PJ.nil))))))), ?_⟩
    unfold ftext at k
    refine ⟨_, rfl, rfl, _, rfl, ite2 (fun e => ?_) (fun e => ?_)⟩
    · rw [if_pos (V.int.inj (of_decide_eq_true e))] at k
      exact ⟨_, rfl, _, rfl, lg ht, k⟩
    · rw [if_neg (fun z => e (decide_eq_true (congrArg V.int z)))] at k
      have o1 : OkT 201 (Str.empty ++ ts t) := by
        rw [Str.empty_append]
        exact ts_ok ht
      have o2 := o1.app (OkT.of "/")
      have o3 := o2.app (ts_ok hb)
      refine ⟨_, rfl, .inr ⟨_, rfl, lg ht, _, rfl, o1.fits, _, rfl, o2.fits, _, rfl, .inr ⟨_, rfl, lg hb, _, rfl, o3.fits, ?_⟩⟩⟩
      show Q (.str (((Str.empty ++ ts t) ++ "/") ++ ts b)) H
      rw [Str.empty_append]
      exact k
abbrev s_with_commas : Stmt := top 45
theorem sc_with_commas : FnScope ["parts", "part"] ["parts"] (defScope s_with_commas) := ⟨rfl, rfl, rfl, by decide +kernel, rfl, by decide +kernel, by decide +kernel⟩

theorem ok_cm {f : Addr} {fd : FuncData} (F : Fun K "with_commas" "with_commas" s_with_commas f fd) (T : Txt K mg) : FnOk P w K mg base CX0 1 f fd ["parts"] spCm := by
  refine F.ok sc_with_commas (fun vs H Q E h => ?_) (fun cdv A outer s H vs Q E hr h => ?_)
  · obtain ⟨p, a, b, c, rfl, _⟩ := h
    rfl
  · obtain ⟨p, a, b, c, rfl, hp, ha, hb, hc, k⟩ := h
    refine ⟨_, (pss_one (ps_ret (pe_join pe_str (pe_lc (own := [("part", 1)]) (g := gName 1) (tt := tYes) rfl sc_with_commas.nd (pi_tup (pv 0)) (blkOk_by (N := ["parts", "part"]) (sc := defScope s_with_commas) (by decide +kernel)) (fun _ _ _ _ _ => pg_name (i := 1) sc_with_commas.nd rfl (Or.inl rfl)) (fun _ _ _ _ _ => pts_nil) (fun _ _ _ _ _ => (pe_callTy call_str_int (by rfl) T.str_ (by decide +kernel) (pa_cons (pv 1) pa_nil))))))), ?_⟩
    refine ⟨⟨_, rfl⟩, _, rfl, p, rfl, ⟨_, SqT.of hp⟩, fun D hD => ?_⟩
    refine lc_tup (K := K) (a := p) (xs := [.int a, .int b, .int c]) (fun i H' => But D H H' ∧ H' D = some (.lst (([ts a, ts b, ts c].take i).map V.str))) ⟨But.upd, upd_same⟩ (fun i H' _ h => SqT.of (h.1 _ _ (ne_of_none hp hD) hp)) ?_ ?_
    · rintro i y H1 hi ⟨bD, hDi⟩
      refine ⟨rfl, ?_⟩
      unfold tYes
      refine iteT ?_
      obtain ⟨z, rfl, hz, ez⟩ : ∃ z : Int, y = .int z ∧ Sm 200 z ∧ [ts a, ts b, ts c].take (i + 1) = [ts a, ts b, ts c].take i ++ [ts z] := by
        match i, hi with
        | 0, hi =>
          cases hi
          exact ⟨a, rfl, ha, rfl⟩
        | 1, hi =>
          cases hi
          exact ⟨b, rfl, hb, rfl⟩
        | 2, hi =>
          cases hi
          exact ⟨c, rfl, hc, rfl⟩
      refine ⟨_, rfl, _, rfl, lg hz, _, hDi, ?_, ?_, ?_⟩
      · rw [List.length_map, List.length_take]
        exact small1000 (Nat.le_trans (Nat.min_le_right _ _) (by show 3 ≤ 1000; decide))
      · intro q o nq e
        rw [upd_ne nq]
        exact bD _ _ nq e
      · rw [upd_same, ez, List.map_append]
        rfl
    · rintro H1 ⟨bD, hDn⟩
      refine ⟨_, D, [ts a, ts b, ts c], rfl, rfl, .inl (SqL.of hDn), ?_, ?_⟩
      · have l1 := (ts_ok ha).len
        have l2 := (ts_ok hb).len
        have l3 := (ts_ok hc).len
        show ((ts a).length + ((ts b).length + ((ts c).length + 0))) + 3 * 2 ≤ 16777216
        omega
      · rw [join3]
        exact k _ fun q o e => bD _ _ (ne_of_none e hD) e
abbrev s_Exact_str : Stmt := inClass (top 39) 7
theorem sc_Exact_str : FnScope ["self"] ["self"] (defScope s_Exact_str) := ⟨rfl, rfl, rfl, by decide +kernel, rfl, by decide +kernel, by decide +kernel⟩

theorem ok_str {f : Addr} {fd : FuncData} (F : Fun K "__str__" "Exact.__str__" s_Exact_str f fd) (T : Txt4 K mg tG t1 t2 t3 tP tC aO aW J C Ce Cl) (D_fraction_text : Df P w K mg base 1 "fraction_text" ["top", "bottom"] spFt) (D_with_commas : Df P w K mg base 1 "with_commas" ["parts"] spCm) : FnOk P w K mg base CX0 2 f fd ["self"] (spStr Ce) := by
  refine F.ok sc_Exact_str (fun vs H Q E h => ?_) (fun cdv A outer s H vs Q E hr h => ?_)
  · obtain ⟨x, a, b, c, rfl, _⟩ := h
    rfl
  · obtain ⟨x, a, b, c, rfl, ⟨dx, pp, hx, hpp⟩, ha, hb, hc, k⟩ := h
    refine ⟨_, (pss_cons (ps_if (pt_cmpR op_eq (pe_ix ix_tup (pe_fld (pv 0) rfl) pe_int (fun _ _ => rfl)) pe_int (nomark _)) (pss_one (ps_ret (pe_callTy SkE.call_str_str (by rfl) T.str_ (by decide +kernel) (pa_cons (pe_df D_fraction_text (hr.mono (by decide)) (by rfl) (pa_cons (pe_ix ix_tup (pe_fld (pv 0) rfl) pe_int (fun _ _ => rfl)) (pa_cons (pe_ix ix_tup (pe_fld (pv 0) rfl) pe_int (fun _ _ => rfl)) pa_nil))) pa_nil)))) pss_nil)
      (pss_one (ps_ret (pe_joined (PJ.cons pe_str (PJ.cons (pe_fmt (pe_df D_with_commas (hr.mono (by decide)) (by rfl) (pa_cons (pe_fld (pv 0) rfl) pa_nil))) PJ.nil)))))), ?_⟩
    unfold xtext at k
    refine ⟨_, rfl, x, Ce, dx, _, _, rfl, hx, T.clE, T.nP, rfl, pp, _, _, _, rfl, rfl, SqT.of hpp, atI_nat (j := 0) rfl, rfl, _, rfl, ite2 (fun e => ?_) (fun e => ?_)⟩
    · rw [if_pos (V.int.inj (of_decide_eq_true e))] at k
      exact ⟨_, rfl, x, Ce, dx, _, _, rfl, hx, T.clE, T.nP, rfl, pp, _, _, _, rfl, rfl, SqT.of hpp, atI_nat (j := 2) rfl, _, rfl, x, Ce, dx, _, _, rfl, hx, T.clE, T.nP, rfl, pp, _, _, _, rfl, rfl, SqT.of hpp, atI_nat (j := 1) rfl, c, b, rfl, hc, hb, _, rfl, k _ (Same.refl _)⟩
    · rw [if_neg (fun z => e (decide_eq_true (congrArg V.int z)))] at k
      have o1 : OkT 8 (Str.empty ++ Str.ofString "root of ") := by
        rw [Str.empty_append]
        exact OkT.of "root of "
      have o2 := o1.app (commas_ok ha hb hc)
      refine ⟨_, rfl, o1.fits, _, rfl, x, Ce, dx, _, _, rfl, hx, T.clE, T.nP, rfl, pp, a, b, c, rfl, hpp, ha, hb, hc, fun H1 s1 => .inl ⟨_, rfl, (commas_ok ha hb hc).fits, _, rfl, o2.fits, ?_⟩⟩
      show Q (.str ((Str.empty ++ Str.ofString "root of ") ++ commas a b c)) H1
      rw [Str.empty_append]
      exact k _ s1
abbrev s_Exact_repr : Stmt := inClass (top 39) 8
theorem sc_Exact_repr : FnScope ["self"] ["self"] (defScope s_Exact_repr) := ⟨rfl, rfl, rfl, by decide +kernel, rfl, by decide +kernel, by decide +kernel⟩

theorem ok_rep {f : Addr} {fd : FuncData} (F : Fun K "__repr__" "Exact.__repr__" s_Exact_repr f fd) (T : Txt4 K mg tG t1 t2 t3 tP tC aO aW J C Ce Cl) (D_with_commas : Df P w K mg base 1 "with_commas" ["parts"] spCm) : FnOk P w K mg base CX0 2 f fd ["self"] (spRep Ce) := by
  refine F.ok sc_Exact_repr (fun vs H Q E h => ?_) (fun cdv A outer s H vs Q E hr h => ?_)
  · obtain ⟨x, a, b, c, rfl, _⟩ := h
    rfl
  · obtain ⟨x, a, b, c, rfl, ⟨dx, pp, hx, hpp⟩, ha, hb, hc, k⟩ := h
    refine ⟨_, (pss_one (ps_ret (pe_joined (PJ.cons pe_str (PJ.cons (pe_fmt (pe_df D_with_commas (hr.mono (by decide)) (by rfl) (pa_cons (pe_fld (pv 0) rfl) pa_nil))) (PJ.cons pe_str PJ.nil)))))), ?_⟩
    have o1 : OkT 6 (Str.empty ++ Str.ofString "Exact(") := by
      rw [Str.empty_append]
      exact OkT.of "Exact("
    have o2 := o1.app (commas_ok ha hb hc)
    have o3 := o2.app (OkT.of ")")
    refine ⟨_, rfl, o1.fits, _, rfl, x, Ce, dx, _, _, rfl, hx, T.clE, T.nP, rfl, pp, a, b, c, rfl, hpp, ha, hb, hc, fun H1 s1 => .inl ⟨_, rfl, (commas_ok ha hb hc).fits, _, rfl, o2.fits, _, rfl, o3.fits, ?_⟩⟩
    show Q (.str (((Str.empty ++ Str.ofString "Exact(") ++ commas a b c) ++ Str.ofString ")")) H1
    rw [Str.empty_append]
    exact k _ s1
abbrev s_Exact_fraction : Stmt := inClass (top 39) 1
theorem sc_Exact_fraction : FnScope ["self", "square", "line", "whole"] ["self"] (defScope s_Exact_fraction) := ⟨rfl, rfl, rfl, by decide +kernel, rfl, by decide +kernel, by decide +kernel⟩

theorem ok_frac {f : Addr} {fd : FuncData} (F : Fun K "fraction" "Exact.fraction" s_Exact_fraction f fd) (T : Txt4 K mg tG t1 t2 t3 tP tC aO aW J C Ce Cl) : FnOk P w K mg base CX0 1 f fd ["self"] (spFrac Ce) := by
  refine F.ok sc_Exact_fraction (fun vs H Q E h => ?_) (fun cdv A outer s H vs Q E hr h => ?_)
  · obtain ⟨x, a, b, c, rfl, _⟩ := h
    rfl
  · obtain ⟨x, a, b, c, rfl, ⟨dx, pp, hx, hpp⟩, k1, k2⟩ := h
    refine ⟨_, (pss_cons (ps_asg (pe_fld (pv 0) rfl) (pg_tup rfl (pgs_cons (pg_name (i := 1) sc_Exact_fraction.nd rfl (.inl rfl)) (pgs_cons (pg_name (i := 2) sc_Exact_fraction.nd rfl (.inl rfl)) (pgs_cons (pg_name (i := 3) sc_Exact_fraction.nd rfl (.inl rfl)) pgs_nil)))))
      (pss_cons (ps_if (pt_cmpR op_eq (pv 1) pe_int (nomark _)) (pss_one (ps_ret (pe_tup (pa_cons (pv 3) (pa_cons (pv 2) pa_nil))))) pss_nil)
      (pss_one (ps_ret pe_non)))), ?_⟩
    refine ⟨_, rfl, x, Ce, dx, _, _, rfl, hx, T.clE, T.nP, rfl, pp, _, rfl, SqT.of hpp, rfl, _, _, rfl, _, _, rfl, _, _, rfl, rfl, ?_⟩
    refine ⟨_, rfl, rfl, _, rfl, ite2 (fun e => ?_) (fun e => ?_)⟩
    · have a0 : a = 0 := V.int.inj (of_decide_eq_true e)
      exact ⟨_, rfl, _, rfl, (by show 2 ≤ sizeLine; decide), fun q hq => k1 a0 _ q (same_upd hq) upd_same⟩
    · exact k2 fun z => e (decide_eq_true (congrArg V.int z))
abbrev s_Exact_equation : Stmt := inClass (top 39) 2
theorem sc_Exact_equation : FnScope ["self"] ["self"] (defScope s_Exact_equation) := ⟨rfl, rfl, rfl, by decide +kernel, rfl, by decide +kernel, by decide +kernel⟩

theorem ok_eqn {f : Addr} {fd : FuncData} (F : Fun K "equation" "Exact.equation" s_Exact_equation f fd) (T : Txt4 K mg tG t1 t2 t3 tP tC aO aW J C Ce Cl) : FnOk P w K mg base CX0 1 f fd ["self"] (spEqn Ce) := by
  refine F.ok sc_Exact_equation (fun vs H Q E h => ?_) (fun cdv A outer s H vs Q E hr h => ?_)
  · obtain ⟨x, dx, p, rfl, _⟩ := h
    rfl
  · obtain ⟨x, dx, p, rfl, hx, k⟩ := h
    refine ⟨_, (pss_one (ps_ret (pe_fld (pv 0) rfl))), ?_⟩
    exact ⟨_, rfl, x, Ce, dx, _, _, rfl, hx, T.clE, T.nP, rfl, k⟩
end
end RL

set_option maxHeartbeats 2000000
/-! An own exception class called with arguments by position and by keyword, its __init__ a def. -/
namespace PySem
namespace RLX
open PySem.W PySem.Calls PyProof.Rows PySem.HandSPX
section
variable {prog : Program} {w : World} {M : Model} {A : Around} {E : Value → Shared → Prop} {R : Result → Shared → Prop} {h : Heap} {g : Array GenState} {d : Drawn} {t : Nat} {os : OsState}
variable {nm q : Str} {C N : Addr} {bs bm bmB : List Value} {hdct : Bool} {sn : List Str} {sub : List Value} {ab : Bool} {col : Option Bool} {dd : Option Addr} {k0 k1 k2 k3 k5 : Option Value} {B newId initId : String}
/-- the check ahead of the making -/
theorem chk_new (F : ExcBaseFacts B newId initId bmB) (hT : ∀ X : String, bm.contains (.type X) = bmB.contains (.type X)) {rest : List Value} {kw : List (Str × Value)} {Q : Unit → Shared → Prop}
    (hC : h.get? C = some (excClassObj nm q C N bs bm hdct sn sub ab col dd k0 k1 k2 k3 k5 newId)) (hq : Q () ⟨h, g, d, t, os⟩) : wpAny M A (checkBuiltinCall newId ⟨.ref C :: rest, kw⟩) Q E ⟨h, g, d, t, os⟩ := by
  have yB : (Value.ref C :: bm).contains (.type B) = true := by
    rw [List.contains_cons, hT, F.hasB, Bool.or_true]
  have st := F.noStar
  simp only [checkBuiltinCall, F.newKind, F.newSplit, F.newRow]
  repeat (first
    | refine wpAny_loadPart_at hC ?_
    | (refine wpAny_isSubtype_exc hC ?_; rw [yB])
    | refine wpAny_staticBase_exc hC ?_
    | refine wpAny_madeBy_exc hC ?_
    | simp only [bne_self_eq_false, Bool.false_eq_true, if_false]
    | wp_step)
  exact hq
/-- what the making lays: the arguments' tuple, the exception behind it -/
abbrev laid2 (C : Addr) (rest : List Value) (h : Heap) : Heap := (h.push (W.kdv_tup rest)).push (excO C h.objs.size)
theorem run_new (F : ExcBaseFacts B newId initId bmB) (hT : ∀ X : String, bm.contains (.type X) = bmB.contains (.type X)) {rest : List Value} {kw : List (Str × Value)}
    (hC : h.get? C = some (excClassObj nm q C N bs bm hdct sn sub ab col dd k0 k1 k2 k3 k5 newId))
    (hq : R (.ok (.ret (.ref (h.objs.size + 1)))) ⟨laid2 C rest h, g, d, t, os⟩) (hz : rest.length ≤ sizeLine) :
    codeAny (model prog w) A (.builtin newId ⟨.ref C :: rest, kw⟩) R ⟨h, g, d, t, os⟩ := by
  have en := F.ends
  have yB : (Value.ref C :: bm).contains (.type B) = true := by
    rw [List.contains_cons, hT, F.hasB, Bool.or_true]
  have yA : (Value.ref C :: bm).contains (.type "AttributeError") = false := by
    rw [List.contains_cons, hT, F.noAttr]
    rfl
  have yN : (Value.ref C :: bm).contains (.type "NameError") = false := by
    rw [List.contains_cons, hT, F.noName]
    rfl
  refine codeAny_builtinAt F.entry ?_
  unfold Builtin.«BaseException.__new__»
  refine wpAt_bind ?_
  show wpAt _ _ _ (stack >>= _) _ _ _
  refine wpAt_bind (wpAt_stack fun p below => wpAt_of_wpAny ?_)
  wp_walk
  refine wpAt_of_wpAny ?_
  rw [F.owner]
  repeat (first
    | with_reducible refine wpAny_madeHere_exc F.canon hC ?_
    | with_reducible refine wpAny_loadPart_at hC ?_
    | (with_reducible refine wpAny_isSubtype_exc hC ?_; first | rw [yB] | rw [yA] | rw [yN])
    | wp_step)
  show R _ _
  rw [Heap.size_push]
  exact hq
theorem run_typeCall (F : ExcBaseFacts B newId initId bmB) (hT : ∀ X : String, bm.contains (.type X) = bmB.contains (.type X)) {rest : List Value} {kw : List (Str × Value)} {fI : Addr} {Q : Fin → Shared → Prop}
    (hC : h.get? C = some (excClassObj nm q C N bs bm hdct sn sub ab col dd k0 k1 k2 k3 k5 newId))
    (hi : W.Looks (model prog w) h (typeLookup (.ref C) "__init__") (some (.ref fI))) (hb : ∀ self, W.Looks (model prog w) h (bindSpecial (.ref fI) self) (.ref fI, [self])) (hz : rest.length ≤ sizeLine)
    (hq : codeAny (model prog w) A (.call (.ref fI) ⟨.ref (h.objs.size + 1) :: rest, kw⟩)
      (fun r s' => match r with | .ok (.ret v) => v = .none ∧ Q (.done (.ret (.ref (h.objs.size + 1)))) s' | .ok _ => False | .error e => E e s')
      ⟨laid2 C rest h, g, d, t, os⟩) :
    wpAny (model prog w) A (Builtin.«type.__call__» ⟨.ref C :: rest, kw⟩) Q E ⟨h, g, d, t, os⟩ := by
  repeat (first
    | with_reducible refine wpAny_loadPart_at hC ?_
    | with_reducible refine wpAny_madeBy_exc hC ?_
    | wp_step)
  refine codeAny_call_builtin_code (Code.quiet_builtin _ F.quiet) (chk_new F hT hC (run_new F hT hC ?_ hz))
  show wpAny _ _ _ _ _ _
  have kp : ∀ b o, h.get? b = some o → (laid2 C rest h).get? b = some o := fun b o e => Heap.get?_push_of_some _ (Heap.get?_push_of_some _ e)
  have hC1 := kp _ _ hC
  have hget : (laid2 C rest h).get? (h.objs.size + 1) = some (excO C h.objs.size) := by heap_get
  have yC : (Value.ref C :: bm).contains (.ref C) = true := by simp
  have i1 := hi.keeps kp
  have b1 := (hb (.ref (h.objs.size + 1))).keeps kp
  unfold isInstance
  repeat (first
    | with_reducible refine wpAny_loadPart_at hget ?_
    | (with_reducible refine wpAny_isSubtype_exc hC1 ?_; rw [yC])
    | wp_step)
  show wpAny _ _ (typeLookup (.ref C) _) _ _ _
  refine i1.at (wpAny_holding (wpAny_bind (b1.at (wpAny_bind (wpAny_call (codeAny_mono hq fun r s' z => ?_))))))
  rcases r with e | (v | _ | _ | _) <;> first | exact z | exact z.elim | skip
  obtain ⟨rfl, z⟩ := z
  first
    | exact wpAny_pure (wpAny_pure z)
    | (wp_walk; exact z)
theorem chk_typeCall {rest : List Value} {kw : List (Str × Value)} {Q : Unit → Shared → Prop} (hC : h.get? C = some (excClassObj nm q C N bs bm hdct sn sub ab col dd k0 k1 k2 k3 k5 newId))
    (hq : Q () ⟨h, g, d, t, os⟩) : wpAny M A (checkBuiltinCall "type.__call__" ⟨.ref C :: rest, kw⟩) Q E ⟨h, g, d, t, os⟩ := by
  have f3 := tc_sub
  have ty : (⟨h, g, d, t, os⟩ : Shared).TypeIs (.ref C) "type" := ⟨_, hC, rfl⟩
  simp only [checkBuiltinCall, tc_kind, tc_split]
  repeat (any_goals (first
    | assumption
    | with_reducible refine wpAny_loadPart_at hC ?_
    | with_reducible refine wpAny_onRaise ?_
    | with_reducible refine wpAny_map ?_
    | wp_step))
/-- C(.., k = v, ..) -/
theorem run_make (F : ExcBaseFacts B newId initId bmB) (hT : ∀ X : String, bm.contains (.type X) = bmB.contains (.type X)) {rest : List Value} {kw : List (Str × Value)} {fI : Addr}
    (hC : h.get? C = some (excClassObj nm q C N bs bm hdct sn sub ab col dd k0 k1 k2 k3 k5 newId))
    (hi : W.Looks (model prog w) h (typeLookup (.ref C) "__init__") (some (.ref fI))) (hb : ∀ self, W.Looks (model prog w) h (bindSpecial (.ref fI) self) (.ref fI, [self])) (hz : rest.length ≤ sizeLine)
    (hq : codeAny (model prog w) (A.under (.builtin "type.__call__" ⟨.ref C :: rest, kw⟩)) (.call (.ref fI) ⟨.ref (h.objs.size + 1) :: rest, kw⟩) (W.InitBack (h.objs.size + 1) R) ⟨laid2 C rest h, g, d, t, os⟩) :
    codeAny (model prog w) A (.call (.ref C) ⟨rest, kw⟩) R ⟨h, g, d, t, os⟩ := by
  have f1 := tc_lookup
  have f2 := tc_bind (.ref C)
  have ty : (⟨h, g, d, t, os⟩ : Shared).TypeIs (.ref C) "type" := ⟨_, hC, rfl⟩
  refine codeAny_of_tree ?_
  show wpAny _ _ (callAny (.ref C) _) _ _ _
  repeat (any_goals (first
    | assumption
    | with_reducible refine wpAny_loadPart_at hC ?_
    | wp_step))
  refine ⟨rfl, ?_⟩
  refine codeAny_call_builtin_at (Code.quiet_builtin _ (by decide +kernel)) entry_typeCall (chk_typeCall hC (run_typeCall F hT hC hi hb hz (codeAny_mono hq fun r s' z => ?_)))
  rcases r with e | (v | _ | _ | _) <;> exact z
end
end RLX
end PySem

set_option maxHeartbeats 2000000
/-! Own exceptions held as values: made (by position, by keyword), stored into, read, asked for their class. -/
namespace RL
open PySem L2 PySem.Spec PyProof.Rows Builtin Builtin.ObjectAttr
/-- what the class at C says: an own exception class, its __init__ a def -/
def xcB (K : PySem.W.Frag) (C : Addr) (bmB : List Value) (nid : String) : Bool :=
  PySem.W.excInitIn K C bmB nid && PySem.W.excOver K C bmB && PySem.W.hasDictIn K C && PySem.W.keepIn K (.ref C) && (PySem.W.clsIn K C).isSome &&
  decide (PySem.W.findIn K (.ref C) "__setattr__" = some (some (.builtin "object.__setattr__"))) &&
  decide (PySem.W.findIn K (.ref C) "__getattribute__" = some (some (.builtin "BaseException.__getattribute__"))) &&
  decide (PySem.W.findIn K (.ref C) "__getattr__" = some none) &&
  decide (PySem.W.findIn K (.ref C) "__class__" = some (some (.builtin "object.__class__"))) &&
  decide (PySem.W.subIn K (.ref C) (.type "BaseException") = some true) && decide (PySem.W.mroIn K C (.type "object") = some true) &&
  decide (PySem.W.findIn K (.ref C) "given" = some none) && decide (PySem.W.findIn K (.ref C) "index" = some none) && decide (PySem.W.findIn K (.ref C) "most" = some none)
structure XC (K : PySem.W.Frag) (C : Addr) : Prop where
  base : ∃ (B nid iid : String) (bmB : List Value), ExcBaseFacts B nid iid bmB ∧ StoreFacts B bmB "object.__setattr__" "object" ∧ PySem.W.excInitIn K C bmB nid = true ∧ PySem.W.excOver K C bmB = true
  hd : PySem.W.hasDictIn K C = true
  kp : PySem.W.keepIn K (.ref C) = true
  cl : (PySem.W.clsIn K C).isSome = true
  sa : PySem.W.findIn K (.ref C) "__setattr__" = some (some (.builtin "object.__setattr__"))
  ga : PySem.W.findIn K (.ref C) "__getattribute__" = some (some (.builtin "BaseException.__getattribute__"))
  gg : PySem.W.findIn K (.ref C) "__getattr__" = some none
  ca : PySem.W.findIn K (.ref C) "__class__" = some (some (.builtin "object.__class__"))
  sub : PySem.W.subIn K (.ref C) (.type "BaseException") = some true
  mo : PySem.W.mroIn K C (.type "object") = some true
  n1 : PySem.W.findIn K (.ref C) "given" = some none
  n2 : PySem.W.findIn K (.ref C) "index" = some none
  n3 : PySem.W.findIn K (.ref C) "most" = some none
theorem xcB_ok {K : PySem.W.Frag} {C : Addr} {bmB : List Value} {B nid iid : String} (F : ExcBaseFacts B nid iid bmB) (S : StoreFacts B bmB "object.__setattr__" "object") (h : xcB K C bmB nid = true) : XC K C := by
  unfold xcB at h
  simp only [Bool.and_eq_true, decide_eq_true_eq] at h
  obtain ⟨⟨⟨⟨⟨⟨⟨⟨⟨⟨⟨⟨⟨h1, h2⟩, h3⟩, h4⟩, h5⟩, h6⟩, h7⟩, h8⟩, h9⟩, h10⟩, h11⟩, h12⟩, h13⟩, h14⟩ := h
  exact ⟨⟨B, nid, iid, bmB, F, S, h1, h2⟩, h3, h4, h5, h6, h7, h8, h9, h10, h11, h12, h13, h14⟩
/-- the row that isinstance asks of object.__class__ -/
structure XK0 (K : PySem.W.Frag) : Prop where
  cn : PySem.W.specialIn K (.builtin "object.__class__") "__get__" = some (some (.builtin "getset_descriptor.__get__"))
  ct : PySem.W.takesIn K (.builtin "object.__class__") = some true
section
variable {prog : Program} {w : World} {A : Around} {R : Result → Shared → Prop} {hp : Heap} {g : Array GenState} {d : Drawn} {t : Nat} {os : OsState} {B : String} {bmB : List Value} {C : Addr}
theorem x_store {K : PySem.W.Frag} {name : Str} {tk : Tok} {v : Value} {x t1 : Addr} (SF : StoreFacts B bmB "object.__setattr__" "object") (X : K.In hp) (hx : hp.get? x = some (PySem.HandSPX.excO C t1))
    (ov : PySem.W.excOver K C bmB = true) (hh : PySem.W.hasDictIn K C = true) (ha : PySem.W.findIn K (.ref C) name = some none)
    (hq : ∀ h' tk' dx, (∀ b o, b ≠ x → hp.get? b = some o → h'.get? b = some o) → hp.objs.size ≤ dx → dx ≠ x → h'.get? x = some { PySem.HandSPX.excO C t1 with dict := some dx } →
      h'.Ns1 dx (fun y => if y = name then some v else none) → R (.ok (.ret .none)) ⟨h', g, d, tk', os⟩) :
    codeAny (model prog w) A (.call (.builtin "object.__setattr__") ⟨[.ref x, .str name tk, v], []⟩) R ⟨hp, g, d, t, os⟩ := by
  have tkr : PySem.W.takerIn K C name = some none := by
    unfold PySem.W.takerIn
    rw [ha]
    rfl
  obtain ⟨cd, hc, hd'⟩ := PySem.W.any_some hh
  have hxs : x ≠ hp.objs.size := Nat.ne_of_lt (Heap.lt_size hx)
  refine PySem.W.osa_openX (od := none) SF X ⟨hx, rfl, rfl, trivial⟩ ov tkr fun b => ?_
  refine wpAny_bind (wpAny_pure (wpAny_bind (PySem.W.instanceDict_exc (t := t1) (c2 := .none) hx (PySem.W.looks_clsIn X hc) hd' ?_)))
  show wpAny _ _ (storeInDict hp.objs.size (.str name tk) name v) _ _ _
  refine PySem.HandSPX.store_in_new ?_ ?_
  · exact ⟨_, #[], _, (Heap.get?_update_ne _ _ _ _ hxs.symm).trans (Heap.get?_push_at rfl rfl), rfl, fun e he => absurd he (by simp), fun _ => rfl⟩
  · intro h' tk' hn' hs
    have hx1 : (hp.push (PySem.W.dictOf [] 0)).get? x = some (PySem.HandSPX.excO C t1) := Heap.get?_push_of_some _ hx
    refine hq h' tk' hp.objs.size (fun b o hb ho => ?_) (Nat.le_refl _) hxs.symm ?_ hn'
    · exact (hs.2 b (Nat.ne_of_lt (Heap.lt_size ho))).trans ((Heap.get?_update_ne _ _ _ _ hb).trans (Heap.get?_push_of_some _ ho))
    · exact (hs.2 x hxs).trans (Heap.get?_update_self _ hx1 rfl)
end
section
variable {X : Cx} {pins : List (Addr × Obj)} {σ : L2.St} {H : Hp} {s : Shared} {a C dx : Addr} {f : Str} {y : V} {u : Value} {Q : Unit → Shared → Prop} {E : Value → Shared → Prop} {A : Around}
/-- self.f = y, the first one -/
theorem x_set (T : XC X.K C) (I : Inv X pins σ H s) (e : H a = some (exo a C none)) (hno : PySem.W.findIn X.K (.ref C) f = some none) (ry : RelV y u)
    (h : ∀ dx s', H dx = none → dx ≠ a → Inv X pins σ (upd (upd H dx (exd dx [(f, y)])) a (exo a C (some dx))) s' → Q () s') : wpAny (model X.prog X.w) A (setAttr (.ref a) f u) Q E s := by
  obtain ⟨B, nid, iid, bmB, FB, SF, _, ov⟩ := T.base
  obtain ⟨t1, ho⟩ := exo_at I.hok e
  obtain ⟨hp, g, d, t, os⟩ := s
  refine PySem.W.set_plain I.kIn (ox := PySem.HandSPX.excO C t1) (od := none) ⟨ho, rfl, rfl, trivial⟩ T.sa ?_
  refine x_store SF I.kIn ho ov T.hd hno (fun h' tk' dx k dn dne hx hn => ?_)
  have hnd : H dx = none := I.hok.fresh dn
  have nd : ∀ {b : Addr} {o : Obj}, hp.get? b = some o → b ≠ dx := fun {b o} q z => absurd (Heap.lt_size q) (by rw [z]; exact Nat.not_lt.mpr dn)
  have na : ∀ {b : Addr}, H b = none → b ≠ a := fun {b} n z => by
    rw [z, e] at n
    cases n
  have there : ∀ b o, hp.get? b = some o → ∃ o', h'.get? b = some o' := fun b o q => by
    by_cases hb : b = a
    · exact ⟨_, by rw [hb]; exact hx⟩
    · exact ⟨o, k b o hb q⟩
  refine h dx _ hnd dne (I.un (t' := tk') (Un.mk (fun b o q n _ _ => k b o (na n) q) (fun b o q n _ _ => ⟨o.slots, k b o (na n) q⟩) (fun b o q n _ => by rw [upd_ne (na n), upd_ne (nd q)]; exact n) (fun b o q _ => there b o q)
    (fun b xs q => by rw [upd_ne (at_ne e q exo_tup), upd_ne (ne_of_none q hnd)]; exact q) (fun b o v q => by rw [upd_ne (at_ne e q exo_frz), upd_ne (ne_of_none q hnd)]; exact q)
    (fun b ps q => ⟨#[], by rw [upd_ne (at_ne e q exo_tbl), upd_ne (ne_of_none q hnd), q]; simp⟩)) fun b o q => ?_)
  by_cases hb : b = a
  · rw [hb, upd_same] at q
    cases q
    rw [hb]
    exact exo_ok hx
  rw [upd_ne hb] at q
  by_cases hd : b = dx
  · rw [hd, upd_same] at q
    cases q
    rw [hd]
    exact exd_ok hn (relO_put (fs := []) ry fun g => True.intro)
  rw [upd_ne hd] at q
  refine (I.hok b o q).stay (fun c v hc z => k c v ?_ z) (fun c hc => ?_) (fun c xs hc => ?_)
  · rcases hc with hc | hc
    · rw [hc]
      exact hb
    · exact at_ne e hc exo_own
  · rw [upd_ne (at_ne e hc exo_own), upd_ne (ne_of_none hc hnd)]
    exact hc
  · rw [upd_ne (at_ne e hc exo_tup), upd_ne (ne_of_none hc hnd)]
    exact hc
end
/-- self.f = e -/
def tXst (K : PySem.W.Frag) (f : Str) (to te : TE) : TS := fun D σ H => te σ H fun y H1 => to σ H1 fun x H2 => ∃ a C : Addr, x = .ref a ∧ XC K C ∧ PySem.W.findIn K (.ref C) f = some none ∧ H2 a = some (exo a C none) ∧
  ∀ dx, H2 dx = none → dx ≠ a → D.nx σ (upd (upd H2 dx (exd dx [(f, y)])) a (exo a C (some dx)))
section
variable {X : Cx} {o e : Expr} {es : List Expr} {to te : TE} {ta tk : TA} {f : Str} {p p' p1 p2 pos : Pos}
theorem ps_xst (ho : PE X o to) (he : PE X e te) (hs : swapsWith e (some (.Attribute o f p')) pos.line X.env = pure false := by rfl) : PS X (.Assign [.Attribute o f p'] e pos) (tXst X.K f to te) := by
  refine ⟨fun pins s σ H D I h => plainObj_wpAny_Assign_Attribute (thn (he.run pins s σ H _ I h) fun v s1 ⟨y, H1, I1, r1, q1⟩ => thn (ho.run pins s1 σ H1 _ I1 q1) fun u s2 ⟨x, H2, I2, r2, a, C, ex, T, hno, ea, q⟩ => ?_) hs⟩
  subst ex
  cases (show u = Value.ref a from r2)
  exact x_set T I2 ea hno r1 fun dx s' n ne J => ⟨σ, _, J, q dx n ne⟩
/-- Base.m(e, ..), m a def of the class at C -/
theorem pe_xbase {C g : Addr} {mc : Value} {fd : FuncData} {ps : List Str} {sp : Sp} {k : Nat} {x m : Str} {pl : Sem Bool} (gC : X.mg x = some (.ref C)) (hg : Gl X x) (r : ClX.CRead X.K C mc) (hf : PySem.W.findCls X.K (.ref C) mc m = some (.val (.ref g)))
    (kp : PySem.W.keepIn X.K (.ref g) = true) (F : FnOk X.prog X.w X.K X.mg X.base CX0 k g fd ps sp) (hr : Room k X.A) (hb : Binds X.K fd ps []) (ha : PA X (e :: es) ta)
    (hc : eval (.Call (.Attribute (.Name x p1) m p2) (e :: es) [] pos) X.env = (do
      let ov ← eval (.Name x p1) X.env
      standAt p2.atName
      let (f, first) ← holding [ov] (getMethod ov m pl)
      callWith pos f first (backTo pos (starEach (e :: es) X.env)) (backToKw pos (keywordEach [] X.env))) := by rfl)
    (hdb : (x == ("__debug__" : Str)) = false := by decide) (he : starEach (e :: es) X.env = (false, eval e X.env) :: starEach es X.env := by rfl) (hpl : (backTo pos (starEach es X.env)).any (·.1) = false := by rfl) :
    PE X (.Call (.Attribute (.Name x p1) m p2) (e :: es) [] pos) (tCall sp [] E0 ta) := by
  refine ⟨fun pins s σ H Q I h => PySem.W.methodCall_KW (ld_glob I hg gC (PySem.W.method_cls I.kIn r.ga (ClX.getcval_ok (v := .ref g) I r ⟨hf, rfl⟩ fun s0 I0 => ?_)) hdb) hc⟩
  refine PySem.W.callWith_K (h₀ := X.base) I0.ok.mod.kin kp (thn (ha.run pos pins s0 σ H _ I0 h) fun us s1 ⟨vs, H1, I1, r1, q⟩ => ⟨I1.kIn, ?_⟩) he hpl
  exact run_fn F hr hb .nil pass0 I1 r1 q
/-- C(e, .., k = v, ..): a new exception without a dict, then __init__ -/
def tXmk (C : Addr) (n m : Nat) (sp : Sp) (gV : List V → List V → List V) (t tk : TA) : TE := fun σ H Q => t σ H fun vs H1 => tk σ H1 fun zs H2 => vs.length = n ∧ zs.length = m ∧
  ∀ a, H2 a = none → sp (gV (.ref a :: vs) zs) (upd H2 a (exo a C none)) (fun v H3 => v = .non ∧ Q (.ref a) H3) E0
/-- the class at C and its __init__ -/
structure XM (P : Program) (w : World) (K : PySem.W.Frag) (mg : Str → Option Value) (base : Heap) (k : Nat) (C : Addr) (ps : List Str) (sp : Sp) : Prop where
  xc : XC K C
  ex : ∃ (g : Addr) (fd : FuncData), PySem.W.findIn K (.ref C) "__init__" = some (some (.ref g)) ∧ PySem.W.isFn K (.ref g) = true ∧ FnOk P w K mg base CX0 k g fd ps sp ∧ Binds K fd ps [] ∧
    ∀ y z, ps = [y, z] → KBn K fd ps 1 [z] (fun us ws => us ++ ws) (fun vs zs => vs ++ zs)
theorem run_xmk {k n : Nat} {C g : Addr} {fd : FuncData} {ps ks : List Str} {sp : Sp} {gU : List Value → List Value → List Value} {gV : List V → List V → List V} {pins : List (Addr × Obj)} {σ : L2.St} {H : Hp} {s : Shared} {Q : VK} {us ws : List Value} {vs zs : List V}
    (T : XC X.K C) (iC : PySem.W.findIn X.K (.ref C) "__init__" = some (some (.ref g))) (tI : PySem.W.isFn X.K (.ref g) = true) (F : FnOk X.prog X.w X.K X.mg X.base CX0 k g fd ps sp) (hr : Room (k + 1) X.A) (hb : KBn X.K fd ps (n + 1) ks gU gV)
    (I : Inv X pins σ H s) (r : Vals vs us) (rz : Vals zs ws) (l1 : vs.length = n) (l2 : zs.length = ks.length) (ln : n ≤ 1000)
    (h : ∀ a, H a = none → sp (gV (.ref a :: vs) zs) (upd H a (exo a C none)) (fun v H2 => v = .non ∧ Q (.ref a) H2) E0) :
    wpAny (model X.prog X.w) X.A (call (.ref C) us (ks.zip ws)) (EP X pins σ Q) X.xe s := by
  obtain ⟨B, nid, iid, bmB, FB, SF, q, ov⟩ := T.base
  obtain ⟨nm, N', qn, bs, bm, hdct, sn, sub, ab, col, dd, k0, k1, k2, k3, k5, hC, hT⟩ := PySem.W.excInit_of I.kIn q
  have bf : ∀ self, PySem.W.Looks (model X.prog X.w) s.heap (bindSpecial (.ref g) self) (.ref g, [self]) := fun self => PySem.W.bind_fn I.kIn self (beq_iff_eq.mp tI)
  have li := PySem.W.looks_findIn (M := model X.prog X.w) I.kIn iC
  obtain ⟨hp, gs, dr, tk, os⟩ := s
  have hq := h (hp.objs.size + 1) (I.hok.fresh (Nat.le_succ _))
  have kk : ∀ b o, hp.get? b = some o → (PySem.RLX.laid2 C us hp).get? b = some o := fun b o e => Heap.get?_push_of_some _ (Heap.get?_push_of_some _ e)
  have hget : (PySem.RLX.laid2 C us hp).get? (hp.objs.size + 1) = some (PySem.HandSPX.excO C hp.objs.size) := by heap_get
  have I2 : Inv X pins σ (upd H (hp.objs.size + 1) (exo (hp.objs.size + 1) C none)) ⟨PySem.RLX.laid2 C us hp, gs, dr, tk, os⟩ :=
    I.laid (t' := tk) (a := hp.objs.size + 1) (o := exo (hp.objs.size + 1) C none) (h' := PySem.RLX.laid2 C us hp) kk (Nat.le_succ _) (exo_ok hget)
  have r1 : Vals (V.ref (hp.objs.size + 1) :: vs) (Value.ref (hp.objs.size + 1) :: us) := .cons rfl r
  have n1 : (Value.ref (hp.objs.size + 1) :: us).length = n + 1 := by rw [List.length_cons, ← r.length, l1]
  have hz : us.length ≤ sizeLine := by
    rw [← r.length, sizeLine_eq]
    omega
  refine wpAny_call (PySem.RLX.run_make FB hT hC li bf hz (codeAny_mono (F.run _ X.stack _ _ ⟨Value.ref (hp.objs.size + 1) :: us, ks.zip ws⟩ (gU (Value.ref (hp.objs.size + 1) :: us) ws) _ _ E0 (hr.make C us (ks.zip ws))
    (I2.env0.make C us (ks.zip ws)) (hb.to _ (Value.ref (hp.objs.size + 1) :: us) ws I2.kIn n1 (rz.length.symm.trans l2)) (hb.rel r1 rz) hq) fun r s' z => ?_))
  cases r with
  | error e => exact z.elim
  | ok fl =>
    cases fl with
    | ret u =>
      obtain ⟨v, H', I3, rv, ev, q3⟩ := I2.after z
      subst ev
      exact ⟨rv, ⟨V.ref (hp.objs.size + 1), H', I3, rfl, q3⟩⟩
    | next => exact z.elim
    | brk => exact z.elim
    | cont => exact z.elim
theorem kbn_of {K : PySem.W.Frag} {fd : FuncData} {ps : List Str} {n : Nat} (hb : Binds K fd ps []) (hl : ps.length = n) : KBn K fd ps n [] (fun us _ => us) (fun vs _ => vs) :=
  ⟨fun s us ws hK l1 l2 => by
    have e := hb s us hK (by rw [List.append_nil, l1, hl])
    rw [List.append_nil] at e
    exact e, fun r _ => r⟩
/-- C(k = v) -/
theorem pe_xmkK {C : Addr} {k : Nat} {x y z : Str} {sp : Sp} {kws : List Keyword} (M : XM X.prog X.w X.K X.mg X.base k C [y, z] sp) (hr : Room (k + 1) X.A) (hg : Gl X x) (hm : X.mg x = some (.ref C)) (hkw : PK X kws tk)
    (hall : (backToKw pos (keywordEach kws X.env)).all (·.1.isSome) = true := by rfl) (hks : (backToKw pos (keywordEach kws X.env)).filterMap (·.1) = [z] := by rfl) (hdb : (x == ("__debug__" : Str)) = false := by decide)
    (hpl : ((backTo pos (starEach [] X.env)).any (·.1) || (backToKw pos (keywordEach kws X.env)).any (·.1.isNone)) = false := by rfl) :
    PE X (.Call (.Name x p) [] kws pos) (tXmk C 0 1 sp (fun vs zs => vs ++ zs) tNil tk) := by
  obtain ⟨g, fd, iC, tI, F, _, hK⟩ := M.ex
  refine ⟨fun pins s σ H Q I h => wpAny_Call_Name_kw (ld_glob I hg hm (PySem.W.callWith_KW0 (h₀ := X.base) I.ok.mod.kin M.xc.kp hall ?_ hpl) hdb)⟩
  refine thn (hkw.run pos pins s σ H _ I h) fun ws s2 ⟨zs, H2, I2, rz, l1, l2, q2⟩ => ⟨I2.kIn, ?_⟩
  rw [hks]
  exact run_xmk (us := []) (vs := []) M.xc iC tI F hr (hK y z rfl) I2 .nil rz rfl l2 (by decide) q2
/-- C(e, ..) -/
theorem pe_xmk {C : Addr} {k : Nat} {x : Str} {sp : Sp} {ps : List Str} (M : XM X.prog X.w X.K X.mg X.base k C ps sp) (hr : Room (k + 1) X.A) (hg : Gl X x) (hm : X.mg x = some (.ref C)) (ha : PA X (e :: es) ta) (hn : ps.length = (e :: es).length + 1) (hn2 : (e :: es).length ≤ 1000)
    (hdb : (x == ("__debug__" : Str)) = false := by decide) (he : starEach (e :: es) X.env = (false, eval e X.env) :: starEach es X.env := by rfl) (hpl : (backTo pos (starEach es X.env)).any (·.1) = false := by rfl) :
    PE X (.Call (.Name x p) (e :: es) [] pos) (tXmk C (e :: es).length 0 sp (fun vs _ => vs) ta tNil) := by
  obtain ⟨g, fd, iC, tI, F, hb, _⟩ := M.ex
  refine ⟨fun pins s σ H Q I h => wpAny_Call_Name_kw (ld_glob I hg hm (PySem.W.callWith_K (h₀ := X.base) I.ok.mod.kin M.xc.kp (thn (ha.run pos pins s σ H _ I h) fun us s1 ⟨vs, H1, I1, r, l1, _, q⟩ => ⟨I1.kIn, ?_⟩) he hpl) hdb)⟩
  exact run_xmk (ks := []) (ws := []) (zs := []) M.xc iC tI F hr (kbn_of hb hn) I1 r .nil l1 rfl hn2 q
/-- C() -/
theorem pe_xmk0 {C : Addr} {k : Nat} {x : Str} {sp : Sp} {y : Str} (M : XM X.prog X.w X.K X.mg X.base k C [y] sp) (hr : Room (k + 1) X.A) (hg : Gl X x) (hm : X.mg x = some (.ref C))
    (hdb : (x == ("__debug__" : Str)) = false := by decide) :
    PE X (.Call (.Name x p) [] [] pos) (tXmk C 0 0 sp (fun vs _ => vs) tNil tNil) := by
  obtain ⟨g, fd, iC, tI, F, hb, _⟩ := M.ex
  refine ⟨fun pins s σ H Q I h => wpAny_Call_Name_kw (ld_glob I hg hm (PySem.W.callWith_K0 I.kIn M.xc.kp ?_) hdb)⟩
  obtain ⟨_, _, q⟩ := h
  exact run_xmk (us := []) (vs := []) (ks := []) (ws := []) (zs := []) M.xc iC tI F hr (kbn_of hb rfl) I .nil .nil rfl rfl (by decide) q
/-! ### asked and read -/
/-- an exception of the class at C -/
def Exo (H : Hp) (a C : Addr) : Prop := H a = some (exo a C none) ∨ ∃ (dx : Addr) (fs : List (Str × V)), H a = some (exo a C (some dx)) ∧ H dx = some (exd dx fs)
def rIsX (K : PySem.W.Frag) : List V → Hp → VK → Prop := fun xs H Q => ∃ (a C : Addr) (c : V) (u : Value) (b : Bool), xs = [.ref a, c] ∧ ClsV c u ∧ XC K C ∧ Exo H a C ∧ PySem.W.kitOne K (.ref C) u = some b ∧ Q (.bl b) H
theorem call_isX (Z : XK0 X.K) : CallR X (.builtin "isinstance") (rIsX X.K) := by
  intro pins s σ H xs us Q I r h
  obtain ⟨a, C, c, u, b, rfl, kc, T, hx, e, q⟩ := h
  obtain ⟨u1, u2, rfl, r1, r2⟩ := vals2 r
  have e2 := kc.eq r2
  subst e2
  cases (show u1 = Value.ref a from r1)
  have key : ∃ ox od, PySem.W.InstAt s.heap a ox C od := by
    rcases hx with hx | ⟨dx, fs, hx, hd⟩
    · obtain ⟨t1, ho⟩ := exo_at I.hok hx
      exact ⟨_, none, ho, rfl, rfl, trivial⟩
    · obtain ⟨t1, ho⟩ := exo_at I.hok hx
      obtain ⟨mA, ⟨od, es, ep, hod, _⟩, _⟩ := exd_at I.hok hd
      exact ⟨_, some od, ho, rfl, rfl, hod⟩
  obtain ⟨ox, od, J⟩ := key
  exact PySem.W.kia_one (PySem.W.kitx_exc (ox := ox) (od := od) T.cl T.ga T.gg T.sub T.ca Z.cn Z.ct T.mo) I.kIn J e (fun z => nomatch z) fun tk => ⟨.bl b, H, I.tok tk, rfl, q⟩
/-- e.f, e an exception with a dict -/
def tXfd (K : PySem.W.Frag) (f : Str) (te : TE) : TE := fun σ H Q => te σ H fun x H1 => ∃ (a C dx : Addr) (fs : List (Str × V)) (v : V), x = .ref a ∧ XC K C ∧ PySem.W.findIn K (.ref C) f = some none ∧ H1 a = some (exo a C (some dx)) ∧ H1 dx = some (exd dx fs) ∧ fs.lookup f = some v ∧ Q v H1
theorem pe_xfd {n : Str} (he : PE X e te) (hb : attributeBase e n X.env (eval e X.env) = eval e X.env := by rfl) : PE X (.Attribute e n pos) (tXfd X.K n te) := by
  refine ⟨fun pins s σ H Q I h => attr_of hb (thn (he.run pins s σ H _ I h) fun u s1 ⟨x, H1, I1, rx, a, C, dx, fs, v, ex, T, hno, ea, ed, l, q⟩ => ?_)⟩
  subst ex
  cases (show u = Value.ref a from rx)
  obtain ⟨t1, ho⟩ := exo_at I1.hok ea
  obtain ⟨mA, hns, hr⟩ := exd_at I1.hok ed
  obtain ⟨od, hod, hl⟩ := lookIn_ns hns
  obtain ⟨u, hu, ru⟩ := RelO.some_of (v := v) (o := mA n) (by rw [← l]; exact hr n)
  have J : PySem.W.InstAt s1.heap a _ C (some od) := ⟨ho, rfl, rfl, hod⟩
  exact HandSPX.exc_get I1.kIn J T.ga T.gg T.sub (PySem.W.findObj_own T.hd hno rfl (by rw [hl, hu])) (handed_of ru) ⟨v, H1, I1.tok _, ru, q⟩
end
end RL

set_option maxHeartbeats 1000000
/-! repr of plain things: None, bools, ints, texts, lists, tuples, flat dicts. -/
namespace RL
open PySem L2 PySem.Spec PyProof.Rows
def keyD : Key → PyData
  | .inl i => .int i
  | .inr x => .str x
/-- v is, by the heap, the data d: as Dp, or a dict of ints -/
inductive Dq (K : PySem.W.Frag) (H : Hp) : V → PyData → Prop
  | dp {v : V} {d : PyData} : Dp K H v d → d.hasDict = false → Dq K H v d
  | dk {a : Addr} {kvs : List (Key × Int)} : H a = some (.dK (kvs.map fun p => (p.1, V.int p.2))) → Dq K H (.ref a) (.dict (kvs.map fun p => (keyD p.1, .int p.2)))
theorem dk_reads {P : Program} {w : World} {h : Heap} : ∀ {kvs : List (Key × Int)} {vs : List (Key × Value)} {es : List DictEntry}, KV (kvs.map fun p => (p.1, V.int p.2)) vs → Pairs (mixKind P w) es vs →
    ReadsAll h (es.map (·.key)) ((kvs.map fun p => (keyD p.1, PyData.int p.2)).map (·.1)) [] ∧ ReadsAll h (es.map (·.val)) ((kvs.map fun p => (keyD p.1, PyData.int p.2)).map (·.2)) []
  | [], _, _, r, q => by
    cases r
    cases q
    exact ⟨.nil, .nil⟩
  | (k, i) :: kvs, _, _, r, q => by
    cases r with
    | cons r1 r2 =>
      cases q with
      | cons q1 q2 q3 =>
        obtain ⟨e1, e2⟩ := r1
        obtain ⟨h1, h2⟩ := dk_reads (P := P) (w := w) (h := h) r2 q3
        refine ⟨?_, ?_⟩
        · have q1' := q1
          rw [mixKind_is, ← e1] at q1'
          rcases keyIs_shape q1' with ⟨j, t, ek, ev⟩ | ⟨x, t, ek, ev⟩
          · have ek : k = _ := ek
            subst ek
            rw [List.map_cons, ev]
            exact ReadsAll.cons (Reads.int _ _) h1
          · have ek : k = _ := ek
            subst ek
            rw [List.map_cons, ev]
            exact ReadsAll.cons (Reads.str _ _) h1
        · obtain ⟨t, e2⟩ := e2
          rw [List.map_cons, q2, e2]
          exact ReadsAll.cons (Reads.int _ _) h2
section
variable {X : Cx}
def rRp (K : PySem.W.Frag) : List V → Hp → VK → Prop := fun vs H Q => ∃ (v : V) (d : PyData), vs = [v] ∧ Dq K H v d ∧ d.showable = true ∧ d.depth ≤ 40 ∧ d.shown.length ≤ sizeLine ∧ Q (.str d.shown) H
theorem cr_rp (hG : X.A.guards = some []) (hu : X.A.units + 64 < cLine) : CallR X (.builtin "repr") (rRp X.K) := by
  intro pins s σ H vs us Q I r h
  obtain ⟨v, d, rfl, hd, h1, h3, h4, q⟩ := h
  obtain ⟨u, rfl, ru⟩ : ∃ u, us = [u] ∧ RelV v u := by
    cases r with
    | cons r1 r2 =>
      cases r2
      exact ⟨_, rfl, r1⟩
  cases hd with
  | dp hp h2 =>
    cases hp with
    | non =>
      cases (show u = Value.none from ru)
      exact PySem.P.repr_of_none ⟨.str "None", H, I.tok _, ⟨_, rfl⟩, q⟩
    | bl b =>
      cases (show u = Value.bool b from ru)
      exact PySem.P.repr_of_bool ⟨.str (PyData.bool b).shown, H, I.tok _, ⟨_, rfl⟩, q⟩
    | int i =>
      obtain ⟨t, rfl⟩ := ru
      exact PySem.P.repr_of_int (of_decide_eq_true h1) ⟨.str (PyData.int i).shown, H, I.tok _, ⟨_, rfl⟩, q⟩
    | str x =>
      obtain ⟨t, rfl⟩ := ru
      exact PySem.P.repr_of_str ⟨.str (PyData.str x).shown, H, I.tok _, ⟨_, rfl⟩, q⟩ h4
    | @lst a xs ds hs ha =>
      exact cr_repr hG hu pins s σ H _ _ Q I (.cons ru .nil) ⟨a, _, rfl, .lst hs ha, h1, h2, h3, h4, q⟩
    | @tup a xs ds hs ha =>
      exact cr_repr hG hu pins s σ H _ _ Q I (.cons ru .nil) ⟨a, _, rfl, .tup hs ha, h1, h2, h3, h4, q⟩
  | @dk a kvs ha =>
    cases (show u = Value.ref a from ru)
    obtain ⟨_, hsys, vs, kv, o, es, ep, ho, hc, hdat, _, hp, _⟩ := (show ObjOk X.prog X.w H s.heap a (.dK _) from I.hok a _ ha)
    obtain ⟨g1, g2⟩ := dk_reads (h := s.heap) kv hp
    refine repr_of_reads' (h₀ := s.heap) (Reads.dict ho hc.1 hdat g1 g2) h1 (fun _ hm => ?_) hG (by omega) (fun _ _ z => z) (fun h' u tk hk => ⟨.str _, H, I.kept hk, ⟨_, rfl⟩, q⟩) h4
    have hm' : sysModules ∈ [a] := hm
    rw [List.mem_singleton] at hm'
    rw [← hm'] at hsys
    exact absurd hsys (by decide)
end
theorem sqT_same {K : PySem.W.Frag} {H H' : Hp} {a : Addr} {xs : List V} (e : ∀ b o, H b = some o → H' b = some o) (h : SqT K H a xs) : SqT K H' a xs := by
  rcases h with (h | ⟨o, h⟩) | h
  · exact .inl (.inl (e _ _ h))
  · exact .inl (.inr ⟨o, e _ _ h⟩)
  · exact .inr h
mutual
theorem dp_same {K : PySem.W.Frag} {H H' : Hp} (s : ∀ b o, H b = some o → H' b = some o) : ∀ (d : PyData) (v : V), Dp K H v d → Dp K H' v d
  | .none, _, h => by
    cases h
    exact .non
  | .bool b, _, h => by
    cases h
    exact .bl b
  | .int i, _, h => by
    cases h
    exact .int i
  | .str x, _, h => by
    cases h
    exact .str x
  | .list ds, _, h => by
    cases h with
    | lst a b => exact .lst (Same.seq s a) (dpAll_same s ds _ b)
  | .tuple ds, _, h => by
    cases h with
    | tup a b => exact .tup (sqT_same s a) (dpAll_same s ds _ b)
  | .dict _, _, h => by cases h
theorem dpAll_same {K : PySem.W.Frag} {H H' : Hp} (s : ∀ b o, H b = some o → H' b = some o) : ∀ (ds : List PyData) (vs : List V), DpAll K H vs ds → DpAll K H' vs ds
  | [], _, h => by
    cases h
    exact .nil
  | d :: ds, _, h => by
    cases h with
    | cons a b => exact .cons (dp_same s d _ a) (dpAll_same s ds _ b)
end
theorem Dq.same {K : PySem.W.Frag} {H H' : Hp} {v : V} {d : PyData} (h : Dq K H v d) (s : Same H H') : Dq K H' v d := by
  cases h with
  | dp a b => exact .dp (dp_same s _ _ a) b
  | dk a => exact .dk (s _ _ a)
end RL

set_option maxHeartbeats 1000000
/-! Pairs of exceptions, made by position and by name. -/
namespace RL
open PySem L2
/-- __init__(self, f): the base's __init__, then self.f = f -/
def spI (K : PySem.W.Frag) (f : Str) : Sp := fun vs H Q _ => ∃ (a C : Addr) (y : V), vs = [.ref a, y] ∧ XC K C ∧ PySem.W.findIn K (.ref C) f = some none ∧ H a = some (exo a C none) ∧
  ∀ dx, H dx = none → dx ≠ a → Q .non (upd (upd H dx (exd dx [(f, y)])) a (exo a C (some dx)))
def spN : Sp := fun vs H Q _ => ∃ v : V, vs = [v] ∧ Q .non H
/-- at a: an exception of the class at C whose f is y -/
def Xv (H : Hp) (a C : Addr) (f : Str) (y : V) : Prop := ∃ dx : Addr, H a = some (exo a C (some dx)) ∧ H dx = some (exd dx [(f, y)])
theorem Xv.same {H H' : Hp} {a C : Addr} {f : Str} {y : V} (h : Xv H a C f y) (s : Same H H') : Xv H' a C f y := by
  obtain ⟨dx, h1, h2⟩ := h
  exact ⟨dx, s _ _ h1, s _ _ h2⟩
/-- v: a list of two such exceptions -/
def Pr (H : Hp) (v : V) (C : Addr) (f : Str) (y : V) : Prop := ∃ l a b : Addr, v = .ref l ∧ H l = some (.lst [.ref a, .ref b]) ∧ Xv H a C f y ∧ Xv H b C f y
theorem Pr.same {H H' : Hp} {v : V} {C : Addr} {f : Str} {y : V} (h : Pr H v C f y) (s : Same H H') : Pr H' v C f y := by
  obtain ⟨l, a, b, e, h1, h2, h3⟩ := h
  exact ⟨l, a, b, e, s _ _ h1, h2.same s, h3.same s⟩
theorem new_upd {H : Hp} {p : Addr} {o : HO} (h : H p = none) : Same H (upd H p o) := fun b x e => by
  rw [upd_ne (ne_of_none e h)]
  exact e
theorem xv_new {H : Hp} {a dx C : Addr} {f : Str} {y : V} (na : H a = none) (nd : H dx = none) (ne : dx ≠ a) : Same H (upd (upd (upd H a (exo a C none)) dx (exd dx [(f, y)])) a (exo a C (some dx))) ∧ Xv (upd (upd (upd H a (exo a C none)) dx (exd dx [(f, y)])) a (exo a C (some dx))) a C f y := by
  refine ⟨fun b o e => ?_, dx, upd_same, ?_⟩
  · rw [upd_ne (ne_of_none e na), upd_ne (ne_of_none e nd), upd_ne (ne_of_none e na)]
    exact e
  · rw [upd_ne ne, upd_same]
def tPair (C : Addr) (f : Str) (i : Nat) : TE := fun σ H Q => ∃ y, σ[i]? = some (some y) ∧ ∀ v H', Same H H' → Pr H' v C f y → (∀ l, v = .ref l → H l = none) → Q v H'
section
variable {X : Cx} {e1 e2 : Expr} {x : Str} {p1 p2 p3 p4 p5 pos : Pos} {nm : Option Str} {kpos : Pos} {i : Nat}
theorem xmk_one {K : PySem.W.Frag} {a C : Addr} {f : Str} {y : V} {H : Hp} {R : Hp → Prop} (T : XC K C) (hno : PySem.W.findIn K (.ref C) f = some none) (na : H a = none) (h : ∀ H', Same H H' → Xv H' a C f y → R H') :
    spI K f [.ref a, y] (upd H a (exo a C none)) (fun v H3 => v = .non ∧ R H3) E0 := by
  refine ⟨a, C, y, rfl, T, hno, upd_same, fun dx nd ne => ⟨rfl, ?_⟩⟩
  rw [upd_ne ne] at nd
  obtain ⟨s1, x1⟩ := xv_new (C := C) (f := f) (y := y) na nd ne
  exact h _ s1 x1
theorem pe_pair {C : Addr} {k : Nat} {f : Str} (M : XM X.prog X.w X.K X.mg X.base k C ["self", f] (spI X.K f)) (hno : PySem.W.findIn X.K (.ref C) f = some none) (hr : Room (k + 1) X.A) (hg : Gl X x) (hm : X.mg x = some (.ref C))
    (h1 : PE X e1 (tVar i)) (h2 : PE X e2 (tVar i)) (hs : starEach [.Call (.Name x p1) [e1] [] p2, .Call (.Name x p3) [] [⟨nm, e2, kpos⟩] p4] X.env = (false, eval (.Call (.Name x p1) [e1] [] p2) X.env) :: starEach [.Call (.Name x p3) [] [⟨nm, e2, kpos⟩] p4] X.env := by rfl)
    (hs2 : starEach [.Call (.Name x p3) [] [⟨nm, e2, kpos⟩] p4] X.env = (false, eval (.Call (.Name x p3) [] [⟨nm, e2, kpos⟩] p4) X.env) :: starEach [] X.env := by rfl) (hs1 : starEach [e1] X.env = (false, eval e1 X.env) :: starEach [] X.env := by rfl) (hdb : (x == ("__debug__" : Str)) = false := by decide)
    (hks : (backToKw p4 (keywordEach [⟨nm, e2, kpos⟩] X.env)).filterMap (·.1) = [f] := by rfl) (hall : (backToKw p4 (keywordEach [⟨nm, e2, kpos⟩] X.env)).all (·.1.isSome) = true := by rfl) (hpl : ((backTo p4 (starEach [] X.env)).any (·.1) || (backToKw p4 (keywordEach [⟨nm, e2, kpos⟩] X.env)).any (·.1.isNone)) = false := by rfl) :
    PE X (.List [.Call (.Name x p1) [e1] [] p2, .Call (.Name x p3) [] [⟨nm, e2, kpos⟩] p4] pos) (tPair C f i) := by
  have hp := pe_lst (pos := pos) (pa_cons (pe_xmk (p := p1) (pos := p2) M hr hg hm (pa_cons h1 pa_nil hs1) rfl (Nat.succ_le_of_lt (by decide : 0 < 1000)) hdb hs1 rfl) (pa_cons (pe_xmkK (p := p3) (pos := p4) M hr hg hm (pk_cons (nm := nm) (kpos := kpos) h2 pk_nil) hall hks hdb hpl) pa_nil hs2) hs)
  refine ⟨fun pins s σ H Q I h => hp.run pins s σ H Q I ?_⟩
  obtain ⟨y, ey, q⟩ := h
  refine ⟨y, ey, rfl, rfl, fun a na => xmk_one M.xc hno na fun H1 s1 x1 => ?_⟩
  refine ⟨y, ey, rfl, rfl, fun b nb => xmk_one M.xc hno nb fun H2 s2 x2 => ?_⟩
  refine ⟨(by show 2 ≤ sizeLine; decide), fun l nl => ?_⟩
  have s3 := new_upd (o := .lst [.ref a, .ref b]) nl
  exact q _ _ ((s1.trans s2).trans s3) ⟨l, a, b, rfl, upd_same, (x1.same s2).same s3, x2.same s3⟩ (fun l' e => by cases e; exact (s1.trans s2).free nl)
/-- C() -/
def tMk0 (C : Addr) : TE := fun _ H Q => ∀ a, H a = none → Q (.ref a) (upd H a (exo a C none))
theorem pe_mk0 {C : Addr} {k : Nat} {y : Str} (M : XM X.prog X.w X.K X.mg X.base k C [y] spN) (hr : Room (k + 1) X.A) (hg : Gl X x) (hm : X.mg x = some (.ref C)) (hdb : (x == ("__debug__" : Str)) = false := by decide) : PE X (.Call (.Name x p1) [] [] p2) (tMk0 C) := by
  have hp := pe_xmk0 (p := p1) (pos := p2) M hr hg hm hdb
  exact ⟨fun pins s σ H Q I h => hp.run pins s σ H Q I ⟨rfl, rfl, fun a na => ⟨.ref a, rfl, rfl, h a na⟩⟩⟩
end
section
variable {X : Cx} {K : PySem.W.Frag} {e : Expr} {te : TE} {pos : Pos} {n : Str}
theorem pe_xfdK (he : PE X e te) (hK : X.K = K := by rfl) (hb : attributeBase e n X.env (eval e X.env) = eval e X.env := by rfl) : PE X (.Attribute e n pos) (tXfd K n te) := by
  subst hK
  exact pe_xfd he hb
theorem cr_rpK (hG : X.A.guards = some []) (hu : X.A.units + 64 < cLine) (hK : X.K = K := by rfl) : CallR X (.builtin "repr") (rRp K) := by
  subst hK
  exact cr_rp hG hu
end
/-- for i, x in enumerate(l) -/
theorem for_enum {K : PySem.W.Frag} {a : Addr} {xs : List V} {g : TG} {tb : TS} {D : Ends} {σ : L2.St} {H : Hp} (Pv : Nat → L2.St → Hp → Prop) (h0 : Pv 0 σ H) (hl : ∀ i σ H, i ≤ xs.length → Pv i σ H → SqL K H a xs)
    (hs : ∀ i x σ H T, xs[i]? = some x → Pv i σ H → H T = none → g (.ref T) σ (upd H T (.tup [.int (i : Nat), x])) fun σ2 H2 => tb { D with nx := Pv (i + 1), ct := Pv (i + 1), bk := D.nx } σ2 H2) (hd : ∀ σ H, Pv xs.length σ H → D.nx σ H) :
    ∃ W : Nat → Nat → L2.St → Hp → Prop, (∃ m, W 0 m σ H) ∧ ∀ i m σ H, W i m σ H →
      ((Ite K a).stop i H ∧ D.nx σ H) ∨ ((Ite K a).go i H ∧ ∃ N : L2.St → Hp → Prop, (∀ σ' H', N σ' H' → ∃ m', m' < m ∧ W (i + 1) m' σ' H') ∧ ∀ x H', (Ite K a).yld i H x H' → g x σ H' fun σ2 H2 => tb { D with nx := N, ct := N, bk := D.nx } σ2 H2) := by
  refine ⟨fun i m σ H => m = xs.length - i ∧ i ≤ xs.length ∧ Pv i σ H, ⟨xs.length, by simp, Nat.zero_le _, h0⟩, ?_⟩
  rintro i m σ H ⟨rfl, hi, p⟩
  have q := hl i σ H hi p
  by_cases hlt : i < xs.length
  · refine .inr ⟨⟨xs, xs[i], q, by simp [hlt]⟩, Pv (i + 1), fun σ' H' p' => ⟨xs.length - (i + 1), by omega, rfl, hlt, p'⟩, fun x H' y => ?_⟩
    obtain ⟨T, z, rfl, nT, rfl, ez⟩ := y
    exact hs i z σ H T (ez xs q) p nT
  · have e : i = xs.length := by omega
    rw [e] at p ⊢
    exact .inl ⟨⟨xs, q, Nat.le_refl _⟩, hd σ H p⟩
end RL

set_option maxHeartbeats 2000000
/-! try: .. except (A, B, C) as e: .. where the suite calls defs that ask e and make lists. -/
namespace RL
open PySem L2 PySem.Spec PyProof.Rows
/-! ### the clause -/
theorem fly_keeps {B : Heap} {l : List Env} {a : Addr} {Z : Obj → Prop} {h h' : Heap} (fl : HandSPX.FlyingZ B l a Z h) (k : ∀ b o, h.get? b = some o → h'.get? b = some o) : HandSPX.FlyingZ B l a Z h' := by
  obtain ⟨g1, g2, g3, oe, vs, T, oT, ts, he, hz, hd, h1, hnT, hTe, hT, hdT, h3⟩ := fl
  exact ⟨fun b o e => k b o (g1 b o e), g2, g3.of_keeps fun b o e _ => ⟨o, k b o e, rfl⟩, oe, vs, T, oT, ts, k _ _ he, hz, hd, h1, hnT, hTe, k _ _ hT, hdT, h3⟩
/-- what the clause wishes of an exception of the body; it is always taken -/
def wAs3 (K : PySem.W.Frag) (cs : List Value) (i : Nat) (ts : Addr → Value → Option Addr → TS) (D : Ends) : WX := fun cls d σ H => PySem.W.exmAny K cls cs = some true ∧
  ∀ a, H a = none → ts a cls d { nx := fun σ' H' => D.nx (σ'.set i none) H', rt := D.rt, bk := fun σ' H' => D.bk (σ'.set i none) H', ct := fun σ' H' => D.ct (σ'.set i none) H' } (σ.set i (some (.ref a))) H
section
variable {X : Cx} {x1 x2 x3 n : Str} {c1 c2 c3 : Value} {i kk : Nat} {body suite : List Stmt} {b₀ : Stmt} {p1 p2 p3 tpos pos pos' : Pos} {tb : WX → TS} {ts : Addr → Value → Option Addr → TS}
theorem ps_try_as3 (hs : X.stack = X.env :: X.outer) (hf : X.env.frame = some X.env.locals) (hN : X.N.Nodup) (hi : X.N[i]? = some n) (hln : X.env.kindOf n = some .local) (n1 : Names X x1 c1) (n2 : Names X x2 c2) (n3 : Names X x3 c3)
    (hb : ∀ (W : WX) (pn : List (Addr × Obj)) (xe : Value → Shared → Prop), L2N.Takes (X.tr pn xe) W → PassesOwn (model X.prog X.w) X.A X.env xe → PSs (X.tr pn xe) body (tb W))
    (hsu : ∀ (a : Addr) (oe : Obj) (cls : Value) (d : Option Addr) (pn : List (Addr × Obj)), L2N.Zn cls d oe → (∃ vs, oe.data = .fields vs) → PSs (X.suite a ((a, oe) :: pn)) (b₀ :: suite) (ts a cls d)) :
    PS X (.Try body [.ExceptHandler (some (.Tuple [.Name x1 p1, .Name x2 p2, .Name x3 p3] kk tpos)) (some n) (b₀ :: suite) pos'] [] [] pos) (fun D σ H => tb (wAs3 X.K [c1, c2, c3] i ts D) D σ H) := by
  refine ⟨fun pins s σ H D I h => ?_⟩
  have ok := I.ok
  have hfr : X.A.frames = some (X.env :: X.outer) := by rw [ok.frames, hs]
  refine wpAny_Try_except (wpAny_mono ((hb (wAs3 X.K [c1, c2, c3] i ts D) (X.pn ++ pins) (fun e s₁ => wpAny (model X.prog X.w) X.A (noteFrame e X.env) (fun _ s₂ => wpAny (model X.prog X.w) X.A (setFlight e none) (fun _ s₃ =>
    wpAny (model X.prog X.w) X.A (handleBy e X.env [.ExceptHandler (some (.Tuple [.Name x1 p1, .Name x2 p2, .Name x3 p3] kk tpos)) (some n) (b₀ :: suite) pos']) (SP X pins D) X.xe s₃) X.xe s₂) X.xe s₁) (fun u s' xx => ?_) PassesOwn.looking).run [] s σ H D (I.toTry _) h) (fun f s1 hsp => ?_) (fun e s1 he => he))
  · obtain ⟨a, B, sI, pins', σ', H', cls, d, rfl, J', nb, up, sky, na, os, ag, hb1, hyes⟩ := xx
    have J : Inv X pins σ' H' sI := J'.ofTry ok
    rw [show (X.tr (X.pn ++ pins) _).stack = X.env :: X.outer from hs] at sky
    show wpAny (model X.prog X.w) X.A (noteFrame (.ref a) X.env) _ _ _
    refine L2N.Sky.land L2N.Zn.steady hfr hf sky fun h3 fl3 up3 => ?_
    have J3 : Inv X pins σ' H' { s' with heap := h3 } := J.landed nb fl3.1 (up.trans up3) os ag
    obtain ⟨oe3, vs3, he3, hz3, hd3⟩ := fl3.there
    have nfr : a ∉ frs (X.env :: X.outer) := fun hm => by
      obtain ⟨_, o', e', hnf⟩ := fl3.2.2.1.mem hm
      rw [he3] at e'
      cases e'
      exact hnf _ hd3
    have nL : a ≠ X.env.locals := fun z => nfr (List.mem_filterMap.mpr ⟨X.env, List.mem_cons_self, by rw [hf, z]⟩)
    have nF : a ∉ X.fs := fun hm => by
      obtain ⟨e, he, q⟩ := List.mem_filterMap.mp hm
      exact nfr (List.mem_filterMap.mpr ⟨e, List.mem_cons_of_mem _ he, q⟩)
    have S3 := J3.suite he3 hd3 na nL nF
    have look : ∀ {y : Str} {c : Value} {py : Pos} {Q : Value → Shared → Prop} {E : Value → Shared → Prop}, Names X y c → Q c { s' with heap := h3 } → wpAny (model X.prog X.w) (X.A.mark (some (.ref a))) (eval (.Name y py) X.env) Q E { s' with heap := h3 } := fun {y c py Q E} hc q => by
      obtain ⟨hg, hdbg, hm | ⟨hm, hv, hnn⟩⟩ := hc
      · exact ld_glob (X := X.suite a ((a, oe3) :: (X.pn ++ pins))) S3 hg hm q hdbg
      · exact ld_blt (X := X.suite a ((a, oe3) :: (X.pn ++ pins))) S3 hg hm hv q hnn hdbg
    refine wpAny_handleBy_cons (codeAny_handlers_test ?_) (by intro q; cases q)
    refine wpAny_Tuple (wpAny_items_cons (look n1 (wpAny_items_cons (look n2 (wpAny_items_cons (look n3 (wpAny_items_nil ⟨by size_fits, ?_⟩)))))))
    have kp : ∀ q o, h3.get? q = some o → (h3.push { cls := .type "tuple", data := .seq [c1, c2, c3].toArray }).get? q = some o := fun _ _ z => Heap.get?_push_of_some _ z
    have LT : PySem.W.Looks (model X.prog X.w) h3 (typeOf (.ref a)) cls := fun A Q E s k q => wpAny_typeOf_ref (k _ _ he3) (by rw [hz3.1]; exact q)
    refine (PySem.W.exm_tup3 (M := model X.prog X.w) (J3.kIn.keeps kp) (LT.keeps kp) (Heap.get?_push_size h3 rfl) hb1).here ?_
    refine codeAny_handlers_suite_as ?_
    refine HandSPX.lands_againZ (fly_keeps fl3 kp) fun h4 fl4 up4 => ?_
    have J4 : Inv X pins σ' H' { s' with heap := h4 } := J.landed nb fl4.1 ((up.trans up3).trans ((Heap.UpToSlots.of_keeps kp).trans up4)) os ag
    obtain ⟨oe4, vs4, he4, hz4, hd4⟩ := fl4.there
    have S4 := J4.suite he4 hd4 na nL nF
    refine store_ok (X := X.suite a ((a, oe4) :: (X.pn ++ pins))) (v := .ref a) S4 hN hi (.inl hln) rfl (fun s5 S5 => ?_) (.inr hln)
    refine wpAny_mono ((hsu a oe4 cls d (X.pn ++ pins) hz4 ⟨_, hd4⟩).run [] s5 _ H' _ S5 (hyes a na)) (fun f s6 hsp => ?_) (fun _ _ z => False.elim z)
    have fin : ∀ {σ6 : L2.St} {H6 : Hp} {Q : Shared → Prop}, Inv (X.suite a ((a, oe4) :: (X.pn ++ pins))) [] σ6 H6 s6 → (∀ s7, Inv X pins (σ6.set i none) H6 s7 → Q s7) →
        wpAny (model X.prog X.w) X.A (do bindName X.env n .none; unbindBehindTheSuite X.env n pos') (fun _ s7 => Q s7) X.xe s6 := fun {σ6 H6 Q} S6 hq => gone_ok (S6.unsuite ok) hN hi hln hq
    cases f with
    | next =>
      obtain ⟨σ6, H6, S6, q6⟩ := hsp
      exact fin S6 fun s7 J7 => ⟨_, _, J7, q6⟩
    | brk =>
      obtain ⟨σ6, H6, S6, q6⟩ := hsp
      exact fin S6 fun s7 J7 => ⟨_, _, J7, q6⟩
    | cont =>
      obtain ⟨σ6, H6, S6, q6⟩ := hsp
      exact fin S6 fun s7 J7 => ⟨_, _, J7, q6⟩
    | ret u =>
      obtain ⟨v6, σ6, H6, S6, r6, q6⟩ := hsp
      exact fin S6 fun s7 J7 => ⟨_, _, _, J7, r6, q6⟩
  · cases f with
    | next =>
      obtain ⟨σ', H', J', q⟩ := hsp
      exact wpAny_execs_nil ⟨σ', H', J'.ofTry ok, q⟩
    | brk =>
      obtain ⟨σ', H', J', q⟩ := hsp
      exact ⟨σ', H', J'.ofTry ok, q⟩
    | cont =>
      obtain ⟨σ', H', J', q⟩ := hsp
      exact ⟨σ', H', J'.ofTry ok, q⟩
    | ret u =>
      obtain ⟨v, σ', H', J', r, q⟩ := hsp
      exact ⟨v, σ', H', J'.ofTry ok, r, q⟩
end
/-! ### defs called in the suite -/
/-- the promise of a def called while the exception at p is handled; it may speak of p -/
structure FnE (P : Program) (w : World) (K : PySem.W.Frag) (mg : Str → Option Value) (base : Heap) (k : Nat) (f : Addr) (fd : FuncData) (ps : List Str) (sp : Addr × Obj → Sp) : Prop where
  len : ∀ p vs H Q E, sp p vs H Q E → vs.length = ps.length
  run : ∀ (A : Around) (outer : List Env) (s : Shared) (H : Hp) (args : Args) (us : List Value) (vs : List V) (Q : VK) (p : Addr × Obj), L2H.RoomH k A → L2H.Hot1 A p → L2H.PinOk outer H s p → Env0 P w K mg base A outer s H → BindsTo s fd args (ps.zip us) → Vals vs us → sp p vs H Q E0 →
    codeAny (model P w) A (.call (.ref f) args) (CR CX0 outer P w H s Q E0) s
section
variable {P : Program} {w : World} {K : PySem.W.Frag} {mg : Str → Option Value} {base : Heap}
theorem okE {x qual : Str} {st : Stmt} {f : Addr} {fd : FuncData} {N ps : List Str} {k : Nat} {sp : Addr × Obj → Sp} (F : Fun K x qual st f fd) (S : FnScope N ps (defScope st)) (len : ∀ p vs H Q E, sp p vs H Q E → vs.length = ps.length)
    (bd : ∀ (cdv : Value) (A : Around) (outer : List Env) (s : Shared) (H : Hp) (vs : List V) (Q : VK) (p : Addr × Obj), L2H.Hot1 A p → L2H.RoomH k (A.deeper (envOfC qual (defScope st) s.heap.objs.size f cdv)) → sp p vs H Q E0 →
      ∃ t, PSs (L2H.cxH CX0 P w K mg base N qual (defScope st) f cdv A outer s H E0 p) (defBody st) t ∧ t { nx := fun _ H' => Q .non H', rt := Q } (L2.start N vs) H) : FnE P w K mg base (k + 1) f fd ps sp := by
  obtain ⟨oc, od, kV, doc, pm, an, cdv, ct, osl, rfl, lk, hcd⟩ := F.ex
  refine ⟨len, fun A outer s H args us vs Q p hr hot hpin e0 hb r hsp => ?_⟩
  have KX : K.In s.heap := e0.mod.kin.keeps fun b o e => (e0.bs b o e).1
  have lim := e0.mod.nolimit.keeps fun b o e => (e0.bs b o e).1
  refine codeAny_call_function hr.depth (KX _ _ lk) rfl S.co S.gen rfl (PySem.W.codeRec_of KX hcd) (hb _ _ _ _ (wpAny_newFunctionEnv_cells S.kind (fun ⟨n, v⟩ hy => ?_) fun env he s1 x => ?_))
  · exact (S.par n (List.of_mem_zip hy).1).imp id fun q => ⟨q, PySem.W.cellsFrom_some _ _ _ (.inl q)⟩
  · subst he
    obtain ⟨t, ht, hq⟩ := bd cdv A outer s H vs Q p hot (hr.deeper _) hsp
    have I : Inv (L2H.cxH CX0 P w K mg base N qual (defScope st) f cdv A outer s H E0 p) [] (L2.start N vs) H s1 := L2H.inv_startH S hpin e0 (len _ _ _ _ _ hsp) r x
    refine ⟨lim.keeps x.toInCall.keep, codeAny_func (wpAny_mono (ht.run [] s1 _ H _ I hq) (fun fl s' hs => ?_) fun _ _ z => z)⟩
    cases fl with
    | ret u =>
      obtain ⟨v, σ', H', J, rv, q⟩ := hs
      exact ⟨v, H', J.os, J.bare, J.base, J.hok, rv, q⟩
    | next =>
      obtain ⟨σ', H', J, q⟩ := hs
      exact ⟨V.non, H', J.os, J.bare, J.base, J.hok, rfl, q⟩
    | brk => exact hs.elim fun _ z => z.elim fun _ y => False.elim y.2
    | cont => exact hs.elim fun _ z => z.elim fun _ y => False.elim y.2
end
structure DfE (P : Program) (w : World) (K : PySem.W.Frag) (mg : Str → Option Value) (base : Heap) (k : Nat) (x : Str) (ps : List Str) (sp : Addr × Obj → Sp) : Prop where
  ex : ∃ (f : Addr) (fd : FuncData), FnE P w K mg base k f fd ps sp ∧ mg x = some (.ref f) ∧ PySem.W.keepIn K (.ref f) = true ∧ Binds K fd ps []
section
variable {X : Cx} {k : Nat} {ps : List Str} {sp : Addr × Obj → Sp} {x : Str} {q pos : Pos} {e : Expr} {es : List Expr} {t : TA} {p : Addr × Obj}
theorem pe_dfE (D : DfE X.prog X.w X.K X.mg X.base k x ps sp) (hr : L2H.RoomH k X.A) (hot : L2H.Hot1 X.A p) (hp : p ∈ X.pn) (hg : Gl X x)
    (ha : PA X (e :: es) t) (hdb : (x == ("__debug__" : Str)) = false := by decide) (he : starEach (e :: es) X.env = (false, eval e X.env) :: starEach es X.env := by rfl) (hpl : (backTo pos (starEach es X.env)).any (·.1) = false := by rfl) :
    PE X (.Call (.Name x q) (e :: es) [] pos) (fun σ H Q => t σ H fun vs H1 => sp p vs H1 Q E0) := by
  obtain ⟨f, fd, F, hm, hk, hb⟩ := D.ex
  refine ⟨fun pins s σ H Q I h => wpAny_Call_Name_kw (ld_glob I hg hm (PySem.W.callWith_K (h₀ := X.base) I.ok.mod.kin hk (thn (ha.run pos pins s σ H _ I h) fun us s1 ⟨vs, H1, I1, r, q0⟩ => ⟨I1.kIn, ?_⟩) he hpl) hdb)⟩
  have hl : us.length = ps.length := by
    rw [← r.length]
    exact F.len _ _ _ _ _ q0
  have hbb := hb s1 us I1.kIn (by rw [List.append_nil]; exact hl)
  rw [List.append_nil] at hbb
  have P1 := I1.pin p (List.mem_append_left _ hp)
  have hpin : L2H.PinOk X.stack H1 s1 p := ⟨P1.1, P1.2.1, fun hm => (List.mem_cons.mp (I1.stkSub p.1 hm)).elim P1.2.2.1 P1.2.2.2.1, P1.2.2.2.2⟩
  refine wpAny_call (codeAny_mono (F.run X.A X.stack s1 H1 ⟨us, []⟩ us vs Q p hr hot hpin I1.env0 hbb r q0) fun z s' hq => ?_)
  cases z with
  | error e => exact hq.elim
  | ok fl =>
    cases fl with
    | ret u => exact I1.after hq
    | next => exact hq.elim
    | brk => exact hq.elim
    | cont => exact hq.elim
end
/-! ### the exception asked -/
/-- p: an exception of the class at C -/
def Px (p : Addr × Obj) (C : Addr) (H : Hp) : Prop := p.2.cls = .ref C ∧ (∃ vs, p.2.data = .fields vs) ∧ (p.2.dict = none ∨ ∃ (d : Addr) (fs : List (Str × V)), p.2.dict = some d ∧ H d = some (.xd fs))
theorem Px.same {p : Addr × Obj} {C : Addr} {H H' : Hp} (h : Px p C H) (s : Same H H') : Px p C H' := ⟨h.1, h.2.1, h.2.2.imp id fun ⟨d, fs, a, b⟩ => ⟨d, fs, a, s _ _ b⟩⟩
def rIsP (K : PySem.W.Frag) (p : Addr × Obj) : List V → Hp → VK → Prop := fun xs H Q => ∃ (C : Addr) (c : V) (u : Value) (b : Bool), xs = [.ref p.1, c] ∧ ClsV c u ∧ XC K C ∧ Px p C H ∧ PySem.W.kitOne K (.ref C) u = some b ∧ Q (.bl b) H
theorem call_isP {X : Cx} {p : Addr × Obj} (Z : XK0 X.K) (hp : p ∈ X.pn) : CallR X (.builtin "isinstance") (rIsP X.K p) := by
  intro pins s σ H xs us Q I r h
  obtain ⟨C, c, u, b, rfl, kc, T, ⟨hc, ⟨vs, hd⟩, hx⟩, e, q⟩ := h
  obtain ⟨u1, u2, rfl, r1, r2⟩ := vals2 r
  have e2 := kc.eq r2
  subst e2
  cases (show u1 = Value.ref p.1 from r1)
  obtain ⟨hget, _⟩ := I.pin p (List.mem_append_left _ hp)
  have nc : PySem.W.notCls p.2 = true := by unfold PySem.W.notCls; rw [hd] <;> rfl
  have key : ∃ od, PySem.W.InstAt s.heap p.1 p.2 C od := by
    rcases hx with hx | ⟨dx, fs, hx, hf⟩
    · exact ⟨none, hget, hc, nc, by rw [hx]; trivial⟩
    · obtain ⟨mA, ⟨od, es, ep, hod, _⟩, _⟩ := (show ObjOk X.prog X.w H s.heap dx (.xd fs) from I.hok dx _ hf)
      exact ⟨some od, hget, hc, nc, by rw [hx]; exact hod⟩
  obtain ⟨od, J⟩ := key
  exact PySem.W.kia_one (PySem.W.kitx_exc (ox := p.2) (od := od) T.cl T.ga T.gg T.sub T.ca Z.cn Z.ct T.mo) I.kIn J e (fun z => nomatch z) fun tk => ⟨.bl b, H, I.tok tk, rfl, q⟩
/-- e.f in the suite -/
def tPfd (K : PySem.W.Frag) (p : Addr × Obj) (f : Str) (te : TE) : TE := fun σ H Q => te σ H fun x H1 => ∃ (C dx : Addr) (fs : List (Str × V)) (v : V), x = .ref p.1 ∧ XC K C ∧ PySem.W.findIn K (.ref C) f = some none ∧ p.2.cls = .ref C ∧ (∃ vs, p.2.data = .fields vs) ∧ p.2.dict = some dx ∧ H1 dx = some (.xd fs) ∧ fs.lookup f = some v ∧ Q v H1
theorem pe_pfd {X : Cx} {p : Addr × Obj} {e : Expr} {te : TE} {pos : Pos} {n : Str} (hp : p ∈ X.pn) (he : PE X e te) (hb : attributeBase e n X.env (eval e X.env) = eval e X.env := by rfl) : PE X (.Attribute e n pos) (tPfd X.K p n te) := by
  refine ⟨fun pins s σ H Q I h => attr_of hb (thn (he.run pins s σ H _ I h) fun u s1 ⟨x, H1, I1, rx, C, dx, fs, v, ex, T, hno, hc, ⟨vs, hd⟩, ed, ea, l, q⟩ => ?_)⟩
  subst ex
  cases (show u = Value.ref p.1 from rx)
  obtain ⟨hget, _⟩ := I1.pin p (List.mem_append_left _ hp)
  obtain ⟨mA, hns, hr⟩ := (show ObjOk X.prog X.w H1 s1.heap dx (.xd fs) from I1.hok dx _ ea)
  obtain ⟨od, hod, hl⟩ := lookIn_ns hns
  obtain ⟨u, hu, ru⟩ := RelO.some_of (v := v) (o := mA n) (by rw [← l]; exact hr n)
  have nc : PySem.W.notCls p.2 = true := by unfold PySem.W.notCls; rw [hd] <;> rfl
  have J : PySem.W.InstAt s1.heap p.1 p.2 C (some od) := ⟨hget, hc, nc, by rw [ed]; exact hod⟩
  exact HandSPX.exc_get I1.kIn J T.ga T.gg T.sub (PySem.W.findObj_own T.hd hno rfl (by rw [hl, hu])) (handed_of ru) ⟨v, H1, I1.tok _, ru, q⟩
theorem pe_pfdK {X : Cx} {K : PySem.W.Frag} {p : Addr × Obj} {e : Expr} {te : TE} {pos : Pos} {n : Str} (hp : p ∈ X.pn) (he : PE X e te) (hK : X.K = K := by rfl) (hb : attributeBase e n X.env (eval e X.env) = eval e X.env := by rfl) : PE X (.Attribute e n pos) (tPfd K p n te) := by
  subst hK
  exact pe_pfd hp he hb
end RL

set_option maxHeartbeats 2000000
/-! [.. for x in range(..) if ..] where an exception is handled. -/
namespace RL
open PySem L2 PySem.Spec PyProof.Rows
/-- a comprehension's block there: it bears the handled exception -/
abbrev blkP (X : Cx) (p : Addr × Obj) (s : Shared) (H : Hp) (scope : Scope) (cenv : Env) (fp : List Addr) : Cx := (X.blk s H scope cenv fp).tr [p] fun _ _ => False
theorem pnB {X : Cx} {p : Addr × Obj} {s : Shared} {H : Hp} {scope : Scope} {cenv : Env} {fp : List Addr} : p ∈ (blkP X p s H scope cenv fp).pn := List.mem_cons_self
section
variable {X : Cx}
theorem lc_hot {pins : List (Addr × Obj)} {s : Shared} {σ : L2.St} {H : Hp} {Q : VK} {elt tg iter : Expr} {ifs : List Expr} {scope : Scope} {own : List (Str × Nat)} {pos pos' : Pos} {wi : TI} {g : TG} {tt : TT} {te : TE} {use : Option (Value → Sem Unit)} {Qf : Value → Shared → Prop} {p : Addr × Obj}
    (hot : L2H.Hot1 X.A p) (hp : p ∈ X.pn) (hN : X.N.Nodup) (I : Inv X pins σ H s) (hi : L2H.PIH X tg iter wi) (ok : BlkOk X.N X.env.scope scope own)
    (hg : ∀ (s : Shared) (H : Hp) (C : Addr) (cl : List (Str × Addr)) (fp : List Addr), PG (blkP X p s H scope (compEnvC scope cl C X.env) fp) tg g) (ht : ∀ (s : Shared) (H : Hp) (C : Addr) (cl : List (Str × Addr)) (fp : List Addr), PTs (blkP X p s H scope (compEnvC scope cl C X.env) fp) ifs tt)
    (he : ∀ (s : Shared) (H : Hp) (C : Addr) (cl : List (Str × Addr)) (fp : List Addr), PE (blkP X p s H scope (compEnvC scope cl C X.env) fp) elt te) (hs : ∀ x, foldedSetIterable iter X.env x = pure x)
    (h : tLc wi g tt te (own.map (·.2)) σ H Q)
    (hRR : ∀ D C s' m H', Inv X pins σ H' s' → Q (.ref D) H' → s'.heap.Ns C m → FpOk X pins H' C → compPost (model X.prog X.w) X.A X.xe use Qf (.ref D) C (.ok .next) s') :
    wpAny (model X.prog X.w) X.A (comprehension (.ListComp elt [⟨tg, iter, ifs, 0⟩] scope pos) scope X.env pos' (newList []) false (eval iter X.env) use) Qf X.xe s := by
  have hfree : ∀ y ∈ scope.names, y.2 = .free → ∃ c, X.env.cells.lookup y.1 = some c := fun y hy e => (ok.free y hy e).elim (fun k => I.ok.has _ (.inl k)) fun k => I.ok.has _ (.inr k)
  refine wpAny_comprehension_free (use := use) rfl hs (closure_ok hfree) ok.kind (fun y hy e => by rw [ok.uniq y hy, e]) (thn (hi.run pins s σ H _ I h) fun xv s1 hx => thn hx fun itv s2 h2 => ?_)
  obtain ⟨it, fp, tn, J, H2, e, I2, T, st2, f2, q⟩ := h2
  subst e
  refine wpAny_newObj_type (newEnv_comp ?_) (by show 0 ≤ sizeLine; decide)
  generalize hD : s2.heap.objs.size = D
  obtain ⟨W, ⟨m0, w0⟩, turn⟩ := q D (I2.hok.fresh (Nat.le_of_eq hD))
  generalize hs3 : ({ s2 with heap := s2.heap.push { cls := .type "list", data := .seq ([] : List Value).toArray } } : Shared) = s3
  have I3 : Inv X pins σ (upd H2 D (.lst [])) s3 := by
    rw [← hs3]
    refine I2.laid (t' := s2.toks) (fun b o e => Heap.get?_push_of_some _ e) (Nat.le_of_eq hD) ⟨Nat.zero_le _, [], 0, .nil, ?_⟩
    rw [← hD]
    exact Heap.get?_push_size _ rfl
  have h3 : s3.heap = s2.heap.push { cls := .type "list", data := .seq ([] : List Value).toArray } := by rw [← hs3]
  have f3 : ∀ b ∈ fp, FpOk X pins (upd H2 D (.lst [])) b ∧ b < s3.heap.objs.size := fun b hb => by
    obtain ⟨o, e, _⟩ := T.obj _ _ st2 b hb
    have hlt := Heap.lt_size e
    refine ⟨⟨?_, (f2 b hb).2⟩, by rw [h3, Heap.size_push]; exact Nat.lt_succ_of_lt hlt⟩
    rw [upd_ne (by rw [← hD]; exact Nat.ne_of_lt hlt)]
    exact (f2 b hb).1
  have st3 : tn 0 s3.heap := T.keep _ _ _ st2 fun b _ o e => by rw [h3]; exact Heap.get?_push_of_some _ e
  have I4' := block_start I3 ok hN f3
  -- the handled exception stays out of the block's reach
  have P3 := I3.pin p (List.mem_append_left _ hp)
  have nst : p.1 ∉ frs X.stack := fun hm => (List.mem_cons.mp (I3.stkSub p.1 hm)).elim P3.2.2.1 P3.2.2.2.1
  have kp4 : ∀ b o, s3.heap.get? b = some o → (pushCells (s3.heap.push { cls := .type "dict", data := .dict #[] }) scope.names).get? b = some o := fun b o e => pushCells_keeps _ _ _ _ (Heap.get?_push_of_some _ e)
  have I4 : Inv (blkP X p s3 (upd H2 D (.lst [])) scope (compEnvC scope (cellsFrom (s3.heap.objs.size + 1) scope.names (cloFrom X.env.cells scope.names [])) s3.heap.objs.size X.env) fp) [] (wipe σ (own.map (·.2))) (upd H2 D (.lst [])) { s3 with heap := pushCells (s3.heap.push { cls := .type "dict", data := .dict #[] }) scope.names } := by
    refine (I4'.pins_of (pins' := [p]) fun r hr => ?_).toTry _
    obtain rfl : r = p := by simpa using hr
    exact ⟨kp4 _ _ P3.1, P3.2.1, Nat.ne_of_lt (Heap.lt_size P3.1), nst, P3.2.2.2.2⟩
  have pg := hg s3 (upd H2 D (.lst [])) s3.heap.objs.size (cellsFrom (s3.heap.objs.size + 1) scope.names (cloFrom X.env.cells scope.names [])) fp
  have pt := ht s3 (upd H2 D (.lst [])) s3.heap.objs.size (cellsFrom (s3.heap.objs.size + 1) scope.names (cloFrom X.env.cells scope.names [])) fp
  have pe := he s3 (upd H2 D (.lst [])) s3.heap.objs.size (cellsFrom (s3.heap.objs.size + 1) scope.names (cloFrom X.env.cells scope.names [])) fp
  show codeAny _ _ (.compStart (.ListComp elt [⟨tg, iter, ifs, 0⟩] scope pos) 0 (.ref it) (.ref D) (compEnvC scope (cellsFrom (s3.heap.objs.size + 1) scope.names (cloFrom X.env.cells scope.names [])) s3.heap.objs.size X.env)) (compPost (model X.prog X.w) X.A X.xe use Qf (.ref D) s3.heap.objs.size) { s3 with heap := pushCells (s3.heap.push { cls := .type "dict", data := .dict #[] }) scope.names }
  have nfp : ∀ b ∈ fp, (upd H2 D (.lst [])) b = none := fun b hb => (f3 b hb).1.1
  generalize hce : compEnvC scope (cellsFrom (s3.heap.objs.size + 1) scope.names (cloFrom X.env.cells scope.names [])) s3.heap.objs.size X.env = ce at I4 pg pt pe ⊢
  have cL : ce.locals = s3.heap.objs.size := by subst hce; rfl
  have hcB : L2H.HotC (blkP X p s3 (upd H2 D (.lst [])) scope ce fp) := ⟨p, hot, pnB⟩
  generalize hH3 : upd H2 D (.lst []) = H3 at I3 I4 pg pt pe w0 nfp f3 hcB
  generalize hs4 : ({ s3 with heap := pushCells (s3.heap.push { cls := .type "dict", data := .dict #[] }) scope.names } : Shared) = s4 at I4 ⊢
  have st4 : tn 0 s4.heap := T.keep _ _ _ st3 fun b _ o e => by rw [← hs4]; exact kp4 _ _ e
  have stat : ∀ {σ' : L2.St} {H' : Hp} {s' : Shared}, Inv (blkP X p s3 H3 scope ce fp) [] σ' H' s' → (∀ b ∈ fp, H' b = none) → ∀ b ∈ fp, FpOk (blkP X p s3 H3 scope ce fp) [] H' b := fun {σ' H' s'} I' hn b hb =>
    ⟨hn b hb, (I'.ok.exf b hb).1, I'.ok.exfs b hb, .inl hb, fun x c e => (I'.ok.exf b hb).2 x c e, fun r hr => by
      obtain rfl : r = p := by simpa using (show r ∈ [p] ++ ([] : List (Addr × Obj)) from hr)
      exact (f3 b hb).1.2.2.2.2.2 r (List.mem_append_left _ hp)⟩
  have loop : codeAny (model X.prog X.w) X.A (.compLoop (.ListComp elt [⟨tg, iter, ifs, 0⟩] scope pos) 0 (.ref it) (.ref D) ce) (compPost (model X.prog X.w) X.A X.xe use Qf (.ref D) s3.heap.objs.size) s4 := by
    refine compLoop_any (fun n s' => ∃ i H', Inv (blkP X p s3 H3 scope ce fp) [] (wipe σ (own.map (·.2))) H' s' ∧ tn i s'.heap ∧ (∀ b ∈ fp, H' b = none) ∧ W i n H') ?_ m0 ⟨0, H3, I4, st4, nfp, w0⟩
    rintro n s5 ⟨i, H5, I5, st5, n5, w5⟩
    rcases turn i n H5 w5 with ⟨stop, qq⟩ | ⟨go, Nx, hNx, step⟩
    · refine thnF (T.done (blkP X p s3 H3 scope ce fp) rfl rfl rfl hcB i [] s5 _ H5 (fun _ _ => False) I5 (stat I5 n5) st5 stop) fun r s6 ⟨hr, I6⟩ => ?_
      subst hr
      have I7 : Inv X pins σ H5 s6 := I3.call' (ch := fp) I6.os I6.base I6.hok I6.bare fun b hb => ⟨(f3 b hb).1.2.2.2.1, (f3 b hb).1.2.1, (f3 b hb).1.2.2.2.2.1, (f3 b hb).1.2.2.2.2.2⟩
      have nC : H5 s3.heap.objs.size = none := by
        have z : H5 ce.locals = none := I6.free
        rw [cL] at z
        exact z
      obtain ⟨m, hn, _⟩ := I6.loc
      have hn : s6.heap.Ns ce.locals m := hn
      rw [cL] at hn
      exact hRR D s3.heap.objs.size s6 m H5 I7 qq hn (I3.fpOk (Nat.le_refl _) nC)
    · refine thnF (T.item (blkP X p s3 H3 scope ce fp) rfl rfl rfl hcB i [] s5 _ H5 (fun _ _ => False) I5 (stat I5 n5) st5 go) fun r s6 ⟨u, hr, h6⟩ => ?_
      subst hr
      refine thnF h6 fun _ s7 ⟨x, H7, I7, r7, y7, st7, n7⟩ => ?_
      have I7' := I7.pinned (stat I7 n7) (T.obj _ _ st7)
      refine thnF (pg.run _ s7 _ H7 x u _ I7' r7 (step x H7 y7)) fun _ s8 ⟨σ8, H8, I8, hw8, q8⟩ => ?_
      refine thnF (pt.run _ s8 σ8 H8 _ I8 q8) fun b s9 ⟨H9, I9, q9⟩ => ?_
      have fin : ∀ {s' : Shared} {H' : Hp}, Inv (blkP X p s3 H3 scope ce fp) ([] ++ pinsAt fp s7.heap) σ8 H' s' → Nx H' → ∃ m, m < n ∧ ∃ i H', Inv (blkP X p s3 H3 scope ce fp) [] (wipe σ (own.map (·.2))) H' s' ∧ tn i s'.heap ∧ (∀ b ∈ fp, H' b = none) ∧ W i m H' := fun {s' H'} I' nx => by
        obtain ⟨m', hm, w'⟩ := hNx H' nx
        have pin' : ∀ b ∈ fp, ∀ o, s7.heap.get? b = some o → s'.heap.get? b = some o ∧ H' b = none := fun b hb o e =>
          let z := I'.pin (b, o) (List.mem_append_right _ (List.mem_append_right _ (mem_pinsAt hb e)))
          ⟨z.1, z.2.1⟩
        have hl : (wipe σ (own.map (·.2))).length = σ8.length := by rw [← hw8, wipe_length]
        refine ⟨m', hm, i + 1, H', (I'.unpinned (pins := [])).weak hl (fun j v e => ?_), T.keep _ _ _ st7 fun b hb o e => (pin' b hb o e).1, fun b hb => ?_, w'⟩
        · rw [← hw8] at e
          exact (wipe_some e).1
        · obtain ⟨o, e, _⟩ := T.obj _ _ st7 b hb
          exact (pin' b hb o e).2
      cases b with
      | false =>
        simp only [Bool.false_eq_true, if_false] at q9 ⊢
        exact fin I9 q9
      | true =>
        simp only [if_true] at q9 ⊢
        refine thnF (pe.run _ s9 σ8 H9 _ I9 q9) fun z s10 ⟨yv, H10, I10, r10, acc, hD10, hz10, nx⟩ => ?_
        exact app_ok (X := blkP X p s3 H3 scope ce fp) I10 hD10 hz10 r10 fun s11 I11 => fin I11 nx
  exact codeAny_compStart_list loop (T.self X.A 0 _ _ _ st4 loop)
theorem pe_lcP {elt tg iter : Expr} {ifs : List Expr} {scope : Scope} {own : List (Str × Nat)} {pos : Pos} {wi : TI} {g : TG} {tt : TT} {te : TE} {p : Addr × Obj} (hot : L2H.Hot1 X.A p) (hp : p ∈ X.pn) (hN : X.N.Nodup) (hi : L2H.PIH X tg iter wi) (ok : BlkOk X.N X.env.scope scope own)
    (hg : ∀ (s : Shared) (H : Hp) (C : Addr) (cl : List (Str × Addr)) (fp : List Addr), PG (blkP X p s H scope (compEnvC scope cl C X.env) fp) tg g) (ht : ∀ (s : Shared) (H : Hp) (C : Addr) (cl : List (Str × Addr)) (fp : List Addr), PTs (blkP X p s H scope (compEnvC scope cl C X.env) fp) ifs tt)
    (he : ∀ (s : Shared) (H : Hp) (C : Addr) (cl : List (Str × Addr)) (fp : List Addr), PE (blkP X p s H scope (compEnvC scope cl C X.env) fp) elt te) (hs : ∀ x, foldedSetIterable iter X.env x = pure x := by intro _; rfl) :
    PE X (.ListComp elt [⟨tg, iter, ifs, 0⟩] scope pos) (tLc wi g tt te (own.map (·.2))) := by
  refine ⟨fun pins s σ H Q I h => ?_⟩
  rw [eval_ListComp]
  refine lc_hot hot hp hN I hi ok hg ht he hs h fun D C s' m H' I' q hn f => ⟨m, hn, fun h'' sb => ?_⟩
  obtain ⟨f0, f1, f2, f3, f4, f5⟩ := f
  exact ⟨.ref D, H', I'.turned (t' := s'.toks) (fun b o hb e => (sb.2 b hb).trans e) f0 f1 f3 f4 f5, rfl, q⟩
end
end RL

set_option maxHeartbeats 2000000
/-! raise X(e) for the package's classes; defs that raise; a lambda that may raise, handed to a def. -/
namespace RL
open PySem L2 PySem.Spec PyProof.Rows
/-! ### raise -/
/-- X(e): class and dict of the exception -/
def tMkX (C : Addr) (f : Str) (te : TE) : L2.St → Hp → XK → Prop := fun σ H Q => te σ H fun y H1 => ∀ d, H1 d = none → Q (.ref C) (some d) (upd H1 d (.xd [(f, y)]))
def oneV (R : V → Hp → Prop) : List V → Hp → Prop
  | [y], H => R y H
  | _, _ => False
theorem pmk_x {X : Cx} {k : Nat} {C : Addr} {f x : Str} {e : Expr} {te : TE} {p pos : Pos} (M : XM X.prog X.w X.K X.mg X.base k C ["self", f] (spI X.K f)) (tyC : PySem.W.typeIn X.K (.ref C) = some (.type "type")) (hno : PySem.W.findIn X.K (.ref C) f = some none)
    (hr : Room (k + 1) X.A) (hg : Gl X x) (hm : X.mg x = some (.ref C)) (he : PE X e te) (hdb : (x == ("__debug__" : Str)) = false := by decide) (hst : starEach [e] X.env = (false, eval e X.env) :: starEach [] X.env := by rfl) (hpl : (backTo pos (starEach [] X.env)).any (·.1) = false := by rfl) :
    L2N.PMk X (.Call (.Name x p) [e] [] pos) (tMkX C f te) := by
  intro pins s σ H Q I h
  obtain ⟨g, fd, iC, tI, F, hb, _⟩ := M.ex
  have T := M.xc
  obtain ⟨B, nid, iid, bmB, FB, SF, q, ov⟩ := T.base
  have h' : tCons te tNil σ H (oneV fun y H1 => ∀ d, H1 d = none → Q (.ref C) (some d) (upd H1 d (.xd [(f, y)]))) := h
  refine wpAny_Call_Name_kw (ld_glob I hg hm (PySem.W.callWith_K (h₀ := X.base) I.ok.mod.kin T.kp (thn ((pa_cons he pa_nil hst).run pos pins s σ H _ I h') fun us s1 ⟨vs, H1, I1, r, q1⟩ => ⟨I1.kIn, ?_⟩) hst hpl) hdb)
  cases r with
  | nil => exact False.elim q1
  | @cons y u vs' us' ry rr =>
    cases rr with
    | cons _ _ => exact False.elim q1
    | nil =>
      obtain ⟨nm, N', qn, bs, bm, hdct, sn, sub, ab, col, dd, k0, k1, k2, k3, k5, hC, hT⟩ := PySem.W.excInit_of I1.kIn q
      have bf : ∀ self, PySem.W.Looks (model X.prog X.w) s1.heap (bindSpecial (.ref g) self) (.ref g, [self]) := fun self => PySem.W.bind_fn I1.kIn self (beq_iff_eq.mp tI)
      have li := PySem.W.looks_findIn (M := model X.prog X.w) I1.kIn iC
      obtain ⟨hp, gs, dr, tk, os⟩ := s1
      have hsz : hp.objs.size ≤ hp.objs.size + 1 := Nat.le_succ _
      have hn : H1 (hp.objs.size + 1) = none := I1.hok.fresh hsz
      have kk : ∀ b o, hp.get? b = some o → (PySem.RLX.laid2 C [u] hp).get? b = some o := fun b o e => Heap.get?_push_of_some _ (Heap.get?_push_of_some _ e)
      have hget : (PySem.RLX.laid2 C [u] hp).get? (hp.objs.size + 1) = some (PySem.HandSPX.excO C hp.objs.size) := by heap_get
      have I2 : Inv X pins σ (upd H1 (hp.objs.size + 1) (exo (hp.objs.size + 1) C none)) ⟨PySem.RLX.laid2 C [u] hp, gs, dr, tk, os⟩ :=
        I1.laid (t' := tk) (a := hp.objs.size + 1) (o := exo (hp.objs.size + 1) C none) (h' := PySem.RLX.laid2 C [u] hp) kk hsz (exo_ok hget)
      have hq : spI X.K f [.ref (hp.objs.size + 1), y] (upd H1 (hp.objs.size + 1) (exo (hp.objs.size + 1) C none)) (fun v H2 => v = .non ∧ ∃ d, H2 (hp.objs.size + 1) = some (exo (hp.objs.size + 1) C (some d)) ∧ H2 d = some (exd d [(f, y)]) ∧ H1 d = none ∧
          upd (del H2 (hp.objs.size + 1)) d (.xd [(f, y)]) = upd H1 d (.xd [(f, y)])) E0 := by
        refine ⟨_, C, y, rfl, T, hno, upd_same, fun dx nd ne => ⟨rfl, dx, upd_same, ?_, ?_, ?_⟩⟩
        · rw [upd_ne ne, upd_same]
        · rw [upd_ne ne] at nd
          exact nd
        · funext b
          by_cases hb : b = dx
          · rw [hb, upd_same, upd_same]
          · rw [upd_ne hb, upd_ne hb]
            by_cases hb2 : b = hp.objs.size + 1
            · rw [hb2, del_same, hn]
            · rw [del_ne hb2, upd_ne hb2, upd_ne hb, upd_ne hb2]
      have n1 : ([Value.ref (hp.objs.size + 1), u] ++ []).length = (["self", f] : List Str).length := rfl
      have hbb := hb ⟨PySem.RLX.laid2 C [u] hp, gs, dr, tk, os⟩ [Value.ref (hp.objs.size + 1), u] I2.kIn n1
      have rr2 : Vals [V.ref (hp.objs.size + 1), y] [Value.ref (hp.objs.size + 1), u] := .cons rfl (.cons ry .nil)
      refine wpAny_call (PySem.RLX.run_make FB hT hC li bf (by show 1 ≤ sizeLine; decide) (codeAny_mono (F.run _ X.stack _ _ ⟨[Value.ref (hp.objs.size + 1), u], []⟩ [Value.ref (hp.objs.size + 1), u] _ _ E0 (hr.make C [u] [])
        (I2.env0.make C [u] []) hbb rr2 hq) fun r s' z => ?_))
      cases r with
      | error e => exact z.elim
      | ok fl =>
        cases fl with
        | ret v =>
          obtain ⟨w', H2, os2, bare2, un2, hok2, rv, ev, d, ea, ed, hd1, eH⟩ := z
          subst ev
          obtain ⟨h2, g2, d2, t2, os'⟩ := s'
          obtain ⟨t0, G, J, kG, ge, hoe, na⟩ := mk_end0 (d2 := d2) (t2 := t2) I1 hsz kk un2 hok2 os2 bare2 ea ed hd1
          rw [eH] at J na
          refine ⟨rv, hp.objs.size + 1, _, _, ⟨G, g2, d2, t2, os'⟩, _, .ref C, some d, rfl, J, kG, ge, hoe, ⟨rfl, rfl, fun vs hv => ?_⟩, rfl, rfl, na, rfl, bare2, raises_own T.sub tyC, q1 d hd1⟩
          cases hv
          rfl
        | next => exact z.elim
        | brk => exact z.elim
        | cont => exact z.elim
/-- raise X(e) -/
theorem ps_raiseX {X : Cx} {k : Nat} {C : Addr} {f x : Str} {e : Expr} {te : TE} {p pos pos' : Pos} {W : WX} (M : XM X.prog X.w X.K X.mg X.base k C ["self", f] (spI X.K f)) (tyC : PySem.W.typeIn X.K (.ref C) = some (.type "type")) (hno : PySem.W.findIn X.K (.ref C) f = some none)
    (hr : Room (k + 1) X.A) (hg : Gl X x) (hm : X.mg x = some (.ref C)) (he : PE X e te) (hc : X.calm = true) (tk : L2N.Takes X W) (hdb : (x == ("__debug__" : Str)) = false := by decide) (hst : starEach [e] X.env = (false, eval e X.env) :: starEach [] X.env := by rfl) (hpl : (backTo pos (starEach [] X.env)).any (·.1) = false := by rfl) :
    PS X (.Raise (some (.Call (.Name x p) [e] [] pos)) none pos') (fun _ σ H => te σ H fun y H1 => ∀ d, H1 d = none → W (.ref C) (some d) σ (upd H1 d (.xd [(f, y)]))) :=
  L2N.ps_raise hc tk (pmk_x M tyC hno hr hg hm he hdb hst hpl)
/-! ### defs that raise -/
section
variable {P : Program} {w : World} {K : PySem.W.Frag} {mg : Str → Option Value} {base : Heap}
theorem okN {x qual : Str} {st : Stmt} {f : Addr} {fd : FuncData} {N ps : List Str} {k : Nat} {sp : Sp} (F : Fun K x qual st f fd) (S : FnScope N ps (defScope st)) (len : ∀ vs H Q E, sp vs H Q E → vs.length = ps.length)
    (bd : ∀ (cdv : Value) (A : Around) (outer : List Env) (s : Shared) (H : Hp) (vs : List V) (Q : VK) (E : XK), Room k (A.deeper (envOfC qual (defScope st) s.heap.objs.size f cdv)) → sp vs H Q E →
      ∃ t, PSs (cxOf (L2N.CX P w) P w K mg base N qual (defScope st) f cdv A outer s H E) (defBody st) t ∧ t { nx := fun _ H' => Q .non H', rt := Q } (L2.start N vs) H) : FnOk P w K mg base (L2N.CX P w) (k + 1) f fd ps sp := by
  obtain ⟨oc, od, kV, doc, pm, an, cdv, ct, osl, rfl, lk, hcd⟩ := F.ex
  exact fn_of lk hcd S len fun A outer s H vs Q E hr hsp => bd cdv A outer s H vs Q E hr hsp
end
/-- a def that may raise, as its callers see it -/
structure DfN (P : Program) (w : World) (K : PySem.W.Frag) (mg : Str → Option Value) (base : Heap) (k : Nat) (x : Str) (ps : List Str) (sp : Sp) : Prop where
  ex : ∃ (f : Addr) (fd : FuncData), FnOk P w K mg base (L2N.CX P w) k f fd ps sp ∧ mg x = some (.ref f) ∧ PySem.W.keepIn K (.ref f) = true ∧ Binds K fd ps []
/-- around a call what it lets out is taken -/
theorem passN {X : Cx} {W : WX} {E : XK} (tk : L2N.Takes X W) (hW : ∀ cls d σ H, E cls d H → W cls d σ H) : Passes (L2N.CX X.prog X.w) X E := L2N.passes_call tk hW
section
variable {X : Cx} {k : Nat} {ps : List Str} {sp : Sp} {x : Str} {p pos : Pos} {e : Expr} {es : List Expr} {t : TA} {E : XK}
theorem pe_dfN (D : DfN X.prog X.w X.K X.mg X.base k x ps sp) (hr : Room k X.A) (hg : Gl X x) (hx : Passes (L2N.CX X.prog X.w) X E)
    (ha : PA X (e :: es) t) (hdb : (x == ("__debug__" : Str)) = false := by decide) (he : starEach (e :: es) X.env = (false, eval e X.env) :: starEach es X.env := by rfl) (hpl : (backTo pos (starEach es X.env)).any (·.1) = false := by rfl) :
    PE X (.Call (.Name x p) (e :: es) [] pos) (tCall sp [] E t) := by
  obtain ⟨f, fd, G, hm, hk, hb⟩ := D.ex
  exact pe_call G hr hg hm hk hb .nil hx ha hdb he hpl
end
/-! ### the lambda -/
section
variable {X : Cx} {pins : List (Addr × Obj)} {σ : L2.St} {H HZ : Hp} {s s1 : Shared}
/-- what is wished of an exception that leaves the lambda's body -/
abbrev lamXe (X : Cx) (A : Around) (outer : List Env) (s : Shared) (H : Hp) (E : XK) (scope : Scope) (f c' : Addr) : Value → Shared → Prop := fun e s' =>
  wpAny (model X.prog X.w) (A.deeper (LamX.lamEnv X scope s.heap.objs.size f c')) (leaving (LamX.lamEnv X scope s.heap.objs.size f c') e) (fun _ s'' => L2N.CX X.prog X.w outer H s E e s'') (fun e' s'' => L2N.CX X.prog X.w outer H s E e' s'') s'
abbrev lamN (X : Cx) (A : Around) (outer : List Env) (s : Shared) (H : Hp) (E : XK) (scope : Scope) (f c' : Addr) : Cx := (LamX.lamCx X A outer s H E scope f c').tr [] (lamXe X A outer s H E scope f c')
theorem lamN_takes {A : Around} {outer : List Env} {E : XK} {scope : Scope} {f c' : Addr} : L2N.Takes (lamN X A outer s H E scope f c') (fun cls d _ H' => E cls d H') := L2N.takes_of rfl rfl rfl rfl
/-- a(), in the def that got the lambda -/
theorem pe_actN {CXg : CXT} {Eg : XK} {Ng : List Str} {qg : Str} {sg : Scope} {g f c' : Addr} {cdg pm ctv : Value} {params : Arguments} {body : Expr} {scope : Scope} {k i : Nat} {a : Str} {pn : List (Addr × Obj)} {xe : Value → Shared → Prop} {W : WX} {E : XK} {tb : TE} {p1 p2 : Pos}
    (I : Inv X pins σ H s) (L : LamX.LamS X.env.scope scope) (hf : s.heap.get? f = some (PySem.W.kla_obj "<lambda>" (X.env.qual ++ "<lambda>") params body scope (cloFrom X.env.cells scope.names []) pm c' ctv)) (hfn : H f = none) (hfr : f ∉ frs X.stack)
    (hbind : bindArgs (PySem.W.kla_fn "<lambda>" (X.env.qual ++ "<lambda>") params body scope (cloFrom X.env.cells scope.names []) pm (.ref c') ctv) ⟨[], []⟩ = pure [])
    (tk : L2N.Takes ((cxOf CXg X.prog X.w X.K X.mg X.base Ng qg sg g cdg X.A X.stack s H Eg).tr pn xe) W) (hr : Room (k + 1) (X.A.deeper (envOfC qg sg s.heap.objs.size g cdg)))
    (hbody : ∀ (A : Around) (outer : List Env) (s : Shared) (H : Hp), A.guards = X.A.guards → Room k (A.deeper (LamX.lamEnv X scope s.heap.objs.size f c')) → PE (lamN X A outer s H E scope f c') body tb)
    (hN : Ng[i]? = some a) (hv : Vis sg a) (hd : (a == ("__debug__" : Str)) = false := by decide) (hcd : (a == ("__classdict__" : Str)) = false := by decide) :
    PE ((cxOf CXg X.prog X.w X.K X.mg X.base Ng qg sg g cdg X.A X.stack s H Eg).tr pn xe) (.Call (.Name a p1) [] [] p2)
      (fun σZ HZ Q => σZ[i]? = some (some (.ref f)) ∧ HZ c' = some (LamX.CodeO c' (X.env.qual ++ "<lambda>")) ∧ (∀ cls d H', E cls d H' → W cls d σZ H') ∧ tb σ HZ Q) := by
  refine ⟨fun pinsZ sZ σZ HZ Q IZ ⟨hs, hc, hW, ht⟩ => ?_⟩
  refine wpAny_Call_Name_kw (thn ((pe_var (pos := p1) (i := i) hN hv hd hcd).run pinsZ sZ σZ HZ (fun v H1 => v = .ref f ∧ H1 = HZ) IZ ⟨.ref f, hs, rfl, rfl⟩) fun u s1 ⟨v, H1, I1, r1, ev, eH⟩ => ?_)
  subst ev
  rw [eH] at I1
  cases (show u = Value.ref f from r1)
  have of1 := I1.base.keep f _ hf hfn hfr (fun z => nomatch (show f ∈ ([] : List Addr) from z))
  refine PySem.W.callWith_F0 ⟨_, _, _, _, of1⟩ ?_
  obtain ⟨⟨oc, vs, t, hoc, hdc, hvc⟩, _, _⟩ := I1.hok c' _ hc
  have rc : codeAny (model X.prog X.w) (X.A.deeper (envOfC qg sg s.heap.objs.size g cdg)) (.call (.ref f) ⟨[], []⟩) (CR (L2N.CX X.prog X.w) (envOfC qg sg s.heap.objs.size g cdg :: X.stack) X.prog X.w HZ s1 Q E) s1 := by
    refine PySem.W.kla_callFunE hr.depth of1 rfl L.co L.gen rfl ⟨c', oc, vs, t, rfl, hoc, hdc, hvc⟩ ?_
    rw [hbind]
    refine wpAny_pure (wpAny_newFunctionEnv (fun y hy => (L.own y hy).2) (fun y hy => absurd hy (by simp)) (fun h₁ hns hsb => ⟨I1.nolimit.fresh _ hsb, ?_⟩) L.kind)
    show codeAny _ _ (.expr body (LamX.lamEnv X scope s1.heap.objs.size f c')) _ _
    have kp : ∀ b o, s1.heap.get? b = some o → h₁.get? b = some o := fun b o e => hsb.extBut b o (Nat.ne_of_lt (Heap.lt_size e)) (Heap.get?_push_of_some _ e)
    have J := LamX.lam_start2 (E := E) (tk := s1.toks + ([] : List (Str × Value)).length) (c' := c') (f := f) I L I1.env0 hr.hd I1.base hns kp
    refine PySem.W.kla_codeExpr (wpAny_mono ((hbody (X.A.deeper (envOfC qg sg s.heap.objs.size g cdg)) _ s1 HZ rfl (hr.deeper _)).run [] _ _ HZ Q (J.toTry _) ht) (fun v s' hq => ?_) fun e s' hq => hq)
    obtain ⟨w', H', J', rv, q⟩ := hq
    exact ⟨w', H', J'.os, J'.bare, J'.base, J'.hok, rv, q⟩
  refine wpAny_call (codeAny_mono rc fun r s' hq => ?_)
  cases r with
  | error e => exact tk e s' (L2N.XE.of_call I1 hW hq)
  | ok fl =>
    cases fl with
    | ret u => exact I1.after hq
    | next => exact False.elim hq
    | brk => exact False.elim hq
    | cont => exact False.elim hq
end
/-- the def that calls what it got -/
def GivesN (X : Cx) (k : Nat) (Ng : List Str) (x : Str) (sg : Scope) (g : Addr) (cdg : Value) (bg : List Stmt) (a : Str) (q : Str) (TT : (XK → Hp → VK → Prop) → Hp → VK → Prop) : Prop :=
  ∀ (f c' : Addr) (s : Shared) (H : Hp) (Q : VK) (tl : XK → Hp → VK → Prop), Room (k + 1) (X.A.deeper (envOfC x sg s.heap.objs.size g cdg)) →
    (∀ (W : WX) (pn : List (Addr × Obj)) (xe : Value → Shared → Prop) (E : XK) (p1 p2 : Pos), L2N.Takes ((cxOf CX0 X.prog X.w X.K X.mg X.base Ng x sg g cdg X.A X.stack s H E0).tr pn xe) W →
      PE ((cxOf CX0 X.prog X.w X.K X.mg X.base Ng x sg g cdg X.A X.stack s H E0).tr pn xe) (.Call (.Name a p1) [] [] p2) (fun σZ HZ Q => σZ[0]? = some (some (.ref f)) ∧ HZ c' = some (LamX.CodeO c' q) ∧ (∀ cls d H', E cls d H' → W cls d σZ H') ∧ tl E HZ Q)) →
    H c' = some (LamX.CodeO c' q) → TT tl H Q →
    ∃ t, PSs (cxOf CX0 X.prog X.w X.K X.mg X.base Ng x sg g cdg X.A X.stack s H E0).nox bg t ∧ t { nx := fun _ H' => Q .non H', rt := Q } (L2.start Ng [.ref f]) H
section
variable {X : Cx}
/-- x(lambda: body) -/
theorem pe_lamN {T : List (Addr × Str)} {TT : (XK → Hp → VK → Prop) → Hp → VK → Prop} {x a : Str} {g c P : Addr} {k : Nat} {pg : Arguments} {bg : List Stmt} {sg : Scope} {dV kV doc pm cdv ct oc : Value} {an od : Option Addr} {osl : Array (Option Value)} {Ng : List Str}
    {params : Arguments} {body : Expr} {scope : Scope} {t : XK → TE} {p lpos pos : Pos} (hg : Gl X x) (hm : X.mg x = some (.ref g)) (hk : PySem.W.keepIn X.K (.ref g) = true)
    (lk : X.K.lookup g = some ⟨oc, od, .func (PySem.W.fnOf x x pg bg sg dV kV doc pm an cdv ct), osl⟩) (hcg : PySem.W.codeIn X.K cdv x = true) (hb : L2.Binds X.K (PySem.W.fnOf x x pg bg sg dV kV doc pm an cdv ct) [a] []) (Sg : FnScope Ng [a] sg) (hNg : Ng[0]? = some a) (hva : Vis sg a)
    (hG : GivesN X k Ng x sg g cdv bg a (X.env.qual ++ "<lambda>") TT)
    (TB : LamX.TabB X.base X.mg c P) (hcode : X.env.code = .ref c) (hmT : (P, X.env.qual ++ "<lambda>") ∈ T) (hu : ∀ p ∈ T, p.1 = P → p.2 = X.env.qual ++ "<lambda>") (hr : Room (k + 2) X.A) (L : LamX.LamS X.env.scope scope) (hdef : defaultsOf params X.env = ([], []))
    (hbind : ∀ (q : Str) (cl : List (Str × Addr)) (pm cv ctv : Value), bindArgs (PySem.W.kla_fn "<lambda>" q params body scope cl pm cv ctv) ⟨[], []⟩ = pure [])
    (hbody : ∀ (A : Around) (outer : List Env) (s : Shared) (H : Hp) (E : XK) (f c' : Addr), A.guards = X.A.guards → Room k (A.deeper (LamX.lamEnv X scope s.heap.objs.size f c')) → PE (lamN X A outer s H E scope f c') body (t E))
    (hdb : (x == ("__debug__" : Str)) = false := by decide) (hd : (a == ("__debug__" : Str)) = false := by decide) (hcd : (a == ("__classdict__" : Str)) = false := by decide) :
    PE X (.Call (.Name x p) [.Lambda params body scope lpos] [] pos) (LamX.tLam T TT t) := by
  refine ⟨fun pins s σ H Q I ⟨hT, h⟩ => wpAny_Call_Name_kw (ld_glob I hg hm (PySem.W.callWith_K (h₀ := X.base) I.ok.mod.kin hk ?_ (by rfl) (by rfl)) hdb)⟩
  show wpAny _ _ (spliced ((false, eval (.Lambda params body scope lpos) X.env) :: backTo pos (starEach [] X.env))) _ _ s
  refine Calls.spliced_cons (LamX.lam_make2 I TB hcode hmT hu hT hdef (L.has I.ok) fun f c' pm' ctv H1 s' I1 eN T1 hf hfn hfr hco => Calls.spliced_nil ⟨I1.kIn, ?_⟩)
  have rc : codeAny (model X.prog X.w) X.A (.call (.ref g) ⟨[.ref f], []⟩) (CR CX0 X.stack X.prog X.w H1 s' Q E0) s' := by
    refine LamX.run_ofS (N := Ng) (ps := [a]) (us := [.ref f]) (vs := [.ref f]) lk hcg Sg hr I1.env0 (hb s' [.ref f] I1.kIn rfl) (.cons rfl .nil) rfl fun hr' => ?_
    obtain ⟨t', ht', hq'⟩ := hG f c' s' H1 Q (fun E H' Q' => t E σ H' Q') hr' (fun W pn xe E p1 p2 tk => pe_actN (i := 0) I1 L hf hfn hfr (hbind _ _ _ _ _) tk hr' (fun A outer s H hgd hr2 => hbody A outer s H E f c' hgd hr2) hNg hva hd hcd) hco (h H1 eN T1)
    exact ⟨t', ht'.nox, hq'⟩
  refine wpAny_call (codeAny_mono rc fun r s2 hq => ?_)
  cases r with
  | error e => exact (show False from hq).elim
  | ok fl =>
    cases fl with
    | ret u => exact I1.after hq
    | next => exact False.elim hq
    | brk => exact False.elim hq
    | cont => exact False.elim hq
end
end RL

set_option maxHeartbeats 2000000
/-! Values of many kinds: what isinstance says of them; what they show. -/
namespace RL
open PySem L2 PySem.Spec PyProof.Rows
def tyN : PyData → String
  | .none => "NoneType"
  | .bool _ => "bool"
  | .int _ => "int"
  | .str _ => "str"
  | .list _ => "list"
  | .tuple _ => "tuple"
  | .dict _ => "dict"
theorem ty_dp {K : PySem.W.Frag} {H : Hp} {v : V} {d : PyData} (h : Dp K H v d) : TyX K H v (.type (tyN d)) := by
  cases h with
  | non => exact .base .non
  | bl b => exact .base (.bl b)
  | int i => exact .base (.int i)
  | str x => exact .base (.str x)
  | lst a b =>
    rcases a with (a | ⟨o, a⟩) | ⟨o, its, n, e, c, r⟩
    · exact .base (.lst a)
    · exact .base (.frz a)
    · exact .kList e c
  | tup a b =>
    rcases a with (a | ⟨o, a⟩) | ⟨o, its, n, e, c, r⟩
    · exact .base (.tup a)
    · exact .fTuple a
    · exact .kTuple e c
theorem ty_dq {K : PySem.W.Frag} {H : Hp} {v : V} {d : PyData} (h : Dq K H v d) : TyX K H v (.type (tyN d)) := by
  cases h with
  | dp a b => exact ty_dp a
  | dk a => exact .base (.dK a)
def isIntD : PyData → Bool
  | .int _ => true
  | _ => false
def isTupD : PyData → Bool
  | .tuple _ => true
  | _ => false
def isStrD : PyData → Bool
  | .str _ => true
  | _ => false
def intOrBool : PyData → Bool
  | .int _ => true
  | .bool _ => true
  | _ => false
def isBoolD : PyData → Bool
  | .bool _ => true
  | _ => false
theorem kit_int {K : PySem.W.Frag} (d : PyData) : PySem.W.kitOne K (.type (tyN d)) (.type "int") = some (intOrBool d) := by
  cases d <;> (simp only [tyN, intOrBool]; exact kit_ty (by decide +kernel))
theorem kit_bool {K : PySem.W.Frag} (d : PyData) : PySem.W.kitOne K (.type (tyN d)) (.type "bool") = some (isBoolD d) := by
  cases d <;> (simp only [tyN, isBoolD]; exact kit_ty (by decide +kernel))
theorem kit_tup {K : PySem.W.Frag} (d : PyData) : PySem.W.kitOne K (.type (tyN d)) (.type "tuple") = some (isTupD d) := by
  cases d <;> (simp only [tyN, isTupD]; exact kit_ty (by decide +kernel))
theorem kit_str {K : PySem.W.Frag} (d : PyData) : PySem.W.kitOne K (.type (tyN d)) (.type "str") = some (isStrD d) := by
  cases d <;> (simp only [tyN, isStrD]; exact kit_ty (by decide +kernel))
def withinD (d : PyData) (lo hi : Int) : Bool := match d with
  | .int i => decide (lo ≤ i) && decide (i ≤ hi)
  | _ => false
def pairD : PyData → Bool
  | .tuple [a, b] => isIntD a && isIntD b
  | _ => false
/-- what is a resistance -/
def resD : PyData → Bool
  | .int i => decide (0 ≤ i) && decide (i ≤ 1000000000000)
  | .tuple [.int a, .int b] => decide (a = 1 ∧ b = 0) || (decide (0 ≤ a) && decide (a ≤ 1000000000000) && (decide (1 ≤ b) && decide (b ≤ 1000000000000)))
  | _ => false
/-- a promise that asks more of its callers -/
theorem FnOk.weak {P : Program} {w : World} {K : PySem.W.Frag} {mg : Str → Option Value} {base : Heap} {CX : CXT} {k : Nat} {f : Addr} {fd : FuncData} {ps : List Str} {sp sp' : Sp} (F : FnOk P w K mg base CX k f fd ps sp) (h : ∀ vs H Q E, sp' vs H Q E → sp vs H Q E) : FnOk P w K mg base CX k f fd ps sp' :=
  ⟨fun vs H Q E q => F.len vs H Q E (h _ _ _ _ q), fun A outer s H args us vs Q E hr e0 hb r q => F.run A outer s H args us vs Q E hr e0 hb r (h _ _ _ _ q)⟩
end RL

set_option maxHeartbeats 2000000
namespace RL
open PySem L2 PySem.Spec PyProof.Rows
/-- the names of the errors' classes -/
structure TxE (mg : Str → Option Value) (c : Nat → Addr) : Prop where
  m0 : mg "NotAPattern" = some (.ref (c 0))
  m1 : mg "NotARun" = some (.ref (c 1))
  m2 : mg "InvalidResistance" = some (.ref (c 2))
  m3 : mg "InvalidCount" = some (.ref (c 3))
  m4 : mg "InvalidNumber" = some (.ref (c 4))
  m5 : mg "InvalidText" = some (.ref (c 5))
  m6 : mg "InvalidName" = some (.ref (c 6))
  m7 : mg "InvalidClaim" = some (.ref (c 7))
  m8 : mg "InvalidIndex" = some (.ref (c 8))
  m9 : mg "InvalidPieces" = some (.ref (c 9))
  m10 : mg "InvalidKinds" = some (.ref (c 10))
  m11 : mg "InvalidStretches" = some (.ref (c 11))
  m12 : mg "InvalidDeeds" = some (.ref (c 12))
  m13 : mg "UnknownName" = some (.ref (c 13))
  m14 : mg "InUse" = some (.ref (c 14))
  m15 : mg "TooMany" = some (.ref (c 15))
  m16 : mg "Broken" = some (.ref (c 16))
  m17 : mg "NoLimit" = some (.ref (c 17))
  m18 : mg "NothingToUndo" = some (.ref (c 18))
  m19 : mg "WrongValue" = some (.ref (c 19))
  m20 : mg "WrongName" = some (.ref (c 20))
  m21 : mg "NoAnswer" = some (.ref (c 21))
  vV : mg "ValueError" = none
  vL : mg "LookupError" = none
  vA : mg "ArithmeticError" = none
/-- the classes that are asked, in the order of the asking -/
def tv (c : Nat → Addr) (j : Nat) : Value := if j < 22 then .ref (c j) else if j = 22 then .type "ValueError" else if j = 23 then .type "LookupError" else .type "ArithmeticError"
def IsRow (K : PySem.W.Frag) (c : Nat → Addr) (C : Addr) (b : Nat → Bool) : Prop := ∀ j, j < 25 → PySem.W.kitOne K (.ref C) (tv c j) = some (b j)
def fnd (b : Nat → Bool) (k n : Nat) : List V := (List.range n).map fun j => V.bl (b (k + j))
def ans (b : Nat → Bool) : List V := ((List.range 19).filter b).map (fun j => V.int (j : Nat)) ++ ((List.range 6).filter fun j => b (19 + j)).map (fun j => V.int (20 + (j : Nat)))
def spClsP (K : PySem.W.Frag) (c : Nat → Addr) : Addr × Obj → Sp := fun p vs H Q _ => ∃ (C : Addr) (b : Nat → Bool), vs = [.ref p.1] ∧ XC K C ∧ Px p C H ∧ IsRow K c C b ∧
  ∀ H' l, Same H H' → H l = none → H' l = some (.lst (ans b)) → Q (.ref l) H'
theorem fnd_at {b : Nat → Bool} {k n i : Nat} (h : i < n) : (fnd b k n)[i]? = some (.bl (b (k + i))) := by
  unfold fnd
  rw [List.getElem?_map, List.getElem?_range h]
  rfl
theorem rng_len {α : Type} {b : Nat → Bool} {f : Nat → α} {i : Nat} (h : i < 19) : (((List.range i).filter b).map f).length ≤ 1000 := by
  have h1 := List.length_filter_le b (List.range i)
  rw [List.length_range] at h1
  rw [List.length_map]
  omega
theorem rng_yes {α : Type} {b : Nat → Bool} {f : Nat → α} {i : Nat} (h : b i = true) : ((List.range (i + 1)).filter b).map f = ((List.range i).filter b).map f ++ [f i] := by
  rw [List.range_succ, List.filter_append, List.map_append]
  simp [h]
theorem rng_no {α : Type} {b : Nat → Bool} {f : Nat → α} {i : Nat} (h : ¬ b i = true) : ((List.range (i + 1)).filter b).map f = ((List.range i).filter b).map f := by
  rw [List.range_succ, List.filter_append, List.map_append]
  simp [h]
theorem pnH {CX : CXT} {P : Program} {w : World} {K : PySem.W.Frag} {mg : Str → Option Value} {base : Heap} {N : List Str} {qual : Str} {scope : Scope} {f : Addr} {cd : Value} {A : Around} {outer : List Env} {s : Shared} {H : Hp} {E : XK} {p : Addr × Obj} :
    p ∈ (L2H.cxH CX P w K mg base N qual scope f cd A outer s H E p).pn := List.mem_cons_self
/-! ### an error of the package -/
def fldOf (j : Nat) : Str := if j < 9 ∨ j = 13 then "given" else if j = 15 then "most" else "index"
/-- a class of errors: its number, what it answers -/
structure EC (K : PySem.W.Frag) (c : Nat → Addr) (C : Addr) (j : Nat) (as : List Int) : Prop where
  xc : XC K C
  row : ∃ b, IsRow K c C b ∧ ans b = as.map V.int
  any : PySem.W.exmAny K (.ref C) [.ref (c 19), .ref (c 20), .ref (c 21)] = some true
  hd : as.head? = some (j : Int)
  lt : j < 17
  no : PySem.W.findIn K (.ref C) (fldOf j) = some none
  tl : as.length ≤ 10
/-- what _law_caught makes of an exception -/
def cgtX (K : PySem.W.Frag) (c : Nat → Addr) (Q : VK) : XK := fun cls d H => ∃ (C : Addr) (j : Nat) (as : List Int) (dx : Addr) (v : V) (e : PyData), cls = .ref C ∧ EC K c C j as ∧ d = some dx ∧ H dx = some (.xd [(fldOf j, v)]) ∧
  Dq K H v e ∧ e.showable = true ∧ e.depth ≤ 40 ∧ e.shown.length ≤ sizeLine ∧ ∀ H' l, Same H H' → H' l = some (.lst (as.map V.int ++ [.str e.shown])) → Q (.ref l) H'
/-- _law_caught(lambda: ..): the reading, from that of the lambda's body -/
def TTc (K : PySem.W.Frag) (c : Nat → Addr) (rR : List V → Hp → VK → Prop) : (XK → Hp → VK → Prop) → Hp → VK → Prop := fun tl H Q =>
  tl (cgtX K c Q) H fun v H2 => rR [v] H2 fun r H3 => ∀ l, H3 l = none → Q (.ref l) (upd H3 l (.lst [.str (Str.ofString "given"), r]))
theorem pss_all {X : Cx} {b : List Stmt} {cls : Value} {d : Option Addr} {t : Obj → TS} (oe : Obj) (hz : L2N.Zn cls d oe) (hf : ∃ vs, oe.data = .fields vs) (h : PSs X b (t oe)) : PSs X b (fun D σ H => ∀ oe, L2N.Zn cls d oe → (∃ vs, oe.data = .fields vs) → t oe D σ H) :=
  ⟨fun pins s σ H D I q => h.run pins s σ H D I (q oe hz hf)⟩
section
variable {P : Program} {w : World} {K : PySem.W.Frag} {mg : Str → Option Value} {base : Heap} {c : Nat → Addr}
abbrev s_law_classes : Stmt := top 50
theorem sc_law_classes : FnScope ["_law_e", "_law_found", "_law_above", "_law_at"] ["_law_e"] (defScope s_law_classes) := ⟨rfl, rfl, rfl, by decide +kernel, rfl, by decide +kernel, by decide +kernel⟩

theorem ok_clsP {f : Addr} {fd : FuncData} (F : Fun K "_law_classes" "_law_classes" s_law_classes f fd) (T : Txt K mg) (TE : TxE mg c) (Z : XK0 K) : FnE P w K mg base 1 f fd ["_law_e"] (spClsP K c) := by
  refine okE F sc_law_classes (fun p vs H Q E h => ?_) (fun cdv A outer s H vs Q p hot hr h => ?_)
  · obtain ⟨C, b, rfl, _⟩ := h
    rfl
  · obtain ⟨C, b, rfl, xc, ex, row, k⟩ := h
    obtain ⟨a, ob⟩ := p
    generalize hp : ((a, ob) : Addr × Obj) = p at *
    have ea : p.1 = a := by rw [← hp]
    refine ⟨_, (C8.pss_cut (ps_set (i := 1) sc_law_classes.nd rfl (.inr rfl) (pe_lst (pa_cons (pe_callB (call_isP Z pnH) (by rfl) T.isinstance (by decide +kernel) (pa_cons (pv 0) (pa_cons (pe_glob (v := .ref (c 0)) rfl TE.m0 rfl) pa_nil))) (pa_cons (pe_callB (call_isP Z pnH) (by rfl) T.isinstance (by decide +kernel) (pa_cons (pv 0) (pa_cons (pe_glob (v := .ref (c 1)) rfl TE.m1 rfl) pa_nil))) pa_nil))))
      (C8.pss_cut (ps_set (i := 1) sc_law_classes.nd rfl (.inr rfl) (pe_op op_cat (pv 1) (pe_lst (pa_cons (pe_callB (call_isP Z pnH) (by rfl) T.isinstance (by decide +kernel) (pa_cons (pv 0) (pa_cons (pe_glob (v := .ref (c 2)) rfl TE.m2 rfl) pa_nil))) (pa_cons (pe_callB (call_isP Z pnH) (by rfl) T.isinstance (by decide +kernel) (pa_cons (pv 0) (pa_cons (pe_glob (v := .ref (c 3)) rfl TE.m3 rfl) pa_nil))) pa_nil)))))
      (C8.pss_cut (ps_set (i := 1) sc_law_classes.nd rfl (.inr rfl) (pe_op op_cat (pv 1) (pe_lst (pa_cons (pe_callB (call_isP Z pnH) (by rfl) T.isinstance (by decide +kernel) (pa_cons (pv 0) (pa_cons (pe_glob (v := .ref (c 4)) rfl TE.m4 rfl) pa_nil))) (pa_cons (pe_callB (call_isP Z pnH) (by rfl) T.isinstance (by decide +kernel) (pa_cons (pv 0) (pa_cons (pe_glob (v := .ref (c 5)) rfl TE.m5 rfl) pa_nil))) (pa_cons (pe_callB (call_isP Z pnH) (by rfl) T.isinstance (by decide +kernel) (pa_cons (pv 0) (pa_cons (pe_glob (v := .ref (c 6)) rfl TE.m6 rfl) pa_nil))) pa_nil))))))
      (C8.pss_cut (ps_set (i := 1) sc_law_classes.nd rfl (.inr rfl) (pe_op op_cat (pv 1) (pe_lst (pa_cons (pe_callB (call_isP Z pnH) (by rfl) T.isinstance (by decide +kernel) (pa_cons (pv 0) (pa_cons (pe_glob (v := .ref (c 7)) rfl TE.m7 rfl) pa_nil))) (pa_cons (pe_callB (call_isP Z pnH) (by rfl) T.isinstance (by decide +kernel) (pa_cons (pv 0) (pa_cons (pe_glob (v := .ref (c 8)) rfl TE.m8 rfl) pa_nil))) pa_nil)))))
      (C8.pss_cut (ps_set (i := 1) sc_law_classes.nd rfl (.inr rfl) (pe_op op_cat (pv 1) (pe_lst (pa_cons (pe_callB (call_isP Z pnH) (by rfl) T.isinstance (by decide +kernel) (pa_cons (pv 0) (pa_cons (pe_glob (v := .ref (c 9)) rfl TE.m9 rfl) pa_nil))) (pa_cons (pe_callB (call_isP Z pnH) (by rfl) T.isinstance (by decide +kernel) (pa_cons (pv 0) (pa_cons (pe_glob (v := .ref (c 10)) rfl TE.m10 rfl) pa_nil))) (pa_cons (pe_callB (call_isP Z pnH) (by rfl) T.isinstance (by decide +kernel) (pa_cons (pv 0) (pa_cons (pe_glob (v := .ref (c 11)) rfl TE.m11 rfl) pa_nil))) pa_nil))))))
      (C8.pss_cut (ps_set (i := 1) sc_law_classes.nd rfl (.inr rfl) (pe_op op_cat (pv 1) (pe_lst (pa_cons (pe_callB (call_isP Z pnH) (by rfl) T.isinstance (by decide +kernel) (pa_cons (pv 0) (pa_cons (pe_glob (v := .ref (c 12)) rfl TE.m12 rfl) pa_nil))) (pa_cons (pe_callB (call_isP Z pnH) (by rfl) T.isinstance (by decide +kernel) (pa_cons (pv 0) (pa_cons (pe_glob (v := .ref (c 13)) rfl TE.m13 rfl) pa_nil))) (pa_cons (pe_callB (call_isP Z pnH) (by rfl) T.isinstance (by decide +kernel) (pa_cons (pv 0) (pa_cons (pe_glob (v := .ref (c 14)) rfl TE.m14 rfl) pa_nil))) pa_nil))))))
      (C8.pss_cut (ps_set (i := 1) sc_law_classes.nd rfl (.inr rfl) (pe_op op_cat (pv 1) (pe_lst (pa_cons (pe_callB (call_isP Z pnH) (by rfl) T.isinstance (by decide +kernel) (pa_cons (pv 0) (pa_cons (pe_glob (v := .ref (c 15)) rfl TE.m15 rfl) pa_nil))) (pa_cons (pe_callB (call_isP Z pnH) (by rfl) T.isinstance (by decide +kernel) (pa_cons (pv 0) (pa_cons (pe_glob (v := .ref (c 16)) rfl TE.m16 rfl) pa_nil))) pa_nil)))))
      (C8.pss_cut (ps_set (i := 1) sc_law_classes.nd rfl (.inr rfl) (pe_op op_cat (pv 1) (pe_lst (pa_cons (pe_callB (call_isP Z pnH) (by rfl) T.isinstance (by decide +kernel) (pa_cons (pv 0) (pa_cons (pe_glob (v := .ref (c 17)) rfl TE.m17 rfl) pa_nil))) (pa_cons (pe_callB (call_isP Z pnH) (by rfl) T.isinstance (by decide +kernel) (pa_cons (pv 0) (pa_cons (pe_glob (v := .ref (c 18)) rfl TE.m18 rfl) pa_nil))) pa_nil)))))
      (C8.pss_cut (ps_set (i := 2) sc_law_classes.nd rfl (.inr rfl) (pe_lst (pa_cons (pe_callB (call_isP Z pnH) (by rfl) T.isinstance (by decide +kernel) (pa_cons (pv 0) (pa_cons (pe_glob (v := .ref (c 19)) rfl TE.m19 rfl) pa_nil))) (pa_cons (pe_callB (call_isP Z pnH) (by rfl) T.isinstance (by decide +kernel) (pa_cons (pv 0) (pa_cons (pe_glob (v := .ref (c 20)) rfl TE.m20 rfl) pa_nil))) (pa_cons (pe_callB (call_isP Z pnH) (by rfl) T.isinstance (by decide +kernel) (pa_cons (pv 0) (pa_cons (pe_glob (v := .ref (c 21)) rfl TE.m21 rfl) pa_nil))) pa_nil)))))
      (C8.pss_cut (ps_set (i := 2) sc_law_classes.nd rfl (.inr rfl) (pe_op op_cat (pv 2) (pe_lst (pa_cons (pe_callB (call_isP Z pnH) (by rfl) T.isinstance (by decide +kernel) (pa_cons (pv 0) (pa_cons (pe_bltn (v := .ty "ValueError") (by rfl) TE.vV (by decide +kernel) rfl) pa_nil))) (pa_cons (pe_callB (call_isP Z pnH) (by rfl) T.isinstance (by decide +kernel) (pa_cons (pv 0) (pa_cons (pe_bltn (v := .ty "LookupError") (by rfl) TE.vL (by decide +kernel) rfl) pa_nil))) (pa_cons (pe_callB (call_isP Z pnH) (by rfl) T.isinstance (by decide +kernel) (pa_cons (pv 0) (pa_cons (pe_bltn (v := .ty "ArithmeticError") (by rfl) TE.vA (by decide +kernel) rfl) pa_nil))) pa_nil))))))
      (pss_one (ps_ret (pe_op op_cat (pe_lcP (p := p) (own := [("_law_at", 3)]) (g := gName 3) hot pnH sc_law_classes.nd (L2H.pi_range1H rfl T.range (pa_cons pe_int pa_nil)) (blkOk_by (N := ["_law_e", "_law_found", "_law_above", "_law_at"]) (sc := defScope s_law_classes) (by decide +kernel)) (fun _ _ _ _ _ => pg_name (i := 3) sc_law_classes.nd rfl (Or.inl rfl)) (fun _ _ _ _ _ => (pts_one (pt_val (pe_ix (r := rIxL K) ix_list (pv 1) (pv 3) (fun _ _ => rfl))))) (fun _ _ _ _ _ => (pv 3))) (pe_lcP (p := p) (own := [("_law_at", 3)]) (g := gName 3) hot pnH sc_law_classes.nd (L2H.pi_range1H rfl T.range (pa_cons pe_int pa_nil)) (blkOk_by (N := ["_law_e", "_law_found", "_law_above", "_law_at"]) (sc := defScope s_law_classes) (by decide +kernel)) (fun _ _ _ _ _ => pg_name (i := 3) sc_law_classes.nd rfl (Or.inl rfl)) (fun _ _ _ _ _ => (pts_one (pt_val (pe_ix (r := rIxL K) ix_list (pv 2) (pv 3) (fun _ _ => rfl))))) (fun _ _ _ _ _ => (pe_op op_add pe_int (pv 3))))))))))))))))), ?_⟩
    have r := fun j (hj : j < 25) => row j hj
    refine ⟨fun σ' H' => ∃ q, σ' = [some (.ref p.1), some (.ref q), none, none] ∧ Same H H' ∧ H' q = some (.lst (fnd b 0 2)), ?_, ?_⟩
    · refine ⟨_, rfl, C, _, _, _, rfl, .own _, xc, ex, r 0 (by decide), _, rfl, C, _, _, _, rfl, .own _, xc, ex, r 1 (by decide), (by show 2 ≤ sizeLine; decide), fun q o => ?_⟩
      exact ⟨q, rfl, new_upd o, upd_same⟩
    rintro σ1 H1 ⟨q, rfl, s1, l1⟩
    have e1 := ex.same s1
    refine ⟨fun σ' H' => ∃ q, σ' = [some (.ref p.1), some (.ref q), none, none] ∧ Same H H' ∧ H' q = some (.lst (fnd b 0 4)), ?_, ?_⟩
    · refine ⟨_, rfl, _, rfl, C, _, _, _, rfl, .own _, xc, e1, r 2 (by decide), _, rfl, C, _, _, _, rfl, .own _, xc, e1, r 3 (by decide), (by show 2 ≤ sizeLine; decide), fun p np => ⟨q, p, _, _, rfl, rfl, new_upd np _ _ l1, upd_same, (by show 4 ≤ sizeLine; decide), fun z nz => ?_⟩⟩
      exact ⟨z, rfl, (s1.trans (new_upd np)).trans (new_upd nz), upd_same⟩
    clear s1 l1 e1
    rintro σ1 H1 ⟨q, rfl, s1, l1⟩
    have e1 := ex.same s1
    refine ⟨fun σ' H' => ∃ q, σ' = [some (.ref p.1), some (.ref q), none, none] ∧ Same H H' ∧ H' q = some (.lst (fnd b 0 7)), ?_, ?_⟩
    · refine ⟨_, rfl, _, rfl, C, _, _, _, rfl, .own _, xc, e1, r 4 (by decide), _, rfl, C, _, _, _, rfl, .own _, xc, e1, r 5 (by decide), _, rfl, C, _, _, _, rfl, .own _, xc, e1, r 6 (by decide), (by show 3 ≤ sizeLine; decide), fun p np => ⟨q, p, _, _, rfl, rfl, new_upd np _ _ l1, upd_same, (by show 7 ≤ sizeLine; decide), fun z nz => ?_⟩⟩
      exact ⟨z, rfl, (s1.trans (new_upd np)).trans (new_upd nz), upd_same⟩
    clear s1 l1 e1
    rintro σ1 H1 ⟨q, rfl, s1, l1⟩
    have e1 := ex.same s1
    refine ⟨fun σ' H' => ∃ q, σ' = [some (.ref p.1), some (.ref q), none, none] ∧ Same H H' ∧ H' q = some (.lst (fnd b 0 9)), ?_, ?_⟩
    · refine ⟨_, rfl, _, rfl, C, _, _, _, rfl, .own _, xc, e1, r 7 (by decide), _, rfl, C, _, _, _, rfl, .own _, xc, e1, r 8 (by decide), (by show 2 ≤ sizeLine; decide), fun p np => ⟨q, p, _, _, rfl, rfl, new_upd np _ _ l1, upd_same, (by show 9 ≤ sizeLine; decide), fun z nz => ?_⟩⟩
      exact ⟨z, rfl, (s1.trans (new_upd np)).trans (new_upd nz), upd_same⟩
    clear s1 l1 e1
    rintro σ1 H1 ⟨q, rfl, s1, l1⟩
    have e1 := ex.same s1
    refine ⟨fun σ' H' => ∃ q, σ' = [some (.ref p.1), some (.ref q), none, none] ∧ Same H H' ∧ H' q = some (.lst (fnd b 0 12)), ?_, ?_⟩
    · refine ⟨_, rfl, _, rfl, C, _, _, _, rfl, .own _, xc, e1, r 9 (by decide), _, rfl, C, _, _, _, rfl, .own _, xc, e1, r 10 (by decide), _, rfl, C, _, _, _, rfl, .own _, xc, e1, r 11 (by decide), (by show 3 ≤ sizeLine; decide), fun p np => ⟨q, p, _, _, rfl, rfl, new_upd np _ _ l1, upd_same, (by show 12 ≤ sizeLine; decide), fun z nz => ?_⟩⟩
      exact ⟨z, rfl, (s1.trans (new_upd np)).trans (new_upd nz), upd_same⟩
    clear s1 l1 e1
    rintro σ1 H1 ⟨q, rfl, s1, l1⟩
    have e1 := ex.same s1
    refine ⟨fun σ' H' => ∃ q, σ' = [some (.ref p.1), some (.ref q), none, none] ∧ Same H H' ∧ H' q = some (.lst (fnd b 0 15)), ?_, ?_⟩
    · refine ⟨_, rfl, _, rfl, C, _, _, _, rfl, .own _, xc, e1, r 12 (by decide), _, rfl, C, _, _, _, rfl, .own _, xc, e1, r 13 (by decide), _, rfl, C, _, _, _, rfl, .own _, xc, e1, r 14 (by decide), (by show 3 ≤ sizeLine; decide), fun p np => ⟨q, p, _, _, rfl, rfl, new_upd np _ _ l1, upd_same, (by show 15 ≤ sizeLine; decide), fun z nz => ?_⟩⟩
      exact ⟨z, rfl, (s1.trans (new_upd np)).trans (new_upd nz), upd_same⟩
    clear s1 l1 e1
    rintro σ1 H1 ⟨q, rfl, s1, l1⟩
    have e1 := ex.same s1
    refine ⟨fun σ' H' => ∃ q, σ' = [some (.ref p.1), some (.ref q), none, none] ∧ Same H H' ∧ H' q = some (.lst (fnd b 0 17)), ?_, ?_⟩
    · refine ⟨_, rfl, _, rfl, C, _, _, _, rfl, .own _, xc, e1, r 15 (by decide), _, rfl, C, _, _, _, rfl, .own _, xc, e1, r 16 (by decide), (by show 2 ≤ sizeLine; decide), fun p np => ⟨q, p, _, _, rfl, rfl, new_upd np _ _ l1, upd_same, (by show 17 ≤ sizeLine; decide), fun z nz => ?_⟩⟩
      exact ⟨z, rfl, (s1.trans (new_upd np)).trans (new_upd nz), upd_same⟩
    clear s1 l1 e1
    rintro σ1 H1 ⟨q, rfl, s1, l1⟩
    have e1 := ex.same s1
    refine ⟨fun σ' H' => ∃ q, σ' = [some (.ref p.1), some (.ref q), none, none] ∧ Same H H' ∧ H' q = some (.lst (fnd b 0 19)), ?_, ?_⟩
    · refine ⟨_, rfl, _, rfl, C, _, _, _, rfl, .own _, xc, e1, r 17 (by decide), _, rfl, C, _, _, _, rfl, .own _, xc, e1, r 18 (by decide), (by show 2 ≤ sizeLine; decide), fun p np => ⟨q, p, _, _, rfl, rfl, new_upd np _ _ l1, upd_same, (by show 19 ≤ sizeLine; decide), fun z nz => ?_⟩⟩
      exact ⟨z, rfl, (s1.trans (new_upd np)).trans (new_upd nz), upd_same⟩
    clear s1 l1 e1
    rintro σ1 H1 ⟨q, rfl, s1, l1⟩
    have e1 := ex.same s1
    refine ⟨fun σ' H' => ∃ q z, σ' = [some (.ref p.1), some (.ref q), some (.ref z), none] ∧ Same H H' ∧ H' q = some (.lst (fnd b 0 19)) ∧ H' z = some (.lst (fnd b 19 3)), ?_, ?_⟩
    · refine ⟨_, rfl, C, _, _, _, rfl, .own _, xc, e1, r 19 (by decide), _, rfl, C, _, _, _, rfl, .own _, xc, e1, r 20 (by decide), _, rfl, C, _, _, _, rfl, .own _, xc, e1, r 21 (by decide), (by show 3 ≤ sizeLine; decide), fun z nz => ?_⟩
      exact ⟨q, z, rfl, s1.trans (new_upd nz), new_upd nz _ _ l1, upd_same⟩
    clear s1 l1 e1
    rintro σ1 H1 ⟨q, z, rfl, s1, l1, l2⟩
    have e1 := ex.same s1
    refine ⟨fun σ' H' => ∃ q z, σ' = [some (.ref p.1), some (.ref q), some (.ref z), none] ∧ Same H H' ∧ H' q = some (.lst (fnd b 0 19)) ∧ H' z = some (.lst (fnd b 19 6)), ?_, ?_⟩
    · refine ⟨_, rfl, _, rfl, C, _, _, _, rfl, .ty _, xc, e1, r 22 (by decide), _, rfl, C, _, _, _, rfl, .ty _, xc, e1, r 23 (by decide), _, rfl, C, _, _, _, rfl, .ty _, xc, e1, r 24 (by decide), (by show 3 ≤ sizeLine; decide), fun p np => ⟨z, p, _, _, rfl, rfl, new_upd np _ _ l2, upd_same, (by show 6 ≤ sizeLine; decide), fun y ny => ?_⟩⟩
      exact ⟨q, y, rfl, (s1.trans (new_upd np)).trans (new_upd ny), new_upd ny _ _ (new_upd np _ _ l1), upd_same⟩
    clear s1 l1 l2 e1
    rintro σ1 H1 ⟨q, z, rfl, s1, l1, l2⟩
    refine ⟨19, rfl, by decide, by decide, fun D hD => ?_⟩
    have hSq := SqL.of (K := K) l1
    have hSz := SqL.of (K := K) l2
    refine lc_range (lo := 0) (fun i H' => But D H1 H' ∧ H' D = some (.lst (((List.range i).filter b).map fun j => V.int (j : Nat)))) ⟨But.upd, upd_same⟩ ?_ ?_
    · rintro i H2 hi ⟨bD, hDi⟩
      rw [Int.zero_add]
      refine ⟨rfl, ?_⟩
      refine ⟨_, rfl, _, rfl, q, _, _, _, rfl, rfl, SqL.of (bD _ _ (ne_of_none l1 hD) l1), atI_nat (j := i) (fnd_at (show i < 19 from hi)), ?_⟩
      rw [Nat.zero_add]
      refine ⟨_, rfl, ite2 (fun e => ?_) (fun e => ?_)⟩
      · refine ⟨_, rfl, _, hDi, small1000 (rng_len (show i < 19 from hi)), bD.trans But.upd, ?_⟩
        rw [upd_same, rng_yes e]
      · exact ⟨bD, by rw [rng_no e]; exact hDi⟩
    · rintro H2 ⟨bD, hD2⟩
      have nzD := ne_of_none l2 hD
      have s2 : Same H H2 := fun y o ey => bD _ _ (ne_of_none (s1 _ _ ey) hD) (s1 _ _ ey)
      have nD : H D = none := s1.free hD
      refine ⟨6, rfl, by decide, by decide, fun G hG => ?_⟩
      have hGD := new_upd (o := .lst []) hG
      refine lc_range (lo := 0) (fun i H' => But G H2 H' ∧ H' G = some (.lst (((List.range i).filter fun j => b (19 + j)).map fun j => V.int (20 + (j : Nat))))) ⟨But.upd, upd_same⟩ ?_ ?_
      · rintro i H3 hi ⟨bG, hGi⟩
        rw [Int.zero_add]
        refine ⟨rfl, ?_⟩
        have l3 := bG _ _ (ne_of_none (bD _ _ nzD l2) hG) (bD _ _ nzD l2)
        refine ⟨_, rfl, _, rfl, z, _, _, _, rfl, rfl, SqL.of l3, atI_nat (j := i) (fnd_at (show i < 6 from hi)), ?_⟩
        refine ⟨_, rfl, ite2 (fun e => ?_) (fun e => ?_)⟩
        · refine ⟨_, rfl, _, _, rfl, rfl, _, hGi, small1000 (rng_len (show i < 19 by have : i < 6 := hi; omega)), bG.trans But.upd, ?_⟩
          rw [upd_same, rng_yes (b := fun j => b (19 + j)) e]
        · exact ⟨bG, by rw [rng_no (b := fun j => b (19 + j)) e]; exact hGi⟩
      · rintro H3 ⟨bG, hG3⟩
        have hD3 := bG _ _ (ne_of_none hD2 hG) hD2
        have s3 : Same H H3 := fun y o ey => bG _ _ (ne_of_none (s2 _ _ ey) hG) (s2 _ _ ey)
        refine ⟨D, G, _, _, rfl, rfl, hD3, hG3, ?_, fun l nl => ?_⟩
        · have h1 := List.length_filter_le b (List.range 19)
          have h2 := List.length_filter_le (fun j => b (19 + j)) (List.range 6)
          rw [List.length_map, List.length_map]
          rw [List.length_range] at h1 h2
          exact Nat.le_trans (Nat.add_le_add h1 h2) (by decide)
        · exact k _ l (s3.trans (new_upd nl)) (s3.free nl) upd_same
end
end RL

set_option maxHeartbeats 2000000
namespace RL
open PySem L2 PySem.Spec PyProof.Rows
theorem lamS_dec {sc scope : Scope} (h : LamX.lamSB sc scope = true) : LamX.LamS sc scope := LamX.lamS_by h
def TTg (K : PySem.W.Frag) (c : Nat → Addr) (rR : List V → Hp → VK → Prop) : (XK → Hp → VK → Prop) → Hp → VK → Prop := fun tl H Q =>
  tl (cgtX K c Q) H fun v H2 => rR [v] H2 fun r H3 => [V.str (Str.ofString "given"), r].length ≤ sizeLine ∧ ∀ l, H3 l = none → Q (.ref l) (upd H3 l (.lst [V.str (Str.ofString "given"), r]))
abbrev s_law_caught : Stmt := top 51
theorem sc_law_caught : FnScope ["_law_act", "_law_e", "_law_found"] ["_law_act"] (defScope s_law_caught) := ⟨rfl, rfl, rfl, by decide +kernel, rfl, by decide +kernel, by decide +kernel⟩

/-- the def that catches, and what it leans on -/
structure CgtD (P : Program) (w : World) (K : PySem.W.Frag) (mg : Str → Option Value) (base : Heap) (c : Nat → Addr) (kr : Nat) (rR : List V → Hp → VK → Prop) : Prop where
  T : Txt K mg
  TE : TxE mg c
  ex : ∃ (g : Addr) (fd : FuncData), Fun K "_law_caught" "_law_caught" s_law_caught g fd ∧ mg "_law_caught" = some (.ref g)
  cls : DfE P w K mg base 1 "_law_classes" ["_law_e"] (spClsP K c)
  rp : ∀ X : Cx, X.prog = P → X.w = w → X.K = K → X.mg = mg → X.base = base → X.A.guards = some [] → Room kr X.A → CallR X (.builtin "repr") rR
theorem hot_of {A : Around} {a : Addr} {cls : Value} {d : Option Addr} {oe : Obj} (hz : L2N.Zn cls d oe) (hf : ∃ vs, oe.data = .fields vs) : L2H.Hot1 (A.mark (some (.ref a))) (a, oe) := by
  obtain ⟨vs, hv⟩ := hf
  exact ⟨rfl, vs, hv, hz.2.2 vs hv⟩
section
variable {X : Cx} {c : Nat → Addr} {kr : Nat} {rR : List V → Hp → VK → Prop}
theorem caught_gives {k : Nat} {q : Str} {g : Addr} {cdg : Value} (CG : CgtD X.prog X.w X.K X.mg X.base c kr rR) (hgd : X.A.guards = some []) (hk : kr ≤ k + 1) (hk1 : 1 ≤ k) :
    GivesN X k ["_law_act", "_law_e", "_law_found"] "_law_caught" (defScope s_law_caught) g cdg (defBody s_law_caught) "_law_act" q (TTg X.K c rR) := by
  intro f c' s H Q tl hr hact hc hT
  have T := CG.T
  have TE := CG.TE
  have D_law_classes := CG.cls
  have hgS : (X.A.deeper (envOfC "_law_caught" (defScope s_law_caught) s.heap.objs.size g cdg)).guards = some [] := hgd
  have huS := hr.units
  have hk2 : 1 ≤ k + 1 := by omega
  have sc := sc_law_caught
  refine ⟨_, pss_one (ps_try_as3 (X := (cxOf CX0 X.prog X.w X.K X.mg X.base ["_law_act", "_law_e", "_law_found"] "_law_caught" (defScope s_law_caught) g cdg X.A X.stack s H E0).nox) (i := 1) (c1 := .ref (c 19)) (c2 := .ref (c 20)) (c3 := .ref (c 21))
    (tb := fun W D σ H => ∃ Ech : XK, σ[0]? = some (some (.ref f)) ∧ H c' = some (LamX.CodeO c' q) ∧ (∀ cls d H', Ech cls d H' → W cls d σ H') ∧ tl Ech H fun v H2 => rR [v] H2 fun r H3 => [V.str (Str.ofString "given"), r].length ≤ sizeLine ∧ ∀ p, H3 p = none → D.rt (.ref p) (upd H3 p (.lst [V.str (Str.ofString "given"), r])))
    rfl rfl sc.nd rfl rfl ⟨rfl, by decide, .inl TE.m19⟩ ⟨rfl, by decide, .inl TE.m20⟩ ⟨rfl, by decide, .inl TE.m21⟩ (fun W pn xe tk _ => ⟨fun pins s' σ H' D I h => ?_⟩)
    (fun a oe cls d pn hz hf => pss_all (cls := cls) (d := d) oe hz hf (pss_cons (ps_set (i := 2) sc_law_caught.nd rfl (.inl rfl) (pe_dfE D_law_classes (L2H.roomH_mark (hr.mono hk2) (some (.ref a))) (hot_of hz hf) List.mem_cons_self (by rfl) (pa_cons (pv 1) pa_nil)))
      (pss_cons (ps_if (PW.pt (pw_or (pt_cmpR op_lt (pe_ix (r := rIxL X.K) ix_list (pv 2) pe_int (fun _ _ => rfl)) pe_int (nomark _)) (pw_or1 (pt_cmpR op_eq (pe_ix (r := rIxL X.K) ix_list (pv 2) pe_int (fun _ _ => rfl)) pe_int (nomark _))))) (pss_one (ps_ret (pe_op op_cat (pv 2) (pe_lst (pa_cons (pe_callB (cr_rpK (K := X.K) hgS huS) (by rfl) T.repr (by decide +kernel) (pa_cons (pe_pfdK (K := X.K) (p := (a, oe)) List.mem_cons_self (pv 1)) pa_nil)) pa_nil))))) pss_nil)
      (pss_cons (ps_if (pt_cmpR op_eq (pe_ix (r := rIxL X.K) ix_list (pv 2) pe_int (fun _ _ => rfl)) pe_int (nomark _)) (pss_one (ps_ret (pe_op op_cat (pv 2) (pe_lst (pa_cons (pe_callB (cr_rpK (K := X.K) hgS huS) (by rfl) T.repr (by decide +kernel) (pa_cons (pe_pfdK (K := X.K) (p := (a, oe)) List.mem_cons_self (pv 1)) pa_nil)) pa_nil))))) pss_nil)
      (pss_one (ps_ret (pe_ifExp (pt_cmpR op_lt (pe_ix (r := rIxL X.K) ix_list (pv 2) pe_int (fun _ _ => rfl)) pe_int (nomark _)) (pe_op op_cat (pv 2) (pe_lst (pa_cons (pe_callB (cr_rpK (K := X.K) hgS huS) (by rfl) T.repr (by decide +kernel) (pa_cons (pe_pfdK (K := X.K) (p := (a, oe)) List.mem_cons_self (pv 1)) pa_nil)) pa_nil))) (pv 2))))))))), ?_⟩
  · obtain ⟨Ech, h1, h2, h3, h4⟩ := h
    exact (pss_one (ps_ret (pe_lst (pa_cons pe_str (pa_cons (pe_callB (CG.rp ((cxOf CX0 X.prog X.w X.K X.mg X.base ["_law_act", "_law_e", "_law_found"] "_law_caught" (defScope s_law_caught) g cdg X.A X.stack s H E0).tr pn xe) rfl rfl rfl rfl rfl hgS (hr.mono hk)) (by rfl) T.repr (by decide +kernel) (pa_cons (hact W pn xe Ech _ _ tk) pa_nil)) pa_nil))))).run pins s' σ H' D I ⟨h1, h2, h3, h4⟩
  · refine ⟨cgtX X.K c Q, rfl, hc, fun cls d H1 hE => ?_, hT⟩
    obtain ⟨C, j, as, dx, v, e, rfl, ec, rfl, hd, hq, q1, q2, q3, kf⟩ := hE
    refine ⟨ec.any, fun a na oe hz hf => ?_⟩
    obtain ⟨b, row, eb⟩ := ec.row
    have px : Px (a, oe) C H1 := ⟨hz.1, hf, .inr ⟨dx, _, hz.2.1, hd⟩⟩
    obtain ⟨rest, rfl⟩ : ∃ rest, as = (j : Int) :: rest := by
      have h0 := ec.hd
      cases as with
      | nil => cases h0
      | cons x r =>
        cases h0
        exact ⟨r, rfl⟩
    have lr : rest.length + 1 ≤ 10 := ec.tl
    refine ⟨_, rfl, C, b, rfl, ec.xc, px, row, fun H2 l s2 nl hl => ?_⟩
    rw [eb, List.map_cons] at hl
    have hd2 := s2 _ _ hd
    have hq2 := hq.same s2
    have no := ec.no
    have fin : ∀ {H3 : Hp} {p : Addr} {R : Addr → Hp → Prop}, H3 p = none → Same H1 H3 → H3 l = some (.lst (V.int (j : Int) :: List.map V.int rest)) → (∀ H4 q, Same H3 H4 → H4 q = some (.lst ((V.int (j : Int) :: List.map V.int rest) ++ [V.str e.shown])) → R q H4) →
        ∃ (l1 l2 : Addr) (xs ys : List V), V.ref l = .ref l1 ∧ V.ref p = .ref l2 ∧ (upd H3 p (.lst [V.str e.shown])) l1 = some (.lst xs) ∧ (upd H3 p (.lst [V.str e.shown])) l2 = some (.lst ys) ∧ xs.length + ys.length ≤ sizeLine ∧ ∀ q, (upd H3 p (.lst [V.str e.shown])) q = none → R q (upd (upd H3 p (.lst [V.str e.shown])) q (.lst (xs ++ ys))) := fun {H3 p R} np s3 hl3 kk =>
      ⟨l, p, _, _, rfl, rfl, new_upd np _ _ hl3, upd_same, (by
        rw [List.length_cons, List.length_map, List.length_singleton]
        exact Nat.le_of_lt (small1000 (by omega))), fun q nq => kk _ q ((new_upd np).trans (new_upd nq)) upd_same⟩
    have at0 : ∀ {xs : List V}, atI (V.int (j : Int) :: xs) 0 = some (V.int (j : Int)) := fun {xs} => atI_nat (j := 0) rfl
    have given : (j < 9 ∨ j = 13) → fldOf j = Str.ofString "given" := fun z => if_pos z
    have doneG : (j < 9 ∨ j = 13) → ∀ {nx : L2.St → Hp → Prop}, True := fun _ _ => trivial
    refine ⟨_, rfl, l, _, _, _, rfl, rfl, SqL.of hl, at0, _, _, rfl, rfl, _, rfl, ite2 (fun z => ?_) (fun z => ⟨_, rfl, l, _, _, _, rfl, rfl, SqL.of hl, at0, rfl, _, rfl, ite2 (fun z2 => ?_) (fun z2 => ?_)⟩)⟩
    · have zj : (j : Int) < 9 := of_decide_eq_true z
      have ef := given (.inl (by omega))
      rw [ef] at hd2 no
      refine ⟨_, rfl, _, rfl, C, dx, _, v, rfl, ec.xc, no, hz.1, hf, hz.2.1, hd2, rfl, v, e, rfl, hq2, q1, q2, q3, (by show 1 ≤ sizeLine; decide), fun p np => ?_⟩
      exact fin np s2 hl fun H4 q s4 h4 => kf _ q (s2.trans s4) h4
    · have zj : (j : Int) = 13 := V.int.inj (of_decide_eq_true z2)
      have ef := given (.inr (by omega))
      rw [ef] at hd2 no
      refine ⟨_, rfl, _, rfl, C, dx, _, v, rfl, ec.xc, no, hz.1, hf, hz.2.1, hd2, rfl, v, e, rfl, hq2, q1, q2, q3, (by show 1 ≤ sizeLine; decide), fun p np => ?_⟩
      exact fin np s2 hl fun H4 q s4 h4 => kf _ q (s2.trans s4) h4
    · have y1 : ¬ (j : Int) < 9 := fun y => z (decide_eq_true y)
      have y2 : ¬ (j : Int) = 13 := fun y => z2 (decide_eq_true (congrArg V.int y))
      have nb : ¬ (j < 9 ∨ j = 13) := by omega
      refine ⟨_, rfl, l, _, _, _, rfl, rfl, SqL.of hl, at0, rfl, _, rfl, ite2 (fun z3 => ?_) (fun z3 => ?_)⟩
      · have zj : (j : Int) = 15 := V.int.inj (of_decide_eq_true z3)
        have ef : fldOf j = Str.ofString "most" := by
          unfold fldOf
          rw [if_neg nb, if_pos (by omega)]
        rw [ef] at hd2 no
        refine ⟨_, rfl, _, rfl, C, dx, _, v, rfl, ec.xc, no, hz.1, hf, hz.2.1, hd2, rfl, v, e, rfl, hq2, q1, q2, q3, (by show 1 ≤ sizeLine; decide), fun p np => ?_⟩
        exact fin np s2 hl fun H4 q s4 h4 => kf _ q (s2.trans s4) h4
      · have y3 : ¬ (j : Int) = 15 := fun y => z3 (decide_eq_true (congrArg V.int y))
        have lt := ec.lt
        refine ⟨_, rfl, l, _, _, _, rfl, rfl, SqL.of hl, at0, _, _, rfl, rfl, _, rfl, ite2 (fun z4 => ?_) (fun z4 => absurd (decide_eq_true (show (j : Int) < 17 by omega)) z4)⟩
        have ef : fldOf j = Str.ofString "index" := by
          unfold fldOf
          rw [if_neg nb, if_neg (by omega)]
        rw [ef] at hd2 no
        refine ⟨_, rfl, _, rfl, C, dx, _, v, rfl, ec.xc, no, hz.1, hf, hz.2.1, hd2, rfl, v, e, rfl, hq2, q1, q2, q3, (by show 1 ≤ sizeLine; decide), fun p np => ?_⟩
        exact fin np s2 hl fun H4 q s4 h4 => kf _ q (s2.trans s4) h4
/-- _law_caught(lambda: body) -/
theorem pe_cgt {k : Nat} {T : List (Addr × Str)} {cA PA : Addr} {params : Arguments} {body : Expr} {scope : Scope} {t : XK → TE} {p lpos pos : Pos} (CG : CgtD X.prog X.w X.K X.mg X.base c kr rR) (hgd : X.A.guards = some []) (hk : kr ≤ k + 1) (hk1 : 1 ≤ k)
    (TB : LamX.TabB X.base X.mg cA PA) (hcode : X.env.code = .ref cA) (hmT : (PA, X.env.qual ++ "<lambda>") ∈ T) (hu : ∀ p ∈ T, p.1 = PA → p.2 = X.env.qual ++ "<lambda>") (hr : Room (k + 2) X.A) (hL : LamX.lamSB X.env.scope scope = true)
    (hbody : ∀ (A : Around) (outer : List Env) (s : Shared) (H : Hp) (E : XK) (f c' : Addr), A.guards = some [] → Room k (A.deeper (LamX.lamEnv X scope s.heap.objs.size f c')) → PE (lamN X A outer s H E scope f c') body (t E))
    (hg : Gl X "_law_caught" := by rfl) (hdef : defaultsOf params X.env = ([], []) := by rfl) (hbind : ∀ (q : Str) (cl : List (Str × Addr)) (pm cv ctv : Value), bindArgs (PySem.W.kla_fn "<lambda>" q params body scope cl pm cv ctv) ⟨[], []⟩ = pure [] := by intros; rfl) :
    PE X (.Call (.Name "_law_caught" p) [.Lambda params body scope lpos] [] pos) (LamX.tLam T (TTg X.K c rR) t) := by
  obtain ⟨g, fd, F, hm⟩ := CG.ex
  obtain ⟨oc, od, kV, doc, pm, an, cdv, ct, osl, rfl, lk, hcd⟩ := F.ex
  have b := F.binds (ps := ["_law_act"]) fun _ _ _ _ _ _ us hl => match us, hl with | [_], _ => rfl
  exact pe_lamN hg hm F.kp lk hcd b sc_law_caught rfl (.inl rfl) (caught_gives CG hgd hk hk1) TB hcode hmT hu hr (LamX.lamS_by hL) hdef hbind (fun A outer s H E f c' hA hr2 => hbody A outer s H E f c' (hA.trans hgd) hr2)
end
end RL

set_option maxHeartbeats 2000000
namespace RL
open PySem L2 PySem.Spec PyProof.Rows
/-- the base's __init__ as its callers read it -/
structure Bi (P : Program) (w : World) (K : PySem.W.Frag) (mg : Str → Option Value) (base : Heap) (x : Str) : Prop where
  ex : ∃ (C g : Addr) (mc : Value) (fd : FuncData), mg x = some (.ref C) ∧ ClX.CRead K C mc ∧ PySem.W.findCls K (.ref C) mc "__init__" = some (.val (.ref g)) ∧ PySem.W.keepIn K (.ref g) = true ∧ FnOk P w K mg base CX0 1 g fd ["self"] spN ∧ Binds K fd ["self"] []
def cF (cs : List Addr) (i : Nat) : Addr := cs.getD i 0
def up (i : Nat) : Nat := if i < 13 then 0 else if i < 15 then 1 else if i < 19 then 2 else i - 19
/-- class i is, of the classes asked, the j-th one -/
def tb (i j : Nat) : Bool := (j == i) || (j == 19 + up i) || (j == 22 + up i)
def rowB (K : PySem.W.Frag) (cs : List Addr) (i : Nat) : Bool := (List.range 25).all fun j => decide (PySem.W.kitOne K (.ref (cF cs i)) (tv (cF cs) j) = some (tb i j))
theorem rowB_ok {K : PySem.W.Frag} {cs : List Addr} {i : Nat} (h : rowB K cs i = true) : IsRow K (cF cs) (cF cs i) (tb i) := fun j hj => of_decide_eq_true (List.all_eq_true.mp h j (List.mem_range.mpr hj))
theorem tabs2 {H : Hp} {cs : List (Addr × Addr)} {qs : List Str} (h : ∀ p ∈ cs, H p.2 = some (.tbl #[])) : LamX.Tabs ((cs.map (·.2)).zip qs) H := fun p hp => by
  obtain ⟨q, hq, e⟩ := List.mem_map.mp (List.of_mem_zip hp).1
  exact LamX.TabS.nil (by rw [← e]; exact h q hq)
section
variable {P : Program} {w : World} {K : PySem.W.Frag} {mg : Str → Option Value} {base : Heap}
abbrev s_WrongValue_init : Stmt := inClass (top 15) 0
theorem sc_WrongValue_init : FnScope ["self"] ["self"] (defScope s_WrongValue_init) := ⟨rfl, rfl, rfl, by decide +kernel, rfl, by decide +kernel, by decide +kernel⟩

theorem ok_WrongValue_init {f : Addr} {fd : FuncData} (F : Fun K "__init__" "WrongValue.__init__" s_WrongValue_init f fd) : FnOk P w K mg base CX0 1 f fd ["self"] spN := by
  refine F.ok sc_WrongValue_init (fun vs H Q E h => ?_) (fun cdv A outer s H vs Q E hr h => ?_)
  · obtain ⟨v, rfl, _⟩ := h
    rfl
  · obtain ⟨v, rfl, k⟩ := h
    exact ⟨_, (pss_one ps_pass), k⟩
abbrev s_InvalidResistance_init : Stmt := inClass (top 18) 0
theorem sc_InvalidResistance_init : FnScope ["self", "given"] ["self", "given"] (defScope s_InvalidResistance_init) := ⟨rfl, rfl, rfl, by decide +kernel, rfl, by decide +kernel, by decide +kernel⟩

theorem ok_InvalidResistance_init {f : Addr} {fd : FuncData} (F : Fun K "__init__" "InvalidResistance.__init__" s_InvalidResistance_init f fd) (B : Bi P w K mg base "WrongValue") : FnOk P w K mg base CX0 2 f fd ["self", "given"] (spI K "given") := by
  obtain ⟨Cb, gb, mc, fdb, gC, rd, hf, kp, Fb, hb⟩ := B.ex
  refine F.ok sc_InvalidResistance_init (fun vs H Q E h => ?_) (fun cdv A outer s H vs Q E hr h => ?_)
  · obtain ⟨a, C, y, rfl, _⟩ := h
    rfl
  · obtain ⟨a, C, y, rfl, xc, hno, ha, k⟩ := h
    refine ⟨_, (pss_cons (ps_expr (pe_xbase gC (by rfl) rd hf kp Fb (hr.mono (by decide)) hb (pa_cons (pv 0) pa_nil)))
      (pss_one (ps_xst (pv 0) (pv 1)))), ?_⟩
    exact ⟨_, rfl, _, rfl, _, rfl, _, rfl, a, C, rfl, xc, hno, ha, fun dx nd ne => k dx nd ne⟩
theorem ec_2 {cs : List Addr} (x : XC K (cF cs 2)) (r : rowB K cs 2 = true) (any : PySem.W.exmAny K (.ref (cF cs 2)) [.ref (cF cs 19), .ref (cF cs 20), .ref (cF cs 21)] = some true) (no : PySem.W.findIn K (.ref (cF cs 2)) "given" = some none) : EC K (cF cs) (cF cs 2) 2 [2, 20, 23] :=
  ⟨x, ⟨tb 2, rowB_ok r, by decide +kernel⟩, any, rfl, by decide, (by rw [show fldOf 2 = ("given" : Str) from by decide +kernel]; exact no), by decide⟩
abbrev s_InvalidNumber_init : Stmt := inClass (top 20) 0
theorem sc_InvalidNumber_init : FnScope ["self", "given"] ["self", "given"] (defScope s_InvalidNumber_init) := ⟨rfl, rfl, rfl, by decide +kernel, rfl, by decide +kernel, by decide +kernel⟩

theorem ok_InvalidNumber_init {f : Addr} {fd : FuncData} (F : Fun K "__init__" "InvalidNumber.__init__" s_InvalidNumber_init f fd) (B : Bi P w K mg base "WrongValue") : FnOk P w K mg base CX0 2 f fd ["self", "given"] (spI K "given") := by
  obtain ⟨Cb, gb, mc, fdb, gC, rd, hf, kp, Fb, hb⟩ := B.ex
  refine F.ok sc_InvalidNumber_init (fun vs H Q E h => ?_) (fun cdv A outer s H vs Q E hr h => ?_)
  · obtain ⟨a, C, y, rfl, _⟩ := h
    rfl
  · obtain ⟨a, C, y, rfl, xc, hno, ha, k⟩ := h
    refine ⟨_, (pss_cons (ps_expr (pe_xbase gC (by rfl) rd hf kp Fb (hr.mono (by decide)) hb (pa_cons (pv 0) pa_nil)))
      (pss_one (ps_xst (pv 0) (pv 1)))), ?_⟩
    exact ⟨_, rfl, _, rfl, _, rfl, _, rfl, a, C, rfl, xc, hno, ha, fun dx nd ne => k dx nd ne⟩
theorem ec_4 {cs : List Addr} (x : XC K (cF cs 4)) (r : rowB K cs 4 = true) (any : PySem.W.exmAny K (.ref (cF cs 4)) [.ref (cF cs 19), .ref (cF cs 20), .ref (cF cs 21)] = some true) (no : PySem.W.findIn K (.ref (cF cs 4)) "given" = some none) : EC K (cF cs) (cF cs 4) 4 [4, 20, 23] :=
  ⟨x, ⟨tb 4, rowB_ok r, by decide +kernel⟩, any, rfl, by decide, (by rw [show fldOf 4 = ("given" : Str) from by decide +kernel]; exact no), by decide⟩
end
end RL

set_option maxHeartbeats 1000000
/-! what repr shows of well-formed data is a well-formed text -/
namespace RL
open PySem L2 PySem.Spec PyProof.Rows PySem.Builtin.Str
def Uok (x : Str) : Prop := ∀ c ∈ x.cps.toList, c < 0x110000
theorem Uok.app {x y : Str} (h : Uok x) (k : Uok y) : Uok (x ++ y) := fun c hc => by
  have e : (x ++ y).cps.toList = x.cps.toList ++ y.cps.toList := by
    show (x.cps ++ y.cps).toList = _
    rw [Array.toList_append]
  rw [e] at hc
  exact (List.mem_append.mp hc).elim (h c) (k c)
theorem chr_lt (ch : Char) : ch.toNat < 0x110000 := by
  have h := ch.valid
  have e : ch.toNat = ch.val.toNat := rfl
  rcases h with h | h
  · have h2 : ch.val.toNat < 0xd800 := h
    omega
  · have h2 : ch.val.toNat < 0x110000 := h.2
    omega
theorem Uok.of (s : String) : Uok (Str.ofString s) := fun c hc => by
  rw [PyProof.Rows.signs_ofString] at hc
  obtain ⟨ch, _, rfl⟩ := List.mem_map.mp hc
  exact chr_lt ch
theorem Uok.join {y : Str} (hy : Uok y) : ∀ {l : List Str}, (∀ x ∈ l, Uok x) → Uok (Str.join y l)
  | [], _ => fun c hc => absurd (show c ∈ ([] : List Nat) from hc) (by simp)
  | [x], h => h x List.mem_cons_self
  | x :: z :: l, h => by
    show Uok (x ++ y ++ Str.join y (z :: l))
    exact ((h x List.mem_cons_self).app hy).app (Uok.join hy fun a ha => h a (List.mem_cons_of_mem _ ha))
theorem reprChar_lt {q c : Nat} (hc : c < 0x110000) : ∀ d ∈ reprChar q c, d < 0x110000 := by
  intro d hd
  have hx : ∀ (n : Nat), d ∈ List.replicate (n - ((Nat.toDigits 16 c).map Char.toNat).length) 48 ++ (Nat.toDigits 16 c).map Char.toNat → d < 0x110000 := fun n h => by
    rcases List.mem_append.mp h with h | h
    · rw [List.eq_of_mem_replicate h]
      omega
    · obtain ⟨ch, _, rfl⟩ := List.mem_map.mp h
      exact chr_lt ch
  unfold reprChar at hd
  split at hd
  · simp only [List.mem_cons, List.not_mem_nil, or_false] at hd
    rcases hd with rfl | rfl <;> omega
  split at hd
  · simp only [List.mem_cons, List.not_mem_nil, or_false] at hd
    rcases hd with rfl | rfl <;> omega
  split at hd
  · simp only [List.mem_cons, List.not_mem_nil, or_false] at hd
    rcases hd with rfl | rfl <;> omega
  split at hd
  · simp only [List.mem_cons, List.not_mem_nil, or_false] at hd
    rcases hd with rfl | rfl <;> omega
  split at hd
  · simp only [List.mem_cons, List.not_mem_nil, or_false] at hd
    omega
  have hp : ∀ (u n : Nat), u < 0x110000 → d ∈ [92, u] ++ (List.replicate (n - ((Nat.toDigits 16 c).map Char.toNat).length) 48 ++ (Nat.toDigits 16 c).map Char.toNat) → d < 0x110000 := fun u n hu h => by
    rcases List.mem_append.mp h with h | h
    · simp only [List.mem_cons, List.not_mem_nil, or_false] at h
      rcases h with rfl | rfl <;> omega
    · exact hx n h
  split at hd
  · exact hp _ _ (by omega) hd
  split at hd
  · exact hp _ _ (by omega) hd
  · exact hp _ _ (by omega) hd
theorem uok_repr {x : Str} (h : Uok x) : Uok (reprText x) := by
  have hq : reprQuote x < 0x110000 := by
    unfold reprQuote
    split <;> omega
  have go : ∀ (l : List Nat) (acc : Array Nat), (∀ c ∈ l, c < 0x110000) → (∀ c ∈ acc.toList, c < 0x110000) → ∀ c ∈ (l.foldl (fun out c => out ++ (reprChar (reprQuote x) c).toArray) acc).toList, c < 0x110000 := by
    intro l
    induction l with
    | nil => exact fun acc _ ha => ha
    | cons d r ih =>
      intro acc hl ha
      rw [List.foldl_cons]
      refine ih _ (fun c hc => hl c (List.mem_cons_of_mem _ hc)) fun c hc => ?_
      rw [Array.toList_append] at hc
      rcases List.mem_append.mp hc with hc | hc
      · exact ha c hc
      · exact reprChar_lt (hl d List.mem_cons_self) c (by simpa using hc)
  intro c hc
  unfold reprText at hc
  rw [Array.toList_push] at hc
  rcases List.mem_append.mp hc with hc | hc
  · rw [← Array.foldl_toList] at hc
    exact go _ _ h (fun c hc => by simp only [List.mem_cons, List.not_mem_nil, or_false] at hc; rw [hc]; exact hq) c hc
  · simp only [List.mem_cons, List.not_mem_nil, or_false] at hc
    rw [hc]
    exact hq
theorem uok_from : ∀ (ts : List Str) (k : Nat) (acc : Str), (∀ t ∈ ts, Uok t) → Uok acc → Uok (textFrom k acc ts)
  | [], _, acc, _, ha => ha
  | t :: ts, k, acc, h, ha => by
    show Uok (textFrom (k + 1) (acc ++ (if k > 0 then ", " else "" : String) ++ t) ts)
    exact uok_from ts _ _ (fun u hu => h u (List.mem_cons_of_mem _ hu)) ((ha.app (Uok.of _)).app (h t List.mem_cons_self))
mutual
theorem uok_shown : ∀ d : PyData, d.canLay0 = true → d.hasDict = false → Uok d.shown
  | .none, _, _ => by simp only [PyData.shown]; exact Uok.of _
  | .bool b, _, _ => by simp only [PyData.shown]; split <;> exact Uok.of _
  | .int i, _, _ => by simp only [PyData.shown]; exact Uok.of _
  | .str x, h, _ => by
    simp only [PyData.shown]
    refine uok_repr fun c hc => ?_
    simp only [PyData.canLay0, PyData.strOk, Array.all_eq_true', decide_eq_true_eq] at h
    exact h c (by simpa using hc)
  | .list ds, h, k => by
    simp only [PyData.shown]
    simp only [PyData.canLay0] at h
    simp only [PyData.hasDict] at k
    exact (uok_from _ 0 _ (uok_shownAll ds h k) (Uok.of _)).app (Uok.of _)
  | .tuple ds, h, k => by
    simp only [PyData.shown]
    simp only [PyData.canLay0] at h
    simp only [PyData.hasDict] at k
    exact ((Uok.of _).app (Uok.join (Uok.of _) (uok_shownAll ds h k))).app (Uok.of _)
  | .dict kvs, _, k => by simp [PyData.hasDict] at k
theorem uok_shownAll : ∀ ds : List PyData, PyData.canLayAll0 ds = true → PyData.hasDictAll ds = false → ∀ t ∈ PyData.shownAll ds, Uok t
  | [], _, _ => fun t ht => by simp [PyData.shownAll] at ht
  | d :: ds, h, k => fun t ht => by
    simp only [PyData.canLayAll0, Bool.and_eq_true] at h
    simp only [PyData.hasDictAll, Bool.or_eq_false_iff] at k
    simp only [PyData.shownAll, List.mem_cons] at ht
    rcases ht with rfl | ht
    · exact uok_shown d h.1 k.1
    · exact uok_shownAll ds h.2 k.2 t ht
end
theorem strOk_of {x : Str} (h : Uok x) : PyData.strOk x = true := by
  unfold PyData.strOk
  rw [Array.all_eq_true']
  exact fun c hc => decide_eq_true (h c (by simpa using hc))
theorem strOk_shown {d : PyData} (h : d.canLay0 = true) (k : d.hasDict = false) : PyData.strOk d.shown = true := strOk_of (uok_shown d h k)
/-- a list of data, by its parts -/
theorem sh_lst {ds : List PyData} (h : PyData.canLayAll0 ds = true) (k : (PyData.list ds).depth ≤ 64) : SeqAt.shaped (.list ds) = true := by
  unfold SeqAt.shaped
  simp only [PyData.canLay0]
  rw [h, decide_eq_true k]
  rfl
end RL

set_option maxHeartbeats 2000000
/-! star parameters of defs that may raise -/
namespace RL
open PySem L2 PySem.Spec PyProof.Rows
theorem cxUpN {P : Program} {w : World} : StX.CXUp (L2N.CX P w) := by
  intro outer s H s2 H2 E e s' un kp ho h
  obtain ⟨a, B, H', cls, d, ea, fl, hok, ub, na, os, ag, he⟩ := h
  have ub' : UB (frs outer) H H' s.heap B s'.heap := by
    constructor
    case keep => exact fun b o q n hb => ub.keep b o (kp b o q) (un.free b o q n (by simp)) hb
    case slot => exact fun b o q hb => ub.slot b o (kp b o q) hb
    case free => exact fun b o q n => ub.free b o (kp b o q) (un.free b o q n (by simp))
    case there => exact fun b o q hb => ub.there b o (kp b o q) hb
    case tups => exact fun b xs q => ub.tups b xs (un.tups b xs q)
    case frzs => exact fun b o xs q => ub.frzs b o xs (un.frzs b o xs q)
    case tbls =>
      intro b ps q
      obtain ⟨m1, e1⟩ := un.tbls b ps q
      obtain ⟨m2, e2⟩ := ub.tbls b _ e1
      exact ⟨m1 ++ m2, by rw [e2, Array.append_assoc]⟩
  exact ⟨a, B, H', cls, d, ea, fl, hok, ub', na, os.trans ho, ag, he⟩
end RL

set_option maxHeartbeats 2000000
namespace RL
open PySem L2 PySem.Spec PyProof.Rows
/-! the checks of values, of any data -/
theorem dpAll_len {K : PySem.W.Frag} {H : Hp} : ∀ {ys : List V} {ds : List PyData}, DpAll K H ys ds → ys.length = ds.length
  | [], _, h => by cases h; rfl
  | _ :: _, _, h => by
    cases h with
    | cons a b => rw [List.length_cons, List.length_cons, dpAll_len b]
/-- what is a resistance -/
def resOf : PyData → PyData → Bool
  | .int a, .int b => decide (a = 1 ∧ b = 0) || (decide (0 ≤ a) && decide (a ≤ 1000000000000) && (decide (1 ≤ b) && decide (b ≤ 1000000000000)))
  | _, _ => false
def resG : PyData → Bool
  | .int i => decide (0 ≤ i) && decide (i ≤ 1000000000000)
  | .tuple [a, b] => resOf a b
  | _ => false
theorem eqv_open (a b : Int) : PyData.eqv (.tuple [.int a, .int b]) (.tuple [.int 1, .int 0]) = decide (a = 1 ∧ b = 0) := by
  rw [Bool.eq_iff_iff]
  simp [PyData.eqv, PyData.eqvAll]
def spIntG (K : PySem.W.Frag) : Sp := fun vs H Q _ => ∃ (v : V) (d : PyData), vs = [v] ∧ Dq K H v d ∧ Q (.bl (isIntD d)) H
def spWithinG (K : PySem.W.Frag) : Sp := fun vs H Q _ => ∃ (v : V) (d : PyData) (lo hi : Int), vs = [v, .int lo, .int hi] ∧ Dq K H v d ∧ Q (.bl (withinD d lo hi)) H
def spPairG (K : PySem.W.Frag) : Sp := fun vs H Q _ => ∃ (v : V) (d : PyData), vs = [v] ∧ Dq K H v d ∧ Q (.bl (pairD d)) H
def spResG (K : PySem.W.Frag) : Sp := fun vs H Q _ => ∃ (v : V) (d : PyData), vs = [v] ∧ Dq K H v d ∧ Q (.bl (resG d)) H
section
variable {P : Program} {w : World} {K : PySem.W.Frag} {mg : Str → Option Value} {base : Heap} {tG : Tok} {aO : Addr}
theorem ok_isintG {f : Addr} {fd : FuncData} (F : Fun K "is_integer" "is_integer" s_is_integer f fd) (T : Txt K mg) : FnOk P w K mg base CX0 1 f fd ["value"] (spIntG K) := by
  refine F.ok sc_is_integer (fun vs H Q E h => ?_) (fun cdv A outer s H vs Q E hr h => ?_)
  · obtain ⟨v, d, rfl, _⟩ := h
    rfl
  · obtain ⟨v, d, rfl, hd, k⟩ := h
    refine ⟨_, (pss_one (ps_ret (pe_and (pe_callB call_isi (by rfl) T.isinstance (by decide +kernel) (pa_cons (pv 0) (pa_cons (pe_bltn (v := .ty "int") (by rfl) T.int_ (by decide +kernel) rfl) pa_nil))) (pe_one (pe_not (pe_callB call_isi (by rfl) T.isinstance (by decide +kernel) (pa_cons (pv 0) (pa_cons (pe_bltn (v := .ty "bool") (by rfl) T.bool_ (by decide +kernel) rfl) pa_nil)))))))), ?_⟩
    refine ⟨_, rfl, _, _, _, _, intOrBool d, rfl, .ty _, ty_dq hd, kit_int d, _, rfl, ?_⟩
    cases h1 : intOrBool d with
    | true =>
      refine iteT ⟨_, rfl, _, _, _, _, isBoolD d, rfl, .ty _, ty_dq hd, kit_bool d, _, rfl, ?_⟩
      have e : isIntD d = !isBoolD d := by cases d <;> first | rfl | exact absurd h1 (by simp [intOrBool])
      rw [← e]
      exact k
    | false =>
      have e : isIntD d = false := by cases d <;> first | rfl | exact absurd h1 (by simp [intOrBool])
      rw [e] at k
      exact iteF k
theorem ok_withinG {f : Addr} {fd : FuncData} (F : Fun K "is_integer_within" "is_integer_within" s_is_integer_within f fd) (D_is_integer : Df P w K mg base 1 "is_integer" ["value"] (spIntG K)) : FnOk P w K mg base CX0 2 f fd ["value", "least", "most"] (spWithinG K) := by
  refine F.ok sc_is_integer_within (fun vs H Q E h => ?_) (fun cdv A outer s H vs Q E hr h => ?_)
  · obtain ⟨v, d, lo, hi, rfl, _⟩ := h
    rfl
  · obtain ⟨v, d, lo, hi, rfl, hd, k⟩ := h
    refine ⟨_, (pss_one (ps_ret (pe_and (pe_df D_is_integer (hr.mono (by decide)) (by rfl) (pa_cons (pv 0) pa_nil)) (pe_one (pe_chain op_le op_le (pv 1) (pv 0) (pv 2)))))), ?_⟩
    refine ⟨_, rfl, v, d, rfl, hd, _, rfl, ?_⟩
    cases h1 : isIntD d with
    | false =>
      have e : withinD d lo hi = false := by cases d <;> first | rfl | exact absurd h1 (by simp [isIntD])
      rw [e] at k
      exact iteF k
    | true =>
      obtain ⟨i, rfl⟩ : ∃ i, d = .int i := by cases d <;> first | exact ⟨_, rfl⟩ | exact absurd h1 (by simp [isIntD])
      have ev : v = .int i := by
        cases hd with
        | dp a b => cases a with
          | int i => rfl
      subst ev
      refine iteT ⟨_, rfl, _, rfl, _, _, rfl, rfl, _, rfl, ite2 (fun e1 => ?_) (fun e1 => ?_)⟩
      · refine ⟨_, rfl, _, _, rfl, rfl, ?_⟩
        have e : withinD (.int i) lo hi = decide (i ≤ hi) := by
          simp only [withinD]
          rw [e1]
          rfl
        rw [e] at k
        exact k
      · have e : withinD (.int i) lo hi = false := by
          simp only [withinD]
          rw [show decide (lo ≤ i) = false from Bool.eq_false_iff.mpr e1]
          rfl
        rw [e] at k
        exact k
theorem ok_ispairG {f : Addr} {fd : FuncData} (F : Fun K "is_pair_of_integers" "is_pair_of_integers" s_is_pair_of_integers f fd) (T : Txt K mg) (D_is_integer : Df P w K mg base 1 "is_integer" ["value"] (spIntG K)) : FnOk P w K mg base CX0 2 f fd ["value"] (spPairG K) := by
  refine F.ok sc_is_pair_of_integers (fun vs H Q E h => ?_) (fun cdv A outer s H vs Q E hr h => ?_)
  · obtain ⟨v, d, rfl, _⟩ := h
    rfl
  · obtain ⟨v, d, rfl, hd, k⟩ := h
    refine ⟨_, (pss_one (ps_ret (pe_and (pe_callB call_isi (by rfl) T.isinstance (by decide +kernel) (pa_cons (pv 0) (pa_cons (pe_bltn (v := .ty "tuple") (by rfl) T.tuple_ (by decide +kernel) rfl) pa_nil))) (pe_and (pe_cmpR op_eq (pe_callB call_len_seq (by rfl) T.len (by decide +kernel) (pa_cons (pv 0) pa_nil)) pe_int (nomark _)) (pe_and (pe_df D_is_integer (hr.mono (by decide)) (by rfl) (pa_cons (pe_ix ix_tup (pv 0) pe_int (fun _ _ => rfl)) pa_nil)) (pe_one (pe_df D_is_integer (hr.mono (by decide)) (by rfl) (pa_cons (pe_ix ix_tup (pv 0) pe_int (fun _ _ => rfl)) pa_nil)))))))), ?_⟩
    refine ⟨_, rfl, _, _, _, _, isTupD d, rfl, .ty _, ty_dq hd, kit_tup d, _, rfl, ?_⟩
    cases h1 : isTupD d with
    | false =>
      have e : pairD d = false := by cases d <;> first | rfl | exact absurd h1 (by simp [isTupD])
      rw [e] at k
      exact iteF k
    | true =>
      obtain ⟨ds, rfl⟩ : ∃ ds, d = .tuple ds := by cases d <;> first | exact ⟨_, rfl⟩ | exact absurd h1 (by simp [isTupD])
      obtain ⟨t, ys, rfl, hs, hall, hnd⟩ : ∃ t ys, v = .ref t ∧ SqT K H t ys ∧ DpAll K H ys ds ∧ (PyData.tuple ds).hasDict = false := by
        cases hd with
        | dp a b => cases a with
          | tup h1 h2 => exact ⟨_, _, rfl, h1, h2, b⟩
      have el := dpAll_len hall
      refine iteT ⟨_, rfl, t, _, rfl, .inr hs, rfl, _, rfl, ?_⟩
      cases h2 : decide (V.int (ys.length : Int) = V.int 2) with
      | false =>
        have nl : ds.length ≠ 2 := fun z => by
          rw [el, z] at h2
          exact absurd h2 (by decide)
        have e : pairD (.tuple ds) = false := by
          match ds, nl with
          | [], _ => rfl
          | [_], _ => rfl
          | [_, _], n => exact absurd rfl n
          | _ :: _ :: _ :: _, _ => rfl
        rw [e] at k
        exact iteF k
      | true =>
        have l2 : ds.length = 2 := by
          have := V.int.inj (of_decide_eq_true h2)
          omega
        match ds, l2, hall, k, hnd with
        | [e, o], _, hall, k, hnd =>
        obtain ⟨y1, y2, rfl, d1, d2⟩ : ∃ y1 y2, ys = [y1, y2] ∧ Dp K H y1 e ∧ Dp K H y2 o := by
          cases hall with
          | cons a b => cases b with
            | cons b c => cases c with
              | nil => exact ⟨_, _, rfl, a, b⟩
        have nd : e.hasDict = false ∧ o.hasDict = false := by simpa [PyData.hasDict, PyData.hasDictAll] using hnd
        have q : pairD (.tuple [e, o]) = (isIntD e && isIntD o) := rfl
        rw [q] at k
        refine iteT ⟨_, rfl, t, _, _, _, rfl, rfl, hs, atI_nat (j := 0) rfl, y1, e, rfl, .dp d1 nd.1, _, rfl, ?_⟩
        cases h3 : isIntD e with
        | false =>
          rw [h3] at k
          exact iteF k
        | true =>
          rw [h3] at k
          exact iteT ⟨_, rfl, t, _, _, _, rfl, rfl, hs, atI_nat (j := 1) rfl, y2, o, rfl, .dp d2 nd.2, k⟩
theorem ok_isresG {f : Addr} {fd : FuncData} (F : Fun K "is_resistance" "is_resistance" s_is_resistance f fd) (T : Txt2 K mg tG aO) (D_is_integer : Df P w K mg base 1 "is_integer" ["value"] (spIntG K)) (D_is_pair_of_integers : Df P w K mg base 2 "is_pair_of_integers" ["value"] (spPairG K)) : FnOk P w K mg base CX0 3 f fd ["value"] (spResG K) := by
  refine F.ok sc_is_resistance (fun vs H Q E h => ?_) (fun cdv A outer s H vs Q E hr h => ?_)
  · obtain ⟨v, d, rfl, _⟩ := h
    rfl
  · obtain ⟨v, d, rfl, hd, k⟩ := h
    refine ⟨_, (pss_cons (ps_if (pt_val (pe_df D_is_integer (hr.mono (by decide)) (by rfl) (pa_cons (pv 0) pa_nil))) (pss_one (ps_ret (pe_chain op_le op_le pe_int (pv 0) (pe_glob (v := .int 1000000000000) rfl T.mgG ⟨_, rfl⟩)))) pss_nil)
      (pss_cons (ps_if (pt_not (pt_val (pe_df D_is_pair_of_integers (hr.mono (by decide)) (by rfl) (pa_cons (pv 0) pa_nil)))) (pss_one (ps_ret pe_bl)) pss_nil)
      (pss_cons (ps_asg (pv 0) (pg_tup rfl (pgs_cons (pg_name (i := 1) sc_is_resistance.nd rfl (.inl rfl)) (pgs_cons (pg_name (i := 2) sc_is_resistance.nd rfl (.inl rfl)) pgs_nil))))
      (pss_one (ps_ret (pe_or (pe_cmpR (op_eqD hr.units) (pv 0) (pe_glob (v := .ref aO) rfl T.mgO rfl) (nomark _)) (pe_one (pe_and (pe_chain op_le op_le pe_int (pv 1) (pe_glob (v := .int 1000000000000) rfl T.mgG ⟨_, rfl⟩)) (pe_one (pe_chain op_le op_le pe_int (pv 2) (pe_glob (v := .int 1000000000000) rfl T.mgG ⟨_, rfl⟩))))))))))), ?_⟩
    refine ⟨_, rfl, v, d, rfl, hd, _, rfl, ?_⟩
    cases h1 : isIntD d with
    | true =>
      obtain ⟨i, rfl⟩ : ∃ i, d = .int i := by cases d <;> first | exact ⟨_, rfl⟩ | exact absurd h1 (by simp [isIntD])
      have ev : v = .int i := by
        cases hd with
        | dp a b => cases a with
          | int i => rfl
      subst ev
      have q : resG (.int i) = (decide (0 ≤ i) && decide (i ≤ 1000000000000)) := rfl
      rw [q] at k
      refine iteT ⟨_, rfl, _, _, rfl, rfl, _, rfl, ite2 (fun e => ?_) (fun e => ?_)⟩
      · rw [show decide (0 ≤ i) = true from e] at k
        exact ⟨_, _, rfl, rfl, k⟩
      · rw [show decide (0 ≤ i) = false from Bool.eq_false_iff.mpr e] at k
        exact k
    | false =>
      refine iteF ⟨_, rfl, v, d, rfl, hd, _, rfl, ?_⟩
      cases h2 : pairD d with
      | false =>
        have q : resG d = false := by
          cases d with
          | tuple ds =>
            match ds, h2 with
            | [], _ => rfl
            | [_], _ => rfl
            | [a, b], h =>
              have h : (isIntD a && isIntD b) = false := h
              show resOf a b = false
              cases a <;> first | rfl | (cases b <;> first | rfl | exact absurd h (by simp [isIntD]))
            | _ :: _ :: _ :: _, _ => rfl
          | int i => exact absurd h1 (by simp [isIntD])
          | _ => rfl
        rw [q] at k
        exact iteT k
      | true =>
        obtain ⟨a, b, rfl⟩ : ∃ a b, d = .tuple [.int a, .int b] := by
          cases d with
          | tuple ds =>
            match ds, h2 with
            | [a, b], h =>
              have h : (isIntD a && isIntD b) = true := h
              obtain ⟨ha, hb⟩ := (Bool.and_eq_true _ _).mp h
              obtain ⟨a, rfl⟩ : ∃ i, a = .int i := by cases a <;> first | exact ⟨_, rfl⟩ | exact absurd ha (by simp [isIntD])
              obtain ⟨b, rfl⟩ : ∃ i, b = .int i := by cases b <;> first | exact ⟨_, rfl⟩ | exact absurd hb (by simp [isIntD])
              exact ⟨a, b, rfl⟩
          | _ => exact absurd h2 (by simp [pairD])
        obtain ⟨t, y1, y2, rfl, hs, d1, d2⟩ : ∃ t y1 y2, v = .ref t ∧ SqT K H t [y1, y2] ∧ Dp K H y1 (.int a) ∧ Dp K H y2 (.int b) := by
          cases hd with
          | dp a b => cases a with
            | tup h1 h2 => cases h2 with
              | cons a b => cases b with
                | cons b c => cases c with
                  | nil => exact ⟨_, _, _, rfl, h1, a, b⟩
        cases d1
        cases d2
        have q : resG (.tuple [.int a, .int b]) = (decide (a = 1 ∧ b = 0) || (decide (0 ≤ a) && decide (a ≤ 1000000000000) && (decide (1 ≤ b) && decide (b ≤ 1000000000000)))) := rfl
        rw [q, ← eqv_open] at k
        refine iteF ⟨_, rfl, t, _, rfl, hs, rfl, _, _, rfl, _, _, rfl, rfl, ?_⟩
        refine ⟨_, rfl, .tuple [.int a, .int b], .tuple [.int 1, .int 0], .tup hs (.cons (.int _) (.cons (.int _) .nil)), .tup (.inr T.opn) (.cons (.int _) (.cons (.int _) .nil)), rfl, rfl, _, rfl, ?_⟩
        cases he : PyData.eqv (.tuple [.int a, .int b]) (.tuple [.int 1, .int 0]) with
        | true =>
          rw [he] at k
          exact iteT k
        | false =>
          rw [he] at k
          refine iteF ?_
          refine ⟨_, rfl, _, _, rfl, rfl, _, rfl, ite2 (fun h0 => ⟨_, _, rfl, rfl, _, rfl, ite2 (fun h1 => ?_) (fun h1 => ?_)⟩) (fun h0 => ⟨false, rfl, iteF ?_⟩)⟩
          · rw [show decide (0 ≤ a) = true from h0, show decide (a ≤ 1000000000000) = true from h1] at k
            refine ⟨_, rfl, _, _, rfl, rfl, _, rfl, ite2 (fun h2 => ⟨_, _, rfl, rfl, ?_⟩) (fun h2 => ?_)⟩
            · rw [show decide (1 ≤ b) = true from h2] at k
              exact k
            · rw [show decide (1 ≤ b) = false from Bool.eq_false_iff.mpr h2] at k
              exact k
          · rw [show decide (0 ≤ a) = true from h0, show decide (a ≤ 1000000000000) = false from Bool.eq_false_iff.mpr h1] at k
            exact k
          · rw [show decide (0 ≤ a) = false from Bool.eq_false_iff.mpr h0] at k
            exact k
end
end RL

namespace RL
open PySem L2 PySem.Spec PyProof.Rows
/-- an error's class as it is raised (R0 has it too) -/
structure Rz (P : Program) (w : World) (K : PySem.W.Frag) (mg : Str → Option Value) (base : Heap) (c : Nat → Addr) (j : Nat) (f : Str) : Prop where
  m : XM P w K mg base 2 (c j) ["self", f] (spI K f)
  ty : PySem.W.typeIn K (.ref (c j)) = some (.type "type")
  no : PySem.W.findIn K (.ref (c j)) f = some none
end RL

set_option maxHeartbeats 2000000
namespace RL
open PySem L2 PySem.Spec PyProof.Rows
/-! Exact where it may refuse -/
abbrev GP : Int := 10000000000000000000000000000000000000000
/-- which of three things is refused: 0, 1, 2; none of them: 3 -/
inductive Refused : PyData → PyData → PyData → Nat → Prop
  | first {d e f : PyData} : withinD d 0 GP = false → Refused d e f 0
  | line {a : Int} {e f : PyData} : withinD (.int a) 0 GP = true → withinD e (-GP) GP = false → Refused (.int a) e f 1
  | small {b : Int} {f : PyData} : withinD (.int b) (-GP) GP = true → b < 1 → Refused (.int 0) (.int b) f 1
  | whole {a b : Int} {f : PyData} : withinD (.int a) 0 GP = true → withinD (.int b) (-GP) GP = true → ¬ (a = 0 ∧ b < 1) → withinD f 0 GP = false → Refused (.int a) (.int b) f 2
  | zero {a b : Int} : withinD (.int a) 0 GP = true → withinD (.int b) (-GP) GP = true → a ≠ 0 → Refused (.int a) (.int b) (.int 0) 2
theorem dq_int {K : PySem.W.Frag} {H : Hp} {v : V} {i : Int} (h : Dq K H v (.int i)) : v = .int i := by
  cases h with
  | dp a b => cases a with
    | int i => rfl
def spInitB (K : PySem.W.Frag) (C CN : Addr) : Sp := fun vs H Q E => ∃ (x dx : Addr) (v1 v2 v3 : V) (d1 d2 d3 : PyData), vs = [.ref x, v1, v2, v3] ∧ Dq K H v1 d1 ∧ Dq K H v2 d2 ∧ Dq K H v3 d3 ∧ H x = some (.ins C dx []) ∧
  ((∃ (n : Nat) (y : V), Refused d1 d2 d3 n ∧ [v1, v2, v3][n]? = some y ∧ ∀ H' d, Same H H' → H' d = some (.xd [(Str.ofString "given", y)]) → E (.ref CN) (some d) H') ∨
   (∃ a b c : Int, v1 = .int a ∧ v2 = .int b ∧ v3 = .int c ∧ Big a b c ∧ ∀ H' : Hp, But x H H' → ExAt C H' x (parts a b c).1 (parts a b c).2.1 (parts a b c).2.2 → Q .non H'))
def spCmpN (K : PySem.W.Frag) (CR : Addr) : Sp := fun vs H _ E => ∃ (x : Addr) (v : V) (d : PyData), vs = [.ref x, v] ∧ Dq K H v d ∧ resG d = false ∧ ∀ H' dd, Same H H' → H' dd = some (.xd [(Str.ofString "given", v)]) → E (.ref CR) (some dd) H'
def spFloN (K : PySem.W.Frag) (CN : Addr) : Sp := fun vs H _ E => ∃ (x : Addr) (v : V) (d : PyData), vs = [.ref x, v] ∧ Dq K H v d ∧ withinD d 1 GP = false ∧ ∀ H' dd, Same H H' → H' dd = some (.xd [(Str.ofString "given", v)]) → E (.ref CN) (some dd) H'
section
variable {P : Program} {w : World} {K : PySem.W.Frag} {mg : Str → Option Value} {base : Heap} {tG t1 t2 t3 tP tC : Tok} {aO aW J C Ce Cl : Addr} {c : Nat → Addr}
theorem ok_initB {f : Addr} {fd : FuncData} (F : Fun K "__init__" "Exact.__init__" s_Exact_init f fd) (T : Txt4 K mg tG t1 t2 t3 tP tC aO aW J C Ce Cl) (TE : TxE mg c) (RZ4 : Rz P w K mg base c 4 "given") (D_is_integer_within : Df P w K mg base 2 "is_integer_within" ["value", "least", "most"] (spWithinG K)) (D_simplest_equation : Df P w K mg base 4 "simplest_equation" ["square", "line", "whole"] spSimp) :
    FnOk P w K mg base (L2N.CX P w) 5 f fd ["self", "square", "line", "whole"] (spInitB K Ce (c 4)) := by
  refine okN F sc_Exact_init (fun vs H Q E h => ?_) (fun cdv A outer s H vs Q E hr h => ?_)
  · obtain ⟨x, dx, v1, v2, v3, d1, d2, d3, rfl, _⟩ := h
    rfl
  · obtain ⟨x, dx, v1, v2, v3, d1, d2, d3, rfl, h1, h2, h3, hx, h⟩ := h
    refine ⟨_, (pss_cons (ps_if (pt_not (pt_val (pe_df D_is_integer_within (hr.mono (by decide)) (by rfl) (pa_cons (pv 1) (pa_cons pe_int (pa_cons (pe_glob (v := .int 10000000000000000000000000000000000000000) rfl T.mgP ⟨_, rfl⟩) pa_nil)))))) (pss_one (ps_raiseX RZ4.m RZ4.ty RZ4.no (hr.mono (by decide)) (by rfl) TE.m4 (pv 1) rfl (L2N.takes_of rfl rfl rfl rfl))) pss_nil)
      (pss_cons (ps_if (PW.pt (pw_or (pt_not (pt_val (pe_df D_is_integer_within (hr.mono (by decide)) (by rfl) (pa_cons (pv 2) (pa_cons (pe_un un_neg (pe_glob (v := .int 10000000000000000000000000000000000000000) rfl T.mgP ⟨_, rfl⟩)) (pa_cons (pe_glob (v := .int 10000000000000000000000000000000000000000) rfl T.mgP ⟨_, rfl⟩) pa_nil)))))) (pw_or1 (PW.pt (pw_and (pt_cmpR op_eq (pv 1) pe_int (nomark _)) (pw_and1 (pt_cmpR op_lt (pv 2) pe_int (nomark _)))))))) (pss_one (ps_raiseX RZ4.m RZ4.ty RZ4.no (hr.mono (by decide)) (by rfl) TE.m4 (pv 2) rfl (L2N.takes_of rfl rfl rfl rfl))) pss_nil)
      (pss_cons (ps_if (PW.pt (pw_or (pt_not (pt_val (pe_df D_is_integer_within (hr.mono (by decide)) (by rfl) (pa_cons (pv 3) (pa_cons pe_int (pa_cons (pe_glob (v := .int 10000000000000000000000000000000000000000) rfl T.mgP ⟨_, rfl⟩) pa_nil)))))) (pw_or1 (PW.pt (pw_and (pt_cmpR op_ne (pv 1) pe_int (nomark _)) (pw_and1 (pt_cmpR op_eq (pv 3) pe_int (nomark _)))))))) (pss_one (ps_raiseX RZ4.m RZ4.ty RZ4.no (hr.mono (by decide)) (by rfl) TE.m4 (pv 3) rfl (L2N.takes_of rfl rfl rfl rfl))) pss_nil)
      (pss_one (ps_fld (pv 0) (pe_df D_simplest_equation (hr.mono (by decide)) (by rfl) (pa_cons (pv 1) (pa_cons (pv 2) (pa_cons (pv 3) pa_nil)))) rfl))))), ?_⟩
    rcases h with ⟨n, y, hr, hy, k⟩ | ⟨a, b, c', rfl, rfl, rfl, hB, k⟩
    · cases hr with
      | first e =>
        cases hy
        refine ⟨_, rfl, _, d1, 0, GP, rfl, h1, _, rfl, ?_⟩
        rw [e]
        exact iteT ⟨_, rfl, fun d nd => k _ d (same_upd nd) upd_same⟩
      | @line a _ _ e1 e2 =>
        cases hy
        cases dq_int h1
        refine ⟨_, rfl, _, _, 0, GP, rfl, h1, _, rfl, ?_⟩
        rw [e1]
        refine iteF ⟨_, rfl, _, rfl, _, d2, -GP, GP, rfl, h2, _, rfl, ?_⟩
        rw [e2]
        exact iteT ⟨_, rfl, fun d nd => k _ d (same_upd nd) upd_same⟩
      | @small b _ e1 e2 =>
        cases hy
        cases dq_int h1
        cases dq_int h2
        refine ⟨_, rfl, _, _, 0, GP, rfl, h1, _, rfl, ?_⟩
        rw [show withinD (.int 0) 0 GP = true from by decide +kernel]
        refine iteF ⟨_, rfl, _, rfl, _, _, -GP, GP, rfl, h2, _, rfl, ?_⟩
        rw [e1]
        refine iteF ⟨_, rfl, rfl, _, rfl, ite2 (fun _ => ?_) (fun e => absurd (decide_eq_true rfl) e)⟩
        refine ⟨_, rfl, _, _, rfl, rfl, _, rfl, ite2 (fun _ => ?_) (fun e => absurd (decide_eq_true e2) e)⟩
        exact ⟨_, rfl, fun d nd => k _ d (same_upd nd) upd_same⟩
      | @whole a b _ e1 e2 e3 e4 =>
        cases hy
        cases dq_int h1
        cases dq_int h2
        refine ⟨_, rfl, _, _, 0, GP, rfl, h1, _, rfl, ?_⟩
        rw [e1]
        refine iteF ⟨_, rfl, _, rfl, _, _, -GP, GP, rfl, h2, _, rfl, ?_⟩
        rw [e2]
        refine both (fun rest => iteF ⟨_, rfl, rfl, _, rfl, ite2 (fun e => ⟨_, rfl, _, _, rfl, rfl, _, rfl, ite2 (fun e' => absurd ⟨V.int.inj (of_decide_eq_true e), of_decide_eq_true e'⟩ e3) (fun _ => rest)⟩) (fun _ => iteF rest)⟩) ?_
        refine ⟨_, rfl, _, d3, 0, GP, rfl, h3, _, rfl, ?_⟩
        rw [e4]
        exact iteT ⟨_, rfl, fun d nd => k _ d (same_upd nd) upd_same⟩
      | @zero a b e1 e2 e3 =>
        cases hy
        cases dq_int h1
        cases dq_int h2
        cases dq_int h3
        refine ⟨_, rfl, _, _, 0, GP, rfl, h1, _, rfl, ?_⟩
        rw [e1]
        refine iteF ⟨_, rfl, _, rfl, _, _, -GP, GP, rfl, h2, _, rfl, ?_⟩
        rw [e2]
        refine both (fun rest => iteF ⟨_, rfl, rfl, _, rfl, ite2 (fun e => absurd (V.int.inj (of_decide_eq_true e)) e3) (fun _ => iteF rest)⟩) ?_
        refine ⟨_, rfl, _, _, 0, GP, rfl, h3, _, rfl, ?_⟩
        rw [show withinD (.int 0) 0 GP = true from by decide +kernel]
        refine iteF ⟨_, rfl, rfl, _, rfl, ite2 (fun _ => ?_) (fun e => ?_)⟩
        · refine ⟨_, rfl, rfl, _, rfl, ite2 (fun _ => ?_) (fun e => absurd (decide_eq_true rfl) e)⟩
          exact ⟨_, rfl, fun d nd => k _ d (same_upd nd) upd_same⟩
        · refine absurd ?_ e
          show (!decide (V.int a = V.int 0)) = true
          rw [decide_eq_false (fun z => e3 (V.int.inj z))]
          rfl
    · obtain ⟨sa, sb, sc⟩ := hB.sm
      obtain ⟨g, b1, b2, b3, b4⟩ := hB
      have a0 : 0 ≤ a ∧ 0 ≤ c' := by
        rcases g with g | g <;> omega
      have w1 : withinD (.int a) 0 GP = true := by
        simp only [withinD]
        rw [decide_eq_true a0.1, decide_eq_true b1]
        rfl
      have w2 : withinD (.int b) (-GP) GP = true := by
        simp only [withinD]
        rw [decide_eq_true b2, decide_eq_true b3]
        rfl
      have w3 : withinD (.int c') 0 GP = true := by
        simp only [withinD]
        rw [decide_eq_true a0.2, decide_eq_true b4]
        rfl
      refine ⟨_, rfl, _, .int a, 0, GP, rfl, .dp (.int _) rfl, _, rfl, ?_⟩
      rw [w1]
      refine iteF ⟨_, rfl, _, rfl, _, .int b, -GP, GP, rfl, .dp (.int _) rfl, _, rfl, ?_⟩
      rw [w2]
      refine iteF ?_
      refine both (fun rest => ⟨_, rfl, rfl, _, rfl, ite2 (fun e => ⟨_, rfl, _, _, rfl, rfl, _, rfl, ite2 (fun e2 => ?_) (fun _ => rest)⟩) (fun _ => iteF rest)⟩) ?_
      · have e3 : a = 0 := V.int.inj (of_decide_eq_true e)
        have e4 : b < 1 := of_decide_eq_true e2
        rcases g with g | g <;> omega
      refine ⟨_, rfl, _, .int c', 0, GP, rfl, .dp (.int _) rfl, _, rfl, ?_⟩
      rw [w3]
      refine iteF ?_
      refine both (fun rest => ⟨_, rfl, rfl, _, rfl, ite2 (fun e => ⟨_, rfl, rfl, _, rfl, ite2 (fun e2 => ?_) (fun _ => rest)⟩) (fun _ => iteF rest)⟩) ?_
      · have e3 : ¬ a = 0 := fun z => by
          have e5 : (!decide (V.int a = V.int 0)) = true := e
          rw [decide_eq_true (congrArg V.int z)] at e5
          cases e5
        have e4 : c' = 0 := V.int.inj (of_decide_eq_true e2)
        rcases g with g | g <;> omega
      refine ⟨_, rfl, _, rfl, _, rfl, a, b, c', rfl, g, sa, sb, sc, fun H1 p sm np hp => ?_⟩
      have hx1 := sm _ _ hx
      have nxp : x ≠ p := ne_of hx1 hp (by intro z; cases z)
      refine ⟨_, rfl, x, Ce, dx, _, rfl, hx1, T.clE, T.nP, (by show 0 < 1000; decide), ?_⟩
      refine k _ ((But.of sm).trans But.upd) ⟨dx, p, upd_same, ?_⟩
      rw [upd_ne nxp.symm]
      exact hp
abbrev s_Exact_compare : Stmt := inClass (top 39) 3
theorem sc_Exact_compare : FnScope ["self", "resistance", "top", "bottom"] ["self", "resistance"] (defScope s_Exact_compare) := ⟨rfl, rfl, rfl, by decide +kernel, rfl, by decide +kernel, by decide +kernel⟩

theorem ok_cmpN {f : Addr} {fd : FuncData} (F : Fun K "compare" "Exact.compare" s_Exact_compare f fd) (T : Txt4 K mg tG t1 t2 t3 tP tC aO aW J C Ce Cl) (TE : TxE mg c) (RZ2 : Rz P w K mg base c 2 "given") (D_is_resistance : Df P w K mg base 3 "is_resistance" ["value"] (spResG K)) : FnOk P w K mg base (L2N.CX P w) 4 f fd ["self", "resistance"] (spCmpN K (c 2)) := by
  refine okN F sc_Exact_compare (fun vs H Q E h => ?_) (fun cdv A outer s H vs Q E hr h => ?_)
  · obtain ⟨x, v, d, rfl, _⟩ := h
    rfl
  · obtain ⟨x, v, d, rfl, hd, e, k⟩ := h
    refine ⟨_, (pss_cons (ps_if (pt_not (pt_val (pe_df D_is_resistance (hr.mono (by decide)) (by rfl) (pa_cons (pv 1) pa_nil)))) (pss_one (ps_raiseX RZ2.m RZ2.ty RZ2.no (hr.mono (by decide)) (by rfl) TE.m2 (pv 1) rfl (L2N.takes_of rfl rfl rfl rfl))) pss_nil)
      pss_never), ?_⟩
    refine ⟨_, rfl, _, d, rfl, hd, _, rfl, ?_⟩
    rw [e]
    exact iteT ⟨_, rfl, fun d nd => k _ d (same_upd nd) upd_same⟩
abbrev s_Exact_floor : Stmt := inClass (top 39) 4
theorem sc_Exact_floor : FnScope ["self", "times"] ["self", "times"] (defScope s_Exact_floor) := ⟨rfl, rfl, rfl, by decide +kernel, rfl, by decide +kernel, by decide +kernel⟩

theorem ok_floN {f : Addr} {fd : FuncData} (F : Fun K "floor" "Exact.floor" s_Exact_floor f fd) (T : Txt4 K mg tG t1 t2 t3 tP tC aO aW J C Ce Cl) (TE : TxE mg c) (RZ4 : Rz P w K mg base c 4 "given") (D_is_integer_within : Df P w K mg base 2 "is_integer_within" ["value", "least", "most"] (spWithinG K)) : FnOk P w K mg base (L2N.CX P w) 4 f fd ["self", "times"] (spFloN K (c 4)) := by
  refine okN F sc_Exact_floor (fun vs H Q E h => ?_) (fun cdv A outer s H vs Q E hr h => ?_)
  · obtain ⟨x, v, d, rfl, _⟩ := h
    rfl
  · obtain ⟨x, v, d, rfl, hd, e, k⟩ := h
    refine ⟨_, (pss_cons (ps_if (pt_not (pt_val (pe_df D_is_integer_within (hr.mono (by decide)) (by rfl) (pa_cons (pv 1) (pa_cons pe_int (pa_cons (pe_glob (v := .int 10000000000000000000000000000000000000000) rfl T.mgP ⟨_, rfl⟩) pa_nil)))))) (pss_one (ps_raiseX RZ4.m RZ4.ty RZ4.no (hr.mono (by decide)) (by rfl) TE.m4 (pv 1) rfl (L2N.takes_of rfl rfl rfl rfl))) pss_nil)
      pss_never), ?_⟩
    refine ⟨_, rfl, _, d, 1, GP, rfl, hd, _, rfl, ?_⟩
    rw [e]
    exact iteT ⟨_, rfl, fun d nd => k _ d (same_upd nd) upd_same⟩
end
end RL

set_option maxHeartbeats 2000000
/-! methods that may raise: o.m(e), o.m(k = e) -/
namespace RL
open PySem L2 PySem.Spec PyProof.Rows
structure MtN (P : Program) (w : World) (K : PySem.W.Frag) (mg : Str → Option Value) (base : Heap) (C : Addr) (k : Nat) (m p1 kw : Str) (sp : Sp) : Prop where
  ex : ∃ (f : Addr) (fd : FuncData), FnOk P w K mg base (L2N.CX P w) k f fd [p1, kw] sp ∧ Meth K C m f ∧ Binds K fd [p1, kw] [] ∧ (∀ (s : Shared) (u v : Value), K.In s.heap → BindsTo s fd ⟨[u], [(kw, v)]⟩ [(p1, u), (kw, v)])
def tMethKN (C : Addr) (m : Str) (sp : Sp) (E : XK) (ta : TE) (tk : TA) : TE := fun σ H Q => ta σ H fun x H1 => ∃ a dx fs, x = .ref a ∧ H1 a = some (.ins C dx fs) ∧ fs.lookup m = none ∧ tk σ H1 fun zs H2 => sp (.ref a :: zs) H2 Q E
section
variable {X : Cx} {k : Nat} {C : Addr} {sp : Sp} {E : XK} {m p1 kw : Str} {p pos apos kpos : Pos} {e o : Expr} {es : List Expr} {t : TA} {ta te : TE} {tk : TA}
theorem pe_dmN {pl : Sem Bool} (he : PE X o ta) (c : Cls X.K C) (D : MtN X.prog X.w X.K X.mg X.base C k m p1 kw sp) (hr : Room k X.A) (hx : Passes (L2N.CX X.prog X.w) X E) (ha : PA X (e :: es) t)
    (hst : starEach (e :: es) X.env = (false, eval e X.env) :: starEach es X.env := by rfl) (hpl : (backTo pos (starEach es X.env)).any (·.1) = false := by rfl)
    (ht : eval (.Call (.Attribute o m apos) (e :: es) [] pos) X.env = (do
      let ov ← eval o X.env
      standAt apos.atName
      let (f, first) ← holding [ov] (getMethod ov m pl)
      callWith pos f first (backTo pos (starEach (e :: es) X.env)) (backToKw pos (keywordEach [] X.env))) := by rfl) :
    PE X (.Call (.Attribute o m apos) (e :: es) [] pos) (tMeth C m sp [] E ta t) := by
  obtain ⟨f, fd, F, hm, hb, _⟩ := D.ex
  exact pe_meth (pl := pl) he c hm F hr hb .nil hx ha hst hpl ht
theorem pe_mkN {pl : Sem Bool} (he : PE X o ta) (c : Cls X.K C) (D : MtN X.prog X.w X.K X.mg X.base C k m p1 kw sp) (hr : Room k X.A) (hx : Passes (L2N.CX X.prog X.w) X E) (hkw : PK X [⟨some kw, e, kpos⟩] tk)
    (hall : (backToKw pos (keywordEach [⟨some kw, e, kpos⟩] X.env)).all (·.1.isSome) = true := by rfl) (hks : (backToKw pos (keywordEach [⟨some kw, e, kpos⟩] X.env)).filterMap (·.1) = [kw] := by rfl)
    (hpl : ((backTo pos (starEach [] X.env)).any (·.1) || (backToKw pos (keywordEach [⟨some kw, e, kpos⟩] X.env)).any (·.1.isNone)) = false := by rfl)
    (ht : eval (.Call (.Attribute o m apos) [] [⟨some kw, e, kpos⟩] pos) X.env = (do
      let ov ← eval o X.env
      standAt apos.atName
      let (f, first) ← holding [ov] (getMethod ov m pl)
      callWith pos f first (backTo pos (starEach [] X.env)) (backToKw pos (keywordEach [⟨some kw, e, kpos⟩] X.env))) := by rfl) :
    PE X (.Call (.Attribute o m apos) [] [⟨some kw, e, kpos⟩] pos) (tMethKN C m sp E ta tk) := by
  obtain ⟨f, fd, F, hm, _, hb⟩ := D.ex
  refine ⟨fun pins s σ H Q I h => ?_⟩
  refine PySem.W.methodCall_KW (pl := pl) (thn (he.run pins s σ H _ I h) fun u s1 ⟨x, H1, I1, rx, a, dx, fs, ex, ea, l, q⟩ => ?_) ht
  subst ex
  obtain rfl : u = Value.ref a := rx
  refine getmeth_ok I1 ea c hm l ?_
  refine PySem.W.callWith_KW0 (first := [.ref a]) (h₀ := X.base) I.ok.mod.kin hm.kp hall ?_ hpl
  refine thn (hkw.run pos pins s1 σ H1 _ I1 q) fun ws s2 ⟨zs, H2, I2, rz, q2⟩ => ⟨I2.kIn, ?_⟩
  rw [hks]
  have hl := F.len _ _ _ _ q2
  cases rz with
  | nil => cases hl
  | @cons v u vs us rv rr =>
    cases rr with
    | cons _ _ => cases hl
    | nil =>
      refine wpAny_call (codeAny_mono (F.run X.A X.stack s2 H2 ⟨[.ref a], [(kw, u)]⟩ [.ref a, u] [.ref a, v] Q E hr I2.env0 (hb s2 _ _ I2.kIn) (.cons rfl (.cons rv .nil)) q2) fun r s' hq => ?_)
      cases r with
      | error e => exact hx _ _ _ _ _ _ I2 hq
      | ok fl =>
        cases fl with
        | ret u => exact I2.after hq
        | next => exact False.elim hq
        | brk => exact False.elim hq
        | cont => exact False.elim hq
end
end RL

set_option maxHeartbeats 2000000
/-! The end of a law whose defs make lambdas: the tables of their code objects are tracked; no repr is under way. -/
namespace RL
open PySem L2 PySem.Spec PyProof.Rows
/-- the abstract heap of the start: the script (unless it is written), the tables -/
def startH (a : Addr) (sc : Option HO) (ts : List Addr) : Hp := fun b => if b = a then sc else if b ∈ ts then some (.tbl #[]) else none
theorem startH_a {a : Addr} {sc : Option HO} {ts : List Addr} : startH a sc ts a = sc := if_pos rfl
theorem startH_t {a b : Addr} {sc : Option HO} {ts : List Addr} (h : b ∈ ts) (n : b ≠ a) : startH a sc ts b = some (.tbl #[]) := (if_neg n).trans (if_pos h)
theorem startH_n {a b : Addr} {sc : Option HO} {ts : List Addr} (h : b ∉ ts) (n : b ≠ a) : startH a sc ts b = none := (if_neg n).trans (if_neg h)
theorem law_runT {P : Program} {w : World} {K : PySem.W.Frag} {mg mb : Str → Option Value} {k : Nat} {fa a : Addr} {cs : List (Addr × Addr)} {fd : FuncData} {x : Str} {sp : Sp} {s1 : Shared} {vs : List Value} {xs : List V} {sc : Option HO}
    (KX : K.In s1.heap) (hns : s1.heap.Ns mainGlobals mg) (hb : s1.heap.Ns builtinsNs mb) (hbb : ∀ x : Str, x ≠ "__name__" → mb x = bootBuiltins x) (hlim : s1.heap.NoLimit) (hgen : s1.gens = #[])
    (hT : ∀ p ∈ cs, s1.heap.get? p.2 = some { cls := .none, data := .fields #[] }) (nT : ∀ p ∈ cs, K.lookup p.2 = none) (hC : ∀ p ∈ cs, PySem.W.CodeHd s1.heap p.1 p.2)
    (hbm : ∃ (bm : Addr) (ob : Obj), mg "__builtins__" = some (.ref bm) ∧ bm ≠ builtinsNs ∧ s1.heap.get? bm = some ob ∧ ob.cls = .type "module" ∧ ob.dict = some builtinsNs ∧ ob.data = .plain)
    (ha : s1.heap.get? a = some { cls := .type "list", data := .seq vs.toArray }) (hr : Room k callerA)
    (F : ∀ base : Heap, K.In base → base.Ns mainGlobals mg → (∀ p ∈ cs, LamX.TabB base mg p.1 p.2) → FnG P w K mg base k fa fd [x] sp) (hbind : ∀ (s : Shared) (u : Value), BindsTo s fd ⟨[u], []⟩ [(x, u)])
    (hsc : sc = none ∨ (K.lookup a = none ∧ sc = some (.frz { cls := .type "list", data := .seq vs.toArray } (.lst xs)))) (hokA : ∀ u, sc = some u → ObjOk P w (startH a sc (cs.map (·.2))) s1.heap a u)
    (hsp : sp [.ref a] (startH a sc (cs.map (·.2))) (fun v _ => v = .bl true) fun _ _ _ => False) :
    codeAny (model P w) callerA (.call (.ref fa) ⟨[.ref a], []⟩) (fun r s' => r = .ok (.ret (.bool true)) ∧ OldK s1.heap s'.heap ∧ s'.os = s1.os ∧ AllBare s'.gens) s1 := by
  have isT : ∀ b : Addr, b ∈ cs.map (·.2) → s1.heap.get? b = some { cls := .none, data := .fields #[] } := fun b hb => by
    obtain ⟨p, hp, e⟩ := List.mem_map.mp hb
    rw [← e]
    exact hT p hp
  have memT : ∀ p ∈ cs, p.2 ∈ cs.map (·.2) := fun p hp => List.mem_map.mpr ⟨p, hp, rfl⟩
  have aT : ∀ b, b ∈ cs.map (·.2) → b ≠ a := fun b hb z => by
    have q := isT b hb
    rw [z, ha] at q
    have z' : Data.seq vs.toArray _ = Data.fields #[] := congrArg Obj.data (Option.some.inj q)
    cases z'
  generalize hH : startH a sc (cs.map (·.2)) = H at *
  have HT : ∀ b, b ∈ cs.map (·.2) → H b = some (.tbl #[]) := fun b hb => by rw [← hH]; exact startH_t hb (aT b hb)
  have HA : H a = sc := by rw [← hH]; exact startH_a
  have HN : ∀ b, b ∉ cs.map (·.2) → b ≠ a → H b = none := fun b hb n => by rw [← hH]; exact startH_n hb n
  -- what is neither the script nor a table is not tracked
  have free : ∀ {b : Addr} {o : Obj}, s1.heap.get? b = some o → (∀ ys n, o.data ≠ .seq ys n) → o.data ≠ .fields #[] → H b = none := fun {b o} e n1 n2 => by
    refine HN b (fun z => ?_) fun z => ?_
    · rw [isT b z] at e
      cases e
      exact n2 rfl
    · rw [z, ha] at e
      cases e
      exact n1 _ _ rfl
  have ns1 : ∀ {b : Addr} {m : Str → Option Value}, s1.heap.Ns b m → (hidT s1.heap H).Ns b m := fun {b m} ⟨o, es, ep, e, d, r⟩ => ⟨o, es, ep, hidT_get e (free e (fun _ _ z => by rw [d] at z; cases z) fun z => by rw [d] at z; cases z), d, r⟩
  have kin : K.In (hidT s1.heap H) := fun b o e => hidT_get (KX b o e) (by
    by_cases hb : b ∈ cs.map (·.2)
    · obtain ⟨p, hp, ep⟩ := List.mem_map.mp hb
      rw [← ep, nT p hp] at e
      cases e
    · by_cases hb2 : b = a
      · rw [hb2, HA]
        rcases hsc with z | ⟨z, _⟩
        · exact z
        · rw [hb2, z] at e
          cases e
      · exact HN b hb hb2)
  have hok : HOk P w H s1.heap := fun b u e => by
    by_cases hb : b ∈ cs.map (·.2)
    · rw [HT b hb] at e
      cases e
      exact isT b hb
    · by_cases hb2 : b = a
      · subst hb2
        rw [HA] at e
        exact hokA u e
      · rw [HN b hb hb2] at e
        cases e
  obtain ⟨mc, c1, c2⟩ := hlim
  have TB : ∀ p ∈ cs, LamX.TabB (hidT s1.heap H) mg p.1 p.2 := fun p hp => by
    have hTp := hT p hp
    refine ⟨?_, ?_, fun z => ?_⟩
    · obtain ⟨o, us, file, tf, flags, tg, inF, text, tt, e1, r1, r2, r3, r4, r5, r6, r7, r8, hne⟩ := hC p hp
      refine ⟨o, us, file, tf, flags, tg, inF, text, tt, hidT_get e1 (free e1 (fun _ _ z => by rw [r2] at z; cases z) fun z => ?_), r1, r2, r3, r4, r5, r6, r7, r8, hne⟩
      rw [r2] at z
      cases z
      simp at r3
    · obtain ⟨bm, ob, b1, b2, b3, b4, b5, b6⟩ := hbm
      have nG : bm ≠ mainGlobals := fun q => by
        obtain ⟨o, es, ep, e, hd, _⟩ := hns
        rw [q, e] at b3
        cases b3
        rw [hd] at b6
        cases b6
      have nP : bm ≠ p.2 := fun q => by
        rw [q, hTp] at b3
        cases b3
        cases b6
      exact ⟨bm, ob, b1, b2, nG, nP, hidT_get b3 (free b3 (fun _ _ z => by rw [b6] at z; cases z) fun z => by rw [b6] at z; cases z), b4, b5, b6⟩
    · obtain ⟨o, es, ep, e, hd, _⟩ := hns
      rw [z, hTp] at e
      cases e
      cases hd
  have e0 : Env0 P w K mg (hidT s1.heap H) callerA [] s1 H :=
    { frames := rfl, mod := ⟨kin, ns1 hns, ⟨mb, ns1 hb, hbb⟩, ⟨mc, ns1 c1, c2⟩⟩, bs := fun b o e => of_hidT e, bsz := Nat.le_of_eq (hidT_size _ _), funs := trivial, frf := fun b z => absurd (show b ∈ ([] : List Addr) from z) (by simp), hok := hok, bare := .of_eq hgen }
  refine codeAny_mono ((F _ kin (ns1 hns) TB).run callerA [] s1 H ⟨[.ref a], []⟩ [.ref a] [.ref a] _ _ rfl hr e0 (hbind s1 (.ref a)) (.cons rfl .nil) hsp) fun r s' h => ?_
  match r, h with
  | .ok (.ret u), ⟨v, H', os, bare, un, hok', r', q⟩ =>
    cases (show v = V.bl true from q)
    cases (show u = Value.bool true from r')
    have grown : ∀ p ∈ cs, ∃ more : Array Value, s'.heap.get? p.2 = some { cls := .none, data := .fields more } := fun p hp => by
      obtain ⟨more, z⟩ := un.tbls p.2 #[] (HT p.2 (memT p hp))
      exact ⟨_, hok' p.2 _ z⟩
    have key : ∀ b o, b ∉ cs.map (·.2) → s1.heap.get? b = some o → s'.heap.get? b = some o := fun b o nb e => by
      cases q2 : H b with
      | none => exact un.keep b o e q2 (fun z => absurd (show b ∈ ([] : List Addr) from z) (by simp)) (by simp)
      | some u =>
        have hba : b = a := Classical.byContradiction fun z => by
          rw [HN b nb z] at q2
          cases q2
        subst hba
        rw [HA] at q2
        rcases hsc with z | ⟨_, z⟩
        · rw [z] at q2
          cases q2
        · have q3 : H b = some (.frz { cls := .type "list", data := .seq vs.toArray } (.lst xs)) := by rw [HA, z]
          obtain ⟨e1, _⟩ := hok b _ q3
          obtain ⟨e2, _⟩ := hok' b _ (un.frzs b _ _ q3)
          rw [e] at e1
          cases e1
          exact e2
    refine ⟨rfl, ⟨fun b o e => ?_, fun b o e => ?_⟩, os, bare⟩
    · by_cases hb : b ∈ cs.map (·.2)
      · obtain ⟨p, hp, ep⟩ := List.mem_map.mp hb
        obtain ⟨more, hm⟩ := grown p hp
        rw [← ep] at e ⊢
        rw [hT p hp] at e
        cases e
        exact .inr (.inl ⟨((hC p hp).tab (hT p hp)).isCodeTable, rfl, #[], more, rfl, by rw [Array.empty_append]; exact hm⟩)
      · exact .inl (key b o hb e)
    · by_cases hb : b ∈ cs.map (·.2)
      · obtain ⟨p, hp, ep⟩ := List.mem_map.mp hb
        obtain ⟨more, hm⟩ := grown p hp
        rw [← ep]
        exact ⟨_, hm⟩
      · exact ⟨o, key b o hb e⟩
/-- what is known of the law's promise at the head's heap h -/
def LawT (l : PySem.W.OpenLaw) (w : World) (K : PySem.W.Frag) (k n : Nat) (x : Str) (mg : Str → Option Value) (fa : Addr) (h : Heap) : Prop :=
  ∃ (fd : FuncData) (cs : List (Addr × Addr)) (sp : Sp), (∀ p ∈ cs, h.get? p.2 = some { cls := .none, data := .fields #[] }) ∧ (∀ p ∈ cs, K.lookup p.2 = none) ∧ (∀ p ∈ cs, PySem.W.CodeHd h p.1 p.2) ∧ (∀ (s : Shared) (u : Value), BindsTo s fd ⟨[u], []⟩ [(x, u)]) ∧
    (∀ (H : Hp) (a : Addr) (ns : List Int), ns.length ≤ n → (∀ p ∈ cs, H p.2 = some (.tbl #[])) → SqL K H a (ns.map V.int) → sp [.ref a] H (fun v _ => v = .bl true) fun _ _ _ => False) ∧
    ∀ base : Heap, K.In base → base.Ns mainGlobals mg → (∀ p ∈ cs, LamX.TabB base mg p.1 p.2) → FnG l.prog w K mg base k fa fd [x] sp
theorem walk_ofT {l : PySem.W.OpenLaw} {n k : Nat} {q : Program} {loose : List Str} {XP : (Str → Option Value) → Heap → Prop} {YP : World → Heap → Prop} {d : DefRec} {K : Params → PySem.W.Frag} {x : Str}
    (hn : l.most = some n) (hn2 : n ≤ sizeLine) (hdf : d.params.defaults = []) (hr : Room k callerA) (hY : ∀ (w : World) (h : Heap), YP w h → (K w.params).In h)
    (F : ∀ (w : World) (mg : Str → Option Value) (fa : Addr) (h : Heap), YP w h → (K w.params).In h → h.Ns mainGlobals mg → mg d.name = some (.ref fa) → LawT l w (K w.params) k n x mg fa h) :
    PySem.W.WalkO q loose XP YP l.row.toRowW d [] (fun f vs => PySem.call f vs) := by
  refine Att.attach_call hn hdf fun w s0 s1 mg mb fa o pm cd doc a vs ns G Y ho hd hcd hmg hobj hints hlen hgen => ?_
  have KX := hY w _ Y
  obtain ⟨fd, cs, sp, hT, nT, hC, hb, hsp, hF⟩ := F w mg fa _ Y KX G.T.g hmg
  have rv := vals_ints hints
  have hl : ns.length ≤ sizeLine := Nat.le_trans hlen hn2
  have lenV := hints.length
  have nat : ∀ p ∈ cs, p.2 ≠ a := fun p hp z => by
    have q := hT p hp
    rw [z, hobj] at q
    have z' : Data.seq vs.toArray _ = Data.fields #[] := congrArg Obj.data (Option.some.inj q)
    cases z'
  cases hk : (K w.params).lookup a with
  | some ob =>
    have e := KX a ob hk
    rw [hobj] at e
    cases e
    exact law_runT (xs := []) (sc := none) KX G.T.g G.T.b G.T.builtins G.T.nolimit hgen hT nT hC G.T.bmain hobj hr hF hb (.inl rfl) (fun u z => by cases z)
      (hsp _ a ns hlen (fun p hp => startH_t (List.mem_map.mpr ⟨p, hp, rfl⟩) (nat p hp)) (.inr ⟨_, vs.toArray, _, hk, rfl, rfl, rfl, by rw [List.size_toArray, lenV]; exact hl, by simpa using rv⟩))
  | none =>
    exact law_runT (xs := ns.map V.int) (sc := some (.frz { cls := .type "list", data := .seq vs.toArray } (.lst (ns.map V.int)))) KX G.T.g G.T.b G.T.builtins G.T.nolimit hgen hT nT hC G.T.bmain hobj hr hF hb (.inr ⟨hk, rfl⟩)
      (fun u z => by cases z; exact ⟨hobj, by rw [List.length_map]; exact hl, vs, _, rv, hobj⟩) (hsp _ a ns hlen (fun p hp => startH_t (List.mem_map.mpr ⟨p, hp, rfl⟩) (nat p hp)) (.inl (.inr ⟨_, startH_a⟩)))
end RL

/-! a def whose code object is known (it makes lambdas) -/
namespace RL
open PySem L2 PySem.Spec PyProof.Rows
structure FunC (K : PySem.W.Frag) (x qual : Str) (st : Stmt) (f : Addr) (fd : FuncData) (cA : Addr) : Prop where
  ex : ∃ (oc : Value) (od : Option Addr) (kV doc pm : Value) (an : Option Addr) (ct : Value) (osl : Array (Option Value)),
    fd = PySem.W.fnOf x qual (defArgs st) (defBody st) (defScope st) .none kV doc pm an (.ref cA) ct ∧ K.lookup f = some ⟨oc, od, .func fd, osl⟩ ∧ PySem.W.codeIn K (.ref cA) qual = true
section
variable {P : Program} {w : World} {K : PySem.W.Frag} {mg : Str → Option Value} {base : Heap}
theorem okGC {x qual : Str} {st : Stmt} {f cA : Addr} {fd : FuncData} {N ps : List Str} {k : Nat} {sp : Sp} (F : FunC K x qual st f fd cA) (S : FnScope N ps (defScope st)) (len : ∀ vs H Q E, sp vs H Q E → vs.length = ps.length)
    (bd : ∀ (A : Around) (outer : List Env) (s : Shared) (H : Hp) (vs : List V) (Q : VK) (E : XK), A.guards = some [] → Room k (A.deeper (envOfC qual (defScope st) s.heap.objs.size f (.ref cA))) → sp vs H Q E →
      ∃ t, PSs (cxOf CX0 P w K mg base N qual (defScope st) f (.ref cA) A outer s H E).nox (defBody st) t ∧ t { nx := fun _ H' => Q .non H', rt := Q } (start N vs) H) : FnG P w K mg base (k + 1) f fd ps sp := by
  obtain ⟨oc, od, kV, doc, pm, an, ct, osl, rfl, lk, hcd⟩ := F.ex
  refine ⟨len, fun A outer s H args us vs Q E hg hr e0 hb r hsp => ?_⟩
  have KX : K.In s.heap := e0.mod.kin.keeps fun b o e => (e0.bs b o e).1
  have lim := e0.mod.nolimit.keeps fun b o e => (e0.bs b o e).1
  refine codeAny_call_function hr.depth (KX _ _ lk) rfl S.co S.gen rfl (PySem.W.codeRec_of KX hcd) (hb _ _ _ _ (wpAny_newFunctionEnv_cells S.kind (fun ⟨n, v⟩ hy => ?_) fun env he s1 x => ?_))
  · exact (S.par n (List.of_mem_zip hy).1).imp id fun q => ⟨q, PySem.W.cellsFrom_some _ _ _ (.inl q)⟩
  · subst he
    obtain ⟨t, ht, hq⟩ := bd A outer s H vs Q E hg (hr.deeper _) hsp
    have I : Inv (cxOf CX0 P w K mg base N qual (defScope st) f (.ref cA) A outer s H E) [] (start N vs) H s1 := inv_start S hr.hd e0 (len _ _ _ _ hsp) r x
    refine ⟨lim.keeps x.toInCall.keep, codeAny_func (wpAny_mono (ht.nox.run [] s1 _ H _ I hq) (fun fl s' hs => ?_) fun _ _ z => z)⟩
    cases fl with
    | ret u =>
      obtain ⟨v, σ', H', J, rv, q⟩ := hs
      exact ⟨v, H', J.os, J.bare, J.base, J.hok, rv, q⟩
    | next =>
      obtain ⟨σ', H', J, q⟩ := hs
      exact ⟨V.non, H', J.os, J.bare, J.base, J.hok, rfl, q⟩
    | brk => exact hs.elim fun _ z => z.elim fun _ y => False.elim y.2
    | cont => exact hs.elim fun _ z => z.elim fun _ y => False.elim y.2
end
end RL

set_option maxHeartbeats 4000000
namespace RL
open PySem L2 PySem.Spec PyProof.Rows
/-! ### heaps in which tables grow; data that lean on no cup and no growing list -/
def ButT (c : Addr) (H H' : Hp) : Prop := ∀ b o, b ≠ c → (∀ ps, o ≠ .tbl ps) → H b = some o → H' b = some o
theorem ButT.refl (c : Addr) (H : Hp) : ButT c H H := fun _ _ _ _ h => h
theorem ButT.trans {c : Addr} {H H1 H2 : Hp} (a : ButT c H H1) (b : ButT c H1 H2) : ButT c H H2 := fun x o n t h => b x o n t (a x o n t h)
theorem ButT.of {c : Addr} {H H' : Hp} (h : Same H H') : ButT c H H' := fun x o _ _ e => h x o e
theorem ButT.but {c : Addr} {H H' : Hp} (h : But c H H') : ButT c H H' := fun x o n _ e => h x o n e
theorem ButT.ext {c : Addr} {H H' : Hp} (h : LamX.ExtN H H') : ButT c H H' := fun x o _ n e => h x o e n
theorem ButT.tup {c a : Addr} {H H' : Hp} {xs : List V} (b : ButT c H H') (hc : CupAt c H) (h : H a = some (.tup xs)) : H' a = some (.tup xs) := by
  obtain ⟨u, v, hc, _⟩ := hc
  exact b _ _ (ne_of h hc (by intro z; cases z)) (by intro ps z; cases z) h
theorem ButT.ins {c a C dx : Addr} {H H' : Hp} {fs : List (Str × V)} (b : ButT c H H') (hc : CupAt c H) (h : H a = some (.ins C dx fs)) : H' a = some (.ins C dx fs) := by
  obtain ⟨u, v, hc, _⟩ := hc
  exact b _ _ (ne_of h hc (by intro z; cases z)) (by intro ps z; cases z) h
theorem CupAt.ext {c : Addr} {H H' : Hp} (h : CupAt c H) (s : LamX.ExtN H H') : CupAt c H' := by
  obtain ⟨x, y, a, b⟩ := h
  exact ⟨x, y, s _ _ a (by intro ps z; cases z), b⟩
theorem tabs_but {T : List (Addr × Str)} {c : Addr} {H H' : Hp} (t : LamX.Tabs T H) (hc : CupAt c H) (s : But c H H') : LamX.Tabs T H' := fun p hp => by
  obtain ⟨ps, h1, h2, h3⟩ := t p hp
  obtain ⟨u, v, hc, _⟩ := hc
  refine ⟨ps, s _ _ (ne_of h1 hc (by intro z; cases z)) h1, h2, fun pos cv hcv => ?_⟩
  obtain ⟨c', e1, e2⟩ := h3 pos cv hcv
  exact ⟨c', e1, s _ _ (ne_of e2 hc (by intro z; unfold LamX.CodeO at z; cases z)) e2⟩
theorem tabs_same {T : List (Addr × Str)} {H H' : Hp} (t : LamX.Tabs T H) (s : Same H H') : LamX.Tabs T H' := t.ext s
theorem sql_ext {K : PySem.W.Frag} {H H' : Hp} {a : Addr} {xs : List V} (h : SqL K H a xs) (s : LamX.ExtN H H') : SqL K H' a xs := by
  rcases h with (h | ⟨o, h⟩) | h
  · exact .inl (.inl (s _ _ h (by intro ps z; cases z)))
  · exact .inl (.inr ⟨o, s _ _ h (by intro ps z; cases z)⟩)
  · exact .inr h
def hidS (c l : Addr) (H : Hp) : Hp := fun b => if b = c ∨ b = l then none else match H b with
  | some (.tbl _) => none
  | x => x
theorem hs_of {c l : Addr} {H : Hp} {b : Addr} {o : HO} (h : H b = some o) (n : b ≠ c) (m : b ≠ l) (t : ∀ ps, o ≠ .tbl ps) : hidS c l H b = some o := by
  unfold hidS
  rw [if_neg (fun z => z.elim n m), h]
  cases o <;> first | rfl | exact absurd rfl (t _)
theorem hs_get {c l : Addr} {H : Hp} {b : Addr} {o : HO} (h : hidS c l H b = some o) : b ≠ c ∧ b ≠ l ∧ H b = some o ∧ ∀ ps, o ≠ .tbl ps := by
  unfold hidS at h
  by_cases n : b = c ∨ b = l
  · rw [if_pos n] at h
    cases h
  · rw [if_neg n] at h
    refine ⟨fun z => n (.inl z), fun z => n (.inr z), ?_⟩
    cases hb : H b with
    | none =>
      rw [hb] at h
      cases h
    | some u =>
      rw [hb] at h
      cases u <;> first | (cases h; done) | (cases h; exact ⟨rfl, by intro ps z; cases z⟩)
theorem hs_but {c l : Addr} {H H' : Hp} (s : ∀ b o, b ≠ c → b ≠ l → (∀ ps, o ≠ .tbl ps) → H b = some o → H' b = some o) : Same (hidS c l H) (hidS c l H') := fun b o e => by
  obtain ⟨n, m, h, t⟩ := hs_get e
  exact hs_of (s b o n m t h) n m t
theorem seq_butT {K : PySem.W.Frag} {H H' : Hp} {D a : Addr} {xs : List V} (h : SqL K H a xs) (n : H D = none) (b : ButT D H H') : SqL K H' a xs := by
  rcases h with (h | ⟨o, h⟩) | h
  · exact .inl (.inl (b _ _ (ne_of_none h n) (by intro ps z; cases z) h))
  · exact .inl (.inr ⟨o, b _ _ (ne_of_none h n) (by intro ps z; cases z) h⟩)
  · exact .inr h
theorem tabs_upd {TT : List (Addr × Str)} {H : Hp} {D : Addr} {xs : List V} {o : HO} (t : LamX.Tabs TT H) (h : H D = some (.lst xs)) : LamX.Tabs TT (upd H D o) := fun p hp => by
  obtain ⟨ps, h1, h2, h3⟩ := t p hp
  refine ⟨ps, (upd_ne (ne_of h1 h (by intro z; cases z))).trans h1, h2, fun pos cv hcv => ?_⟩
  obtain ⟨c', e1, e2⟩ := h3 pos cv hcv
  exact ⟨c', e1, (upd_ne (ne_of e2 h (by intro z; unfold LamX.CodeO at z; cases z))).trans e2⟩
/-- v is data of the kind p, and leans neither on c nor on l -/
def OddP (p : PyData → Bool) (K : PySem.W.Frag) (c l : Addr) (H : Hp) (v : V) : Prop := ∃ d, Dq K (hidS c l H) v d ∧ p d = true
theorem OddP.mono {p : PyData → Bool} {K : PySem.W.Frag} {c l c' l' : Addr} {H H' : Hp} {v : V} (h : OddP p K c l H v) (s : Same (hidS c l H) (hidS c' l' H')) : OddP p K c' l' H' v := by
  obtain ⟨d, h1, h2⟩ := h
  exact ⟨d, h1.same s, h2⟩
theorem OddP.same {p : PyData → Bool} {K : PySem.W.Frag} {c l : Addr} {H H' : Hp} {v : V} (h : OddP p K c l H v) (s : Same H H') : OddP p K c l H' v := h.mono (hs_but fun b o _ _ _ e => s b o e)
theorem OddP.butT {p : PyData → Bool} {K : PySem.W.Frag} {c : Addr} {H H' : Hp} {v : V} (h : OddP p K c c H v) (s : ButT c H H') : OddP p K c c H' v := h.mono (hs_but fun b o n _ t e => s b o n t e)
theorem OddP.butL {p : PyData → Bool} {K : PySem.W.Frag} {c l : Addr} {H H' : Hp} {v : V} (h : OddP p K c l H v) (s : ButT c H H') : OddP p K c l H' v := h.mono (hs_but fun b o n _ t e => s b o n t e)
theorem OddP.imp {p q : PyData → Bool} {K : PySem.W.Frag} {c l : Addr} {H : Hp} {v : V} (h : OddP p K c l H v) (s : ∀ d, p d = true → q d = true) : OddP q K c l H v := by
  obtain ⟨d, h1, h2⟩ := h
  exact ⟨d, h1, s d h2⟩
theorem OddP.fresh {p : PyData → Bool} {K : PySem.W.Frag} {c q : Addr} {H : Hp} {o : HO} {v : V} (h : OddP p K c c H v) (n : H q = none) : OddP p K c q (upd H q o) v := h.mono fun b u e => by
  obtain ⟨n1, _, h, t⟩ := hs_get e
  have nb : b ≠ q := ne_of_none h n
  exact hs_of ((upd_ne nb).trans h) n1 nb t
theorem OddP.upd {p : PyData → Bool} {K : PySem.W.Frag} {c q : Addr} {H : Hp} {o : HO} {v : V} (h : OddP p K c q H v) : OddP p K c q (upd H q o) v := h.mono fun b u e => by
  obtain ⟨n1, nb, h, t⟩ := hs_get e
  exact hs_of ((upd_ne nb).trans h) n1 nb t
theorem OddP.drop {p : PyData → Bool} {K : PySem.W.Frag} {c q : Addr} {H : Hp} {v : V} (h : OddP p K c q H v) : OddP p K c c H v := h.mono fun b u e => by
  obtain ⟨n1, nb, h, t⟩ := hs_get e
  exact hs_of h n1 n1 t
theorem OddP.dq {p : PyData → Bool} {K : PySem.W.Frag} {c l : Addr} {H : Hp} {v : V} (h : OddP p K c l H v) : ∃ d, Dq K H v d ∧ p d = true := by
  obtain ⟨d, h1, h2⟩ := h
  exact ⟨d, h1.same (fun b o e => (hs_get e).2.2.1), h2⟩
theorem upd_at {H : Hp} {p : Addr} {o : HO} (h : H p = none) : (upd H p o) p = some o := upd_same
/-- no number that an Exact takes -/
def pNum (d : PyData) : Bool := !withinD d (-GP) GP && d.showable && decide (d.depth ≤ 40) && decide (d.shown.length ≤ 1000) && PyData.canLay0 (.str d.shown)
def spOdd (K : PySem.W.Frag) : Sp := fun vs H Q _ => ∃ (cu l0 : Addr) (o0 : HO), vs = [.ref cu] ∧ CupAt cu H ∧ H l0 = some o0 ∧ ∀ H' v, But cu H H' → CupAt cu H' → OddP pNum K cu l0 H' v → Q v H'
section
variable {P : Program} {w : World} {K : PySem.W.Frag} {mg : Str → Option Value} {base : Heap}
abbrev s_law_odd : Stmt := top 52
theorem sc_law_odd : FnScope ["_law_cup_here", "_law_things"] ["_law_cup_here"] (defScope s_law_odd) := ⟨rfl, rfl, rfl, by decide +kernel, rfl, by decide +kernel, by decide +kernel⟩

theorem ok_odd {f : Addr} {fd : FuncData} (F : Fun K "_law_odd" "_law_odd" s_law_odd f fd) (T : Txt K mg) (D_law_pick : Df P w K mg base 2 "_law_pick" ["_law_cup_here", "_law_things"] spPick) : FnOk P w K mg base CX0 3 f fd ["_law_cup_here"] (spOdd K) := by
  refine F.ok sc_law_odd (fun vs H Q E h => ?_) (fun cdv A outer s H vs Q E hr h => ?_)
  · obtain ⟨cu, l0, o0, rfl, _⟩ := h
    rfl
  · obtain ⟨cu, l0, o0, rfl, hc, hl0, k⟩ := h
    refine ⟨_, (C8.pss_cut (ps_set (i := 1) sc_law_odd.nd rfl (.inl rfl) (pe_lst (pa_cons pe_non (pa_cons pe_bl (pa_cons pe_bl (pa_cons pe_str (pa_cons pe_str (pa_cons (pe_tup (pa_cons pe_int pa_nil)) (pa_cons (pe_tup (pa_cons pe_int (pa_cons pe_int pa_nil))) (pa_cons (pe_lst pa_nil) (pa_cons (pe_lst (pa_cons pe_int pa_nil)) (pa_cons pe_dnewK (pa_cons (pe_op op_add (pe_op op_pow pe_int pe_int) pe_int) (pa_cons (pe_op op_mul pe_int (pe_op op_pow pe_int pe_int)) (pa_cons (pe_op op_sub (pe_un un_neg (pe_op op_pow pe_int pe_int)) pe_int) pa_nil)))))))))))))))
      (pss_one (ps_ret (pe_df D_law_pick (hr.mono (by decide)) (by rfl) (pa_cons (pv 0) (pa_cons (pv 1) pa_nil)))))), ?_⟩
    refine ⟨fun σ' H' => ∃ l xs, σ' = [some (.ref cu), some (.ref l)] ∧ Same H H' ∧ H' l = some (.lst xs) ∧ (∀ v ∈ xs, OddP pNum K cu l0 H' v) ∧ 0 < xs.length ∧ xs.length ≤ 40 ∧ l ≠ cu, ?_, ?_⟩
    · skip
      refine ⟨(by show 1 ≤ sizeLine; decide), fun ap1 an1 => ?_⟩
      have as1 := same_upd (o := .tup [.int 1]) an1
      have ae1 : ap1 ≠ cu := (CupAt.ne hc an1).symm
      have ac1 := CupAt.same hc as1
      have af1 : ap1 ≠ l0 := (ne_of_none hl0 an1).symm
      have ah1 := as1 _ _ hl0
      refine ⟨(by show 2 ≤ sizeLine; decide), fun ap2 an2 => ?_⟩
      have as2 := same_upd (o := .tup [.int 1, .int 2]) an2
      have ae2 : ap2 ≠ cu := (CupAt.ne ac1 an2).symm
      have ac2 := CupAt.same ac1 as2
      have af2 : ap2 ≠ l0 := (ne_of_none ah1 an2).symm
      have ah2 := as2 _ _ ah1
      refine ⟨(by show 0 ≤ sizeLine; decide), fun ap3 an3 => ?_⟩
      have as3 := same_upd (o := .lst []) an3
      have ae3 : ap3 ≠ cu := (CupAt.ne ac2 an3).symm
      have ac3 := CupAt.same ac2 as3
      have af3 : ap3 ≠ l0 := (ne_of_none ah2 an3).symm
      have ah3 := as3 _ _ ah2
      refine ⟨(by show 1 ≤ sizeLine; decide), fun ap4 an4 => ?_⟩
      have as4 := same_upd (o := .lst [.int 3]) an4
      have ae4 : ap4 ≠ cu := (CupAt.ne ac3 an4).symm
      have ac4 := CupAt.same ac3 as4
      have af4 : ap4 ≠ l0 := (ne_of_none ah3 an4).symm
      have ah4 := as4 _ _ ah3
      refine (fun ap5 an5 => ?_)
      have as5 := same_upd (o := .dK []) an5
      have ae5 : ap5 ≠ cu := (CupAt.ne ac4 an5).symm
      have ac5 := CupAt.same ac4 as5
      have af5 : ap5 ≠ l0 := (ne_of_none ah4 an5).symm
      have ah5 := as5 _ _ ah4
      have at4 := as5
      have at3 := as4.trans at4
      have at2 := as3.trans at3
      have at1 := as2.trans at2
      have aall := as1.trans at1
      have ag1 : hidS cu l0 _ ap1 = some (.tup [.int 1]) := hs_of (at1 _ _ (upd_at (o := .tup [.int 1]) an1)) ae1 af1 (by intro ps z; cases z)
      have ag2 : hidS cu l0 _ ap2 = some (.tup [.int 1, .int 2]) := hs_of (at2 _ _ (upd_at (o := .tup [.int 1, .int 2]) an2)) ae2 af2 (by intro ps z; cases z)
      have ag3 : hidS cu l0 _ ap3 = some (.lst []) := hs_of (at3 _ _ (upd_at (o := .lst []) an3)) ae3 af3 (by intro ps z; cases z)
      have ag4 : hidS cu l0 _ ap4 = some (.lst [.int 3]) := hs_of (at4 _ _ (upd_at (o := .lst [.int 3]) an4)) ae4 af4 (by intro ps z; cases z)
      have ag5 : hidS cu l0 _ ap5 = some (.dK []) := hs_of (upd_at (o := .dK []) an5) ae5 af5 (by intro ps z; cases z)
      have aodd : ∀ v ∈ ([.non, .bl true, .bl false, .str (Str.ofString "1"), .str (Str.ofString ""), .ref ap1, .ref ap2, .ref ap3, .ref ap4, .ref ap5, .int ((10 ^ Int.toNat 40) + 1), .int (5 * (10 ^ Int.toNat 40)), .int ((-(10 ^ Int.toNat 40)) - 1)] : List V), OddP pNum K cu l0 (upd (upd (upd (upd (upd H ap1 (.tup [.int 1])) ap2 (.tup [.int 1, .int 2])) ap3 (.lst [])) ap4 (.lst [.int 3])) ap5 (.dK [])) v := by
        intro v hv
        simp only [List.mem_cons, List.not_mem_nil, or_false] at hv
        rcases hv with rfl | rfl | rfl | rfl | rfl | rfl | rfl | rfl | rfl | rfl | rfl | rfl | rfl
        · exact ⟨.none, .dp .non (by decide +kernel), by decide +kernel⟩
        · exact ⟨.bool true, .dp (.bl _) (by decide +kernel), by decide +kernel⟩
        · exact ⟨.bool false, .dp (.bl _) (by decide +kernel), by decide +kernel⟩
        · exact ⟨.str (Str.ofString "1"), .dp (.str _) (by decide +kernel), by decide +kernel⟩
        · exact ⟨.str (Str.ofString ""), .dp (.str _) (by decide +kernel), by decide +kernel⟩
        · exact ⟨.tuple [.int 1], .dp (.tup (SqT.of ag1) (.cons (.int _) .nil)) (by decide +kernel), by decide +kernel⟩
        · exact ⟨.tuple [.int 1, .int 2], .dp (.tup (SqT.of ag2) (.cons (.int _) (.cons (.int _) .nil))) (by decide +kernel), by decide +kernel⟩
        · exact ⟨.list [], .dp (.lst (SqL.of ag3) .nil) (by decide +kernel), by decide +kernel⟩
        · exact ⟨.list [.int 3], .dp (.lst (SqL.of ag4) (.cons (.int _) .nil)) (by decide +kernel), by decide +kernel⟩
        · exact ⟨.dict [], .dk (kvs := []) ag5, by decide +kernel⟩
        · exact ⟨.int ((10 ^ Int.toNat 40) + 1), .dp (.int _) (by decide +kernel), by decide +kernel⟩
        · exact ⟨.int (5 * (10 ^ Int.toNat 40)), .dp (.int _) (by decide +kernel), by decide +kernel⟩
        · exact ⟨.int ((-(10 ^ Int.toNat 40)) - 1), .dp (.int _) (by decide +kernel), by decide +kernel⟩
      refine ⟨_, _, rfl, rfl, ⟨by decide, by decide, by decide⟩, _, _, rfl, rfl, _, _, rfl, rfl, ⟨by decide, by decide, by decide⟩, _, _, rfl, rfl, .inl ⟨by decide, by decide⟩, _, _, rfl, rfl, ⟨by decide, by decide, by decide⟩, _, rfl, _, _, rfl, rfl, (by show 13 ≤ sizeLine; decide), fun l nl => ?_⟩
      have sl := same_upd (o := .lst [.non, .bl true, .bl false, .str (Str.ofString "1"), .str (Str.ofString ""), .ref ap1, .ref ap2, .ref ap3, .ref ap4, .ref ap5, .int ((10 ^ Int.toNat 40) + 1), .int (5 * (10 ^ Int.toNat 40)), .int ((-(10 ^ Int.toNat 40)) - 1)]) nl
      exact ⟨l, _, rfl, aall.trans sl, upd_same, fun v hv => (aodd v hv).same sl, (by show 0 < 13; decide), (by show 13 ≤ 40; decide), (CupAt.ne (hc.same aall) nl).symm⟩
    rintro σ1 H1 ⟨l, xs, rfl, s1, hl, hx, x0, x1, nlc⟩
    refine ⟨_, rfl, _, rfl, cu, l, _, rfl, hc.same s1, nlc.symm, hl, x0, by omega, fun H2 v b2 hc2 hv => ?_⟩
    exact k H2 v ((But.of s1).trans b2) hc2 ((hx v hv).butL (.but b2))
end
end RL

set_option maxHeartbeats 1000000
/-! for i, x in enumerate(t), t a tuple. -/
namespace RL
open PySem L2 PySem.Spec PyProof.Rows
open AutoSeq1 (wpAny_loadPart')
theorem meets_enumerate_newT (l : Addr) (items : Array Value) (n : Nat) (dct : Option Addr) (sl : Array (Option Value)) :
    Meets (Builtin.«enumerate.__new__» ⟨[.type "enumerate", .ref l], []⟩) (fun _ R s => s.heap.get? l = some { cls := .type "tuple", dict := dct, data := .seq items n, slots := sl } ∧
      R (.ok (.ret (.ref (s.heap.push { cls := .type "tuple_iterator", data := .fields #[.ref l, .int 0 0] }).objs.size)))
        { s with heap := (s.heap.push { cls := .type "tuple_iterator", data := .fields #[.ref l, .int 0 0] }).push { cls := .type "enumerate", data := .fields #[.none, .bool false, .ref s.heap.objs.size, rawInt 0, .none, .none] } }) :=
  .of_wp fun prog w A R s h => by
    obtain ⟨hp, g, d, tk, os⟩ := s; obtain ⟨hl, h⟩ := h
    have hsub := sub_enumerate
    have hL : Heap.IsTuple (Shared.heap ⟨hp, g, d, tk, os⟩) l items := ⟨_, hl, rfl, n, rfl⟩
    wp_walk using wpAny_loadPart' hl
    refine wpAny_stack_any fun st => wpAny_pure ?_
    split
    · rename_i c _ _ _ _ _
      cases (c == Value.type "enumerate")
      · wp_walk using wpAny_loadPart' hl, wpAny_pyIter_tuple hL
        exact ⟨_, rfl, h⟩
      · wp_walk using wpAny_loadPart' hl, wpAny_pyIter_tuple hL
        exact ⟨_, rfl, h⟩
    · wp_walk using wpAny_loadPart' hl, wpAny_pyIter_tuple hL
      exact ⟨_, rfl, h⟩
section
variable {prog : Program} {w : World} {A : Around} {E : Value → Shared → Prop} {s : Shared}
theorem call_enumerate_tuple {l : Addr} {items : Array Value} {Q : Value → Shared → Prop} (hL : s.heap.IsTuple l items)
    (h : ∀ h', IsEnum h' (s.heap.objs.size + 1) s.heap.objs.size 0 .none → h'.IsTupleIter s.heap.objs.size l 0 → h'.objs.size = s.heap.objs.size + 2 →
      (∀ b o, s.heap.get? b = some o → h'.get? b = some o) → Q (.ref (s.heap.objs.size + 1)) { s with heap := h' }) :
    wpAny (model prog w) A (call (.type "enumerate") [.ref l]) Q E s := by
  obtain ⟨⟨c, dct, dt, sl⟩, hl, hc, n, hd⟩ := hL
  replace hc : c = .type "tuple" := hc
  replace hd : dt = .seq items n := hd
  subst hc hd
  refine callType_new F.called_enumerate (by decide) (F.typeCall_enumerate_1 _) (F.newCall_enumerate_1 _) (fun obj => F.args_object_init_2 obj _) F.entry_enumerate_new
    (meets_enumerate_newT l items n dct sl) ⟨hl, ?_⟩
  have hz : (s.heap.push { cls := .type "tuple_iterator", data := .fields #[.ref l, .int 0 0] }).objs.size = s.heap.objs.size + 1 := Heap.size_push ..
  show _ ∧ _
  rw [hz]
  have he : IsEnum ((s.heap.push { cls := .type "tuple_iterator", data := .fields #[.ref l, .int 0 0] }).push
      { cls := .type "enumerate", data := .fields #[.none, .bool false, .ref s.heap.objs.size, rawInt 0, .none, .none] }) (s.heap.objs.size + 1) s.heap.objs.size 0 .none := by
    have := Heap.get?_push_size (s.heap.push { cls := .type "tuple_iterator", data := .fields #[.ref l, .int 0 0] })
      (o := { cls := .type "enumerate", data := .fields #[.none, .bool false, .ref s.heap.objs.size, rawInt 0, .none, .none] }) rfl
    rw [hz] at this; exact this
  refine ⟨⟨_, he, rfl⟩, h _ he ⟨_, Heap.get?_push_of_some _ (Heap.get?_push_size _ rfl), rfl, rfl⟩ (by rw [Heap.size_push, hz]) fun b o x => Heap.get?_push_of_some _ (Heap.get?_push_of_some _ x)⟩
end
/-- the tuple at a as it stands at each turn, each item in a new pair -/
def IteT (K : PySem.W.Frag) (a : Addr) : It :=
  ⟨fun i H => ∃ (xs : List V) (x : V), SqT K H a xs ∧ xs[i]? = some x, fun i H v H' => ∃ T x, v = .ref T ∧ H T = none ∧ H' = upd H T (.tup [.int (i : Nat), x]) ∧ ∀ xs, SqT K H a xs → xs[i]? = some x, fun i H => ∃ xs : List V, SqT K H a xs ∧ xs.length = i⟩
theorem turn_enumT {P : Program} {w : World} {K : PySem.W.Frag} {elts : List Expr} {kk : Nat} {tpos : Pos} (a e it : Addr) :
    Turn P w K (.Tuple elts kk tpos) (IteT K a) [e, it] e (fun i h => (∃ old, IsEnum h e it ((i : Nat) : Int) old) ∧ h.IsTupleIter it a i ∧ e ≠ it ∧ a ≠ it ∧ a ≠ e) where
  mem := by simp
  obj := fun i h st b hb => by
    obtain ⟨⟨old, he⟩, ⟨o, ho, hc, hd⟩, _⟩ := st
    have e' : b = e ∨ b = it := by simpa using hb
    rcases e' with z | z
    · rw [z]; exact ⟨_, he, fun v q => nomatch q⟩
    · rw [z]; exact ⟨o, ho, fun v q => by rw [hd] at q; cases q⟩
  keep := fun i h h' st k => let ⟨⟨old, he⟩, hi, hne⟩ := st; ⟨⟨old, k e (by simp) _ he⟩, hi.at fun o q => k it (by simp) o q, hne⟩
  item := by
    intro X hP hw hK hc i pins s σ H E I hf st hg
    subst hP hw hK
    obtain ⟨⟨old, he⟩, hit, hne, hai, hae⟩ := st
    obtain ⟨xs, x, hq, hx⟩ := hg
    obtain ⟨its, rv, p, hz⟩ := I.tuple hq
    obtain ⟨u, hu, ru⟩ := rv.get hx
    have hel : e < s.heap.objs.size := Heap.lt_size he
    have hil : it < s.heap.objs.size := by obtain ⟨_, q, _⟩ := hit; exact Heap.lt_size q
    have hi : i < its.toArray.size := by
      have := (List.getElem?_eq_some_iff.mp hu).1
      simpa using this
    refine wpAny_pyNext_enum_itemD (Draws.tuple (A := X.A.in1) (I.ok.hd hc) it a hai its.toArray) he ⟨hit, p⟩ hi hne (by simp [hne, Ne.symm hae]) fun x' h' tk hPx ho st' hT hsz hk => ?_
    have ex : x' = u := by
      have h1 : its.toArray[i]? = some u := by simpa using hu
      rw [h1] at hPx
      exact (Option.some.inj hPx).symm
    subst ex
    refine ⟨_, rfl, wpAny_letOwnedTupleGo_enum (s := { s with heap := h', toks := tk + 1 }) ho fun h'' he' sb => ?_⟩
    have hT2 : h''.get? s.heap.objs.size = some { cls := .type "tuple", data := .seq #[.int i tk, x'] } := (sb.2 _ (Nat.ne_of_gt hel)).trans hT
    have new : ObjOk X.prog X.w (upd H s.heap.objs.size (.tup [.int (i : Nat), x])) h'' s.heap.objs.size (.tup [.int (i : Nat), x]) :=
      ⟨by show 2 ≤ sizeLine; decide, [.int i tk, x'], .cons ⟨_, rfl⟩ (.cons ru .nil), ⟨_, hT2, rfl, _, rfl⟩⟩
    have I1 : Inv X pins σ (upd H s.heap.objs.size (.tup [.int (i : Nat), x])) { s with heap := h'', toks := tk + 1 } :=
      I.turnedNew (ch := [e, it]) (fun b ob hb q => (sb.2 b (fun z => hb (by simp [z]))).trans (hk b ob (fun z => hb (by simp [z])) (fun z => hb (by simp [z])) q)) hf (Nat.le_refl _) new
    refine ⟨.ref s.heap.objs.size, _, I1, rfl, ⟨_, x, rfl, I.hok.fresh (Nat.le_refl _), rfl, fun ys hy => by rw [I.tuple_inj hy hq]; exact hx⟩, ⟨⟨x', ?_⟩, st'.1.at fun o q => (sb.2 it (Ne.symm hne)).trans q, hne, hai, hae⟩, fun b hb => ?_⟩
    · have e1 : ((i + 1 : Nat) : Int) = (i : Int) + 1 := by omega
      rw [e1]; exact he'
    · have hb' : b < s.heap.objs.size := by
        have e' : b = e ∨ b = it := by simpa using hb
        rcases e' with z | z
        · rw [z]; exact hel
        · rw [z]; exact hil
      rw [upd_ne (Nat.ne_of_lt hb')]
      exact (hf b hb).1
  done := by
    intro X hP hw hK hc i pins s σ H E I hf st hg
    subst hP hw hK
    obtain ⟨⟨old, he⟩, hit, hne, hai, hae⟩ := st
    obtain ⟨xs, hq, hx⟩ := hg
    obtain ⟨its, rv, p, hz⟩ := I.tuple hq
    obtain ⟨f0, f1, f2, f3, f4, f5⟩ := hf it (by simp)
    have hl := rv.length
    have en : its.toArray.size = i := by simp; omega
    have hit' : s.heap.IsTupleIter it a its.toArray.size := by rw [en]; exact hit
    exact wpAny_pyNext_enum_endD (Draws.tuple (A := X.A.in1) (I.ok.hd hc) it a hai its.toArray) he ⟨hit', p⟩ fun h' eb => ⟨rfl, I.turned (t' := s.toks) (fun b o hb q => eb b o hb q) f0 f1 f3 f4 f5⟩
  self := fun A i s Q E st h => let ⟨⟨_, he⟩, _⟩ := st; wpAny_pyIter_enum he h
def iEnumT (K : PySem.W.Frag) (ta : TA) : TI := fun σ H R => ta σ H fun vs H1 => ∃ a xs, vs = [.ref a] ∧ SqT K H1 a xs ∧ R (IteT K a) H1
theorem pi_enumT {X : Cx} {e : Expr} {ta : TA} {p pos tpos : Pos} {elts : List Expr} {kk : Nat} (hg : Gl X "enumerate") (hm : X.mg "enumerate" = none) (ha : PA X [e] ta) (hs : starEach [e] X.env = [(false, eval e X.env)] := by rfl) :
    PI X (.Tuple elts kk tpos) (.Call (.Name "enumerate" p) [e] [] pos) (iEnumT X.K ta) := by
  refine ⟨fun pins s σ H R I h => ?_⟩
  refine Call_ (ld_blt I hg hm boot_enumerate (PyProof.Rows.callWith_type1 (thn (ha.run pos pins s σ H _ I h) fun us s1 ⟨vs, H1, I1, r1, q1⟩ => ?_) hs rfl))
  obtain ⟨a, xs, ex, hq, q⟩ := q1
  subst ex
  cases r1 with
  | cons r rr =>
    cases rr
    cases r
    obtain ⟨its, rv, p', hz⟩ := I1.tuple hq
    have hal : a < s1.heap.objs.size := by obtain ⟨o, ho, _⟩ := id p'; exact Heap.lt_size ho
    refine call_enumerate_tuple p' fun h' he hit hsz hk => wpAny_pyIter_enum he ?_
    have I2 : Inv X pins σ H1 { s1 with heap := h' } := I1.kept (t' := s1.toks) hk
    refine ⟨s1.heap.objs.size + 1, [s1.heap.objs.size + 1, s1.heap.objs.size], _, _, H1, rfl, I2, turn_enumT a (s1.heap.objs.size + 1) s1.heap.objs.size, ⟨⟨.none, he⟩, hit, Nat.succ_ne_self _, Nat.ne_of_lt hal, Nat.ne_of_lt (Nat.lt_succ_of_lt hal)⟩, fun b hb => ?_, q⟩
    have e' : b = s1.heap.objs.size + 1 ∨ b = s1.heap.objs.size := by simpa using hb
    have hle : s1.heap.objs.size ≤ b := by
      rcases e' with z | z
      · rw [z]; exact Nat.le_add_right _ _
      · rw [z]; exact Nat.le_refl _
    exact I1.fpOk hle (I1.hok.fresh hle)
/-- the loop, for a tuple that stands in the heap and whose places are alike by the invariant -/
theorem for_enumT {K : PySem.W.Frag} {a : Addr} {xs : List V} {g : TG} {tb : TS} {D : Ends} {σ : L2.St} {H : Hp} (Pv : Nat → L2.St → Hp → Prop) (h0 : Pv 0 σ H) (hl : ∀ i σ H, i ≤ xs.length → Pv i σ H → SqT K H a xs)
    (hs : ∀ i x σ H T, xs[i]? = some x → Pv i σ H → H T = none → g (.ref T) σ (upd H T (.tup [.int (i : Nat), x])) fun σ2 H2 => tb { D with nx := Pv (i + 1), ct := Pv (i + 1), bk := D.nx } σ2 H2) (hd : ∀ σ H, Pv xs.length σ H → D.nx σ H) :
    ∃ W : Nat → Nat → L2.St → Hp → Prop, (∃ m, W 0 m σ H) ∧ ∀ i m σ H, W i m σ H →
      ((IteT K a).stop i H ∧ D.nx σ H) ∨ ((IteT K a).go i H ∧ ∃ N : L2.St → Hp → Prop, (∀ σ' H', N σ' H' → ∃ m', m' < m ∧ W (i + 1) m' σ' H') ∧ ∀ x H', (IteT K a).yld i H x H' → g x σ H' fun σ2 H2 => tb { D with nx := N, ct := N, bk := D.nx } σ2 H2) := by
  refine ⟨fun i m σ H => m = xs.length - i ∧ i ≤ xs.length ∧ Pv i σ H, ⟨xs.length, by simp, Nat.zero_le _, h0⟩, ?_⟩
  rintro i m σ H ⟨rfl, hi, p⟩
  have q := hl i σ H hi p
  by_cases hlt : i < xs.length
  · refine .inr ⟨⟨xs, xs[i], q, by simp [hlt]⟩, Pv (i + 1), fun σ' H' p' => ⟨xs.length - (i + 1), by omega, rfl, hlt, p'⟩, fun x H' y => ?_⟩
    obtain ⟨T, x', rfl, nT, rfl, hx⟩ := y
    exact hs i x' σ H T (hx xs q) p nT
  · have : i = xs.length := by omega
    subst this
    exact .inl ⟨⟨xs, q, rfl⟩, hd σ H p⟩
/-- a def by position, as a promise of its arguments alone -/
theorem fnR_mk {P : Program} {w : World} {K : PySem.W.Frag} {mg : Str → Option Value} {base : Heap} {k : Nat} {g : Addr} {fd : FuncData} {ps : List Str} {sp : Sp} (F : FnOk P w K mg base CX0 k g fd ps sp) (hb : Binds K fd ps []) : FnR P w K mg base CX0 k g sp := by
  intro A outer s H us vs Q E hr e0 r h
  have hl : (us ++ []).length = ps.length := by
    rw [List.append_nil, ← r.length]
    exact F.len _ _ _ _ h
  have KX : K.In s.heap := e0.mod.kin.keeps fun b o e => (e0.bs b o e).1
  have hbb := hb s us KX hl
  rw [List.append_nil] at hbb
  exact F.run A outer s H ⟨us, []⟩ us vs Q E hr e0 hbb r h
end RL

set_option maxHeartbeats 4000000
namespace RL
open PySem L2 PySem.Spec PyProof.Rows
/-- what is shown of d fits -/
structure Tell (d : PyData) : Prop where
  s : d.showable = true
  p : d.depth ≤ 40
  l : d.shown.length ≤ sizeLine
def spDue (K : PySem.W.Frag) : Sp := fun vs H Q _ => ∃ (v1 v2 v3 : V) (d1 d2 d3 : PyData), vs = [v1, v2, v3] ∧ Dq K H v1 d1 ∧ Dq K H v2 d2 ∧ Dq K H v3 d3 ∧ Tell d1 ∧ Tell d2 ∧ Tell d3 ∧
  (∀ n d, Refused d1 d2 d3 n → [d1, d2, d3][n]? = some d → ∀ H' l, Same H H' → H l = none → H' l = some (.lst [.int 4, .int 20, .int 23, .str d.shown]) → Q (.ref l) H') ∧
  ((∀ n, ¬ Refused d1 d2 d3 n) → ∀ H', Same H H' → Q .non H')
section
variable {P : Program} {w : World} {K : PySem.W.Frag} {mg : Str → Option Value} {base : Heap}
abbrev s_law_due : Stmt := top 53
theorem sc_law_due : FnScope ["_law_a", "_law_b", "_law_c", "_law_at", "_law_part", "_law_good"] ["_law_a", "_law_b", "_law_c"] (defScope s_law_due) := ⟨rfl, rfl, rfl, by decide +kernel, rfl, by decide +kernel, by decide +kernel⟩

theorem ok_due {f : Addr} {fd : FuncData} (F : Fun K "_law_due" "_law_due" s_law_due f fd) (T : Txt K mg) : FnG P w K mg base 2 f fd ["_law_a", "_law_b", "_law_c"] (spDue K) := by
  refine okG F sc_law_due (fun vs H Q E h => ?_) (fun cdv A outer s H vs Q E hg hr h => ?_)
  · obtain ⟨v1, v2, v3, d1, d2, d3, rfl, _⟩ := h
    rfl
  · obtain ⟨v1, v2, v3, d1, d2, d3, rfl, h1, h2, h3, t1, t2, t3, k1, k2⟩ := h
    refine ⟨_, (pss_cons (ps_for PassesOwn.never rfl (pi_enum (by rfl) T.enumerate (pa_cons (pe_lst (pa_cons (pv 0) (pa_cons (pv 1) (pa_cons (pv 2) pa_nil)))) pa_nil)) (pg_tup rfl (pgs_cons (pg_name (i := 3) sc_law_due.nd rfl (.inl rfl)) (pgs_cons (pg_name (i := 4) sc_law_due.nd rfl (.inl rfl)) pgs_nil))) (C8.pss_cut (ps_set (i := 5) sc_law_due.nd rfl (.inl rfl) (pe_and (pe_callB call_isi (by rfl) T.isinstance (by decide +kernel) (pa_cons (pv 4) (pa_cons (pe_bltn (v := .ty "int") (by rfl) T.int_ (by decide +kernel) rfl) pa_nil))) (pe_and (pe_not (pe_callB call_isi (by rfl) T.isinstance (by decide +kernel) (pa_cons (pv 4) (pa_cons (pe_bltn (v := .ty "bool") (by rfl) T.bool_ (by decide +kernel) rfl) pa_nil)))) (pe_one (pe_chain op_le op_le (pe_un un_neg (pe_op op_pow pe_int pe_int)) (pv 4) (pe_op op_pow pe_int pe_int))))))
      (pss_one (ps_if (PW.pt (pw_or (pt_not (pt_val (pv 5))) (pw_or (PW.pt (pw_and (pt_cmpR op_ne (pv 3) pe_int (nomark _)) (pw_and1 (pt_cmpR op_lt (pv 4) pe_int (nomark _))))) (pw_or (PW.pt (pw_and (pt_cmpR op_eq (pv 3) pe_int (nomark _)) (pw_and (pt_cmpR op_eq (pv 0) pe_int (nomark _)) (pw_and1 (pt_cmpR op_lt (pv 4) pe_int (nomark _)))))) (pw_or1 (PW.pt (pw_and (pt_cmpR op_eq (pv 3) pe_int (nomark _)) (pw_and (pt_cmpR op_gt (pv 0) pe_int (nomark _)) (pw_and1 (pt_cmpR op_eq (pv 4) pe_int (nomark _))))))))))) (pss_one (ps_ret (pe_lst (pa_cons pe_int (pa_cons pe_int (pa_cons pe_int (pa_cons (pe_callB (cr_rpK (K := K) hg hr.units) (by rfl) T.repr (by decide +kernel) (pa_cons (pv 4) pa_nil)) pa_nil))))))) pss_nil))))
      (pss_one (ps_ret pe_non))), ?_⟩
    refine ⟨_, rfl, _, rfl, _, rfl, (by show 3 ≤ sizeLine; decide), fun q nq => ?_⟩
    have s0 := same_upd (o := .lst [v1, v2, v3]) nq
    refine ⟨q, _, rfl, SqL.of upd_same, ?_⟩
    refine for_enum (K := K) (a := q) (xs := [v1, v2, v3]) (fun i σ H' => Same H H' ∧ H' q = some (.lst [v1, v2, v3]) ∧ (∃ w3 w4 w5, σ = [some v1, some v2, some v3, w3, w4, w5]) ∧ (1 ≤ i → withinD d1 0 GP = true) ∧ (2 ≤ i → ∃ a b, d1 = .int a ∧ d2 = .int b ∧ withinD d2 (-GP) GP = true ∧ ¬ (a = 0 ∧ b < 1)) ∧ (3 ≤ i → ∃ a cc, d1 = .int a ∧ d3 = .int cc ∧ withinD d3 0 GP = true ∧ ¬ (a ≠ 0 ∧ cc = 0))) ⟨s0, upd_same, ⟨none, none, none, rfl⟩, fun z => absurd z (by omega), fun z => absurd z (by omega), fun z => absurd z (by omega)⟩ (fun i σ H' _ h => SqL.of h.2.1) ?_ ?_
    · rintro i x σ H' T0 hx ⟨sm, hq, ⟨w3, w4, w5, rfl⟩, p1, p2, p3⟩ nT
      have sT := same_upd (o := .tup [.int (i : Nat), x]) nT
      have s1 := sm.trans sT
      have hq1 := sT _ _ hq
      obtain ⟨d, hd, hD, td⟩ : ∃ d, Dq K (upd H' T0 (.tup [.int (i : Nat), x])) x d ∧ [d1, d2, d3][i]? = some d ∧ Tell d := by
        match i, hx with
        | 0, hx =>
          cases hx
          exact ⟨d1, h1.same s1, rfl, t1⟩
        | 1, hx =>
          cases hx
          exact ⟨d2, h2.same s1, rfl, t2⟩
        | 2, hx =>
          cases hx
          exact ⟨d3, h3.same s1, rfl, t3⟩
      refine ⟨T0, _, rfl, SqT.of upd_same, rfl, _, _, rfl, _, _, rfl, rfl, ?_⟩
      -- good
      refine ⟨fun σ' H'' => σ' = [some v1, some v2, some v3, some (.int (i : Nat)), some x, some (.bl (withinD d (-GP) GP))] ∧ H'' = upd H' T0 (.tup [.int (i : Nat), x]), ?_, ?_⟩
      · refine ⟨_, rfl, _, _, _, _, intOrBool d, rfl, .ty _, ty_dq hd, kit_int d, _, rfl, ?_⟩
        cases e1 : intOrBool d with
        | false =>
          have e : withinD d (-GP) GP = false := by cases d <;> first | rfl | exact absurd e1 (by simp [intOrBool])
          rw [e]
          exact iteF ⟨rfl, rfl⟩
        | true =>
          refine iteT ⟨_, rfl, _, _, _, _, isBoolD d, rfl, .ty _, ty_dq hd, kit_bool d, _, rfl, ?_⟩
          cases e2 : isBoolD d with
          | true =>
            have e : withinD d (-GP) GP = false := by cases d <;> first | rfl | exact absurd e2 (by simp [isBoolD])
            rw [e]
            exact ⟨false, rfl, iteF ⟨rfl, rfl⟩⟩
          | false =>
            obtain ⟨z, rfl⟩ : ∃ z, d = .int z := by
              cases d with
              | int z => exact ⟨z, rfl⟩
              | bool b => cases e2
              | _ => cases e1
            cases dq_int hd
            refine ⟨true, rfl, iteT ?_⟩
            have eG : (10 : Int) ^ Int.toNat 40 = GP := by decide +kernel
            refine ⟨_, _, rfl, rfl, ⟨by decide, by decide, by decide⟩, _, rfl, _, rfl, _, _, rfl, rfl, _, rfl, ite2 (fun e3 => ⟨_, _, rfl, rfl, ⟨by decide, by decide, by decide⟩, _, _, rfl, rfl, ?_⟩) (fun e3 => ?_)⟩
            · rw [eG] at e3
              have e : withinD (.int z) (-GP) GP = decide (z ≤ GP) := by
                simp only [withinD]
                rw [show decide (-GP ≤ z) = true from e3]
                rfl
              rw [e, ← eG]
              exact ⟨rfl, rfl⟩
            · rw [eG] at e3
              have e : withinD (.int z) (-GP) GP = false := by
                simp only [withinD]
                rw [show decide (-GP ≤ z) = false from Bool.eq_false_iff.mpr e3]
                rfl
              rw [e]
              exact ⟨rfl, rfl⟩
      rintro σ1 H1 ⟨rfl, rfl⟩
      have lowF : ∀ {d : PyData}, withinD d (-GP) GP = false → withinD d 0 GP = false := fun {d} h => by
        cases d with
        | int z =>
          simp only [withinD] at h ⊢
          cases hz : decide (0 ≤ z) with
          | false => rfl
          | true =>
            have z0 := of_decide_eq_true hz
            have g0 : (0 : Int) ≤ GP := by decide +kernel
            rw [decide_eq_true (show -GP ≤ z by omega)] at h
            exact h
        | _ => rfl
      have isI : ∀ {d : PyData} {lo hi : Int}, withinD d lo hi = true → ∃ z, d = .int z := fun {d lo hi} h => by
        cases d with
        | int z => exact ⟨z, rfl⟩
        | _ => cases h
      have negF : ∀ {z : Int}, z < 0 → withinD (.int z) 0 GP = false := fun {z} h => by
        simp only [withinD]
        rw [decide_eq_false (show ¬ 0 ≤ z by omega)]
        rfl
      have posT : ∀ {z : Int}, withinD (.int z) (-GP) GP = true → ¬ z < 0 → withinD (.int z) 0 GP = true := fun {z} h n => by
        simp only [withinD] at h ⊢
        rw [decide_eq_true (show 0 ≤ z by omega)]
        exact (Bool.and_eq_true _ _).mp h |>.2
      cases hg' : withinD d (-GP) GP with
      | false =>
        have hR : Refused d1 d2 d3 i := by
          match i, hD, p1, p2 with
          | 0, hD, _, _ =>
            cases hD
            exact .first (lowF hg')
          | 1, hD, p1, _ =>
            cases hD
            have w1 := p1 (by decide)
            obtain ⟨a, rfl⟩ := isI w1
            exact .line w1 hg'
          | 2, hD, p1, p2 =>
            cases hD
            have w1 := p1 (by decide)
            obtain ⟨a, b, rfl, rfl, w2, n2⟩ := p2 (by decide)
            exact .whole w1 w2 n2 (lowF hg')
        exact ⟨_, rfl, _, rfl, iteT (iteT ⟨_, rfl, _, d, rfl, hd, td.s, td.p, td.l, (by show 4 ≤ sizeLine; decide), fun l nl => k1 i d hR hD _ l (s1.trans (same_upd nl)) ((s1.free nl)) upd_same⟩)⟩
      | true =>
        obtain ⟨z, rfl⟩ := isI hg'
        cases dq_int hd
        refine ⟨_, rfl, _, rfl, iteF ?_⟩
        match i, hx, hD, p1, p2, p3, k1 with
        | 0, hx, hD, p1, p2, p3, k1 =>
          cases hx
          cases hD
          refine ⟨_, rfl, rfl, _, rfl, ite2 (fun _ => ?_) (fun e => absurd (by decide +kernel) e)⟩
          refine ⟨_, rfl, _, _, rfl, rfl, _, rfl, ite2 (fun e => iteT ?_) (fun e => ?_)⟩
          · exact ⟨_, rfl, _, _, rfl, hd, td.s, td.p, td.l, (by show 4 ≤ sizeLine; decide), fun l nl => k1 0 _ (.first (negF (of_decide_eq_true e))) rfl _ l (s1.trans (same_upd nl)) (s1.free nl) upd_same⟩
          · have nz : ¬ z < 0 := fun q => e (decide_eq_true q)
            refine ⟨_, rfl, rfl, _, rfl, ite2 (fun e => absurd e (by decide +kernel)) (fun _ => iteF ⟨_, rfl, rfl, _, rfl, ite2 (fun e => absurd e (by decide +kernel)) (fun _ => iteF ?_)⟩)⟩
            exact ⟨s1, hq1, ⟨_, _, _, rfl⟩, fun _ => posT hg' nz, fun q => absurd q (by decide), fun q => absurd q (by decide)⟩
        | 1, hx, hD, p1, p2, p3, k1 =>
          cases hx
          cases hD
          have w1 := p1 (by decide)
          obtain ⟨a, rfl⟩ := isI w1
          cases dq_int h1
          refine ⟨_, rfl, rfl, _, rfl, ite2 (fun e => absurd e (by decide +kernel)) (fun _ => iteF ?_)⟩
          refine ⟨_, rfl, rfl, _, rfl, ite2 (fun _ => ?_) (fun e => absurd (by decide +kernel) e)⟩
          refine ⟨_, rfl, rfl, _, rfl, ite2 (fun ea => ⟨_, rfl, _, _, rfl, rfl, _, rfl, ite2 (fun ez => iteT ?_) (fun ez => ?_)⟩) (fun ea => iteF ?_)⟩
          · cases V.int.inj (of_decide_eq_true ea)
            exact ⟨_, rfl, _, _, rfl, hd, td.s, td.p, td.l, (by show 4 ≤ sizeLine; decide), fun l nl => k1 1 _ (.small hg' (of_decide_eq_true ez)) rfl _ l (s1.trans (same_upd nl)) (s1.free nl) upd_same⟩
          · exact ⟨_, rfl, rfl, _, rfl, ite2 (fun e => absurd e (by decide +kernel)) (fun _ => iteF ⟨s1, hq1, ⟨_, _, _, rfl⟩, fun _ => w1, fun _ => ⟨a, z, rfl, rfl, hg', fun q => ez (decide_eq_true q.2)⟩, fun q => absurd q (by decide)⟩)⟩
          · exact ⟨_, rfl, rfl, _, rfl, ite2 (fun e => absurd e (by decide +kernel)) (fun _ => iteF ⟨s1, hq1, ⟨_, _, _, rfl⟩, fun _ => w1, fun _ => ⟨a, z, rfl, rfl, hg', fun q => ea (decide_eq_true (congrArg V.int q.1))⟩, fun q => absurd q (by decide)⟩)⟩
        | 2, hx, hD, p1, p2, p3, k1 =>
          cases hx
          cases hD
          have w1 := p1 (by decide)
          obtain ⟨a, b, rfl, rfl, w2, n2⟩ := p2 (by decide)
          cases dq_int h1
          have a0 : 0 ≤ a := by
            simp only [withinD] at w1
            exact of_decide_eq_true ((Bool.and_eq_true _ _).mp w1).1
          refine ⟨_, rfl, rfl, _, rfl, ite2 (fun _ => ?_) (fun e => absurd (by decide +kernel) e)⟩
          refine ⟨_, rfl, _, _, rfl, rfl, _, rfl, ite2 (fun e => iteT ?_) (fun e => ?_)⟩
          · exact ⟨_, rfl, _, _, rfl, hd, td.s, td.p, td.l, (by show 4 ≤ sizeLine; decide), fun l nl => k1 2 _ (.whole w1 w2 n2 (negF (of_decide_eq_true e))) rfl _ l (s1.trans (same_upd nl)) (s1.free nl) upd_same⟩
          · have nz : ¬ z < 0 := fun q => e (decide_eq_true q)
            refine ⟨_, rfl, rfl, _, rfl, ite2 (fun e => absurd e (by decide +kernel)) (fun _ => iteF ?_)⟩
            refine ⟨_, rfl, rfl, _, rfl, ite2 (fun _ => ?_) (fun e => absurd (by decide +kernel) e)⟩
            refine ⟨_, rfl, _, _, rfl, rfl, _, rfl, ite2 (fun ea => ⟨_, rfl, rfl, _, rfl, ite2 (fun ez => ?_) (fun ez => ?_)⟩) (fun ea => iteF ?_)⟩
            · cases V.int.inj (of_decide_eq_true ez)
              have ap : 0 < a := of_decide_eq_true ea
              exact ⟨_, rfl, _, _, rfl, hd, td.s, td.p, td.l, (by show 4 ≤ sizeLine; decide), fun l nl => k1 2 _ (.zero w1 w2 (by omega)) rfl _ l (s1.trans (same_upd nl)) (s1.free nl) upd_same⟩
            · exact ⟨s1, hq1, ⟨_, _, _, rfl⟩, fun _ => w1, fun _ => ⟨a, b, rfl, rfl, w2, n2⟩, fun _ => ⟨a, z, rfl, rfl, posT hg' nz, fun q => ez (decide_eq_true (congrArg V.int q.2))⟩⟩
            · exact ⟨s1, hq1, ⟨_, _, _, rfl⟩, fun _ => w1, fun _ => ⟨a, b, rfl, rfl, w2, n2⟩, fun _ => ⟨a, z, rfl, rfl, posT hg' nz, fun q => q.1 (by have : ¬ 0 < a := fun y => ea (decide_eq_true y); omega)⟩⟩
    · rintro σ H' ⟨sm, hq, ⟨w3, w4, w5, rfl⟩, p1, p2, p3⟩
      refine k2 (fun n hr => ?_) H' sm
      have w1 := p1 (by show 1 ≤ 3; decide)
      obtain ⟨a, b, rfl, rfl, w2, n2⟩ := p2 (by show 2 ≤ 3; decide)
      obtain ⟨a', cc, e, rfl, w3, n3⟩ := p3 (by show 3 ≤ 3; decide)
      cases e
      cases hr with
      | first e => rw [w1] at e; cases e
      | line e1 e2 => rw [w2] at e2; cases e2
      | small e1 e2 => exact n2 ⟨rfl, e2⟩
      | whole e1 e2 e3 e4 => rw [w3] at e4; cases e4
      | zero e1 e2 e3 => exact n3 ⟨e3, rfl⟩
end
end RL

set_option maxHeartbeats 2000000
/-! len of an own object; own operators, methods, makings that may raise. -/
namespace RL
open PySem L2 PySem.Spec PyProof.Rows
section
variable {X : Cx} {k : Nat} {ps : List Str} {sp : Sp} {C g : Addr} {fd : FuncData} {E : XK}
/-- a own + b that may raise -/
def rBinN (C : Addr) (sp : Sp) (E : XK) : R2 := fun x y H Q => ∃ a dx fs b dy gs, x = .ref a ∧ H a = some (.ins C dx fs) ∧ y = .ref b ∧ H b = some (.ins C dy gs) ∧ sp [x, y] H Q E
theorem op_binOwnN {op : Operator} (hc : PySem.W.selfFirst X.K C = true) (hs : PySem.W.findIn X.K (.ref C) (PySem.dunder op.info.2) = some (some (.ref g))) (hf : PySem.W.isFn X.K (.ref g) = true) (F : FnOk X.prog X.w X.K X.mg X.base (L2N.CX X.prog X.w) k g fd ps sp) (hb : Binds X.K fd ps []) (hr : Room k X.A)
    (hx : Passes (L2N.CX X.prog X.w) X E) : OpR X (binaryOp op) (rBinN C sp E) := by
  intro pins s σ H x y v u Q I rx ry h
  obtain ⟨a, dx, fs, b, dy, gs, rfl, ha, rfl, hy, q⟩ := h
  cases (show v = Value.ref a from rx)
  cases (show u = Value.ref b from ry)
  obtain ⟨mA, O, _⟩ := ins_get I.hok ha
  obtain ⟨od, J, _⟩ := O.look
  obtain ⟨mB, O2, _⟩ := ins_get I.hok hy
  obtain ⟨od2, J2, _⟩ := O2.look
  obtain ⟨m, hF⟩ := I.fr
  have q0 : sp ([.ref a, .ref b] ++ []) H Q E := q
  refine PySem.W.binop_K hF I.ok.mod.kin J J2.type hc hs hf (wpAny_mono (run_fn (us := [.ref a, .ref b]) (vs := [.ref a, .ref b]) F hr hb .nil hx I (.cons rfl (.cons rfl .nil)) q0) (fun w s' ⟨z', H', I', rz, qz⟩ => ?_) fun _ _ z => z)
  exact SlX.cmpback rz ⟨z', H', I', rz, qz⟩
/-- len(o), o's class has a __len__ -/
def rLenOwn (C : Addr) (sp : Sp) : List V → Hp → VK → Prop := fun vs H Q => ∃ a dx fs, vs = [.ref a] ∧ H a = some (.ins C dx fs) ∧ sp [.ref a] H (fun v H' => ∃ n : Nat, v = .int (n : Int) ∧ n ≤ 1000 ∧ Q (.int (n : Int)) H') E0
theorem call_lenOwn (hs : PySem.W.findIn X.K (.ref C) "__len__" = some (some (.ref g))) (hf : PySem.W.isFn X.K (.ref g) = true) (F : FnOk X.prog X.w X.K X.mg X.base CX0 k g fd ps sp) (hb : Binds X.K fd ps []) (hr : Room (k + 1) X.A) : CallR X (.builtin "len") (rLenOwn C sp) := by
  intro pins s σ H vs us Q I r h
  obtain ⟨a, dx, fs, rfl, ha, q⟩ := h
  rw [Vals.ref1 r]
  obtain ⟨mA, O, _⟩ := ins_get I.hok ha
  obtain ⟨od, J, _⟩ := O.look
  obtain ⟨m, hF⟩ := I.fr
  have hl : ([Value.ref a] ++ []).length = ps.length := F.len _ _ _ _ q
  refine PySem.W.len_K hF I.ok.mod.kin J hs hf (wpAny_call (codeAny_mono (F.run X.A.in1 X.stack s H ⟨[.ref a], []⟩ [.ref a] [.ref a] _ E0 hr.in1 I.env0.in1 (hb s [.ref a] I.kIn hl) (.cons rfl .nil) q) fun z s' hq => ?_))
  match z, hq with
  | .ok (.ret w'), hq =>
    obtain ⟨v', H', I', rv, n, e, hn, qz⟩ := I.after hq
    subst e
    obtain ⟨t, e2⟩ := (show ∃ t, w' = Value.int (n : Int) t from rv)
    subst e2
    exact ⟨⟨by omega, by omega⟩, .int (n : Int), H', I'.tok _, ⟨_, rfl⟩, qz⟩
end
end RL

set_option maxHeartbeats 4000000
namespace RL
open PySem L2 PySem.Spec PyProof.Rows
def ordN {α : Type} : List α → List α → List α := fun us ws => match ws with
  | [a, b, c] => us ++ [c, b, a]
  | _ => us
/-- Exact where it may refuse, by position and by keywords -/
structure ExN (P : Program) (w : World) (K : PySem.W.Frag) (mg : Str → Option Value) (base : Heap) (C CN : Addr) : Prop where
  ex : ∃ (fI : Addr) (fdI : FuncData), Mk K C fI ∧ FnOk P w K mg base (L2N.CX P w) 5 fI fdI ["self", "square", "line", "whole"] (spInitB K C CN) ∧ Binds K fdI ["self", "square", "line", "whole"] [] ∧
    KBn K fdI ["self", "square", "line", "whole"] 1 (["whole", "line", "square"] : List Str) ordN ordN
theorem pe_exactN {X : Cx} {K : PySem.W.Frag} {C CN : Addr} {E : XK} {p pos : Pos} {e : Expr} {es : List Expr} {t : TA} (D : ExN X.prog X.w K X.mg X.base C CN) (hr : Room 6 X.A) (hg : Gl X "Exact") (hm : X.mg "Exact" = some (.ref C)) (hx : Passes (L2N.CX X.prog X.w) X E)
    (ha : PA X (e :: es) t) (he : starEach (e :: es) X.env = (false, eval e X.env) :: starEach es X.env := by rfl) (hpl : (backTo pos (starEach es X.env)).any (·.1) = false := by rfl) (hK : X.K = K := by rfl) :
    PE X (.Call (.Name "Exact" p) (e :: es) [] pos) (tMake C (spInitB K C CN) [] E t) := by
  subst hK
  obtain ⟨fI, fdI, M, G, hb, _⟩ := D.ex
  exact pe_make M G hr hg hm hb .nil hx ha (by decide) he hpl
theorem pe_exactKN {X : Cx} {K : PySem.W.Frag} {C CN : Addr} {E : XK} {p pos : Pos} {kws : List Keyword} {tk : TA} (D : ExN X.prog X.w K X.mg X.base C CN) (hr : Room 6 X.A) (hg : Gl X "Exact") (hm : X.mg "Exact" = some (.ref C)) (hx : Passes (L2N.CX X.prog X.w) X E) (hkw : PK X kws tk)
    (hall : (backToKw pos (keywordEach kws X.env)).all (·.1.isSome) = true := by rfl) (hks : (backToKw pos (keywordEach kws X.env)).filterMap (·.1) = (["whole", "line", "square"] : List Str) := by rfl)
    (hpl : ((backTo pos (starEach [] X.env)).any (·.1) || (backToKw pos (keywordEach kws X.env)).any (·.1.isNone)) = false := by rfl) (hK : X.K = K := by rfl) :
    PE X (.Call (.Name "Exact" p) [] kws pos) (tMakeK C 0 3 (spInitB K C CN) ordN E tNil tk) := by
  subst hK
  obtain ⟨fI, fdI, M, G, _, kb⟩ := D.ex
  exact pe_makeK0 M G hr hg hm kb hx hkw hall hks (by decide) hpl
/-- a method of Exact that answers -/
structure MtC (P : Program) (w : World) (K : PySem.W.Frag) (mg : Str → Option Value) (base : Heap) (C : Addr) (k : Nat) (m p1 kw : Str) (sp : Sp) (g : Addr) (fd : FuncData) : Prop where
  m : Meth K C m g
  ok : FnOk P w K mg base CX0 k g fd [p1, kw] sp
  b : Binds K fd [p1, kw] []
end RL

set_option maxHeartbeats 2000000
namespace RL
open PySem L2 PySem.Spec PyProof.Rows
theorem eqv2 {a b c d : Int} (h : PyData.eqv (.tuple [.int a, .int b]) (.tuple [.int c, .int d]) = true) : a = c ∧ b = d := by
  simp [PyData.eqv, PyData.eqvAll] at h
  exact h
def spBeside : Sp := fun vs H Q _ => ∃ (p : Addr) (s l w x y : Int), vs = [.ref p, .int x, .int y] ∧ H p = some (.tup [.int s, .int l, .int w]) ∧ Sm 1000 s ∧ Sm 1000 l ∧ Sm 1000 w ∧ Sm 1000 x ∧ Sm 1000 y ∧ Q (.int (beside s l w x y)) H
def spCompare (C : Addr) : Sp := fun vs H Q _ => ∃ (x : Addr) (s l w : Int) (v : V), vs = [.ref x, v] ∧ ExAt C H x s l w ∧ Sm 1000 s ∧ Sm 1000 l ∧ Sm 1000 w ∧
  ((∃ i : Int, v = .int i ∧ 0 ≤ i ∧ i ≤ 1000000000000 ∧ ∀ H', Same H H' → Q (.int (beside s l w i 1)) H') ∨
   (∃ (p : Addr) (t b : Int), v = .ref p ∧ H p = some (.tup [.int t, .int b]) ∧ ResP t b ∧ ∀ H', Same H H' → Q (.int (if b = 0 then -1 else beside s l w t b)) H'))
def spFloor (C : Addr) : Sp := fun vs H Q _ => ∃ (x : Addr) (s l w t : Int), vs = [.ref x, .int t] ∧ ExAt C H x s l w ∧ Good s l w ∧ Sm 400 s ∧ Sm 400 l ∧ Sm 400 w ∧ 1 ≤ t ∧ t ≤ 10000000000000000000000000000000000000000 ∧
  ∀ H', Same H H' → Q (.int (flo s l w t)) H'
def spFloOf : Sp := fun vs H Q _ => ∃ (pp : Addr) (sq l w t : Int), vs = [.ref pp, .int t] ∧ H pp = some (.tup [.int sq, .int l, .int w]) ∧ Good sq l w ∧ Sm 400 sq ∧ Sm 400 l ∧ Sm 400 w ∧ 1 ≤ t ∧ t ≤ 10000000000000000000000000000000000000000 ∧ ∀ H', Same H H' → Q (.int (flo sq l w t)) H'
section
variable {P : Program} {w : World} {K : PySem.W.Frag} {mg : Str → Option Value} {base : Heap} {tG t1 t2 t3 tP tC : Tok} {aO aW J C Ce Cl : Addr}
abbrev s_beside_fraction : Stmt := top 44
theorem sc_beside_fraction : FnScope ["parts", "top", "bottom", "square", "line", "whole"] ["parts", "top", "bottom"] (defScope s_beside_fraction) := ⟨rfl, rfl, rfl, by decide +kernel, rfl, by decide +kernel, by decide +kernel⟩

theorem ok_beside {f : Addr} {fd : FuncData} (F : Fun K "beside_fraction" "beside_fraction" s_beside_fraction f fd) (D_sign : Df P w K mg base 1 "sign" ["number"] spSign) : FnOk P w K mg base CX0 2 f fd ["parts", "top", "bottom"] spBeside := by
  refine F.ok sc_beside_fraction (fun vs H Q E h => ?_) (fun cdv A outer s H vs Q E hr h => ?_)
  · obtain ⟨p, s, l, w, x, y, rfl, _⟩ := h
    rfl
  · obtain ⟨p, sq, l, w, x, y, rfl, hp, hs, hl, hw, hx, hy, k⟩ := h
    refine ⟨_, (pss_cons (ps_asg (pv 0) (pg_tup rfl (pgs_cons (pg_name (i := 3) sc_beside_fraction.nd rfl (.inl rfl)) (pgs_cons (pg_name (i := 4) sc_beside_fraction.nd rfl (.inl rfl)) (pgs_cons (pg_name (i := 5) sc_beside_fraction.nd rfl (.inl rfl)) pgs_nil)))))
      (pss_one (ps_ret (pe_df D_sign (hr.mono (by decide)) (by rfl) (pa_cons (pe_op op_sub (pe_op op_sub (pe_op op_mulX (pe_op op_mulX (pv 5) (pv 2)) (pv 2)) (pe_op op_mulX (pe_op op_mulX (pv 4) (pv 1)) (pv 2))) (pe_op op_mulX (pe_op op_mulX (pv 3) (pv 1)) (pv 1))) pa_nil))))), ?_⟩
    refine ⟨_, rfl, p, _, rfl, SqT.of hp, rfl, _, _, rfl, _, _, rfl, _, _, rfl, rfl, ?_⟩
    refine ⟨_, rfl, _, rfl, _, _, rfl, rfl, mx hw hy, _, rfl, _, _, rfl, rfl, mx (hw.mul hy) hy, _, rfl, _, rfl, _, _, rfl, rfl, mx hl hx, _, rfl, _, _, rfl, rfl, mx (hl.mul hx) hy, _, _, rfl, rfl, _, rfl, _, rfl, _, _, rfl, rfl, mx hs hx, _, rfl, _, _, rfl, rfl, mx (hs.mul hx) hx, _, _, rfl, rfl, _, rfl, ?_⟩
    exact k
theorem ok_compare {f : Addr} {fd : FuncData} (F : Fun K "compare" "Exact.compare" s_Exact_compare f fd) (T : Txt4 K mg tG t1 t2 t3 tP tC aO aW J C Ce Cl) (D_is_resistance : Df P w K mg base 3 "is_resistance" ["value"] spIsRes) (D_pair_of : Df P w K mg base 2 "pair_of" ["fraction_or_open"] spPairOf) (D_beside_fraction : Df P w K mg base 2 "beside_fraction" ["parts", "top", "bottom"] spBeside) :
    FnOk P w K mg base CX0 4 f fd ["self", "resistance"] (spCompare Ce) := by
  refine F.ok sc_Exact_compare (fun vs H Q E h => ?_) (fun cdv A outer s H vs Q E hr h => ?_)
  · obtain ⟨x, sq, l, w, v, rfl, _⟩ := h
    rfl
  · obtain ⟨x, sq, l, w, v, rfl, ⟨dx, pp, hx, hpp⟩, hs, hl, hw, hv⟩ := h
    refine ⟨_, (pss_cons (ps_if (pt_not (pt_val (pe_df D_is_resistance (hr.mono (by decide)) (by rfl) (pa_cons (pv 1) pa_nil)))) (pss_one ps_never) pss_nil)
      (pss_cons (ps_asg (pe_df D_pair_of (hr.mono (by decide)) (by rfl) (pa_cons (pv 1) pa_nil)) (pg_tup rfl (pgs_cons (pg_name (i := 2) sc_Exact_compare.nd rfl (.inl rfl)) (pgs_cons (pg_name (i := 3) sc_Exact_compare.nd rfl (.inl rfl)) pgs_nil))))
      (pss_cons (ps_if (pt_cmpR (op_eqD hr.units) (pe_tup (pa_cons (pv 2) (pa_cons (pv 3) pa_nil))) (pe_glob (v := .ref aO) rfl T.mgO rfl) (nomark _)) (pss_one (ps_ret (pe_un un_neg pe_int))) pss_nil)
      (pss_one (ps_ret (pe_df D_beside_fraction (hr.mono (by decide)) (by rfl) (pa_cons (pe_fld (pv 0) rfl) (pa_cons (pv 2) (pa_cons (pv 3) pa_nil))))))))), ?_⟩
    have s1 : ∀ {i : Int}, 0 ≤ i → i ≤ 1000000000000 → Sm 1000 i := fun {i} h1 h2 => sm12 h1 h2
    rcases hv with ⟨i, rfl, i0, i1, k⟩ | ⟨p, t, b, rfl, hp, hR, k⟩
    · refine ⟨_, rfl, .inl ⟨i, rfl, i0, i1, true, rfl, iteF ?_⟩⟩
      refine ⟨_, rfl, .inl ⟨i, rfl, fun H1 p sm np hp => ?_⟩⟩
      refine ⟨p, _, rfl, SqT.of hp, rfl, _, _, rfl, _, _, rfl, rfl, ?_⟩
      refine ⟨_, rfl, _, rfl, (by show 2 ≤ sizeLine; decide), fun q hq => ?_⟩
      have sm2 := sm.trans (same_upd (o := .tup [.int i, .int 1]) hq)
      refine ⟨.tuple [.int i, .int 1], .tuple [.int 1, .int 0], .tup (SqT.of upd_same) (.cons (.int _) (.cons (.int _) .nil)), .tup (.inr T.opn) (.cons (.int _) (.cons (.int _) .nil)), rfl, rfl, _, rfl, ite2 (fun e => ?_) (fun e => ?_)⟩
      · exact absurd (eqv2 e).2 (by decide)
      · refine ⟨_, rfl, x, Ce, dx, _, _, rfl, sm2 _ _ hx, T.clE, T.nP, rfl, _, rfl, _, rfl, pp, sq, l, w, i, 1, rfl, sm2 _ _ hpp, hs, hl, hw, s1 i0 i1, s1 (by decide) (by decide), ?_⟩
        exact k _ sm2
    · refine ⟨_, rfl, .inr ⟨p, t, b, rfl, hp, hR, true, rfl, iteF ?_⟩⟩
      refine ⟨_, rfl, .inr ⟨p, _, rfl, hp, ?_⟩⟩
      refine ⟨p, _, rfl, SqT.of hp, rfl, _, _, rfl, _, _, rfl, rfl, ?_⟩
      refine ⟨_, rfl, _, rfl, (by show 2 ≤ sizeLine; decide), fun q hq => ?_⟩
      have sm2 := same_upd (o := .tup [.int t, .int b]) hq
      refine ⟨.tuple [.int t, .int b], .tuple [.int 1, .int 0], .tup (SqT.of upd_same) (.cons (.int _) (.cons (.int _) .nil)), .tup (.inr T.opn) (.cons (.int _) (.cons (.int _) .nil)), rfl, rfl, _, rfl, ite2 (fun e => ?_) (fun e => ?_)⟩
      · rw [if_pos (eqv2 e).2] at k
        exact ⟨1, rfl, k _ sm2⟩
      · have hb : ¬ b = 0 := fun z => by
          rcases hR with z2 | ⟨rfl, rfl⟩
          · omega
          · exact e (SeqAt.eqv_refl _ (by decide +kernel))
        rw [if_neg hb] at k
        rcases hR with ⟨t0, t1, b0, b1⟩ | z
        · refine ⟨_, rfl, x, Ce, dx, _, _, rfl, sm2 _ _ hx, T.clE, T.nP, rfl, _, rfl, _, rfl, pp, sq, l, w, t, b, rfl, sm2 _ _ hpp, hs, hl, hw, s1 t0 t1, s1 (by omega) b1, ?_⟩
          exact k _ sm2
        · exact absurd z.2 hb
abbrev s_floor_of : Stmt := top 43
theorem sc_floor_of : FnScope ["parts", "times", "square", "line", "whole", "root"] ["parts", "times"] (defScope s_floor_of) := ⟨rfl, rfl, rfl, by decide +kernel, rfl, by decide +kernel, by decide +kernel⟩

theorem ok_floof {f : Addr} {fd : FuncData} (F : Fun K "floor_of" "floor_of" s_floor_of f fd) (D_square_root : Df P w K mg base 1 "square_root" ["number"] spRoot) (D_under_root : Df P w K mg base 1 "under_root" ["square", "line", "whole"] spUnder) :
    FnOk P w K mg base CX0 2 f fd ["parts", "times"] spFloOf := by
  refine F.ok sc_floor_of (fun vs H Q E h => ?_) (fun cdv A outer s H vs Q E hr h => ?_)
  · obtain ⟨pp, sq, l, w, t, rfl, _⟩ := h
    rfl
  · obtain ⟨pp, sq, l, w, t, rfl, hpp, hG, hs, hl, hw, t0, t1, k⟩ := h
    refine ⟨_, (pss_cons (ps_asg (pv 0) (pg_tup rfl (pgs_cons (pg_name (i := 2) sc_floor_of.nd rfl (.inl rfl)) (pgs_cons (pg_name (i := 3) sc_floor_of.nd rfl (.inl rfl)) (pgs_cons (pg_name (i := 4) sc_floor_of.nd rfl (.inl rfl)) pgs_nil)))))
      (pss_cons (ps_if (pt_cmpR op_eq (pv 2) pe_int (nomark _)) (pss_one (ps_ret (pe_op op_fdivW (pe_op op_mulX (pv 1) (pv 4)) (pv 3)))) pss_nil)
      (pss_cons (ps_set (i := 5) sc_floor_of.nd rfl (.inl rfl) (pe_df D_square_root (hr.mono (by decide)) (by rfl) (pa_cons (pe_op op_mulX (pe_op op_mulX (pv 1) (pv 1)) (pe_df D_under_root (hr.mono (by decide)) (by rfl) (pa_cons (pv 2) (pa_cons (pv 3) (pa_cons (pv 4) pa_nil))))) pa_nil)))
      (pss_one (ps_ret (pe_op op_fdivW (pe_op op_sub (pv 5) (pe_op op_mulX (pv 1) (pv 3))) (pe_op op_mul pe_int (pv 2)))))))), ?_⟩
    have e40 : (10 : Int) ^ 40 = 10000000000000000000000000000000000000000 := by decide
    have ts : Sm 133 t := sm40 (by omega) (by omega)
    unfold flo at k
    refine ⟨_, rfl, pp, _, rfl, SqT.of hpp, rfl, _, _, rfl, _, _, rfl, _, _, rfl, rfl, ?_⟩
    refine ⟨_, rfl, rfl, _, rfl, ite2 (fun e => ?_) (fun e => ?_)⟩
    · have s0 : sq = 0 := V.int.inj (of_decide_eq_true e)
      rw [if_pos s0] at k
      have l0 : 0 < l := by
        rcases hG with g | g <;> omega
      exact ⟨_, rfl, _, rfl, _, _, rfl, rfl, mx ts hw, _, rfl, _, _, rfl, rfl, dvw l0 hl, k _ (Same.refl _)⟩
    · have s0 : ¬ sq = 0 := fun z => e (decide_eq_true (congrArg V.int z))
      rw [if_neg s0] at k
      have g : 1 ≤ sq ∧ 1 ≤ w := by
        rcases hG with g | g
        · exact absurd g.1 s0
        · exact g
      have ip := inside_pos (b := l) g
      have hd : Sm 1300 (l * l + 4 * sq * w) := by
        have h4 : Sm 3 4 := by unfold Sm; decide
        have e1 : Sm (400 + 400) (l * l) := hl.mul hl
        have e2 : Sm (3 + 400 + 400) (4 * sq * w) := (h4.mul hs).mul hw
        exact (Sm.add (n := 803) (e1.mono (by decide)) (e2.mono (by decide))).mono (by decide)
      have tt : Sm (133 + 133) (t * t) := ts.mul ts
      refine ⟨_, rfl, _, rfl, _, _, rfl, rfl, mx ts ts, _, rfl, _, rfl, _, rfl, sq, l, w, rfl, hs.mono (by decide), hl.mono (by decide), hw.mono (by decide), _, _, rfl, rfl, mx tt hd, ?_⟩
      refine ⟨_, rfl, Int.mul_nonneg (Int.mul_nonneg (by omega) (by omega)) ip.2, (tt.mul hd).mono (by decide), fun H1 sm => ?_⟩
      have s2 : Sm 500 (2 * sq) := (Sm.mul (m := 2) (x := 2) (by unfold Sm; decide) hs).mono (by decide)
      refine ⟨_, rfl, _, rfl, _, rfl, _, _, rfl, rfl, mx ts hl, _, _, rfl, rfl, _, rfl, _, _, rfl, rfl, .inl ⟨by decide, by decide⟩, _, _, rfl, rfl, dvw (by omega) s2, ?_⟩
      exact k _ sm
theorem ok_floor {f : Addr} {fd : FuncData} (F : Fun K "floor" "Exact.floor" s_Exact_floor f fd) (T : Txt4 K mg tG t1 t2 t3 tP tC aO aW J C Ce Cl) (D_is_integer_within : Df P w K mg base 2 "is_integer_within" ["value", "least", "most"] spWithin) (D_floor_of : Df P w K mg base 2 "floor_of" ["parts", "times"] spFloOf) :
    FnOk P w K mg base CX0 3 f fd ["self", "times"] (spFloor Ce) := by
  refine F.ok sc_Exact_floor (fun vs H Q E h => ?_) (fun cdv A outer s H vs Q E hr h => ?_)
  · obtain ⟨x, sq, l, w, t, rfl, _⟩ := h
    rfl
  · obtain ⟨x, sq, l, w, t, rfl, ⟨dx, pp, hx, hpp⟩, hG, hs, hl, hw, t0, t1, k⟩ := h
    refine ⟨_, (pss_cons (ps_if (pt_not (pt_val (pe_df D_is_integer_within (hr.mono (by decide)) (by rfl) (pa_cons (pv 1) (pa_cons pe_int (pa_cons (pe_glob (v := .int 10000000000000000000000000000000000000000) rfl T.mgP ⟨_, rfl⟩) pa_nil)))))) (pss_one ps_never) pss_nil)
      (pss_one (ps_ret (pe_df D_floor_of (hr.mono (by decide)) (by rfl) (pa_cons (pe_fld (pv 0) rfl) (pa_cons (pv 1) pa_nil)))))), ?_⟩
    refine ⟨_, rfl, t, 1, _, rfl, t0, t1, true, rfl, iteF ?_⟩
    exact ⟨_, rfl, x, Ce, dx, _, _, rfl, hx, T.clE, T.nP, rfl, _, rfl, pp, sq, l, w, t, rfl, hpp, hG, hs, hl, hw, t0, t1, k⟩
end
end RL

namespace RL
open PySem L2
/-! ### data that repr shows, put together -/
structure Tame (w h : Nat) (d : PyData) : Prop where
  s : d.showable = true
  n : d.hasDict = false
  v : d.leavesShort 300 = true
  w_ : d.weight ≤ w
  d_ : d.depth ≤ h
theorem Tame.shows {w h : Nat} {d : PyData} (t : Tame w h d) (hw : w ≤ 10000 := by decide) (hh : h ≤ 40 := by decide) : Shows d := by
  refine ⟨t.s, t.n, Nat.le_trans t.d_ hh, ?_⟩
  have e := PyData.shown_le 300 (by decide) d t.v
  have := Nat.le_trans t.w_ hw
  rw [sizeLine_eq]
  omega
theorem Tame.mono {w h w' h' : Nat} {d : PyData} (t : Tame w h d) (hw : w ≤ w' := by decide) (hh : h ≤ h' := by decide) : Tame w' h' d := ⟨t.s, t.n, t.v, Nat.le_trans t.w_ hw, Nat.le_trans t.d_ hh⟩
theorem tame_int {i : Int} (h : Sm 200 i) : Tame 200 0 (.int i) := by
  obtain ⟨a, b, c⟩ := show_int h
  exact ⟨a, by simp only [PyData.hasDict], b, c, by simp only [PyData.depth]; exact Nat.le_refl _⟩
theorem tame_all {w h : Nat} : ∀ {xs : List PyData}, (∀ d ∈ xs, Tame w h d) → PyData.showableAll xs = true ∧ PyData.hasDictAll xs = false ∧ PyData.leavesShortAll 300 xs = true ∧ PyData.weightAll xs ≤ xs.length * (w + 1) ∧ PyData.depthAll xs ≤ h
  | [], _ => ⟨by simp only [PyData.showableAll], by simp only [PyData.hasDictAll], by simp only [PyData.leavesShortAll], by simp [PyData.weightAll], by simp [PyData.depthAll]⟩
  | x :: xs, H => by
    obtain ⟨a, b, c, d, e⟩ := H x List.mem_cons_self
    obtain ⟨a', b', c', d', e'⟩ := tame_all fun z hz => H z (List.mem_cons_of_mem _ hz)
    refine ⟨by simp only [PyData.showableAll, a, a', Bool.and_self], by simp only [PyData.hasDictAll, b, b', Bool.or_self], by simp only [PyData.leavesShortAll, c, c', Bool.and_self], ?_, ?_⟩
    · simp only [PyData.weightAll, List.length_cons]
      have : (xs.length + 1) * (w + 1) = xs.length * (w + 1) + (w + 1) := Nat.succ_mul _ _
      omega
    · simp only [PyData.depthAll]
      omega
theorem tame_tup {w h : Nat} {xs : List PyData} (H : ∀ d ∈ xs, Tame w h d) : Tame (xs.length * (w + 1)) (h + 1) (.tuple xs) := by
  obtain ⟨a, b, c, d, e⟩ := tame_all H
  exact ⟨by simp only [PyData.showable, a], by simp only [PyData.hasDict, b], by simp only [PyData.leavesShort, c], by simp only [PyData.weight]; exact d, by simp only [PyData.depth]; omega⟩
theorem tame_lst {w h : Nat} {xs : List PyData} (H : ∀ d ∈ xs, Tame w h d) : Tame (xs.length * (w + 1)) (h + 1) (.list xs) := by
  obtain ⟨a, b, c, d, e⟩ := tame_all H
  exact ⟨by simp only [PyData.showable, a], by simp only [PyData.hasDict, b], by simp only [PyData.leavesShort, c], by simp only [PyData.weight]; exact d, by simp only [PyData.depth]; omega⟩
theorem tame_2 {w h : Nat} {x y : PyData} (hx : Tame w h x) (hy : Tame w h y) : Tame (2 * (w + 1)) (h + 1) (.tuple [x, y]) := tame_tup (xs := [x, y]) fun d hd => by
  simp only [List.mem_cons, List.not_mem_nil, or_false] at hd
  rcases hd with rfl | rfl
  · exact hx
  · exact hy
theorem tame_l2 {w h : Nat} {x y : PyData} (hx : Tame w h x) (hy : Tame w h y) : Tame (2 * (w + 1)) (h + 1) (.list [x, y]) := tame_lst (xs := [x, y]) fun d hd => by
  simp only [List.mem_cons, List.not_mem_nil, or_false] at hd
  rcases hd with rfl | rfl
  · exact hx
  · exact hy
end RL

set_option maxHeartbeats 4000000
namespace RL
open PySem L2 PySem.Spec PyProof.Rows
theorem ix_listK {X : Cx} {K : PySem.W.Frag} (hK : X.K = K := by rfl) : IxR X (rIxL K) := by
  subst hK
  exact ix_list
/-- what is shown of it fits and is well-formed -/
def pTell (d : PyData) : Bool := d.showable && decide (d.depth ≤ 40) && decide (d.shown.length ≤ 1000) && PyData.canLay0 (.str d.shown)
theorem ixN_nat {n j : Nat} (h : j < n) : ixN n (j : Int) = some j := by
  unfold ixN
  rw [if_pos (by omega), if_pos (by omega)]
  rfl
theorem numTell (d : PyData) (h : pNum d = true) : pTell d = true := by
  unfold pNum at h
  unfold pTell
  simp only [Bool.and_eq_true] at h ⊢
  obtain ⟨⟨⟨⟨_, h1⟩, h2⟩, h3⟩, h4⟩ := h
  exact ⟨⟨⟨h1, h2⟩, h3⟩, h4⟩
theorem tell_of {d : PyData} (h : pTell d = true) : Tell d ∧ PyData.canLay0 (.str d.shown) = true := by
  unfold pTell at h
  simp only [Bool.and_eq_true, decide_eq_true_eq] at h
  obtain ⟨⟨⟨h1, h2⟩, h3⟩, h4⟩ := h
  exact ⟨⟨h1, h2, Nat.le_of_lt (small1000 (by omega))⟩, h4⟩
theorem dcq {K : PySem.W.Frag} {c l : Addr} {H : Hp} {v : V} {d : PyData} (h : Dq K (hidS c l H) v d) : Dq K H v d := h.same fun b o e => (hs_get e).2.2.1
/-- the three parts and what else is kept -/
structure PD (K : PySem.W.Frag) (TT : List (Addr × Str)) (cu : Addr) (H1 H : Hp) (v1 v2 v3 : V) (d1 d2 d3 : PyData) : Prop where
  but : ButT cu H1 H
  cup : CupAt cu H
  tabs : LamX.Tabs TT H
  g1 : Dq K (hidS cu cu H) v1 d1
  g2 : Dq K (hidS cu cu H) v2 d2
  g3 : Dq K (hidS cu cu H) v3 d3
theorem PD.step {K : PySem.W.Frag} {TT : List (Addr × Str)} {cu : Addr} {H1 H H' : Hp} {v1 v2 v3 : V} {d1 d2 d3 : PyData} (h : PD K TT cu H1 H v1 v2 v3 d1 d2 d3) (s : ButT cu H H') (hc : CupAt cu H') (t : LamX.Tabs TT H') : PD K TT cu H1 H' v1 v2 v3 d1 d2 d3 :=
  have k : Same (hidS cu cu H) (hidS cu cu H') := hs_but fun b o n _ nt e => s b o n nt e
  ⟨h.but.trans s, hc, t, h.g1.same k, h.g2.same k, h.g3.same k⟩
/-- what is due: the refusal's list, or nothing -/
def DueW (cu : Addr) (H : Hp) (d1 d2 d3 : PyData) (w : V) : Prop := (∃ (n : Nat) (d : PyData) (q : Addr), Refused d1 d2 d3 n ∧ [d1, d2, d3][n]? = some d ∧ w = .ref q ∧ H q = some (.lst [.int 4, .int 20, .int 23, .str d.shown]) ∧ q ≠ cu) ∨ (w = .non ∧ ∀ n, ¬ Refused d1 d2 d3 n)
/-- what was told: the refusal, or the text of what was made -/
def TOK (d1 d2 d3 : PyData) (H : Hp) (q : Addr) : Prop := (∃ (n : Nat) (d : PyData), Refused d1 d2 d3 n ∧ [d1, d2, d3][n]? = some d ∧ H q = some (.lst [.int 4, .int 20, .int 23, .str d.shown])) ∨ ((∀ n, ¬ Refused d1 d2 d3 n) ∧ ∃ y : Str, H q = some (.lst [.str (Str.ofString "given"), .str y]))
theorem TOK.same {d1 d2 d3 : PyData} {H H' : Hp} {q : Addr} (h : TOK d1 d2 d3 H q) (s : Same H H') : TOK d1 d2 d3 H' q := by
  rcases h with ⟨n, d, h1, h2, h3⟩ | ⟨h1, y, h2⟩
  · exact .inl ⟨n, d, h1, h2, s _ _ h3⟩
  · exact .inr ⟨h1, y, s _ _ h2⟩
theorem TOK.ne {d1 d2 d3 : PyData} {H : Hp} {q cu : Addr} (h : TOK d1 d2 d3 H q) (hc : CupAt cu H) : q ≠ cu := by
  obtain ⟨u, v, hc, _⟩ := hc
  rcases h with ⟨n, d, h1, h2, h3⟩ | ⟨h1, y, h2⟩
  · exact ne_of h3 hc (by intro z; cases z)
  · exact ne_of h2 hc (by intro z; cases z)
theorem TOK.butT {d1 d2 d3 : PyData} {H H' : Hp} {q cu : Addr} (h : TOK d1 d2 d3 H q) (n : q ≠ cu) (s : ButT cu H H') : TOK d1 d2 d3 H' q := by
  rcases h with ⟨n', d, h1, h2, h3⟩ | ⟨h1, y, h2⟩
  · exact .inl ⟨n', d, h1, h2, s _ _ n (by intro ps z; cases z) h3⟩
  · exact .inr ⟨h1, y, s _ _ n (by intro ps z; cases z) h2⟩
theorem TOK.upd {d1 d2 d3 : PyData} {H : Hp} {q m a : Addr} {o : HO} (h : TOK d1 d2 d3 H q) (hm : H m = some (.lst [.ref a])) : TOK d1 d2 d3 (upd H m o) q := by
  rcases h with ⟨n', d, h1, h2, h3⟩ | ⟨h1, y, h2⟩
  · exact .inl ⟨n', d, h1, h2, (upd_ne (ne_of h3 hm (by intro z; cases z))).trans h3⟩
  · exact .inr ⟨h1, y, (upd_ne (ne_of h2 hm (by intro z; cases z))).trans h2⟩
theorem DueW.step {cu : Addr} {H H' : Hp} {d1 d2 d3 : PyData} {w : V} (h : DueW cu H d1 d2 d3 w) (hc : CupAt cu H) (s : ButT cu H H') : DueW cu H' d1 d2 d3 w := by
  rcases h with ⟨n, d, q, h1, h2, h3, h4, h5⟩ | h
  · exact .inl ⟨n, d, q, h1, h2, h3, s _ _ h5 (by intro ps z; cases z) h4, h5⟩
  · exact .inr h
theorem DueW.upd {cu m a : Addr} {H : Hp} {d1 d2 d3 : PyData} {w : V} {o : HO} (h : DueW cu H d1 d2 d3 w) (hm : H m = some (.lst [.ref a])) : DueW cu (upd H m o) d1 d2 d3 w := by
  rcases h with ⟨n, d, q, h1, h2, h3, h4, h5⟩ | h
  · exact .inl ⟨n, d, q, h1, h2, h3, (upd_ne (ne_of h4 hm (by intro z; cases z))).trans h4, h5⟩
  · exact .inr h
theorem ref_lt {d1 d2 d3 : PyData} {n : Nat} (h : Refused d1 d2 d3 n) : n < 3 := by
  cases h <;> decide
theorem within_int {d : PyData} {lo hi : Int} (h : withinD d lo hi = true) : ∃ z, d = .int z ∧ lo ≤ z ∧ z ≤ hi := by
  cases d with
  | int z =>
    simp only [withinD, Bool.and_eq_true, decide_eq_true_eq] at h
    exact ⟨z, rfl, h.1, h.2⟩
  | _ => cases h
theorem big_of {d1 d2 d3 : PyData} (h : ∀ n, ¬ Refused d1 d2 d3 n) : ∃ a b c : Int, d1 = .int a ∧ d2 = .int b ∧ d3 = .int c ∧ Big a b c := by
  have w1 : withinD d1 0 GP = true := by
    cases e : withinD d1 0 GP with
    | true => rfl
    | false => exact absurd (.first e) (h 0)
  obtain ⟨a, rfl, a0, a1⟩ := within_int w1
  have w2 : withinD d2 (-GP) GP = true := by
    cases e : withinD d2 (-GP) GP with
    | true => rfl
    | false => exact absurd (.line w1 e) (h 1)
  obtain ⟨b, rfl, b0, b1⟩ := within_int w2
  have n1 : ¬ (a = 0 ∧ b < 1) := fun ⟨e1, e2⟩ => by
    subst e1
    exact h 1 (.small w2 e2)
  have w3 : withinD d3 0 GP = true := by
    cases e : withinD d3 0 GP with
    | true => rfl
    | false => exact absurd (.whole w1 w2 n1 e) (h 2)
  obtain ⟨c, rfl, c0, c1⟩ := within_int w3
  have n2 : ¬ (a ≠ 0 ∧ c = 0) := fun ⟨e1, e2⟩ => by
    subst e2
    exact h 2 (.zero w1 w2 e1)
  refine ⟨a, b, c, rfl, rfl, rfl, ?_, a1, b0, b1, c1⟩
  by_cases e : a = 0
  · exact .inl ⟨e, by omega, c0⟩
  · exact .inr ⟨by omega, by omega⟩
theorem ref_uniq {d1 d2 d3 : PyData} {n n' : Nat} (h : Refused d1 d2 d3 n) (h' : Refused d1 d2 d3 n') : n = n' := by
  have z0 : withinD (.int 0) 0 GP = true := by decide +kernel
  cases h with
  | first e =>
    cases h' with
    | first _ => rfl
    | line e1 _ => rw [e] at e1; cases e1
    | small _ _ => rw [e] at z0; cases z0
    | whole e1 _ _ _ => rw [e] at e1; cases e1
    | zero e1 _ _ => rw [e] at e1; cases e1
  | line e1 e2 =>
    cases h' with
    | first e => rw [e] at e1; cases e1
    | line _ _ => rfl
    | small _ _ => rfl
    | whole _ e3 _ _ => rw [e2] at e3; cases e3
    | zero _ e3 _ => rw [e2] at e3; cases e3
  | small e1 e2 =>
    cases h' with
    | first e => rw [e] at z0; cases z0
    | line _ _ => rfl
    | small _ _ => rfl
    | whole _ _ n _ => exact absurd ⟨rfl, e2⟩ n
    | zero _ _ n => exact absurd rfl n
  | whole e1 e2 n e4 =>
    cases h' with
    | first e => rw [e] at e1; cases e1
    | line _ e => rw [e] at e2; cases e2
    | small _ e => exact absurd ⟨rfl, e⟩ n
    | whole _ _ _ _ => rfl
    | zero _ _ _ => rfl
  | zero e1 e2 n =>
    cases h' with
    | first e => rw [e] at e1; cases e1
    | line _ e => rw [e] at e2; cases e2
    | small _ _ => exact absurd rfl n
    | whole _ _ _ _ => rfl
    | zero _ _ _ => rfl
def refD (j : Int) (d : PyData) : PyData := .list [.int j, .int 20, .int 23, .str d.shown]
theorem sh_ref {j : Int} {d : PyData} (h : PyData.canLay0 (.str d.shown) = true) : SeqAt.shaped (.list [refD j d, refD j d]) = true := by
  have h' : PyData.strOk d.shown = true := by simpa only [PyData.canLay0] using h
  simp [refD, SeqAt.shaped, PyData.canLay0, PyData.canLayAll0, PyData.depth, PyData.depthAll, h']
theorem ne_ref {j : Int} {d : PyData} : ¬ (!PyData.eqv (.list [refD j d, refD j d]) (.list [refD j d, refD j d])) = true := by
  have : PyData.eqv (.list [refD j d, refD j d]) (.list [refD j d, refD j d]) = true := by
    unfold refD
    simp [PyData.eqv, PyData.eqvAll]
  rw [this]
  decide
theorem use_init {K : PySem.W.Frag} {TT : List (Addr × Str)} {cu Ce x dx : Addr} {H1 H2 : Hp} {v1 v2 v3 : V} {d1 d2 d3 : PyData} {c : Nat → Addr} {Qc : VK} (D : PD K TT cu H1 H2 v1 v2 v3 d1 d2 d3) (t1 : Tell d1) (t2 : Tell d2) (t3 : Tell d3) (nx : H2 x = none) (ndx : H2 dx = none) (EC4 : EC K c (c 4) 4 [4, 20, 23])
    (kR : ∀ H' q, Same H2 H' → TOK d1 d2 d3 H' q → Qc (.ref q) H') :
    spInitB K Ce (c 4) [.ref x, v1, v2, v3] (upd (upd H2 dx (.own x)) x (.ins Ce dx [])) (fun v H3 => v = .non ∧ rTextOwn Ce (spRep Ce) [.ref x] H3 fun r H4 => [V.str (Str.ofString "given"), r].length ≤ sizeLine ∧ ∀ l, H4 l = none → Qc (.ref l) (upd H4 l (.lst [V.str (Str.ofString "given"), r]))) (cgtX K c Qc) := by
  have s2 : Same H2 (upd (upd H2 dx (.own x)) x (.ins Ce dx [])) := fun b o e => by
    rw [upd_ne (ne_of_none e nx), upd_ne (ne_of_none e ndx)]
    exact e
  have g1 := (dcq D.g1).same s2
  have g2 := (dcq D.g2).same s2
  have g3 := (dcq D.g3).same s2
  refine ⟨x, dx, v1, v2, v3, d1, d2, d3, rfl, g1, g2, g3, upd_same, ?_⟩
  by_cases hr : ∃ n, Refused d1 d2 d3 n
  · obtain ⟨n, hr⟩ := hr
    obtain ⟨y, d, hy, hd, gy, ty⟩ : ∃ y d, [v1, v2, v3][n]? = some y ∧ [d1, d2, d3][n]? = some d ∧ Dq K (upd (upd H2 dx (.own x)) x (.ins Ce dx [])) y d ∧ Tell d := by
      match n, ref_lt hr with
      | 0, _ => exact ⟨v1, d1, rfl, rfl, g1, t1⟩
      | 1, _ => exact ⟨v2, d2, rfl, rfl, g2, t2⟩
      | 2, _ => exact ⟨v3, d3, rfl, rfl, g3, t3⟩
    exact .inl ⟨n, y, hr, hy, fun H' dd s hdd => ⟨c 4, 4, [4, 20, 23], dd, y, d, rfl, EC4, rfl, hdd, gy.same s, ty.s, ty.p, ty.l, fun H'' q s' hq => kR H'' q ((s2.trans s).trans s') (.inl ⟨n, d, hr, hd, hq⟩)⟩⟩
  · have hn : ∀ n, ¬ Refused d1 d2 d3 n := fun n z => hr ⟨n, z⟩
    obtain ⟨a, b, cc, rfl, rfl, rfl, hB⟩ := big_of hn
    refine .inr ⟨a, b, cc, dq_int g1, dq_int g2, dq_int g3, hB, fun H' bx hE => ⟨rfl, ?_⟩⟩
    have sx : Same H2 H' := fun b o e => bx b o (ne_of_none e nx) (s2 b o e)
    obtain ⟨dx', p, hx', hp⟩ := id hE
    obtain ⟨sa, sb, sc⟩ := hB.sm
    obtain ⟨p1, p2, p3⟩ := parts_sm hB.1 sa sb sc
    exact ⟨x, dx', _, rfl, hx', x, _, _, _, rfl, hE, p1.mono (by decide), p2.mono (by decide), p3.mono (by decide), fun H'' s => ⟨_, rfl, (by show 2 ≤ sizeLine; decide), fun l nl => kR _ l ((sx.trans s).trans (same_upd nl)) (.inr ⟨hn, _, upd_same⟩)⟩⟩
/-- no resistance; no number that a floor takes -/
def pRes (d : PyData) : Bool := !resG d && pTell d
def pFlo (d : PyData) : Bool := !withinD d 1 GP && pTell d
theorem lkEx {p : Addr} {m : Str} (h : (m == ("parts" : Str)) = false) : ([("parts", V.ref p)] : List (Str × V)).lookup m = none := by
  simp [List.lookup, h]
theorem ExAt.butT {C x cu : Addr} {H H' : Hp} {s l w : Int} (h : ExAt C H x s l w) (hc : CupAt cu H) (b : ButT cu H H') : ExAt C H' x s l w := by
  obtain ⟨dx, p, h1, h2⟩ := h
  exact ⟨dx, p, b.ins hc h1, b.tup hc h2⟩
/-- the Exact, the odd thing, and what else is kept -/
structure ZD (K : PySem.W.Frag) (TT : List (Addr × Str)) (cu Ce x : Addr) (H0 H : Hp) (v : V) (d : PyData) : Prop where
  but : ButT cu H0 H
  cup : CupAt cu H
  tabs : LamX.Tabs TT H
  ex : ExAt Ce H x 1 (-1) 1
  g : Dq K (hidS cu cu H) v d
theorem ZD.step {K : PySem.W.Frag} {TT : List (Addr × Str)} {cu Ce x : Addr} {H0 H H' : Hp} {v : V} {d : PyData} (h : ZD K TT cu Ce x H0 H v d) (s : ButT cu H H') (hc : CupAt cu H') (t : LamX.Tabs TT H') : ZD K TT cu Ce x H0 H' v d :=
  ⟨h.but.trans s, hc, t, h.ex.butT h.cup s, h.g.same (hs_but fun b o n _ nt e => s b o n nt e)⟩
theorem ZD.same {K : PySem.W.Frag} {TT : List (Addr × Str)} {cu Ce x : Addr} {H0 H H' : Hp} {v : V} {d : PyData} (h : ZD K TT cu Ce x H0 H v d) (s : Same H H') : ZD K TT cu Ce x H0 H' v d := h.step (.of s) (h.cup.same s) (tabs_same h.tabs s)
theorem ZD.ext {K : PySem.W.Frag} {TT : List (Addr × Str)} {cu Ce x : Addr} {H0 H H' : Hp} {v : V} {d : PyData} (h : ZD K TT cu Ce x H0 H v d) (s : LamX.ExtN H H') (t : LamX.Tabs TT H') : ZD K TT cu Ce x H0 H' v d := h.step (.ext s) (h.cup.ext s) t
theorem use_cmp {K : PySem.W.Frag} {cu x : Addr} {H2 : Hp} {v : V} {d : PyData} {c : Nat → Addr} {Qc : VK} (g : Dq K (hidS cu cu H2) v d) (tl : Tell d) (hr : resG d = false) (EC2 : EC K c (c 2) 2 [2, 20, 23])
    (kR : ∀ H' q, Same H2 H' → H' q = some (.lst [.int 2, .int 20, .int 23, .str d.shown]) → Qc (.ref q) H') : spCmpN K (c 2) [.ref x, v] H2 (fun _ _ => True) (cgtX K c Qc) :=
  ⟨x, v, d, rfl, dcq g, hr, fun H' dd s hdd => ⟨c 2, 2, [2, 20, 23], dd, v, d, rfl, EC2, rfl, hdd, (dcq g).same s, tl.s, tl.p, tl.l, fun H'' q s' hq => kR H'' q (s.trans s') hq⟩⟩
theorem use_flo {K : PySem.W.Frag} {cu x : Addr} {H2 : Hp} {v : V} {d : PyData} {c : Nat → Addr} {Qc : VK} (g : Dq K (hidS cu cu H2) v d) (tl : Tell d) (hr : withinD d 1 GP = false) (EC4 : EC K c (c 4) 4 [4, 20, 23])
    (kR : ∀ H' q, Same H2 H' → H' q = some (.lst [.int 4, .int 20, .int 23, .str d.shown]) → Qc (.ref q) H') : spFloN K (c 4) [.ref x, v] H2 (fun _ _ => True) (cgtX K c Qc) :=
  ⟨x, v, d, rfl, dcq g, hr, fun H' dd s hdd => ⟨c 4, 4, [4, 20, 23], dd, v, d, rfl, EC4, rfl, hdd, (dcq g).same s, tl.s, tl.p, tl.l, fun H'' q s' hq => kR H'' q (s.trans s') hq⟩⟩
theorem sh_ref1 {j : Int} {d : PyData} (h : PyData.canLay0 (.str d.shown) = true) : SeqAt.shaped (refD j d) = true := by
  have h' : PyData.strOk d.shown = true := by simpa only [PyData.canLay0] using h
  simp [refD, SeqAt.shaped, PyData.canLay0, PyData.canLayAll0, PyData.depth, PyData.depthAll, h']
theorem eq_ref {j : Int} {d : PyData} : PyData.eqv (.list [refD j d, refD j d]) (.list [refD j d, refD j d]) = true := by
  unfold refD
  simp [PyData.eqv, PyData.eqvAll]
theorem ne_ref1 {j : Int} {d : PyData} : ¬ (!PyData.eqv (refD j d) (refD j d)) = true := by
  have : PyData.eqv (refD j d) (refD j d) = true := by
    unfold refD
    simp [PyData.eqv, PyData.eqvAll]
  rw [this]
  decide
theorem pRes_of {d : PyData} (h : pRes d = true) : resG d = false ∧ Tell d ∧ PyData.canLay0 (.str d.shown) = true := by
  obtain ⟨h1, h2⟩ := (Bool.and_eq_true _ _).mp h
  exact ⟨by simpa using h1, tell_of h2⟩
theorem pFlo_of {d : PyData} (h : pFlo d = true) : withinD d 1 GP = false ∧ Tell d ∧ PyData.canLay0 (.str d.shown) = true := by
  obtain ⟨h1, h2⟩ := (Bool.and_eq_true _ _).mp h
  exact ⟨by simpa using h1, tell_of h2⟩
def spRight (T : List (Addr × Str)) : Sp := fun vs H Q _ => ∃ c : Addr, vs = [.ref c] ∧ CupAt c H ∧ LamX.Tabs T H ∧ ∀ H', ButT c H H' → LamX.Tabs T H' → Q (.bl true) H'
section
variable {P : Program} {w : World} {K : PySem.W.Frag} {mg : Str → Option Value} {base : Heap} {tG t1 t2 t3 tP tC : Tok} {aO aW J C Ce Cl gc gf : Addr} {fc ff : FuncData} {c : Nat → Addr} 
abbrev s_law_right : Stmt := top 54
theorem sc_law_right : FnScope ["_law_cup_here", "_law_turn", "_law_parts", "_law_a", "_law_b", "_law_c", "_law_due_here", "_law_told", "_law_one", "_law_mine", "_law_odd_here", "_law_far", "_law_many"] ["_law_cup_here"] (defScope s_law_right) := ⟨rfl, rfl, rfl, by decide +kernel, rfl, by decide +kernel, by decide +kernel⟩

theorem ok_right {f cA PA : Addr} {fd : FuncData} {TT : List (Addr × Str)} (F : FunC K "_law_right" "_law_right" s_law_right f fd cA) (T : Txt4 K mg tG t1 t2 t3 tP tC aO aW J C Ce Cl) (X_exact : ExD P w K mg base Ce) (X_exN : ExN P w K mg base Ce (c 4)) (M_compare : MtC P w K mg base Ce 4 "compare" "self" "resistance" (spCompare Ce) gc fc) (M_floor : MtC P w K mg base Ce 3 "floor" "self" "times" (spFloor Ce) gf ff)
    (M_compareN : MtN P w K mg base Ce 4 "compare" "self" "resistance" (spCmpN K (c 2))) (M_floorN : MtN P w K mg base Ce 4 "floor" "self" "times" (spFloN K (c 4)))
    (CG : CgtD P w K mg base c 4 (rTextOwn Ce (spRep Ce))) (EC2 : EC K c (c 2) 2 [2, 20, 23]) (EC4 : EC K c (c 4) 4 [4, 20, 23]) (TBR : LamX.TabB base mg cA PA) (TMR : (PA, ("_law_right" : Str) ++ ".<locals>.<lambda>") ∈ TT) (TUR : ∀ p ∈ TT, p.1 = PA → p.2 = ("_law_right" : Str) ++ ".<locals>.<lambda>")
    (D_law_sip : Df P w K mg base 1 "_law_sip" ["_law_cup_here", "_law_many"] spSip) (D_law_pick : Df P w K mg base 2 "_law_pick" ["_law_cup_here", "_law_things"] spPick) (D_law_odd : Df P w K mg base 3 "_law_odd" ["_law_cup_here"] (spOdd K)) (D_law_due : DfG P w K mg base 2 "_law_due" ["_law_a", "_law_b", "_law_c"] (spDue K)) : FnG P w K mg base 10 f fd ["_law_cup_here"] (spRight TT) := by
  refine okGC F sc_law_right (fun vs H Q E h => ?_) (fun A outer s H vs Q E hg hr h => ?_)
  · obtain ⟨c, rfl, _⟩ := h
    rfl
  · obtain ⟨cu, rfl, hc, ht, k⟩ := h
    refine ⟨_, (C8.pss_cut (ps_for PassesOwn.never rfl (pi_range1 rfl T.range (pa_cons pe_int pa_nil)) (pg_name (i := 1) sc_law_right.nd rfl (.inl rfl)) (C8.pss_cut (ps_set (i := 2) sc_law_right.nd rfl (.inl rfl) (pe_lst (pa_cons (pe_df D_law_pick (hr.mono (by decide)) (by rfl) (pa_cons (pv 0) (pa_cons (pe_lst (pa_cons pe_int (pa_cons pe_int (pa_cons pe_int (pa_cons pe_int (pa_cons (pe_op op_pow pe_int pe_int) (pa_cons (pe_un un_neg pe_int) pa_nil))))))) pa_nil))) (pa_cons (pe_df D_law_pick (hr.mono (by decide)) (by rfl) (pa_cons (pv 0) (pa_cons (pe_lst (pa_cons pe_int (pa_cons pe_int (pa_cons (pe_un un_neg pe_int) (pa_cons pe_int (pa_cons (pe_op op_pow pe_int pe_int) (pa_cons (pe_un un_neg (pe_op op_pow pe_int pe_int)) pa_nil))))))) pa_nil))) pa_nil))))
      (C8.pss_cut (ps_expr (pe_bm PySem.F.plainAttrs_list PySem.F.slot_list_append PySem.F.type_list_append mt_append (pv 2) (pa_cons (pe_df D_law_pick (hr.mono (by decide)) (by rfl) (pa_cons (pv 0) (pa_cons (pe_lst (pa_cons pe_int (pa_cons pe_int (pa_cons pe_int (pa_cons (pe_op op_pow pe_int pe_int) (pa_cons (pe_un un_neg pe_int) pa_nil)))))) pa_nil))) pa_nil)))
      (C8.pss_cut (ps_if (pt_cmpR op_eq (pe_df D_law_sip (hr.mono (by decide)) (by rfl) (pa_cons (pv 0) (pa_cons pe_int pa_nil))) pe_int (nomark _)) (pss_one (ps_asg (pe_df D_law_odd (hr.mono (by decide)) (by rfl) (pa_cons (pv 0) pa_nil)) (pg_sub (pv 2) (pe_df D_law_sip (hr.mono (by decide)) (by rfl) (pa_cons (pv 0) (pa_cons pe_int pa_nil))) set_list))) pss_nil)
      (C8.pss_cut (ps_asg (pv 2) (L2.pg_lst rfl (pgs_cons (pg_name (i := 3) sc_law_right.nd rfl (.inr rfl)) (pgs_cons (pg_name (i := 4) sc_law_right.nd rfl (.inr rfl)) (pgs_cons (pg_name (i := 5) sc_law_right.nd rfl (.inr rfl)) pgs_nil)))))
      (C8.pss_cut (ps_set (i := 6) sc_law_right.nd rfl (.inl rfl) (pe_dfG D_law_due hg (hr.mono (by decide)) (by rfl) (pa_cons (pv 3) (pa_cons (pv 4) (pa_cons (pv 5) pa_nil)))))
      (C8.pss_cut (ps_set (i := 7) sc_law_right.nd rfl (.inl rfl) (pe_lst (pa_cons (pe_cgt (k := 7) CG hg (by decide) (by decide) TBR rfl TMR TUR (hr.mono (by decide)) rfl (fun A2 outer2 s2 H2 E2 f2 c2 hg2 hr2 => (pe_exactN X_exN (hr2.mono (by decide)) (by rfl) T.mgE (passN lamN_takes fun _ _ _ _ h => h) (pa_cons (pv 3) (pa_cons (pv 4) (pa_cons (pv 5) pa_nil)))))) pa_nil)))
      (C8.pss_cut (ps_expr (pe_bm PySem.F.plainAttrs_list PySem.F.slot_list_append PySem.F.type_list_append mt_append (pv 7) (pa_cons (pe_cgt (k := 7) CG hg (by decide) (by decide) TBR rfl TMR TUR (hr.mono (by decide)) rfl (fun A2 outer2 s2 H2 E2 f2 c2 hg2 hr2 => (pe_exactKN (kws := [⟨some "whole", _, _⟩, ⟨some "line", _, _⟩, ⟨some "square", _, _⟩]) X_exN (hr2.mono (by decide)) (by rfl) T.mgE (passN lamN_takes fun _ _ _ _ h => h) (pk_cons (pv 5) (pk_cons (pv 4) (pk_cons (pv 3) pk_nil)))))) pa_nil)))
      (pss_one (ps_if (PW.pt (pw_or (PW.pt (pw_and (pt_cmpR op_notN (pv 6) pe_non (nomark _)) (pw_and1 (pt_cmpR (op_neD hr.units) (pv 7) (pe_lst (pa_cons (pv 6) (pa_cons (pv 6) pa_nil))) (nomark _))))) (pw_or1 (PW.pt (pw_and (pt_cmpR op_isN (pv 6) pe_non (nomark _)) (pw_and1 (pt_cmpR (op_neD hr.units) (pe_lc (own := [("_law_one", 8)]) (g := gName 8) (tt := tYes) rfl sc_law_right.nd (pi_list (pv 7)) (blkOk_by (N := ["_law_cup_here", "_law_turn", "_law_parts", "_law_a", "_law_b", "_law_c", "_law_due_here", "_law_told", "_law_one", "_law_mine", "_law_odd_here", "_law_far", "_law_many"]) (sc := defScope s_law_right) (by decide +kernel)) (fun _ _ _ _ _ => pg_name (i := 8) sc_law_right.nd rfl (Or.inl rfl)) (fun _ _ _ _ _ => pts_nil) (fun _ _ _ _ _ => (pe_ix (ix_listK (K := K)) (pv 8) pe_int (fun _ _ => rfl)))) (pe_lst (pa_cons pe_str (pa_cons pe_str pa_nil))) (nomark _)))))))) (pss_one (ps_ret pe_bl)) pss_nil))))))))))
      (C8.pss_cut (ps_set (i := 9) sc_law_right.nd rfl (.inr rfl) (pe_exact X_exact (hr.mono (by decide)) rfl T.mgE (pa_cons pe_int (pa_cons (pe_un un_neg pe_int) (pa_cons pe_int pa_nil)))))
      (C8.pss_cut (ps_if (pt_cmpR (op_neD hr.units) (pe_lst (pa_cons (pe_meth (pv 9) T.clE M_compare.m M_compare.ok (hr.mono (by decide)) M_compare.b .nil pass0 (pa_cons pe_int pa_nil)) (pa_cons (pe_meth (pv 9) T.clE M_compare.m M_compare.ok (hr.mono (by decide)) M_compare.b .nil pass0 (pa_cons pe_int pa_nil)) (pa_cons (pe_meth (pv 9) T.clE M_floor.m M_floor.ok (hr.mono (by decide)) M_floor.b .nil pass0 (pa_cons pe_int pa_nil)) (pa_cons (pe_meth (pv 9) T.clE M_floor.m M_floor.ok (hr.mono (by decide)) M_floor.b .nil pass0 (pa_cons pe_int pa_nil)) pa_nil))))) (pe_lst (pa_cons pe_int (pa_cons pe_int (pa_cons pe_int (pa_cons pe_int pa_nil))))) (nomark _)) (pss_one (ps_ret pe_bl)) pss_nil)
      (C8.pss_cut (ps_set (i := 10) sc_law_right.nd rfl (.inr rfl) (pe_df D_law_pick (hr.mono (by decide)) (by rfl) (pa_cons (pv 0) (pa_cons (pe_lst (pa_cons pe_non (pa_cons pe_bl (pa_cons pe_str (pa_cons (pe_tup (pa_cons pe_int pa_nil)) (pa_cons (pe_tup (pa_cons pe_int (pa_cons pe_int (pa_cons pe_int pa_nil)))) (pa_cons (pe_lst (pa_cons pe_int (pa_cons pe_int pa_nil))) (pa_cons (pe_tup (pa_cons pe_int (pa_cons pe_int pa_nil))) (pa_cons (pe_tup (pa_cons pe_int (pa_cons pe_int pa_nil))) (pa_cons (pe_tup (pa_cons pe_int (pa_cons (pe_un un_neg pe_int) pa_nil))) (pa_cons (pe_tup (pa_cons (pe_un un_neg pe_int) (pa_cons pe_int pa_nil))) (pa_cons (pe_un un_neg pe_int) (pa_cons (pe_op op_pow pe_int pe_int) (pa_cons pe_dnewK pa_nil)))))))))))))) pa_nil))))
      (C8.pss_cut (ps_set (i := 7) sc_law_right.nd rfl (.inl rfl) (pe_lst (pa_cons (pe_cgt (k := 7) CG hg (by decide) (by decide) TBR rfl TMR TUR (hr.mono (by decide)) rfl (fun A2 outer2 s2 H2 E2 f2 c2 hg2 hr2 => (pe_dmN (pv 9) T.clE M_compareN (hr2.mono (by decide)) (passN lamN_takes fun _ _ _ _ h => h) (pa_cons (pv 10) pa_nil)))) pa_nil)))
      (C8.pss_cut (ps_expr (pe_bm PySem.F.plainAttrs_list PySem.F.slot_list_append PySem.F.type_list_append mt_append (pv 7) (pa_cons (pe_cgt (k := 7) CG hg (by decide) (by decide) TBR rfl TMR TUR (hr.mono (by decide)) rfl (fun A2 outer2 s2 H2 E2 f2 c2 hg2 hr2 => (pe_mkN (pv 9) T.clE M_compareN (hr2.mono (by decide)) (passN lamN_takes fun _ _ _ _ h => h) (pk_cons (pv 10) pk_nil)))) pa_nil)))
      (C8.pss_cut (ps_if (pt_cmpR (op_neD hr.units) (pv 7) (pe_op op_rep (pe_lst (pa_cons (pe_lst (pa_cons pe_int (pa_cons pe_int (pa_cons pe_int (pa_cons (pe_callB (cr_rpK (K := K) hg hr.units) (by rfl) T.repr (by decide +kernel) (pa_cons (pv 10) pa_nil)) pa_nil))))) pa_nil)) pe_int) (nomark _)) (pss_one (ps_ret pe_bl)) pss_nil)
      (C8.pss_cut (ps_set (i := 11) sc_law_right.nd rfl (.inr rfl) (pe_df D_law_pick (hr.mono (by decide)) (by rfl) (pa_cons (pv 0) (pa_cons (pe_lst (pa_cons (pe_tup (pa_cons (pe_op op_add (pe_op op_pow pe_int pe_int) pe_int) (pa_cons pe_int pa_nil))) (pa_cons (pe_tup (pa_cons pe_int (pa_cons (pe_op op_add (pe_op op_pow pe_int pe_int) pe_int) pa_nil))) (pa_cons (pe_tup (pa_cons pe_bl (pa_cons pe_int pa_nil))) (pa_cons (pe_tup (pa_cons pe_int (pa_cons pe_bl pa_nil))) (pa_cons (pe_tup (pa_cons (pe_tup (pa_cons pe_int (pa_cons pe_int pa_nil))) (pa_cons pe_int pa_nil))) (pa_cons (pe_tup (pa_cons pe_int (pa_cons pe_str pa_nil))) (pa_cons pe_str pa_nil)))))))) pa_nil))))
      (C8.pss_cut (ps_if (pt_cmpR (op_neD hr.units) (pe_cgt (k := 7) CG hg (by decide) (by decide) TBR rfl TMR TUR (hr.mono (by decide)) rfl (fun A2 outer2 s2 H2 E2 f2 c2 hg2 hr2 => (pe_dmN (pv 9) T.clE M_compareN (hr2.mono (by decide)) (passN lamN_takes fun _ _ _ _ h => h) (pa_cons (pv 11) pa_nil)))) (pe_lst (pa_cons pe_int (pa_cons pe_int (pa_cons pe_int (pa_cons (pe_callB (cr_rpK (K := K) hg hr.units) (by rfl) T.repr (by decide +kernel) (pa_cons (pv 11) pa_nil)) pa_nil))))) (nomark _)) (pss_one (ps_ret pe_bl)) pss_nil)
      (C8.pss_cut (ps_set (i := 12) sc_law_right.nd rfl (.inr rfl) (pe_df D_law_pick (hr.mono (by decide)) (by rfl) (pa_cons (pv 0) (pa_cons (pe_lst (pa_cons pe_int (pa_cons (pe_un un_neg pe_int) (pa_cons pe_non (pa_cons pe_bl (pa_cons pe_str (pa_cons (pe_tup (pa_cons pe_int pa_nil)) (pa_cons (pe_lst pa_nil) (pa_cons (pe_op op_add (pe_op op_pow pe_int pe_int) pe_int) (pa_cons pe_dnewK pa_nil)))))))))) pa_nil))))
      (C8.pss_cut (ps_set (i := 7) sc_law_right.nd rfl (.inl rfl) (pe_lst (pa_cons (pe_cgt (k := 7) CG hg (by decide) (by decide) TBR rfl TMR TUR (hr.mono (by decide)) rfl (fun A2 outer2 s2 H2 E2 f2 c2 hg2 hr2 => (pe_dmN (pv 9) T.clE M_floorN (hr2.mono (by decide)) (passN lamN_takes fun _ _ _ _ h => h) (pa_cons (pv 12) pa_nil)))) pa_nil)))
      (C8.pss_cut (ps_expr (pe_bm PySem.F.plainAttrs_list PySem.F.slot_list_append PySem.F.type_list_append mt_append (pv 7) (pa_cons (pe_cgt (k := 7) CG hg (by decide) (by decide) TBR rfl TMR TUR (hr.mono (by decide)) rfl (fun A2 outer2 s2 H2 E2 f2 c2 hg2 hr2 => (pe_mkN (pv 9) T.clE M_floorN (hr2.mono (by decide)) (passN lamN_takes fun _ _ _ _ h => h) (pk_cons (pv 12) pk_nil)))) pa_nil)))
      (pss_one (ps_ret (pe_cmpR (op_eqD hr.units) (pv 7) (pe_op op_rep (pe_lst (pa_cons (pe_lst (pa_cons pe_int (pa_cons pe_int (pa_cons pe_int (pa_cons (pe_callB (cr_rpK (K := K) hg hr.units) (by rfl) T.repr (by decide +kernel) (pa_cons (pv 12) pa_nil)) pa_nil))))) pa_nil)) pe_int) (nomark _)))))))))))))))), ?_⟩
    refine ⟨fun σ' H' => (∃ w1 w2 w3 w4 w5 w6 w7 w8 w9 wa wb wc, σ' = [some (.ref cu), w1, w2, w3, w4, w5, w6, w7, w8, w9, wa, wb, wc]) ∧ ButT cu H H' ∧ CupAt cu H' ∧ LamX.Tabs TT H', ?_, ?_⟩
    · refine ⟨8, rfl, by decide, by decide, ?_⟩
      refine for_range (lo := 0) (n := Int.toNat 8) (fun i σ H' => (∃ w1 w2 w3 w4 w5 w6 w7 w8 w9 wa wb wc, σ = [some (.ref cu), w1, w2, w3, w4, w5, w6, w7, w8, w9, wa, wb, wc]) ∧ ButT cu H H' ∧ CupAt cu H' ∧ LamX.Tabs TT H') ⟨⟨none, none, none, none, none, none, none, none, none, none, none, none, rfl⟩, ButT.refl _ _, hc, ht⟩ ?_ ?_
      · rintro i σ H1 hi ⟨⟨w1, w2, w3, w4, w5, w6, w7, w8, w9, wa, wb, wc, rfl⟩, b1, hc1, t1⟩
        have numT : ∀ {i : Int} {H : Hp} {l : Addr}, pTell (.int i) = true → OddP pTell K cu l H (.int i) := fun {i H l} h => ⟨.int i, .dp (.int _) rfl, h⟩
        -- two of the parts
        refine ⟨fun σ' H' => ∃ l v1 v2, σ' = [some (.ref cu), some (.int (0 + i)), some (.ref l), w3, w4, w5, w6, w7, w8, w9, wa, wb, wc] ∧ ButT cu H1 H' ∧ CupAt cu H' ∧ LamX.Tabs TT H' ∧ H' l = some (.lst [v1, v2]) ∧ OddP pTell K cu l H' v1 ∧ OddP pTell K cu l H' v2 ∧ l ≠ cu ∧ (∀ b o, b ≠ cu → (∀ ps, o ≠ .tbl ps) → H1 b = some o → b ≠ l), ?_, ?_⟩
        · refine ⟨_, rfl, _, _, rfl, rfl, ⟨by decide, by decide, by decide⟩, _, rfl, (by show 6 ≤ sizeLine; decide), fun l1 nl1 => ?_⟩
          have s1 := same_upd (o := .lst [.int 0, .int 0, .int 1, .int 5, .int (10 ^ Int.toNat 40), .int (-1)]) nl1
          refine ⟨cu, l1, _, rfl, hc1.same s1, hc1.ne nl1, upd_same, (by show 0 < 6; decide), (by show 6 ≤ 100; decide), fun H2 v1 b2 hc2 hv1 => ?_⟩
          have o1 : ∀ {l H}, OddP pTell K cu l H v1 := fun {l H} => by
            simp only [List.mem_cons, List.not_mem_nil, or_false] at hv1
            rcases hv1 with rfl | rfl | rfl | rfl | rfl | rfl <;> exact numT (by decide +kernel)
          refine ⟨_, rfl, _, rfl, _, _, rfl, rfl, ⟨by decide, by decide, by decide⟩, _, _, rfl, rfl, ⟨by decide, by decide, by decide⟩, _, rfl, (by show 6 ≤ sizeLine; decide), fun l2 nl2 => ?_⟩
          have s2 := same_upd (o := .lst [.int 0, .int 1, .int (-1), .int 7, .int (10 ^ Int.toNat 40), .int (-10 ^ Int.toNat 40)]) nl2
          refine ⟨cu, l2, _, rfl, hc2.same s2, hc2.ne nl2, upd_same, (by show 0 < 6; decide), (by show 6 ≤ 100; decide), fun H3 v2 b3 hc3 hv2 => ?_⟩
          have o2 : ∀ {l H}, OddP pTell K cu l H v2 := fun {l H} => by
            simp only [List.mem_cons, List.not_mem_nil, or_false] at hv2
            rcases hv2 with rfl | rfl | rfl | rfl | rfl | rfl <;> exact numT (by decide +kernel)
          refine ⟨(by show 2 ≤ sizeLine; decide), fun l nl => ?_⟩
          have s3 := same_upd (o := .lst [v1, v2]) nl
          have bb : But cu H1 H3 := (((But.of s1).trans b2).trans (But.of s2)).trans b3
          exact ⟨l, v1, v2, rfl, (ButT.but bb).trans (.of s3), hc3.same s3, tabs_same (tabs_but t1 hc1 bb) s3, upd_same, o1, o2, (hc3.ne nl).symm, fun b o nb nt e => ne_of_none (bb b o nb e) nl⟩
        rintro σ1 H2 ⟨l, v1, v2, rfl, b2, hc2, t2, hl2, o1, o2, nlc, nlH⟩
        have updB : ∀ {H' : Hp} {o : HO}, ButT cu H1 H' → ButT cu H1 (upd H' l o) := fun {H' o} b => fun x u n nt e => (upd_ne (nlH x u n nt e)).trans (b x u n nt e)
        have updC : ∀ {H' : Hp} {o : HO}, CupAt cu H' → CupAt cu (upd H' l o) := fun {H' o} h => by
          obtain ⟨u, v, h, z⟩ := h
          exact ⟨u, v, (upd_ne nlc.symm).trans h, z⟩
        -- the third
        refine ⟨fun σ' H' => ∃ v1 v2 v3, σ' = [some (.ref cu), some (.int (0 + i)), some (.ref l), w3, w4, w5, w6, w7, w8, w9, wa, wb, wc] ∧ ButT cu H1 H' ∧ CupAt cu H' ∧ LamX.Tabs TT H' ∧ H' l = some (.lst [v1, v2, v3]) ∧ OddP pTell K cu l H' v1 ∧ OddP pTell K cu l H' v2 ∧ OddP pTell K cu l H' v3, ?_, ?_⟩
        · refine ⟨_, rfl, .inl ⟨rfl, _, SqL.of hl2⟩, _, rfl, _, _, rfl, rfl, ⟨by decide, by decide, by decide⟩, _, rfl, (by show 5 ≤ sizeLine; decide), fun l1 nl1 => ?_⟩
          have s1 := same_upd (o := .lst [.int 0, .int 1, .int 2, .int (10 ^ Int.toNat 40), .int (-2)]) nl1
          refine ⟨cu, l1, _, rfl, hc2.same s1, hc2.ne nl1, upd_same, (by show 0 < 5; decide), (by show 5 ≤ 100; decide), fun H3 v3 b3 hc3 hv3 => ?_⟩
          have o3 : ∀ {l H}, OddP pTell K cu l H v3 := fun {l H} => by
            simp only [List.mem_cons, List.not_mem_nil, or_false] at hv3
            rcases hv3 with rfl | rfl | rfl | rfl | rfl <;> exact numT (by decide +kernel)
          have bb : But cu H2 H3 := (But.of s1).trans b3
          have hl3 := bb _ _ nlc hl2
          refine ⟨l, [v1, v2], _, rfl, rfl, hl3, small1000 (by show 2 ≤ 1000; decide), ?_⟩
          exact ⟨v1, v2, v3, rfl, updB (b2.trans (.but bb)), updC hc3, tabs_upd (tabs_but t2 hc2 bb) hl3, upd_same, (o1.butL (.but bb)).upd, (o2.butL (.but bb)).upd, o3⟩
        rintro σ2 H3 ⟨v1, v2, v3, rfl, b3, hc3, t3, hl3, o1, o2, o3⟩
        clear b2 hc2 t2 hl2
        -- perhaps an odd one
        refine ⟨fun σ' H' => ∃ v1 v2 v3, σ' = [some (.ref cu), some (.int (0 + i)), some (.ref l), w3, w4, w5, w6, w7, w8, w9, wa, wb, wc] ∧ ButT cu H1 H' ∧ CupAt cu H' ∧ LamX.Tabs TT H' ∧ H' l = some (.lst [v1, v2, v3]) ∧ OddP pTell K cu l H' v1 ∧ OddP pTell K cu l H' v2 ∧ OddP pTell K cu l H' v3, ?_, ?_⟩
        · refine ⟨_, rfl, cu, 2, rfl, hc3, by decide, (by unfold Sm; decide), fun H4 z b4 hc4 _ _ => ?_⟩
          have hl4 := b4 _ _ nlc hl3
          refine ⟨rfl, _, rfl, ite2 (fun _ => ?_) (fun _ => ⟨v1, v2, v3, rfl, b3.trans (.but b4), hc4, tabs_but t3 hc3 b4, hl4, o1.butL (.but b4), o2.butL (.but b4), o3.butL (.but b4)⟩)⟩
          refine ⟨_, rfl, cu, l, _, rfl, hc4, hl4, fun H5 v b5 hc5 ov => ?_⟩
          refine ⟨_, rfl, _, rfl, cu, 3, rfl, hc5, by decide, (by unfold Sm; decide), fun H6 j b6 hc6 j0 j1 => ?_⟩
          have bb : But cu H3 H6 := (b4.trans b5).trans b6
          have hl6 := bb _ _ nlc hl3
          have ov6 : OddP pTell K cu l H6 v := (ov.butL (.but b6)).imp numTell
          have p1 : OddP pTell K cu l H6 v1 := o1.butL (.but bb)
          have p2 : OddP pTell K cu l H6 v2 := o2.butL (.but bb)
          have p3 : OddP pTell K cu l H6 v3 := o3.butL (.but bb)
          refine ⟨l, _, j, j.toNat, rfl, rfl, hl6, (by
            have e : j = (j.toNat : Int) := (Int.toNat_of_nonneg j0).symm
            have h3 : j.toNat < 3 := by omega
            rw [e]
            exact ixN_nat h3), ?_⟩
          have cases3 : j.toNat = 0 ∨ j.toNat = 1 ∨ j.toNat = 2 := by omega
          rcases cases3 with e | e | e
          · rw [e]
            exact ⟨v, v2, v3, rfl, updB (b3.trans (.but bb)), updC hc6, tabs_upd (tabs_but t3 hc3 bb) hl6, upd_same, ov6.upd, p2.upd, p3.upd⟩
          · rw [e]
            exact ⟨v1, v, v3, rfl, updB (b3.trans (.but bb)), updC hc6, tabs_upd (tabs_but t3 hc3 bb) hl6, upd_same, p1.upd, ov6.upd, p3.upd⟩
          · rw [e]
            exact ⟨v1, v2, v, rfl, updB (b3.trans (.but bb)), updC hc6, tabs_upd (tabs_but t3 hc3 bb) hl6, upd_same, p1.upd, p2.upd, ov6.upd⟩
        rintro σ3 H4 ⟨v1, v2, v3, rfl, b4, hc4, t4, hl4, o1, o2, o3⟩
        clear b3 hc3 t3 hl3
        obtain ⟨d1, g1, e1⟩ := o1.drop
        obtain ⟨d2, g2, e2⟩ := o2.drop
        obtain ⟨d3, g3, e3⟩ := o3.drop
        obtain ⟨tl1, cl1⟩ := tell_of e1
        obtain ⟨tl2, cl2⟩ := tell_of e2
        obtain ⟨tl3, cl3⟩ := tell_of e3
        -- taken apart
        refine ⟨fun σ' H' => σ' = [some (.ref cu), some (.int (0 + i)), some (.ref l), some v1, some v2, some v3, w6, w7, w8, w9, wa, wb, wc] ∧ PD K TT cu H1 H' v1 v2 v3 d1 d2 d3, ?_, ?_⟩
        · exact ⟨_, rfl, l, _, rfl, SqL.of hl4, rfl, _, _, rfl, _, _, rfl, _, _, rfl, rfl, rfl, b4, hc4, t4, g1, g2, g3⟩
        rintro σ4 H5 ⟨rfl, D5⟩
        clear b4 hc4 t4 hl4 g1 g2 g3 o1 o2 o3
        -- what is due
        refine ⟨fun σ' H' => ∃ w, σ' = [some (.ref cu), some (.int (0 + i)), some (.ref l), some v1, some v2, some v3, some w, w7, w8, w9, wa, wb, wc] ∧ PD K TT cu H1 H' v1 v2 v3 d1 d2 d3 ∧ DueW cu H' d1 d2 d3 w, ?_, ?_⟩
        · refine ⟨_, rfl, _, rfl, _, rfl, v1, v2, v3, d1, d2, d3, rfl, dcq D5.g1, dcq D5.g2, dcq D5.g3, tl1, tl2, tl3, fun n d hr hd H' q s nq hq => ?_, fun hn H' s => ?_⟩
          · exact ⟨.ref q, rfl, D5.step (.of s) (D5.cup.same s) (tabs_same D5.tabs s), .inl ⟨n, d, q, hr, hd, rfl, hq, (CupAt.ne D5.cup nq).symm⟩⟩
          · exact ⟨.non, rfl, D5.step (.of s) (D5.cup.same s) (tabs_same D5.tabs s), .inr ⟨rfl, hn⟩⟩
        rintro σ5 H6 ⟨w, rfl, D6, W6⟩
        -- told once
        refine ⟨fun σ' H' => ∃ q m, σ' = [some (.ref cu), some (.int (0 + i)), some (.ref l), some v1, some v2, some v3, some w, some (.ref m), w8, w9, wa, wb, wc] ∧ PD K TT cu H1 H' v1 v2 v3 d1 d2 d3 ∧ DueW cu H' d1 d2 d3 w ∧ H' m = some (.lst [.ref q]) ∧ TOK d1 d2 d3 H' q ∧ q ≠ cu ∧ m ≠ cu ∧ (∀ b o, b ≠ cu → (∀ ps, o ≠ .tbl ps) → H6 b = some o → b ≠ m), ?_, ?_⟩
        · refine ⟨D6.tabs, fun H7 x7 t7 => ?_⟩
          have D7 := D6.step (.ext x7) (D6.cup.ext x7) t7
          refine ⟨_, rfl, _, rfl, _, rfl, fun x dx nx ndx nex => use_init D7 tl1 tl2 tl3 nx ndx EC4 fun H8 q s8 tq => ?_⟩
          have D8 := D7.step (.of s8) (D7.cup.same s8) (tabs_same D7.tabs s8)
          refine ⟨(by show 1 ≤ sizeLine; decide), fun m nm => ?_⟩
          have s9 := same_upd (o := .lst [.ref q]) nm
          have bx : ButT cu H6 H8 := (ButT.ext x7).trans (.of s8)
          exact ⟨q, m, rfl, D8.step (.of s9) (D8.cup.same s9) (tabs_same D8.tabs s9), W6.step D6.cup (bx.trans (.of s9)), upd_same, tq.same s9, tq.ne D8.cup, (CupAt.ne D8.cup nm).symm, fun b o nb nt e => ne_of_none (bx b o nb nt e) nm⟩
        rintro σ6 H7 ⟨q1, m, rfl, D7, W7, hm7, tq1, nq1, nmc, nmH⟩
        -- and again, by name
        refine ⟨fun σ' H' => ∃ q2, σ' = [some (.ref cu), some (.int (0 + i)), some (.ref l), some v1, some v2, some v3, some w, some (.ref m), w8, w9, wa, wb, wc] ∧ ButT cu H1 H' ∧ CupAt cu H' ∧ LamX.Tabs TT H' ∧ DueW cu H' d1 d2 d3 w ∧ H' m = some (.lst [.ref q1, .ref q2]) ∧ TOK d1 d2 d3 H' q1 ∧ TOK d1 d2 d3 H' q2, ?_, ?_⟩
        · refine ⟨_, rfl, .inl ⟨rfl, _, SqL.of hm7⟩, D7.tabs, fun H8 x8 t8 => ?_⟩
          have D8 := D7.step (.ext x8) (D7.cup.ext x8) t8
          refine ⟨_, rfl, _, rfl, _, rfl, rfl, rfl, fun x dx nx ndx nex => use_init D8 tl1 tl2 tl3 nx ndx EC4 fun H9 q2 s9 tq2 => ?_⟩
          have D9 := D8.step (.of s9) (D8.cup.same s9) (tabs_same D8.tabs s9)
          have bx : ButT cu H7 H9 := (ButT.ext x8).trans (.of s9)
          have hm9 := bx _ _ nmc (by intro ps z; cases z) hm7
          refine ⟨m, [.ref q1], _, rfl, rfl, hm9, small1000 (by show 1 ≤ 1000; decide), ?_⟩
          refine ⟨q2, rfl, fun b o nb nt e => (upd_ne (nmH b o nb nt (D6.but b o nb nt e))).trans (bx b o nb nt (D7.but b o nb nt e)), ?_, tabs_upd D9.tabs hm9, (W7.step D7.cup bx).upd hm9, upd_same, (tq1.butT nq1 bx).upd hm9, tq2.upd hm9⟩
          obtain ⟨u, v, h, z⟩ := D9.cup
          exact ⟨u, v, (upd_ne nmc.symm).trans h, z⟩
        rintro σ7 H8 ⟨q2, rfl, b8, hc8, t8, W8, hm8, tq1, tq2⟩
        rcases W8 with ⟨n, d, q, hr, hd, rfl, hq, _⟩ | ⟨rfl, hn⟩
        · have cd : PyData.canLay0 (.str d.shown) = true := by
            match n, ref_lt hr, hd with
            | 0, _, hd => cases hd; exact cl1
            | 1, _, hd => cases hd; exact cl2
            | 2, _, hd => cases hd; exact cl3
          have at_ : ∀ {p : Addr}, TOK d1 d2 d3 H8 p → H8 p = some (.lst [.int 4, .int 20, .int 23, .str d.shown]) := fun {p} h => by
            rcases h with ⟨n', d', hr', hd', hp⟩ | ⟨hn, _⟩
            · cases ref_uniq hr hr'
              rw [hd] at hd'
              cases hd'
              exact hp
            · exact absurd hr (hn n)
          have dpR : ∀ {p : Addr} {HX : Hp}, HX p = some (.lst [.int 4, .int 20, .int 23, .str d.shown]) → Dp K HX (.ref p) (refD 4 d) := fun h => .lst (SqL.of h) (.cons (.int _) (.cons (.int _) (.cons (.int _) (.cons (.str _) .nil))))
          refine ⟨_, rfl, rfl, _, rfl, ite2 (fun _ => ?_) (fun e => absurd (by rfl) e)⟩
          refine ⟨_, rfl, _, rfl, _, rfl, (by show 2 ≤ sizeLine; decide), fun z nz => ?_⟩
          have sz := same_upd (o := .lst [.ref q, .ref q]) nz
          refine ⟨_, _, .lst (SqL.of (sz _ _ hm8)) (.cons (dpR (sz _ _ (at_ tq1))) (.cons (dpR (sz _ _ (at_ tq2))) .nil)), .lst (SqL.of upd_same) (.cons (dpR (sz _ _ hq)) (.cons (dpR (sz _ _ hq)) .nil)), sh_ref cd, sh_ref cd, _, rfl, ite2 (fun e => absurd e ne_ref) (fun _ => ?_)⟩
          refine ⟨_, rfl, rfl, _, rfl, ite2 (fun e => absurd e (by intro y; cases y)) (fun _ => iteF ?_)⟩
          exact ⟨⟨_, _, _, _, _, _, _, _, _, _, _, _, rfl⟩, b1.trans (b8.trans (.of sz)), hc8.same sz, tabs_same t8 sz⟩
        · have at_ : ∀ {p : Addr}, TOK d1 d2 d3 H8 p → ∃ y : Str, H8 p = some (.lst [.str (Str.ofString "given"), .str y]) := fun {p} h => by
            rcases h with ⟨n', d', hr', hd', hp⟩ | ⟨_, h⟩
            · exact absurd hr' (hn n')
            · exact h
          obtain ⟨y1, hy1⟩ := at_ tq1
          obtain ⟨y2, hy2⟩ := at_ tq2
          refine ⟨_, rfl, rfl, _, rfl, ite2 (fun e => absurd e (by decide)) (fun _ => iteF ?_)⟩
          refine ⟨_, rfl, rfl, _, rfl, ite2 (fun _ => ?_) (fun e => absurd (by rfl) e)⟩
          refine ⟨_, rfl, m, rfl, ⟨_, SqL.of hm8⟩, fun D hD => ?_⟩
          refine lc_list (K := K) (a := m) (xs := [.ref q1, .ref q2]) (fun i H' => But D H8 H' ∧ H' D = some (.lst (List.replicate i (.str (Str.ofString "given"))))) ⟨But.upd, upd_same⟩ (fun i H' _ h => SqL.of (h.1 _ _ (ne_of_none hm8 hD) hm8)) ?_ ?_
          · rintro i x H1' hi ⟨bD, hDi⟩
            have li : i < 2 := (List.getElem?_eq_some_iff.mp hi).1
            obtain ⟨p, y, rfl, hp⟩ : ∃ p y, x = .ref p ∧ H8 p = some (.lst [.str (Str.ofString "given"), .str y]) := by
              match i, hi with
              | 0, hi =>
                cases hi
                exact ⟨q1, y1, rfl, hy1⟩
              | 1, hi =>
                cases hi
                exact ⟨q2, y2, rfl, hy2⟩
            refine ⟨rfl, ?_⟩
            unfold tYes
            refine iteT ?_
            refine ⟨_, rfl, p, _, _, _, rfl, rfl, SqL.of (bD _ _ (ne_of_none hp hD) hp), atI_nat (j := 0) rfl, _, hDi, ?_, ?_, ?_⟩
            · rw [List.length_replicate]
              exact small1000 (by omega)
            · intro b o nb e
              rw [upd_ne nb]
              exact bD _ _ nb e
            · rw [upd_same, List.replicate_succ']
          · rintro H1' ⟨bD, hDn⟩
            have s1 : Same H8 H1' := fun b o e => bD _ _ (ne_of_none e hD) e
            refine ⟨(by show 2 ≤ sizeLine; decide), fun z nz => ?_⟩
            have sz := same_upd (o := .lst [.str (Str.ofString "given"), .str (Str.ofString "given")]) nz
            refine ⟨.list [.str (Str.ofString "given"), .str (Str.ofString "given")], .list [.str (Str.ofString "given"), .str (Str.ofString "given")], .lst (SqL.of (sz _ _ hDn)) (.cons (.str _) (.cons (.str _) .nil)), .lst (SqL.of upd_same) (.cons (.str _) (.cons (.str _) .nil)), by decide +kernel, by decide +kernel, _, rfl, ite2 (fun e => absurd e (by decide +kernel)) (fun _ => ?_)⟩
            exact ⟨⟨_, _, _, _, _, _, _, _, _, _, _, _, rfl⟩, b1.trans (b8.trans (.of (s1.trans sz))), hc8.same (s1.trans sz), tabs_same t8 (s1.trans sz)⟩
      · rintro σ H' ⟨h, b1, hc1, t1⟩
        exact ⟨h, b1, hc1, t1⟩
    rintro σ1 H1 ⟨⟨w1, w2, w3, w4, w5, w6, w7, w8, w9, wa, wb, wc, rfl⟩, b1, hc1, t1⟩
    -- 1, -1, 1
    have ep : parts 1 (-1) 1 = (1, -1, 1) := by decide +kernel
    refine ⟨fun σ' H' => ∃ x, σ' = [some (.ref cu), w1, w2, w3, w4, w5, w6, w7, w8, some (.ref x), wa, wb, wc] ∧ ButT cu H H' ∧ CupAt cu H' ∧ LamX.Tabs TT H' ∧ ExAt Ce H' x 1 (-1) 1, ?_, ?_⟩
    · refine ⟨_, rfl, fun x dx nx ndx nex => ⟨x, dx, 1, -1, 1, rfl, upd_same, ⟨.inr ⟨by decide, by decide⟩, by decide, by decide, by decide, by decide⟩, fun H2 bx hE => ⟨rfl, ?_⟩⟩⟩
      have s2 : Same H1 H2 := fun b o e => bx b o (ne_of_none e nx) (by
        rw [upd_ne (ne_of_none e nx), upd_ne (ne_of_none e ndx)]
        exact e)
      rw [ep] at hE
      exact ⟨x, rfl, b1.trans (.of s2), hc1.same s2, tabs_same t1 s2, hE⟩
    rintro σ2 H2 ⟨x, rfl, b2, hc2, t2, hE⟩
    clear b1 hc1 t1
    refine ⟨fun σ' H' => σ' = [some (.ref cu), w1, w2, w3, w4, w5, w6, w7, w8, some (.ref x), wa, wb, wc] ∧ ButT cu H H' ∧ CupAt cu H' ∧ LamX.Tabs TT H' ∧ ExAt Ce H' x 1 (-1) 1, ?_, ?_⟩
    · have sm1 : ∀ {n : Nat}, 1 ≤ n → Sm n 1 := fun {n} h => (by unfold Sm; decide : Sm 1 1).mono h
      have smN : ∀ {n : Nat}, 1 ≤ n → Sm n (-1) := fun {n} h => (by unfold Sm; decide : Sm 1 (-1)).mono h
      obtain ⟨dx, p, hx, hp⟩ := id hE
      refine ⟨_, rfl, x, dx, _, rfl, hx, lkEx (by decide +kernel), x, 1, -1, 1, .int 1, rfl, hE, sm1 (by decide), smN (by decide), sm1 (by decide), .inl ⟨1, rfl, by decide, by decide, fun H3 s3 => ?_⟩⟩
      refine ⟨_, rfl, x, dx, _, rfl, s3 _ _ hx, lkEx (by decide +kernel), x, 1, -1, 1, .int 0, rfl, hE.same s3, sm1 (by decide), smN (by decide), sm1 (by decide), .inl ⟨0, rfl, by decide, by decide, fun H4 s4 => ?_⟩⟩
      have s34 := s3.trans s4
      refine ⟨_, rfl, x, dx, _, rfl, s34 _ _ hx, lkEx (by decide +kernel), x, 1, -1, 1, 1, rfl, hE.same s34, .inr ⟨by decide, by decide⟩, sm1 (by decide), smN (by decide), sm1 (by decide), by decide, by decide, fun H5 s5 => ?_⟩
      have s35 := s34.trans s5
      refine ⟨_, rfl, x, dx, _, rfl, s35 _ _ hx, lkEx (by decide +kernel), x, 1, -1, 1, 3, rfl, hE.same s35, .inr ⟨by decide, by decide⟩, sm1 (by decide), smN (by decide), sm1 (by decide), by decide, by decide, fun H6 s6 => ?_⟩
      have s36 := s35.trans s6
      refine ⟨(by show 4 ≤ sizeLine; decide), fun z nz => ⟨(by show 4 ≤ sizeLine; decide), fun z2 nz2 => ?_⟩⟩
      have e1 : beside 1 (-1) 1 1 1 = 1 := by decide +kernel
      have e2 : beside 1 (-1) 1 0 1 = 1 := by decide +kernel
      have e3 : flo 1 (-1) 1 1 = 1 := by decide +kernel
      have e4 : flo 1 (-1) 1 3 = 4 := by decide +kernel
      rw [e1, e2, e3, e4]
      have sz := same_upd (o := .lst [.int 1, .int 1, .int 1, .int 4]) nz
      have sz2 := same_upd (o := .lst [.int 1, .int 1, .int 1, .int 4]) nz2
      have sx := (s36.trans sz).trans sz2
      refine ⟨.list [.int 1, .int 1, .int 1, .int 4], .list [.int 1, .int 1, .int 1, .int 4], .lst (SqL.of (sz2 _ _ (upd_at nz))) (.cons (.int _) (.cons (.int _) (.cons (.int _) (.cons (.int _) .nil)))), .lst (SqL.of upd_same) (.cons (.int _) (.cons (.int _) (.cons (.int _) (.cons (.int _) .nil)))), by decide +kernel, by decide +kernel, _, rfl, ite2 (fun e => absurd e (by decide +kernel)) (fun _ => ?_)⟩
      exact ⟨rfl, b2.trans (.of sx), hc2.same sx, tabs_same t2 sx, hE.same sx⟩
    rintro σ3 H3 ⟨rfl, b3, hc3, t3, hE3⟩
    clear b2 hc2 t2 hE
    -- odd resistances
    refine ⟨fun σ' H' => ∃ v d, σ' = [some (.ref cu), w1, w2, w3, w4, w5, w6, w7, w8, some (.ref x), some v, wb, wc] ∧ ButT cu H H' ∧ CupAt cu H' ∧ LamX.Tabs TT H' ∧ ExAt Ce H' x 1 (-1) 1 ∧ Dq K (hidS cu cu H') v d ∧ pRes d = true, ?_, ?_⟩
    · skip
      refine ⟨_, rfl, ?_⟩
      refine ⟨(by show 1 ≤ sizeLine; decide), fun ap1 an1 => ?_⟩
      have as1 := same_upd (o := .tup [.int 1]) an1
      have ae1 : ap1 ≠ cu := (CupAt.ne hc3 an1).symm
      have ac1 := CupAt.same hc3 as1
      refine ⟨(by show 3 ≤ sizeLine; decide), fun ap2 an2 => ?_⟩
      have as2 := same_upd (o := .tup [.int 1, .int 2, .int 3]) an2
      have ae2 : ap2 ≠ cu := (CupAt.ne ac1 an2).symm
      have ac2 := CupAt.same ac1 as2
      refine ⟨(by show 2 ≤ sizeLine; decide), fun ap3 an3 => ?_⟩
      have as3 := same_upd (o := .lst [.int 1, .int 2]) an3
      have ae3 : ap3 ≠ cu := (CupAt.ne ac2 an3).symm
      have ac3 := CupAt.same ac2 as3
      refine ⟨(by show 2 ≤ sizeLine; decide), fun ap4 an4 => ?_⟩
      have as4 := same_upd (o := .tup [.int 0, .int 0]) an4
      have ae4 : ap4 ≠ cu := (CupAt.ne ac3 an4).symm
      have ac4 := CupAt.same ac3 as4
      refine ⟨(by show 2 ≤ sizeLine; decide), fun ap5 an5 => ?_⟩
      have as5 := same_upd (o := .tup [.int 2, .int 0]) an5
      have ae5 : ap5 ≠ cu := (CupAt.ne ac4 an5).symm
      have ac5 := CupAt.same ac4 as5
      refine ⟨_, rfl, (by show 2 ≤ sizeLine; decide), fun ap6 an6 => ?_⟩
      have as6 := same_upd (o := .tup [.int 1, .int (-2)]) an6
      have ae6 : ap6 ≠ cu := (CupAt.ne ac5 an6).symm
      have ac6 := CupAt.same ac5 as6
      refine ⟨_, rfl, (by show 2 ≤ sizeLine; decide), fun ap7 an7 => ?_⟩
      have as7 := same_upd (o := .tup [.int (-1), .int 2]) an7
      have ae7 : ap7 ≠ cu := (CupAt.ne ac6 an7).symm
      have ac7 := CupAt.same ac6 as7
      refine ⟨_, rfl, _, _, rfl, rfl, ⟨by decide, by decide, by decide⟩, fun ap8 an8 => ?_⟩
      have as8 := same_upd (o := .dK []) an8
      have ae8 : ap8 ≠ cu := (CupAt.ne ac7 an8).symm
      have ac8 := CupAt.same ac7 as8
      have at7 := as8
      have at6 := as7.trans at7
      have at5 := as6.trans at6
      have at4 := as5.trans at5
      have at3 := as4.trans at4
      have at2 := as3.trans at3
      have at1 := as2.trans at2
      have aall := as1.trans at1
      have ag1 : hidS cu cu _ ap1 = some (.tup [.int 1]) := hs_of (at1 _ _ (upd_at (o := .tup [.int 1]) an1)) ae1 ae1 (by intro ps z; cases z)
      have ag2 : hidS cu cu _ ap2 = some (.tup [.int 1, .int 2, .int 3]) := hs_of (at2 _ _ (upd_at (o := .tup [.int 1, .int 2, .int 3]) an2)) ae2 ae2 (by intro ps z; cases z)
      have ag3 : hidS cu cu _ ap3 = some (.lst [.int 1, .int 2]) := hs_of (at3 _ _ (upd_at (o := .lst [.int 1, .int 2]) an3)) ae3 ae3 (by intro ps z; cases z)
      have ag4 : hidS cu cu _ ap4 = some (.tup [.int 0, .int 0]) := hs_of (at4 _ _ (upd_at (o := .tup [.int 0, .int 0]) an4)) ae4 ae4 (by intro ps z; cases z)
      have ag5 : hidS cu cu _ ap5 = some (.tup [.int 2, .int 0]) := hs_of (at5 _ _ (upd_at (o := .tup [.int 2, .int 0]) an5)) ae5 ae5 (by intro ps z; cases z)
      have ag6 : hidS cu cu _ ap6 = some (.tup [.int 1, .int (-2)]) := hs_of (at6 _ _ (upd_at (o := .tup [.int 1, .int (-2)]) an6)) ae6 ae6 (by intro ps z; cases z)
      have ag7 : hidS cu cu _ ap7 = some (.tup [.int (-1), .int 2]) := hs_of (at7 _ _ (upd_at (o := .tup [.int (-1), .int 2]) an7)) ae7 ae7 (by intro ps z; cases z)
      have ag8 : hidS cu cu _ ap8 = some (.dK []) := hs_of (upd_at (o := .dK []) an8) ae8 ae8 (by intro ps z; cases z)
      have aodd : ∀ v ∈ ([.non, .bl true, .str (Str.ofString "1"), .ref ap1, .ref ap2, .ref ap3, .ref ap4, .ref ap5, .ref ap6, .ref ap7, .int (-1), .int (10 ^ Int.toNat 13), .ref ap8] : List V), OddP pRes K cu cu (upd (upd (upd (upd (upd (upd (upd (upd H3 ap1 (.tup [.int 1])) ap2 (.tup [.int 1, .int 2, .int 3])) ap3 (.lst [.int 1, .int 2])) ap4 (.tup [.int 0, .int 0])) ap5 (.tup [.int 2, .int 0])) ap6 (.tup [.int 1, .int (-2)])) ap7 (.tup [.int (-1), .int 2])) ap8 (.dK [])) v := by
        intro v hv
        simp only [List.mem_cons, List.not_mem_nil, or_false] at hv
        rcases hv with rfl | rfl | rfl | rfl | rfl | rfl | rfl | rfl | rfl | rfl | rfl | rfl | rfl
        · exact ⟨.none, .dp .non (by decide +kernel), by decide +kernel⟩
        · exact ⟨.bool true, .dp (.bl _) (by decide +kernel), by decide +kernel⟩
        · exact ⟨.str (Str.ofString "1"), .dp (.str _) (by decide +kernel), by decide +kernel⟩
        · exact ⟨.tuple [.int 1], .dp (.tup (SqT.of ag1) (.cons (.int _) .nil)) (by decide +kernel), by decide +kernel⟩
        · exact ⟨.tuple [.int 1, .int 2, .int 3], .dp (.tup (SqT.of ag2) (.cons (.int _) (.cons (.int _) (.cons (.int _) .nil)))) (by decide +kernel), by decide +kernel⟩
        · exact ⟨.list [.int 1, .int 2], .dp (.lst (SqL.of ag3) (.cons (.int _) (.cons (.int _) .nil))) (by decide +kernel), by decide +kernel⟩
        · exact ⟨.tuple [.int 0, .int 0], .dp (.tup (SqT.of ag4) (.cons (.int _) (.cons (.int _) .nil))) (by decide +kernel), by decide +kernel⟩
        · exact ⟨.tuple [.int 2, .int 0], .dp (.tup (SqT.of ag5) (.cons (.int _) (.cons (.int _) .nil))) (by decide +kernel), by decide +kernel⟩
        · exact ⟨.tuple [.int 1, .int (-2)], .dp (.tup (SqT.of ag6) (.cons (.int _) (.cons (.int _) .nil))) (by decide +kernel), by decide +kernel⟩
        · exact ⟨.tuple [.int (-1), .int 2], .dp (.tup (SqT.of ag7) (.cons (.int _) (.cons (.int _) .nil))) (by decide +kernel), by decide +kernel⟩
        · exact ⟨.int (-1), .dp (.int _) (by decide +kernel), by decide +kernel⟩
        · exact ⟨.int (10 ^ Int.toNat 13), .dp (.int _) (by decide +kernel), by decide +kernel⟩
        · exact ⟨.dict [], .dk (kvs := []) ag8, by decide +kernel⟩
      refine ⟨(by show 13 ≤ sizeLine; decide), fun l nl => ?_⟩
      have sl := same_upd (o := .lst [.non, .bl true, .str (Str.ofString "1"), .ref ap1, .ref ap2, .ref ap3, .ref ap4, .ref ap5, .ref ap6, .ref ap7, .int (-1), .int (10 ^ Int.toNat 13), .ref ap8]) nl
      have s0 := aall.trans sl
      refine ⟨cu, l, _, rfl, CupAt.same hc3 s0, CupAt.ne (CupAt.same hc3 aall) nl, upd_same, (by show 0 < 13; decide), (by show 13 ≤ 100; decide), fun H5 v b5 hc5 hv => ?_⟩
      have bx : ButT cu H3 H5 := (ButT.of s0).trans (.but b5)
      obtain ⟨d, gd, pd⟩ := ((aodd v hv).same sl).butT (.but b5)
      exact ⟨v, d, rfl, b3.trans bx, hc5, tabs_but (tabs_same t3 s0) (hc3.same s0) b5, hE3.butT hc3 bx, gd, pd⟩
    rintro σ4 H4 ⟨v, d, rfl, b4, hc4, t4, hE4, gd, pd⟩
    have D : ZD K TT cu Ce x H H4 v d := ⟨b4, hc4, t4, hE4, gd⟩
    obtain ⟨hr_, tl, cd⟩ := pRes_of pd
    clear b4 hc4 t4 hE4 gd pd b3 hc3 t3 hE3
    refine ⟨fun σ' H' => ∃ q m, σ' = [some (.ref cu), w1, w2, w3, w4, w5, w6, some (.ref m), w8, some (.ref x), some v, wb, wc] ∧ ZD K TT cu Ce x H H' v d ∧ H' m = some (.lst [.ref q]) ∧ H' q = some (.lst [.int 2, .int 20, .int 23, .str d.shown]) ∧ m ≠ cu ∧ (∀ b o, b ≠ cu → (∀ ps, o ≠ .tbl ps) → H4 b = some o → b ≠ m) ∧ ButT cu H4 H', ?_, ?_⟩
    · refine ⟨D.tabs, fun H5 x5 t5 => ?_⟩
      have D5 := D.ext x5 t5
      obtain ⟨dx, p, hx, _⟩ := id D5.ex
      refine ⟨_, rfl, x, dx, _, rfl, hx, lkEx (by decide +kernel), _, rfl, use_cmp D5.g tl hr_ EC2 fun H6 q s6 hq => ?_⟩
      have bx : ButT cu H4 H6 := (ButT.ext x5).trans (.of s6)
      refine ⟨(by show 1 ≤ sizeLine; decide), fun m nm => ?_⟩
      have s7 := same_upd (o := .lst [.ref q]) nm
      exact ⟨q, m, rfl, D5.same (s6.trans s7), upd_same, s7 _ _ hq, (CupAt.ne (D5.cup.same s6) nm).symm, fun b o nb nt e => ne_of_none (bx b o nb nt e) nm, bx.trans (.of s7)⟩
    rintro σ5 H5 ⟨q1, m, rfl, D5, hm5, hq5, nmc, nmH, b45⟩
    refine ⟨fun σ' H' => ∃ q2, σ' = [some (.ref cu), w1, w2, w3, w4, w5, w6, some (.ref m), w8, some (.ref x), some v, wb, wc] ∧ ZD K TT cu Ce x H H' v d ∧ H' m = some (.lst [.ref q1, .ref q2]) ∧ H' q1 = some (.lst [.int 2, .int 20, .int 23, .str d.shown]) ∧ H' q2 = some (.lst [.int 2, .int 20, .int 23, .str d.shown]), ?_, ?_⟩
    · refine ⟨_, rfl, .inl ⟨rfl, _, SqL.of hm5⟩, D5.tabs, fun H6 x6 t6 => ?_⟩
      have D6 := D5.ext x6 t6
      obtain ⟨dx, p, hx, _⟩ := id D6.ex
      refine ⟨_, rfl, x, dx, _, rfl, hx, lkEx (by decide +kernel), _, rfl, use_cmp D6.g tl hr_ EC2 fun H7 q2 s7 hq2 => ?_⟩
      have D7 := D6.same s7
      have kp : ∀ {b o}, H5 b = some o → (∀ ps, o ≠ .tbl ps) → H7 b = some o := fun {b o} e n => s7 _ _ (x6 _ _ e n)
      have hm7 := kp hm5 (by intro ps z; cases z)
      refine ⟨m, [.ref q1], _, rfl, rfl, hm7, small1000 (by show 1 ≤ 1000; decide), ?_⟩
      have hc7 : CupAt cu (upd H7 m (.lst ([.ref q1] ++ [.ref q2]))) := by
        obtain ⟨u, v, h, z⟩ := D7.cup
        exact ⟨u, v, (upd_ne nmc.symm).trans h, z⟩
      have b47 : ButT cu H4 (upd H7 m (.lst ([.ref q1] ++ [.ref q2]))) := fun b o nb nt e => (upd_ne (nmH b o nb nt e)).trans (kp (b45 b o nb nt e) nt)
      exact ⟨q2, rfl, D.step b47 hc7 (tabs_upd D7.tabs hm7), upd_same, (upd_ne (ne_of (kp hq5 (by intro ps z; cases z)) hm7 (by intro z; cases z))).trans (kp hq5 (by intro ps z; cases z)), (upd_ne (ne_of hq2 hm7 (by intro z; cases z))).trans hq2⟩
    rintro σ6 H6 ⟨q2, rfl, D6, hm6, hq61, hq62⟩
    refine ⟨fun σ' H' => σ' = [some (.ref cu), w1, w2, w3, w4, w5, w6, some (.ref m), w8, some (.ref x), some v, wb, wc] ∧ ZD K TT cu Ce x H H' v d, ?_, ?_⟩
    · refine ⟨_, rfl, _, rfl, _, d, rfl, dcq D6.g, tl.s, tl.p, tl.l, (by show 4 ≤ sizeLine; decide), fun p np => ⟨(by show 1 ≤ sizeLine; decide), fun p' np' => ?_⟩⟩
      have s1 := same_upd (o := .lst [.int 2, .int 20, .int 23, .str d.shown]) np
      have s2 := same_upd (o := .lst [.ref p]) np'
      refine ⟨p', 2, _, rfl, rfl, upd_same, by decide, by decide, (by show 2 ≤ sizeLine; decide), fun z nz => ?_⟩
      have s3 := same_upd (o := .lst (List.replicate (Int.toNat 2) [V.ref p]).flatten) nz
      have sx := (s1.trans s2).trans s3
      have dpR : ∀ {p : Addr} {HX : Hp}, HX p = some (.lst [.int 2, .int 20, .int 23, .str d.shown]) → Dp K HX (.ref p) (refD 2 d) := fun h => .lst (SqL.of h) (.cons (.int _) (.cons (.int _) (.cons (.int _) (.cons (.str _) .nil))))
      have hpz := (s2.trans s3) _ _ (upd_at (o := .lst [.int 2, .int 20, .int 23, .str d.shown]) np)
      refine ⟨_, _, .lst (SqL.of (sx _ _ hm6)) (.cons (dpR (sx _ _ hq61)) (.cons (dpR (sx _ _ hq62)) .nil)), .lst (SqL.of upd_same) (.cons (dpR hpz) (.cons (dpR hpz) .nil)), sh_ref cd, sh_ref cd, _, rfl, ite2 (fun e => absurd e ne_ref) (fun _ => ⟨rfl, D6.same sx⟩)⟩
    rintro σ7 H7 ⟨rfl, D7⟩
    have b3 := D7.but
    have hc3 := D7.cup
    have t3 := D7.tabs
    have hE3 := D7.ex
    clear D D5 hm5 hq5 nmc nmH b45 D6 hm6 hq61 hq62 hr_ tl cd
    -- far ones
    refine ⟨fun σ' H' => ∃ v' d, σ' = [some (.ref cu), w1, w2, w3, w4, w5, w6, some (.ref m), w8, some (.ref x), some v, some v', wc] ∧ ZD K TT cu Ce x H H' v' d ∧ pRes d = true, ?_, ?_⟩
    · skip
      refine ⟨_, rfl, ?_⟩
      refine ⟨_, _, rfl, rfl, ⟨by decide, by decide, by decide⟩, _, _, rfl, rfl, (by show 2 ≤ sizeLine; decide), fun ep1 en1 => ?_⟩
      have es1 := same_upd (o := .tup [.int ((10 ^ Int.toNat 12) + 1), .int 1]) en1
      have ee1 : ep1 ≠ cu := (CupAt.ne hc3 en1).symm
      have ec1 := CupAt.same hc3 es1
      refine ⟨_, _, rfl, rfl, ⟨by decide, by decide, by decide⟩, _, _, rfl, rfl, (by show 2 ≤ sizeLine; decide), fun ep2 en2 => ?_⟩
      have es2 := same_upd (o := .tup [.int 1, .int ((10 ^ Int.toNat 12) + 1)]) en2
      have ee2 : ep2 ≠ cu := (CupAt.ne ec1 en2).symm
      have ec2 := CupAt.same ec1 es2
      refine ⟨(by show 2 ≤ sizeLine; decide), fun ep3 en3 => ?_⟩
      have es3 := same_upd (o := .tup [.bl true, .int 1]) en3
      have ee3 : ep3 ≠ cu := (CupAt.ne ec2 en3).symm
      have ec3 := CupAt.same ec2 es3
      refine ⟨(by show 2 ≤ sizeLine; decide), fun ep4 en4 => ?_⟩
      have es4 := same_upd (o := .tup [.int 1, .bl true]) en4
      have ee4 : ep4 ≠ cu := (CupAt.ne ec3 en4).symm
      have ec4 := CupAt.same ec3 es4
      refine ⟨(by show 2 ≤ sizeLine; decide), fun ep5 en5 => ?_⟩
      have es5 := same_upd (o := .tup [.int 1, .int 1]) en5
      have ee5 : ep5 ≠ cu := (CupAt.ne ec4 en5).symm
      have ec5 := CupAt.same ec4 es5
      refine ⟨(by show 2 ≤ sizeLine; decide), fun ep6 en6 => ?_⟩
      have es6 := same_upd (o := .tup [.ref ep5, .int 1]) en6
      have ee6 : ep6 ≠ cu := (CupAt.ne ec5 en6).symm
      have ec6 := CupAt.same ec5 es6
      refine ⟨(by show 2 ≤ sizeLine; decide), fun ep7 en7 => ?_⟩
      have es7 := same_upd (o := .tup [.int 1, .str (Str.ofString "2")]) en7
      have ee7 : ep7 ≠ cu := (CupAt.ne ec6 en7).symm
      have ec7 := CupAt.same ec6 es7
      have et6 := es7
      have et5 := es6.trans et6
      have et4 := es5.trans et5
      have et3 := es4.trans et4
      have et2 := es3.trans et3
      have et1 := es2.trans et2
      have eall := es1.trans et1
      have eg1 : hidS cu cu _ ep1 = some (.tup [.int ((10 ^ Int.toNat 12) + 1), .int 1]) := hs_of (et1 _ _ (upd_at (o := .tup [.int ((10 ^ Int.toNat 12) + 1), .int 1]) en1)) ee1 ee1 (by intro ps z; cases z)
      have eg2 : hidS cu cu _ ep2 = some (.tup [.int 1, .int ((10 ^ Int.toNat 12) + 1)]) := hs_of (et2 _ _ (upd_at (o := .tup [.int 1, .int ((10 ^ Int.toNat 12) + 1)]) en2)) ee2 ee2 (by intro ps z; cases z)
      have eg3 : hidS cu cu _ ep3 = some (.tup [.bl true, .int 1]) := hs_of (et3 _ _ (upd_at (o := .tup [.bl true, .int 1]) en3)) ee3 ee3 (by intro ps z; cases z)
      have eg4 : hidS cu cu _ ep4 = some (.tup [.int 1, .bl true]) := hs_of (et4 _ _ (upd_at (o := .tup [.int 1, .bl true]) en4)) ee4 ee4 (by intro ps z; cases z)
      have eg5 : hidS cu cu _ ep5 = some (.tup [.int 1, .int 1]) := hs_of (et5 _ _ (upd_at (o := .tup [.int 1, .int 1]) en5)) ee5 ee5 (by intro ps z; cases z)
      have eg6 : hidS cu cu _ ep6 = some (.tup [.ref ep5, .int 1]) := hs_of (et6 _ _ (upd_at (o := .tup [.ref ep5, .int 1]) en6)) ee6 ee6 (by intro ps z; cases z)
      have eg7 : hidS cu cu _ ep7 = some (.tup [.int 1, .str (Str.ofString "2")]) := hs_of (upd_at (o := .tup [.int 1, .str (Str.ofString "2")]) en7) ee7 ee7 (by intro ps z; cases z)
      have eodd : ∀ v ∈ ([.ref ep1, .ref ep2, .ref ep3, .ref ep4, .ref ep6, .ref ep7, .str (Str.ofString "open")] : List V), OddP pRes K cu cu (upd (upd (upd (upd (upd (upd (upd H7 ep1 (.tup [.int ((10 ^ Int.toNat 12) + 1), .int 1])) ep2 (.tup [.int 1, .int ((10 ^ Int.toNat 12) + 1)])) ep3 (.tup [.bl true, .int 1])) ep4 (.tup [.int 1, .bl true])) ep5 (.tup [.int 1, .int 1])) ep6 (.tup [.ref ep5, .int 1])) ep7 (.tup [.int 1, .str (Str.ofString "2")])) v := by
        intro v hv
        simp only [List.mem_cons, List.not_mem_nil, or_false] at hv
        rcases hv with rfl | rfl | rfl | rfl | rfl | rfl | rfl
        · exact ⟨.tuple [.int ((10 ^ Int.toNat 12) + 1), .int 1], .dp (.tup (SqT.of eg1) (.cons (.int _) (.cons (.int _) .nil))) (by decide +kernel), by decide +kernel⟩
        · exact ⟨.tuple [.int 1, .int ((10 ^ Int.toNat 12) + 1)], .dp (.tup (SqT.of eg2) (.cons (.int _) (.cons (.int _) .nil))) (by decide +kernel), by decide +kernel⟩
        · exact ⟨.tuple [.bool true, .int 1], .dp (.tup (SqT.of eg3) (.cons (.bl _) (.cons (.int _) .nil))) (by decide +kernel), by decide +kernel⟩
        · exact ⟨.tuple [.int 1, .bool true], .dp (.tup (SqT.of eg4) (.cons (.int _) (.cons (.bl _) .nil))) (by decide +kernel), by decide +kernel⟩
        · exact ⟨.tuple [.tuple [.int 1, .int 1], .int 1], .dp (.tup (SqT.of eg6) (.cons (.tup (SqT.of eg5) (.cons (.int _) (.cons (.int _) .nil))) (.cons (.int _) .nil))) (by decide +kernel), by decide +kernel⟩
        · exact ⟨.tuple [.int 1, .str (Str.ofString "2")], .dp (.tup (SqT.of eg7) (.cons (.int _) (.cons (.str _) .nil))) (by decide +kernel), by decide +kernel⟩
        · exact ⟨.str (Str.ofString "open"), .dp (.str _) (by decide +kernel), by decide +kernel⟩
      refine ⟨(by show 7 ≤ sizeLine; decide), fun l nl => ?_⟩
      have sl := same_upd (o := .lst [.ref ep1, .ref ep2, .ref ep3, .ref ep4, .ref ep6, .ref ep7, .str (Str.ofString "open")]) nl
      have s0 := eall.trans sl
      refine ⟨cu, l, _, rfl, CupAt.same hc3 s0, CupAt.ne (CupAt.same hc3 eall) nl, upd_same, (by show 0 < 7; decide), (by show 7 ≤ 100; decide), fun H5 v b5 hc5 hv => ?_⟩
      have bx : ButT cu H7 H5 := (ButT.of s0).trans (.but b5)
      obtain ⟨d, gd, pd⟩ := ((eodd v hv).same sl).butT (.but b5)
      exact ⟨v, d, rfl, ⟨b3.trans bx, hc5, tabs_but (tabs_same t3 s0) (hc3.same s0) b5, hE3.butT hc3 bx, gd⟩, pd⟩
    rintro σ8 H8 ⟨v', d', rfl, D8, pd⟩
    obtain ⟨hr_, tl, cd⟩ := pRes_of pd
    refine ⟨fun σ' H' => σ' = [some (.ref cu), w1, w2, w3, w4, w5, w6, some (.ref m), w8, some (.ref x), some v, some v', wc] ∧ ButT cu H H' ∧ CupAt cu H' ∧ LamX.Tabs TT H' ∧ ExAt Ce H' x 1 (-1) 1, ?_, ?_⟩
    · refine ⟨D8.tabs, fun H9 x9 t9 => ?_⟩
      have D9 := D8.ext x9 t9
      obtain ⟨dx, p, hx, _⟩ := id D9.ex
      refine ⟨_, rfl, x, dx, _, rfl, hx, lkEx (by decide +kernel), _, rfl, use_cmp D9.g tl hr_ EC2 fun Ha q sa hq => ?_⟩
      have Da := D9.same sa
      refine ⟨_, rfl, _, d', rfl, dcq Da.g, tl.s, tl.p, tl.l, (by show 4 ≤ sizeLine; decide), fun z nz => ?_⟩
      have sz := same_upd (o := .lst [.int 2, .int 20, .int 23, .str d'.shown]) nz
      have Db := Da.same sz
      exact ⟨refD 2 d', refD 2 d', .lst (SqL.of (sz _ _ hq)) (.cons (.int _) (.cons (.int _) (.cons (.int _) (.cons (.str _) .nil)))), .lst (SqL.of upd_same) (.cons (.int _) (.cons (.int _) (.cons (.int _) (.cons (.str _) .nil)))), sh_ref1 cd, sh_ref1 cd, _, rfl, ite2 (fun e => absurd e ne_ref1) (fun _ => ⟨rfl, Db.but, Db.cup, Db.tabs, Db.ex⟩)⟩
    rintro σ9 H9 ⟨rfl, b3, hc3, t3, hE3⟩
    clear D7 D8 pd hr_ tl cd
    -- odd numbers of times
    refine ⟨fun σ' H' => ∃ u d, σ' = [some (.ref cu), w1, w2, w3, w4, w5, w6, some (.ref m), w8, some (.ref x), some v, some v', some u] ∧ ZD K TT cu Ce x H H' u d ∧ pFlo d = true, ?_, ?_⟩
    · skip
      refine ⟨_, rfl, ?_⟩
      refine ⟨_, rfl, (by show 1 ≤ sizeLine; decide), fun gp1 gn1 => ?_⟩
      have gs1 := same_upd (o := .tup [.int 1]) gn1
      have ge1 : gp1 ≠ cu := (CupAt.ne hc3 gn1).symm
      have gc1 := CupAt.same hc3 gs1
      refine ⟨(by show 0 ≤ sizeLine; decide), fun gp2 gn2 => ?_⟩
      have gs2 := same_upd (o := .lst []) gn2
      have ge2 : gp2 ≠ cu := (CupAt.ne gc1 gn2).symm
      have gc2 := CupAt.same gc1 gs2
      refine ⟨_, _, rfl, rfl, ⟨by decide, by decide, by decide⟩, _, _, rfl, rfl, fun gp3 gn3 => ?_⟩
      have gs3 := same_upd (o := .dK []) gn3
      have ge3 : gp3 ≠ cu := (CupAt.ne gc2 gn3).symm
      have gc3 := CupAt.same gc2 gs3
      have gt2 := gs3
      have gt1 := gs2.trans gt2
      have gall := gs1.trans gt1
      have gg1 : hidS cu cu _ gp1 = some (.tup [.int 1]) := hs_of (gt1 _ _ (upd_at (o := .tup [.int 1]) gn1)) ge1 ge1 (by intro ps z; cases z)
      have gg2 : hidS cu cu _ gp2 = some (.lst []) := hs_of (gt2 _ _ (upd_at (o := .lst []) gn2)) ge2 ge2 (by intro ps z; cases z)
      have gg3 : hidS cu cu _ gp3 = some (.dK []) := hs_of (upd_at (o := .dK []) gn3) ge3 ge3 (by intro ps z; cases z)
      have godd : ∀ v ∈ ([.int 0, .int (-1), .non, .bl true, .str (Str.ofString "3"), .ref gp1, .ref gp2, .int ((10 ^ Int.toNat 40) + 1), .ref gp3] : List V), OddP pFlo K cu cu (upd (upd (upd H9 gp1 (.tup [.int 1])) gp2 (.lst [])) gp3 (.dK [])) v := by
        intro v hv
        simp only [List.mem_cons, List.not_mem_nil, or_false] at hv
        rcases hv with rfl | rfl | rfl | rfl | rfl | rfl | rfl | rfl | rfl
        · exact ⟨.int 0, .dp (.int _) (by decide +kernel), by decide +kernel⟩
        · exact ⟨.int (-1), .dp (.int _) (by decide +kernel), by decide +kernel⟩
        · exact ⟨.none, .dp .non (by decide +kernel), by decide +kernel⟩
        · exact ⟨.bool true, .dp (.bl _) (by decide +kernel), by decide +kernel⟩
        · exact ⟨.str (Str.ofString "3"), .dp (.str _) (by decide +kernel), by decide +kernel⟩
        · exact ⟨.tuple [.int 1], .dp (.tup (SqT.of gg1) (.cons (.int _) .nil)) (by decide +kernel), by decide +kernel⟩
        · exact ⟨.list [], .dp (.lst (SqL.of gg2) .nil) (by decide +kernel), by decide +kernel⟩
        · exact ⟨.int ((10 ^ Int.toNat 40) + 1), .dp (.int _) (by decide +kernel), by decide +kernel⟩
        · exact ⟨.dict [], .dk (kvs := []) gg3, by decide +kernel⟩
      refine ⟨(by show 9 ≤ sizeLine; decide), fun l nl => ?_⟩
      have sl := same_upd (o := .lst [.int 0, .int (-1), .non, .bl true, .str (Str.ofString "3"), .ref gp1, .ref gp2, .int ((10 ^ Int.toNat 40) + 1), .ref gp3]) nl
      have s0 := gall.trans sl
      refine ⟨cu, l, _, rfl, CupAt.same hc3 s0, CupAt.ne (CupAt.same hc3 gall) nl, upd_same, (by show 0 < 9; decide), (by show 9 ≤ 100; decide), fun H5 v b5 hc5 hv => ?_⟩
      have bx : ButT cu H9 H5 := (ButT.of s0).trans (.but b5)
      obtain ⟨d, gd, pd⟩ := ((godd v hv).same sl).butT (.but b5)
      exact ⟨v, d, rfl, ⟨b3.trans bx, hc5, tabs_but (tabs_same t3 s0) (hc3.same s0) b5, hE3.butT hc3 bx, gd⟩, pd⟩
    rintro σa Ha ⟨u, d, rfl, D, pd⟩
    obtain ⟨hr_, tl, cd⟩ := pFlo_of pd
    clear b3 hc3 t3 hE3 pd
    refine ⟨fun σ' H' => ∃ q m, σ' = [some (.ref cu), w1, w2, w3, w4, w5, w6, some (.ref m), w8, some (.ref x), some v, some v', some u] ∧ ZD K TT cu Ce x H H' u d ∧ H' m = some (.lst [.ref q]) ∧ H' q = some (.lst [.int 4, .int 20, .int 23, .str d.shown]) ∧ m ≠ cu ∧ (∀ b o, b ≠ cu → (∀ ps, o ≠ .tbl ps) → Ha b = some o → b ≠ m) ∧ ButT cu Ha H', ?_, ?_⟩
    · refine ⟨D.tabs, fun H5 x5 t5 => ?_⟩
      have D5 := D.ext x5 t5
      obtain ⟨dx, p, hx, _⟩ := id D5.ex
      refine ⟨_, rfl, x, dx, _, rfl, hx, lkEx (by decide +kernel), _, rfl, use_flo D5.g tl hr_ EC4 fun H6 q s6 hq => ?_⟩
      have bx : ButT cu Ha H6 := (ButT.ext x5).trans (.of s6)
      refine ⟨(by show 1 ≤ sizeLine; decide), fun m nm => ?_⟩
      have s7 := same_upd (o := .lst [.ref q]) nm
      exact ⟨q, m, rfl, D5.same (s6.trans s7), upd_same, s7 _ _ hq, (CupAt.ne (D5.cup.same s6) nm).symm, fun b o nb nt e => ne_of_none (bx b o nb nt e) nm, bx.trans (.of s7)⟩
    rintro σ5 H5 ⟨q1, m, rfl, D5, hm5, hq5, nmc, nmH, b45⟩
    refine ⟨fun σ' H' => ∃ q2, σ' = [some (.ref cu), w1, w2, w3, w4, w5, w6, some (.ref m), w8, some (.ref x), some v, some v', some u] ∧ ZD K TT cu Ce x H H' u d ∧ H' m = some (.lst [.ref q1, .ref q2]) ∧ H' q1 = some (.lst [.int 4, .int 20, .int 23, .str d.shown]) ∧ H' q2 = some (.lst [.int 4, .int 20, .int 23, .str d.shown]), ?_, ?_⟩
    · refine ⟨_, rfl, .inl ⟨rfl, _, SqL.of hm5⟩, D5.tabs, fun H6 x6 t6 => ?_⟩
      have D6 := D5.ext x6 t6
      obtain ⟨dx, p, hx, _⟩ := id D6.ex
      refine ⟨_, rfl, x, dx, _, rfl, hx, lkEx (by decide +kernel), _, rfl, use_flo D6.g tl hr_ EC4 fun H7 q2 s7 hq2 => ?_⟩
      have D7 := D6.same s7
      have kp : ∀ {b o}, H5 b = some o → (∀ ps, o ≠ .tbl ps) → H7 b = some o := fun {b o} e n => s7 _ _ (x6 _ _ e n)
      have hm7 := kp hm5 (by intro ps z; cases z)
      refine ⟨m, [.ref q1], _, rfl, rfl, hm7, small1000 (by show 1 ≤ 1000; decide), ?_⟩
      have hc7 : CupAt cu (upd H7 m (.lst ([.ref q1] ++ [.ref q2]))) := by
        obtain ⟨u, v, h, z⟩ := D7.cup
        exact ⟨u, v, (upd_ne nmc.symm).trans h, z⟩
      have b47 : ButT cu Ha (upd H7 m (.lst ([.ref q1] ++ [.ref q2]))) := fun b o nb nt e => (upd_ne (nmH b o nb nt e)).trans (kp (b45 b o nb nt e) nt)
      exact ⟨q2, rfl, D.step b47 hc7 (tabs_upd D7.tabs hm7), upd_same, (upd_ne (ne_of (kp hq5 (by intro ps z; cases z)) hm7 (by intro z; cases z))).trans (kp hq5 (by intro ps z; cases z)), (upd_ne (ne_of hq2 hm7 (by intro z; cases z))).trans hq2⟩
    rintro σ6 H6 ⟨q2, rfl, D6, hm6, hq61, hq62⟩
    refine ⟨_, rfl, _, rfl, _, d, rfl, dcq D6.g, tl.s, tl.p, tl.l, (by show 4 ≤ sizeLine; decide), fun p np => ⟨(by show 1 ≤ sizeLine; decide), fun p' np' => ?_⟩⟩
    have s1 := same_upd (o := .lst [.int 4, .int 20, .int 23, .str d.shown]) np
    have s2 := same_upd (o := .lst [.ref p]) np'
    refine ⟨p', 2, _, rfl, rfl, upd_same, by decide, by decide, (by show 2 ≤ sizeLine; decide), fun z nz => ?_⟩
    have s3 := same_upd (o := .lst (List.replicate (Int.toNat 2) [V.ref p]).flatten) nz
    have sx := (s1.trans s2).trans s3
    have dpR : ∀ {p : Addr} {HX : Hp}, HX p = some (.lst [.int 4, .int 20, .int 23, .str d.shown]) → Dp K HX (.ref p) (refD 4 d) := fun h => .lst (SqL.of h) (.cons (.int _) (.cons (.int _) (.cons (.int _) (.cons (.str _) .nil))))
    have hpz := (s2.trans s3) _ _ (upd_at (o := .lst [.int 4, .int 20, .int 23, .str d.shown]) np)
    refine ⟨_, _, .lst (SqL.of (sx _ _ hm6)) (.cons (dpR (sx _ _ hq61)) (.cons (dpR (sx _ _ hq62)) .nil)), .lst (SqL.of upd_same) (.cons (dpR hpz) (.cons (dpR hpz) .nil)), sh_ref cd, sh_ref cd, ?_⟩
    rw [eq_ref]
    exact k _ (D6.same sx).but (D6.same sx).tabs
end
end RL

set_option maxHeartbeats 2000000
namespace RL
open PySem L2 PySem.Spec PyProof.Rows
def spLaw (K : PySem.W.Frag) (TT : List (Addr × Str)) : Sp := fun vs H Q _ => ∃ (a : Addr) (ns : List Int), vs = [.ref a] ∧ SqL K H a (ns.map V.int) ∧ ns.length ≤ 63 ∧ LamX.Tabs TT H ∧ ∀ H', Q (.bl true) H'
section
variable {P : Program} {w : World} {K : PySem.W.Frag} {mg : Str → Option Value} {base : Heap} {tG t1 t2 t3 tP tC : Tok} {aO aW J C Ce Cl : Addr} {c : Nat → Addr}
abbrev s_law : Stmt := top 55
theorem sc_law : FnScope ["_law_script", "_law_spot"] ["_law_script"] (defScope s_law) := ⟨rfl, rfl, rfl, by decide +kernel, rfl, by decide +kernel, by decide +kernel⟩

theorem ok_law {f cL PL : Addr} {fd : FuncData} {TT : List (Addr × Str)} (F : FunC K "law" "law" s_law f fd cL) (T : Txt4 K mg tG t1 t2 t3 tP tC aO aW J C Ce Cl) (X_exN : ExN P w K mg base Ce (c 4))
    (CG : CgtD P w K mg base c 4 (rTextOwn Ce (spRep Ce))) (EC4 : EC K c (c 4) 4 [4, 20, 23]) (TBL : LamX.TabB base mg cL PL) (TML : (PL, ("law" : Str) ++ ".<locals>.<lambda>") ∈ TT) (TUL : ∀ p ∈ TT, p.1 = PL → p.2 = ("law" : Str) ++ ".<locals>.<lambda>")
    (D_law_cup : Df P w K mg base 1 "_law_cup" ["_law_script", "_law_spot"] (spCup K)) (D_law_right : DfG P w K mg base 10 "_law_right" ["_law_cup_here"] (spRight TT)) : FnG P w K mg base 11 f fd ["_law_script"] (spLaw K TT) := by
  refine okGC F sc_law (fun vs H Q E h => ?_) (fun A outer s H vs Q E hg hr h => ?_)
  · obtain ⟨a, ns, rfl, _⟩ := h
    rfl
  · obtain ⟨a, ns, rfl, hS, hlen, ht, k⟩ := h
    refine ⟨_, (C8.pss_cut (ps_if (pt_cmpR (op_neD hr.units) (pe_cgt (k := 7) CG hg (by decide) (by decide) TBL rfl TML TUL (hr.mono (by decide)) rfl (fun A2 outer2 s2 H2 E2 f2 c2 hg2 hr2 => (pe_exactN X_exN (hr2.mono (by decide)) (by rfl) T.mgE (passN lamN_takes fun _ _ _ _ h => h) (pa_cons pe_int (pa_cons pe_int (pa_cons pe_non pa_nil)))))) (pe_lst (pa_cons pe_int (pa_cons pe_int (pa_cons pe_int (pa_cons pe_str pa_nil))))) (nomark _)) (pss_one (ps_ret pe_bl)) pss_nil)
      (C8.pss_cut (ps_if (pt_cmpR (op_neD hr.units) (pe_cgt (k := 7) CG hg (by decide) (by decide) TBL rfl TML TUL (hr.mono (by decide)) rfl (fun A2 outer2 s2 H2 E2 f2 c2 hg2 hr2 => (pe_exactN X_exN (hr2.mono (by decide)) (by rfl) T.mgE (passN lamN_takes fun _ _ _ _ h => h) (pa_cons pe_int (pa_cons pe_int (pa_cons pe_int pa_nil)))))) (pe_lst (pa_cons pe_int (pa_cons pe_int (pa_cons pe_int (pa_cons pe_str pa_nil))))) (nomark _)) (pss_one (ps_ret pe_bl)) pss_nil)
      (pss_one (ps_ret (pe_callB (cr_all rfl) (by rfl) T.all (by decide +kernel) (pa_cons (pe_lc (own := [("_law_spot", 1)]) (g := gName 1) (tt := tYes) rfl sc_law.nd (pi_range1 rfl T.range (pa_cons (pe_callB (call_max2 rfl) (by rfl) T.max (by decide +kernel) (pa_cons pe_int (pa_cons (pe_callB (call_min2 rfl) (by rfl) T.min (by decide +kernel) (pa_cons (pe_callB call_len_seq (by rfl) T.len (by decide +kernel) (pa_cons (pv 0) pa_nil)) (pa_cons pe_int pa_nil))) pa_nil))) pa_nil)) (blkOk_by (N := ["_law_script", "_law_spot"]) (sc := defScope s_law) (by decide +kernel)) (fun _ _ _ _ _ => pg_name (i := 1) sc_law.nd rfl (Or.inl rfl)) (fun _ _ _ _ _ => pts_nil) (fun _ _ _ _ _ => (pe_dfG D_law_right hg (hr.mono (by decide)) (by rfl) (pa_cons (pe_df D_law_cup (hr.mono (by decide)) (by rfl) (pa_cons (pv 0) (pa_cons (pv 1) pa_nil))) pa_nil)))) pa_nil)))))), ?_⟩
    refine ⟨fun σ' H' => σ' = [some (.ref a), none] ∧ SqL K H' a (ns.map V.int) ∧ LamX.Tabs TT H', ?_, ?_⟩
    · refine ⟨ht, fun H3 x3 t3 => ?_⟩
      refine fun x dx nx ndx nex => ⟨x, dx, .int 0, .int 0, .non, .int 0, .int 0, .none, rfl, .dp (.int _) rfl, .dp (.int _) rfl, .dp .non rfl, upd_same, .inl ⟨1, .int 0, .small (by decide +kernel) (by decide), rfl, fun H4 dd s4 hdd => ⟨c 4, 4, [4, 20, 23], dd, .int 0, .int 0, rfl, EC4, rfl, hdd, .dp (.int _) rfl, by decide +kernel, by decide +kernel, by decide +kernel, fun H5 q s5 hq => ?_⟩⟩⟩
      refine ⟨(by show 4 ≤ sizeLine; decide), fun z nz => ?_⟩
      have sz := same_upd (o := .lst [.int 4, .int 20, .int 23, .str (Str.ofString "0")]) nz
      have s2 : Same H3 (upd (upd H3 dx (.own x)) x (.ins Ce dx [])) := fun b o e => by
        rw [upd_ne (ne_of_none e nx), upd_ne (ne_of_none e ndx)]
        exact e
      have sx := ((s2.trans s4).trans s5).trans sz
      exact ⟨.list [.int 4, .int 20, .int 23, .str (PyData.shown (.int 0))], .list [.int 4, .int 20, .int 23, .str (Str.ofString "0")], .lst (SqL.of (sz _ _ hq)) (.cons (.int _) (.cons (.int _) (.cons (.int _) (.cons (.str _) .nil)))), .lst (SqL.of upd_same) (.cons (.int _) (.cons (.int _) (.cons (.int _) (.cons (.str _) .nil)))), by decide +kernel, by decide +kernel, _, rfl, ite2 (fun z => absurd z (by decide +kernel)) (fun _ => ⟨rfl, sx.seq (sql_ext hS x3), tabs_same t3 sx⟩)⟩
    rintro σ1 H1 ⟨rfl, hS1, t1'⟩
    refine ⟨fun σ' H' => σ' = [some (.ref a), none] ∧ SqL K H' a (ns.map V.int) ∧ LamX.Tabs TT H', ?_, ?_⟩
    · refine ⟨t1', fun H3 x3 t3 => ?_⟩
      refine fun x dx nx ndx nex => ⟨x, dx, .int 2, .int 0, .int 0, .int 2, .int 0, .int 0, rfl, .dp (.int _) rfl, .dp (.int _) rfl, .dp (.int _) rfl, upd_same, .inl ⟨2, .int 0, .zero (by decide +kernel) (by decide +kernel) (by decide), rfl, fun H4 dd s4 hdd => ⟨c 4, 4, [4, 20, 23], dd, .int 0, .int 0, rfl, EC4, rfl, hdd, .dp (.int _) rfl, by decide +kernel, by decide +kernel, by decide +kernel, fun H5 q s5 hq => ?_⟩⟩⟩
      refine ⟨(by show 4 ≤ sizeLine; decide), fun z nz => ?_⟩
      have sz := same_upd (o := .lst [.int 4, .int 20, .int 23, .str (Str.ofString "0")]) nz
      have s2 : Same H3 (upd (upd H3 dx (.own x)) x (.ins Ce dx [])) := fun b o e => by
        rw [upd_ne (ne_of_none e nx), upd_ne (ne_of_none e ndx)]
        exact e
      have sx := ((s2.trans s4).trans s5).trans sz
      exact ⟨.list [.int 4, .int 20, .int 23, .str (PyData.shown (.int 0))], .list [.int 4, .int 20, .int 23, .str (Str.ofString "0")], .lst (SqL.of (sz _ _ hq)) (.cons (.int _) (.cons (.int _) (.cons (.int _) (.cons (.str _) .nil)))), .lst (SqL.of upd_same) (.cons (.int _) (.cons (.int _) (.cons (.int _) (.cons (.str _) .nil)))), by decide +kernel, by decide +kernel, _, rfl, ite2 (fun z => absurd z (by decide +kernel)) (fun _ => ⟨rfl, sx.seq (sql_ext hS1 x3), tabs_same t3 sx⟩)⟩
    rintro σ' H3 ⟨rfl, hSg, t3⟩
    refine ⟨_, rfl, a, _, rfl, .inl hSg, _, _, rfl, _, _, rfl, _, rfl, ?_, ?_, fun D hD => ?_⟩
    · split <;> split <;> omega
    · have : (List.map V.int ns).length = ns.length := List.length_map ..
      split <;> split <;> omega
    · refine lc_range (lo := 0) (fun i H' => ButT D _ H' ∧ LamX.Tabs TT H' ∧ H' D = some (.lst (List.replicate i (.bl true)))) ⟨.but But.upd, tabs_same t3 (same_upd hD), upd_same⟩ ?_ ?_
      · rintro i H1' hi ⟨bD, tD, hDi⟩
        have hi63 : i ≤ 100 := by
          have : (List.map V.int ns).length = ns.length := List.length_map ..
          split at hi <;> split at hi <;> omega
        refine ⟨rfl, ?_⟩
        unfold tYes
        refine iteT ?_
        refine ⟨_, rfl, _, rfl, a, ns, i, ?_, seq_butT hSg hD bD, hi63, hlen, fun H2' c sc nc hc => ?_⟩
        · show [V.ref a, V.int (0 + (i : Int))] = _
          rw [Int.zero_add]
        refine ⟨c, rfl, hc, tabs_same tD sc, fun H3' b3 t3' => ?_⟩
        have nDc : D ≠ c := ne_of_none hDi nc
        have hD3 := b3 D _ nDc (by intro ps z; cases z) (sc _ _ hDi)
        refine ⟨_, hD3, ?_, ?_, tabs_upd t3' hD3, ?_⟩
        · rw [List.length_replicate]
          exact small1000 (by omega)
        · intro y o ny nt e
          rw [upd_ne ny]
          have hy1 := bD _ _ ny nt e
          exact b3 _ _ (ne_of_none hy1 nc) nt (sc _ _ hy1)
        · rw [upd_same, List.replicate_succ']
      · rintro H1' ⟨bD, _, hDn⟩
        refine ⟨D, List.replicate _ true, rfl, SqL.of (by rw [List.map_replicate]; exact hDn), ?_⟩
        have ea : ∀ n : Nat, (List.replicate n true).all id = true := fun n => by
          rw [List.all_eq_true]
          intro z hz
          rw [List.eq_of_mem_replicate hz]
          rfl
        rw [ea]
        exact k _
end
end RL

namespace RL
open PySem L2 PySem.Spec PyProof.Rows
theorem rp_own {P : Program} {w : World} {K : PySem.W.Frag} {mg : Str → Option Value} {base : Heap} {C g : Addr} {fd : FuncData} {k : Nat} {ps : List Str} {sp : Sp} (hs : PySem.W.findIn K (.ref C) "__repr__" = some (some (.ref g))) (hf : PySem.W.isFn K (.ref g) = true) (F : FnOk P w K mg base CX0 k g fd ps sp) (hb : Binds K fd ps []) :
    ∀ X : Cx, X.prog = P → X.w = w → X.K = K → X.mg = mg → X.base = base → X.A.guards = some [] → Room (k + 1) X.A → CallR X (.builtin "repr") (rTextOwn C sp) := by
  intro X e1 e2 e3 e4 e5 _ hr
  subst e1 e2 e3 e4 e5
  exact cr_reprOwn hs hf F hb hr
theorem CgtD.up {P : Program} {w : World} {K : PySem.W.Frag} {mg : Str → Option Value} {base : Heap} {c : Nat → Addr} {k j : Nat} {rR : List V → Hp → VK → Prop} (D : CgtD P w K mg base c k rR) (h : k ≤ j) : CgtD P w K mg base c j rR :=
  ⟨D.T, D.TE, D.ex, D.cls, fun X e1 e2 e3 e4 e5 hg hr => D.rp X e1 e2 e3 e4 e5 hg (hr.mono h)⟩
theorem ordN_rel {vs : List V} {us : List Value} {zs : List V} {ws : List Value} (r1 : Vals vs us) (r2 : Vals zs ws) : Vals (ordN vs zs) (ordN us ws) := by
  cases r2 with
  | nil => exact r1
  | cons a r2 => cases r2 with
    | nil => exact r1
    | cons b r2 => cases r2 with
      | nil => exact r1
      | cons c r2 => cases r2 with
        | nil => exact r1.append (.cons c (.cons b (.cons a .nil)))
        | cons d r2 => exact r1
end RL

namespace RL
open PySem L2
set_option maxHeartbeats 4000000 in
theorem all_mk {l : PySem.W.OpenLaw} {w : World} {K : PySem.W.Frag} {h : Heap} {mg : Str → Option Value} (X : K.In h) (G : h.Ns mainGlobals mg) {fa aO Ce f_is_integer f_is_integer_within f_is_pair_of_integers f_is_resistance f_pair_of f_common_divisor f_lowest_terms f_sign f_square_root f_under_root f_equation_of_fraction f_simplest_equation f_with_commas f_beside_fraction f_floor_of f_law_cup f_law_sip f_law_pick f_law_odd f_law_due f_Exact_init f_Exact_repr f_Exact_compare f_Exact_floor X0 X1 X2 X3 X4 X5 X6 X7 X8 X9 X10 X11 X12 X13 X14 X15 X16 X17 X18 X19 X20 X21 f_WrongValue_init f_InvalidResistance_init f_InvalidNumber_init f_law_classes f_law_caught f_law_right cA_law_right PA_law_right f_law cA_law PA_law : Addr}
    {od_is_integer an_is_integer od_is_integer_within an_is_integer_within od_is_pair_of_integers an_is_pair_of_integers od_is_resistance an_is_resistance od_pair_of an_pair_of od_common_divisor an_common_divisor od_lowest_terms an_lowest_terms od_sign an_sign od_square_root an_square_root od_under_root an_under_root od_equation_of_fraction an_equation_of_fraction od_simplest_equation an_simplest_equation od_with_commas an_with_commas od_beside_fraction an_beside_fraction od_floor_of an_floor_of od_law_cup an_law_cup od_law_sip an_law_sip od_law_pick an_law_pick od_law_odd an_law_odd od_law_due an_law_due od_Exact_init an_Exact_init od_Exact_repr an_Exact_repr od_Exact_compare an_Exact_compare od_Exact_floor an_Exact_floor od_WrongValue_init an_WrongValue_init od_InvalidResistance_init an_InvalidResistance_init od_InvalidNumber_init an_InvalidNumber_init od_law_classes an_law_classes od_law_caught an_law_caught od_law_right an_law_right od_law an_law : Option Addr} {sl_is_integer sl_is_integer_within sl_is_pair_of_integers sl_is_resistance sl_pair_of sl_common_divisor sl_lowest_terms sl_sign sl_square_root sl_under_root sl_equation_of_fraction sl_simplest_equation sl_with_commas sl_beside_fraction sl_floor_of sl_law_cup sl_law_sip sl_law_pick sl_law_odd sl_law_due sl_Exact_init sl_Exact_repr sl_Exact_compare sl_Exact_floor sl_WrongValue_init sl_InvalidResistance_init sl_InvalidNumber_init sl_law_classes sl_law_caught sl_law_right sl_law : Array (Option Value)}
    {oc_is_integer kV_is_integer dc_is_integer pm_is_integer cd_is_integer ct_is_integer oc_is_integer_within kV_is_integer_within dc_is_integer_within pm_is_integer_within cd_is_integer_within ct_is_integer_within oc_is_pair_of_integers kV_is_pair_of_integers dc_is_pair_of_integers pm_is_pair_of_integers cd_is_pair_of_integers ct_is_pair_of_integers oc_is_resistance kV_is_resistance dc_is_resistance pm_is_resistance cd_is_resistance ct_is_resistance oc_pair_of kV_pair_of dc_pair_of pm_pair_of cd_pair_of ct_pair_of oc_common_divisor kV_common_divisor dc_common_divisor pm_common_divisor cd_common_divisor ct_common_divisor oc_lowest_terms kV_lowest_terms dc_lowest_terms pm_lowest_terms cd_lowest_terms ct_lowest_terms oc_sign kV_sign dc_sign pm_sign cd_sign ct_sign oc_square_root kV_square_root dc_square_root pm_square_root cd_square_root ct_square_root oc_under_root kV_under_root dc_under_root pm_under_root cd_under_root ct_under_root oc_equation_of_fraction kV_equation_of_fraction dc_equation_of_fraction pm_equation_of_fraction cd_equation_of_fraction ct_equation_of_fraction oc_simplest_equation kV_simplest_equation dc_simplest_equation pm_simplest_equation cd_simplest_equation ct_simplest_equation oc_with_commas kV_with_commas dc_with_commas pm_with_commas cd_with_commas ct_with_commas oc_beside_fraction kV_beside_fraction dc_beside_fraction pm_beside_fraction cd_beside_fraction ct_beside_fraction oc_floor_of kV_floor_of dc_floor_of pm_floor_of cd_floor_of ct_floor_of oc_law_cup kV_law_cup dc_law_cup pm_law_cup cd_law_cup ct_law_cup oc_law_sip kV_law_sip dc_law_sip pm_law_sip cd_law_sip ct_law_sip oc_law_pick kV_law_pick dc_law_pick pm_law_pick cd_law_pick ct_law_pick oc_law_odd kV_law_odd dc_law_odd pm_law_odd cd_law_odd ct_law_odd oc_law_due kV_law_due dc_law_due pm_law_due cd_law_due ct_law_due oc_Exact_init kV_Exact_init dc_Exact_init pm_Exact_init cd_Exact_init ct_Exact_init oc_Exact_repr kV_Exact_repr dc_Exact_repr pm_Exact_repr cd_Exact_repr ct_Exact_repr oc_Exact_compare kV_Exact_compare dc_Exact_compare pm_Exact_compare cd_Exact_compare ct_Exact_compare oc_Exact_floor kV_Exact_floor dc_Exact_floor pm_Exact_floor cd_Exact_floor ct_Exact_floor oc_WrongValue_init kV_WrongValue_init dc_WrongValue_init pm_WrongValue_init cd_WrongValue_init ct_WrongValue_init oc_InvalidResistance_init kV_InvalidResistance_init dc_InvalidResistance_init pm_InvalidResistance_init cd_InvalidResistance_init ct_InvalidResistance_init oc_InvalidNumber_init kV_InvalidNumber_init dc_InvalidNumber_init pm_InvalidNumber_init cd_InvalidNumber_init ct_InvalidNumber_init oc_law_classes kV_law_classes dc_law_classes pm_law_classes cd_law_classes ct_law_classes oc_law_caught kV_law_caught dc_law_caught pm_law_caught cd_law_caught ct_law_caught oc_law_right kV_law_right dc_law_right pm_law_right cd_law_right ct_law_right oc_law kV_law dc_law pm_law cd_law ct_law : Value} {tG : Tok} {tP : Tok} {aO_k0 aO_k1 : Tok} {od_aO : Option Addr} {nn_aO : Nat} {sl_aO : Array (Option Value)} {dC_law_right : Option Addr} {vC_law_right : Array Value} {sC_law_right : Array (Option Value)} {dC_law : Option Addr} {vC_law : Array Value} {sC_law : Array (Option Value)} (hfa : mg "law" = some (.ref fa))
    (aG : PySem.W.nsIn K mainGlobals "GREATEST" = some (some (.int 1000000000000 tG)))
    (aP : PySem.W.nsIn K mainGlobals "GREATEST_PART" = some (some (.int 10000000000000000000000000000000000000000 tP)))
    (aOp : PySem.W.nsIn K mainGlobals "OPEN" = some (some (.ref aO)))
    (laOp : K.lookup aO = some ⟨.type "tuple", od_aO, .seq #[.int 1 aO_k0, .int 0 aO_k1] nn_aO, sl_aO⟩)
    (cn : PySem.W.specialIn K (.builtin "object.__class__") "__get__" = some (some (.builtin "getset_descriptor.__get__")))
    (ct : PySem.W.takesIn K (.builtin "object.__class__") = some true)
    (aCe : PySem.W.nsIn K mainGlobals "Exact" = some (some (.ref Ce)))
    (pgCe : PySem.W.plainGet K Ce Str.empty = true)
    (hdCe : PySem.W.hasDictIn K Ce = true)
    (poCe : PySem.W.plainOver K Ce = true)
    (saCe : PySem.W.findIn K (.ref Ce) "__setattr__" = some (some (.builtin "object.__setattr__")))
    (mkCe : PySem.W.makesIn K Ce = true)
    (kcCe : PySem.W.keepIn K (.ref Ce) = true)
    (nCe_parts : PySem.W.findIn K (.ref Ce) "parts" = some none)
    (z_len : PySem.W.nsIn K mainGlobals "len" = some none)
    (z_abs : PySem.W.nsIn K mainGlobals "abs" = some none)
    (z_int : PySem.W.nsIn K mainGlobals "int" = some none)
    (z_bool : PySem.W.nsIn K mainGlobals "bool" = some none)
    (z_tuple : PySem.W.nsIn K mainGlobals "tuple" = some none)
    (z_isinstance : PySem.W.nsIn K mainGlobals "isinstance" = some none)
    (z_divmod : PySem.W.nsIn K mainGlobals "divmod" = some none)
    (z_max : PySem.W.nsIn K mainGlobals "max" = some none)
    (z_min : PySem.W.nsIn K mainGlobals "min" = some none)
    (z_range : PySem.W.nsIn K mainGlobals "range" = some none)
    (z_all : PySem.W.nsIn K mainGlobals "all" = some none)
    (z_repr : PySem.W.nsIn K mainGlobals "repr" = some none)
    (z_str : PySem.W.nsIn K mainGlobals "str" = some none)
    (z_enumerate : PySem.W.nsIn K mainGlobals "enumerate" = some none)
    (a_is_integer : PySem.W.nsIn K mainGlobals "is_integer" = some (some (.ref f_is_integer)))
    (l_is_integer : K.lookup f_is_integer = some ⟨oc_is_integer, od_is_integer, .func (PySem.W.fnOf "is_integer" "is_integer" (defArgs s_is_integer) (defBody s_is_integer) (defScope s_is_integer) .none kV_is_integer dc_is_integer pm_is_integer an_is_integer cd_is_integer ct_is_integer), sl_is_integer⟩)
    (c_is_integer : PySem.W.codeIn K cd_is_integer "is_integer" = true)
    (k_is_integer : PySem.W.keepIn K (.ref f_is_integer) = true)
    (a_is_integer_within : PySem.W.nsIn K mainGlobals "is_integer_within" = some (some (.ref f_is_integer_within)))
    (l_is_integer_within : K.lookup f_is_integer_within = some ⟨oc_is_integer_within, od_is_integer_within, .func (PySem.W.fnOf "is_integer_within" "is_integer_within" (defArgs s_is_integer_within) (defBody s_is_integer_within) (defScope s_is_integer_within) .none kV_is_integer_within dc_is_integer_within pm_is_integer_within an_is_integer_within cd_is_integer_within ct_is_integer_within), sl_is_integer_within⟩)
    (c_is_integer_within : PySem.W.codeIn K cd_is_integer_within "is_integer_within" = true)
    (k_is_integer_within : PySem.W.keepIn K (.ref f_is_integer_within) = true)
    (a_is_pair_of_integers : PySem.W.nsIn K mainGlobals "is_pair_of_integers" = some (some (.ref f_is_pair_of_integers)))
    (l_is_pair_of_integers : K.lookup f_is_pair_of_integers = some ⟨oc_is_pair_of_integers, od_is_pair_of_integers, .func (PySem.W.fnOf "is_pair_of_integers" "is_pair_of_integers" (defArgs s_is_pair_of_integers) (defBody s_is_pair_of_integers) (defScope s_is_pair_of_integers) .none kV_is_pair_of_integers dc_is_pair_of_integers pm_is_pair_of_integers an_is_pair_of_integers cd_is_pair_of_integers ct_is_pair_of_integers), sl_is_pair_of_integers⟩)
    (c_is_pair_of_integers : PySem.W.codeIn K cd_is_pair_of_integers "is_pair_of_integers" = true)
    (k_is_pair_of_integers : PySem.W.keepIn K (.ref f_is_pair_of_integers) = true)
    (a_is_resistance : PySem.W.nsIn K mainGlobals "is_resistance" = some (some (.ref f_is_resistance)))
    (l_is_resistance : K.lookup f_is_resistance = some ⟨oc_is_resistance, od_is_resistance, .func (PySem.W.fnOf "is_resistance" "is_resistance" (defArgs s_is_resistance) (defBody s_is_resistance) (defScope s_is_resistance) .none kV_is_resistance dc_is_resistance pm_is_resistance an_is_resistance cd_is_resistance ct_is_resistance), sl_is_resistance⟩)
    (c_is_resistance : PySem.W.codeIn K cd_is_resistance "is_resistance" = true)
    (k_is_resistance : PySem.W.keepIn K (.ref f_is_resistance) = true)
    (a_pair_of : PySem.W.nsIn K mainGlobals "pair_of" = some (some (.ref f_pair_of)))
    (l_pair_of : K.lookup f_pair_of = some ⟨oc_pair_of, od_pair_of, .func (PySem.W.fnOf "pair_of" "pair_of" (defArgs s_pair_of) (defBody s_pair_of) (defScope s_pair_of) .none kV_pair_of dc_pair_of pm_pair_of an_pair_of cd_pair_of ct_pair_of), sl_pair_of⟩)
    (c_pair_of : PySem.W.codeIn K cd_pair_of "pair_of" = true)
    (k_pair_of : PySem.W.keepIn K (.ref f_pair_of) = true)
    (a_common_divisor : PySem.W.nsIn K mainGlobals "common_divisor" = some (some (.ref f_common_divisor)))
    (l_common_divisor : K.lookup f_common_divisor = some ⟨oc_common_divisor, od_common_divisor, .func (PySem.W.fnOf "common_divisor" "common_divisor" (defArgs s_common_divisor) (defBody s_common_divisor) (defScope s_common_divisor) .none kV_common_divisor dc_common_divisor pm_common_divisor an_common_divisor cd_common_divisor ct_common_divisor), sl_common_divisor⟩)
    (c_common_divisor : PySem.W.codeIn K cd_common_divisor "common_divisor" = true)
    (k_common_divisor : PySem.W.keepIn K (.ref f_common_divisor) = true)
    (a_lowest_terms : PySem.W.nsIn K mainGlobals "lowest_terms" = some (some (.ref f_lowest_terms)))
    (l_lowest_terms : K.lookup f_lowest_terms = some ⟨oc_lowest_terms, od_lowest_terms, .func (PySem.W.fnOf "lowest_terms" "lowest_terms" (defArgs s_lowest_terms) (defBody s_lowest_terms) (defScope s_lowest_terms) .none kV_lowest_terms dc_lowest_terms pm_lowest_terms an_lowest_terms cd_lowest_terms ct_lowest_terms), sl_lowest_terms⟩)
    (c_lowest_terms : PySem.W.codeIn K cd_lowest_terms "lowest_terms" = true)
    (k_lowest_terms : PySem.W.keepIn K (.ref f_lowest_terms) = true)
    (a_sign : PySem.W.nsIn K mainGlobals "sign" = some (some (.ref f_sign)))
    (l_sign : K.lookup f_sign = some ⟨oc_sign, od_sign, .func (PySem.W.fnOf "sign" "sign" (defArgs s_sign) (defBody s_sign) (defScope s_sign) .none kV_sign dc_sign pm_sign an_sign cd_sign ct_sign), sl_sign⟩)
    (c_sign : PySem.W.codeIn K cd_sign "sign" = true)
    (k_sign : PySem.W.keepIn K (.ref f_sign) = true)
    (a_square_root : PySem.W.nsIn K mainGlobals "square_root" = some (some (.ref f_square_root)))
    (l_square_root : K.lookup f_square_root = some ⟨oc_square_root, od_square_root, .func (PySem.W.fnOf "square_root" "square_root" (defArgs s_square_root) (defBody s_square_root) (defScope s_square_root) .none kV_square_root dc_square_root pm_square_root an_square_root cd_square_root ct_square_root), sl_square_root⟩)
    (c_square_root : PySem.W.codeIn K cd_square_root "square_root" = true)
    (k_square_root : PySem.W.keepIn K (.ref f_square_root) = true)
    (a_under_root : PySem.W.nsIn K mainGlobals "under_root" = some (some (.ref f_under_root)))
    (l_under_root : K.lookup f_under_root = some ⟨oc_under_root, od_under_root, .func (PySem.W.fnOf "under_root" "under_root" (defArgs s_under_root) (defBody s_under_root) (defScope s_under_root) .none kV_under_root dc_under_root pm_under_root an_under_root cd_under_root ct_under_root), sl_under_root⟩)
    (c_under_root : PySem.W.codeIn K cd_under_root "under_root" = true)
    (k_under_root : PySem.W.keepIn K (.ref f_under_root) = true)
    (a_equation_of_fraction : PySem.W.nsIn K mainGlobals "equation_of_fraction" = some (some (.ref f_equation_of_fraction)))
    (l_equation_of_fraction : K.lookup f_equation_of_fraction = some ⟨oc_equation_of_fraction, od_equation_of_fraction, .func (PySem.W.fnOf "equation_of_fraction" "equation_of_fraction" (defArgs s_equation_of_fraction) (defBody s_equation_of_fraction) (defScope s_equation_of_fraction) .none kV_equation_of_fraction dc_equation_of_fraction pm_equation_of_fraction an_equation_of_fraction cd_equation_of_fraction ct_equation_of_fraction), sl_equation_of_fraction⟩)
    (c_equation_of_fraction : PySem.W.codeIn K cd_equation_of_fraction "equation_of_fraction" = true)
    (k_equation_of_fraction : PySem.W.keepIn K (.ref f_equation_of_fraction) = true)
    (a_simplest_equation : PySem.W.nsIn K mainGlobals "simplest_equation" = some (some (.ref f_simplest_equation)))
    (l_simplest_equation : K.lookup f_simplest_equation = some ⟨oc_simplest_equation, od_simplest_equation, .func (PySem.W.fnOf "simplest_equation" "simplest_equation" (defArgs s_simplest_equation) (defBody s_simplest_equation) (defScope s_simplest_equation) .none kV_simplest_equation dc_simplest_equation pm_simplest_equation an_simplest_equation cd_simplest_equation ct_simplest_equation), sl_simplest_equation⟩)
    (c_simplest_equation : PySem.W.codeIn K cd_simplest_equation "simplest_equation" = true)
    (k_simplest_equation : PySem.W.keepIn K (.ref f_simplest_equation) = true)
    (a_with_commas : PySem.W.nsIn K mainGlobals "with_commas" = some (some (.ref f_with_commas)))
    (l_with_commas : K.lookup f_with_commas = some ⟨oc_with_commas, od_with_commas, .func (PySem.W.fnOf "with_commas" "with_commas" (defArgs s_with_commas) (defBody s_with_commas) (defScope s_with_commas) .none kV_with_commas dc_with_commas pm_with_commas an_with_commas cd_with_commas ct_with_commas), sl_with_commas⟩)
    (c_with_commas : PySem.W.codeIn K cd_with_commas "with_commas" = true)
    (k_with_commas : PySem.W.keepIn K (.ref f_with_commas) = true)
    (a_beside_fraction : PySem.W.nsIn K mainGlobals "beside_fraction" = some (some (.ref f_beside_fraction)))
    (l_beside_fraction : K.lookup f_beside_fraction = some ⟨oc_beside_fraction, od_beside_fraction, .func (PySem.W.fnOf "beside_fraction" "beside_fraction" (defArgs s_beside_fraction) (defBody s_beside_fraction) (defScope s_beside_fraction) .none kV_beside_fraction dc_beside_fraction pm_beside_fraction an_beside_fraction cd_beside_fraction ct_beside_fraction), sl_beside_fraction⟩)
    (c_beside_fraction : PySem.W.codeIn K cd_beside_fraction "beside_fraction" = true)
    (k_beside_fraction : PySem.W.keepIn K (.ref f_beside_fraction) = true)
    (a_floor_of : PySem.W.nsIn K mainGlobals "floor_of" = some (some (.ref f_floor_of)))
    (l_floor_of : K.lookup f_floor_of = some ⟨oc_floor_of, od_floor_of, .func (PySem.W.fnOf "floor_of" "floor_of" (defArgs s_floor_of) (defBody s_floor_of) (defScope s_floor_of) .none kV_floor_of dc_floor_of pm_floor_of an_floor_of cd_floor_of ct_floor_of), sl_floor_of⟩)
    (c_floor_of : PySem.W.codeIn K cd_floor_of "floor_of" = true)
    (k_floor_of : PySem.W.keepIn K (.ref f_floor_of) = true)
    (a_law_cup : PySem.W.nsIn K mainGlobals "_law_cup" = some (some (.ref f_law_cup)))
    (l_law_cup : K.lookup f_law_cup = some ⟨oc_law_cup, od_law_cup, .func (PySem.W.fnOf "_law_cup" "_law_cup" (defArgs s_law_cup) (defBody s_law_cup) (defScope s_law_cup) .none kV_law_cup dc_law_cup pm_law_cup an_law_cup cd_law_cup ct_law_cup), sl_law_cup⟩)
    (c_law_cup : PySem.W.codeIn K cd_law_cup "_law_cup" = true)
    (k_law_cup : PySem.W.keepIn K (.ref f_law_cup) = true)
    (a_law_sip : PySem.W.nsIn K mainGlobals "_law_sip" = some (some (.ref f_law_sip)))
    (l_law_sip : K.lookup f_law_sip = some ⟨oc_law_sip, od_law_sip, .func (PySem.W.fnOf "_law_sip" "_law_sip" (defArgs s_law_sip) (defBody s_law_sip) (defScope s_law_sip) .none kV_law_sip dc_law_sip pm_law_sip an_law_sip cd_law_sip ct_law_sip), sl_law_sip⟩)
    (c_law_sip : PySem.W.codeIn K cd_law_sip "_law_sip" = true)
    (k_law_sip : PySem.W.keepIn K (.ref f_law_sip) = true)
    (a_law_pick : PySem.W.nsIn K mainGlobals "_law_pick" = some (some (.ref f_law_pick)))
    (l_law_pick : K.lookup f_law_pick = some ⟨oc_law_pick, od_law_pick, .func (PySem.W.fnOf "_law_pick" "_law_pick" (defArgs s_law_pick) (defBody s_law_pick) (defScope s_law_pick) .none kV_law_pick dc_law_pick pm_law_pick an_law_pick cd_law_pick ct_law_pick), sl_law_pick⟩)
    (c_law_pick : PySem.W.codeIn K cd_law_pick "_law_pick" = true)
    (k_law_pick : PySem.W.keepIn K (.ref f_law_pick) = true)
    (a_law_odd : PySem.W.nsIn K mainGlobals "_law_odd" = some (some (.ref f_law_odd)))
    (l_law_odd : K.lookup f_law_odd = some ⟨oc_law_odd, od_law_odd, .func (PySem.W.fnOf "_law_odd" "_law_odd" (defArgs s_law_odd) (defBody s_law_odd) (defScope s_law_odd) .none kV_law_odd dc_law_odd pm_law_odd an_law_odd cd_law_odd ct_law_odd), sl_law_odd⟩)
    (c_law_odd : PySem.W.codeIn K cd_law_odd "_law_odd" = true)
    (k_law_odd : PySem.W.keepIn K (.ref f_law_odd) = true)
    (a_law_due : PySem.W.nsIn K mainGlobals "_law_due" = some (some (.ref f_law_due)))
    (l_law_due : K.lookup f_law_due = some ⟨oc_law_due, od_law_due, .func (PySem.W.fnOf "_law_due" "_law_due" (defArgs s_law_due) (defBody s_law_due) (defScope s_law_due) .none kV_law_due dc_law_due pm_law_due an_law_due cd_law_due ct_law_due), sl_law_due⟩)
    (c_law_due : PySem.W.codeIn K cd_law_due "_law_due" = true)
    (k_law_due : PySem.W.keepIn K (.ref f_law_due) = true)
    (a_Exact_init : PySem.W.findIn K (.ref Ce) "__init__" = some (some (.ref f_Exact_init)))
    (i_Exact_init : PySem.W.isFn K (.ref f_Exact_init) = true)
    (l_Exact_init : K.lookup f_Exact_init = some ⟨oc_Exact_init, od_Exact_init, .func (PySem.W.fnOf "__init__" "Exact.__init__" (defArgs s_Exact_init) (defBody s_Exact_init) (defScope s_Exact_init) .none kV_Exact_init dc_Exact_init pm_Exact_init an_Exact_init cd_Exact_init ct_Exact_init), sl_Exact_init⟩)
    (c_Exact_init : PySem.W.codeIn K cd_Exact_init "Exact.__init__" = true)
    (k_Exact_init : PySem.W.keepIn K (.ref f_Exact_init) = true)
    (a_Exact_repr : PySem.W.findIn K (.ref Ce) "__repr__" = some (some (.ref f_Exact_repr)))
    (i_Exact_repr : PySem.W.isFn K (.ref f_Exact_repr) = true)
    (l_Exact_repr : K.lookup f_Exact_repr = some ⟨oc_Exact_repr, od_Exact_repr, .func (PySem.W.fnOf "__repr__" "Exact.__repr__" (defArgs s_Exact_repr) (defBody s_Exact_repr) (defScope s_Exact_repr) .none kV_Exact_repr dc_Exact_repr pm_Exact_repr an_Exact_repr cd_Exact_repr ct_Exact_repr), sl_Exact_repr⟩)
    (c_Exact_repr : PySem.W.codeIn K cd_Exact_repr "Exact.__repr__" = true)
    (k_Exact_repr : PySem.W.keepIn K (.ref f_Exact_repr) = true)
    (a_Exact_compare : PySem.W.findIn K (.ref Ce) "compare" = some (some (.ref f_Exact_compare)))
    (i_Exact_compare : PySem.W.isFn K (.ref f_Exact_compare) = true)
    (l_Exact_compare : K.lookup f_Exact_compare = some ⟨oc_Exact_compare, od_Exact_compare, .func (PySem.W.fnOf "compare" "Exact.compare" (defArgs s_Exact_compare) (defBody s_Exact_compare) (defScope s_Exact_compare) .none kV_Exact_compare dc_Exact_compare pm_Exact_compare an_Exact_compare cd_Exact_compare ct_Exact_compare), sl_Exact_compare⟩)
    (c_Exact_compare : PySem.W.codeIn K cd_Exact_compare "Exact.compare" = true)
    (k_Exact_compare : PySem.W.keepIn K (.ref f_Exact_compare) = true)
    (a_Exact_floor : PySem.W.findIn K (.ref Ce) "floor" = some (some (.ref f_Exact_floor)))
    (i_Exact_floor : PySem.W.isFn K (.ref f_Exact_floor) = true)
    (l_Exact_floor : K.lookup f_Exact_floor = some ⟨oc_Exact_floor, od_Exact_floor, .func (PySem.W.fnOf "floor" "Exact.floor" (defArgs s_Exact_floor) (defBody s_Exact_floor) (defScope s_Exact_floor) .none kV_Exact_floor dc_Exact_floor pm_Exact_floor an_Exact_floor cd_Exact_floor ct_Exact_floor), sl_Exact_floor⟩)
    (c_Exact_floor : PySem.W.codeIn K cd_Exact_floor "Exact.floor" = true)
    (k_Exact_floor : PySem.W.keepIn K (.ref f_Exact_floor) = true)
    (aX0 : PySem.W.nsIn K mainGlobals "NotAPattern" = some (some (.ref X0)))
    (aX1 : PySem.W.nsIn K mainGlobals "NotARun" = some (some (.ref X1)))
    (aX2 : PySem.W.nsIn K mainGlobals "InvalidResistance" = some (some (.ref X2)))
    (aX3 : PySem.W.nsIn K mainGlobals "InvalidCount" = some (some (.ref X3)))
    (aX4 : PySem.W.nsIn K mainGlobals "InvalidNumber" = some (some (.ref X4)))
    (aX5 : PySem.W.nsIn K mainGlobals "InvalidText" = some (some (.ref X5)))
    (aX6 : PySem.W.nsIn K mainGlobals "InvalidName" = some (some (.ref X6)))
    (aX7 : PySem.W.nsIn K mainGlobals "InvalidClaim" = some (some (.ref X7)))
    (aX8 : PySem.W.nsIn K mainGlobals "InvalidIndex" = some (some (.ref X8)))
    (aX9 : PySem.W.nsIn K mainGlobals "InvalidPieces" = some (some (.ref X9)))
    (aX10 : PySem.W.nsIn K mainGlobals "InvalidKinds" = some (some (.ref X10)))
    (aX11 : PySem.W.nsIn K mainGlobals "InvalidStretches" = some (some (.ref X11)))
    (aX12 : PySem.W.nsIn K mainGlobals "InvalidDeeds" = some (some (.ref X12)))
    (aX13 : PySem.W.nsIn K mainGlobals "UnknownName" = some (some (.ref X13)))
    (aX14 : PySem.W.nsIn K mainGlobals "InUse" = some (some (.ref X14)))
    (aX15 : PySem.W.nsIn K mainGlobals "TooMany" = some (some (.ref X15)))
    (aX16 : PySem.W.nsIn K mainGlobals "Broken" = some (some (.ref X16)))
    (aX17 : PySem.W.nsIn K mainGlobals "NoLimit" = some (some (.ref X17)))
    (aX18 : PySem.W.nsIn K mainGlobals "NothingToUndo" = some (some (.ref X18)))
    (aX19 : PySem.W.nsIn K mainGlobals "WrongValue" = some (some (.ref X19)))
    (aX20 : PySem.W.nsIn K mainGlobals "WrongName" = some (some (.ref X20)))
    (aX21 : PySem.W.nsIn K mainGlobals "NoAnswer" = some (some (.ref X21)))
    (z_ValueError : PySem.W.nsIn K mainGlobals "ValueError" = some none)
    (z_LookupError : PySem.W.nsIn K mainGlobals "LookupError" = some none)
    (z_ArithmeticError : PySem.W.nsIn K mainGlobals "ArithmeticError" = some none)
    (a_WrongValue_init : PySem.W.findIn K (.ref X19) "__init__" = some (some (.ref f_WrongValue_init)))
    (i_WrongValue_init : PySem.W.isFn K (.ref f_WrongValue_init) = true)
    (l_WrongValue_init : K.lookup f_WrongValue_init = some ⟨oc_WrongValue_init, od_WrongValue_init, .func (PySem.W.fnOf "__init__" "WrongValue.__init__" (defArgs s_WrongValue_init) (defBody s_WrongValue_init) (defScope s_WrongValue_init) .none kV_WrongValue_init dc_WrongValue_init pm_WrongValue_init an_WrongValue_init cd_WrongValue_init ct_WrongValue_init), sl_WrongValue_init⟩)
    (c_WrongValue_init : PySem.W.codeIn K cd_WrongValue_init "WrongValue.__init__" = true)
    (k_WrongValue_init : PySem.W.keepIn K (.ref f_WrongValue_init) = true)
    (rd_19 : PySem.W.readsIn K X19 (.type "type") = true)
    (ga_19 : PySem.W.specialIn K (.ref X19) "__getattribute__" = some (some (.builtin "type.__getattribute__")))
    (fc_19 : PySem.W.findCls K (.ref X19) (.type "type") "__init__" = some (.val (.ref f_WrongValue_init)))
    (a_InvalidResistance_init : PySem.W.findIn K (.ref X2) "__init__" = some (some (.ref f_InvalidResistance_init)))
    (i_InvalidResistance_init : PySem.W.isFn K (.ref f_InvalidResistance_init) = true)
    (l_InvalidResistance_init : K.lookup f_InvalidResistance_init = some ⟨oc_InvalidResistance_init, od_InvalidResistance_init, .func (PySem.W.fnOf "__init__" "InvalidResistance.__init__" (defArgs s_InvalidResistance_init) (defBody s_InvalidResistance_init) (defScope s_InvalidResistance_init) .none kV_InvalidResistance_init dc_InvalidResistance_init pm_InvalidResistance_init an_InvalidResistance_init cd_InvalidResistance_init ct_InvalidResistance_init), sl_InvalidResistance_init⟩)
    (c_InvalidResistance_init : PySem.W.codeIn K cd_InvalidResistance_init "InvalidResistance.__init__" = true)
    (k_InvalidResistance_init : PySem.W.keepIn K (.ref f_InvalidResistance_init) = true)
    (xb_2 : xcB K X2 [.type "ValueError", .type "Exception", .type "BaseException", .type "object"] "ValueError.__new__" = true)
    (ro_2 : rowB K [X0, X1, X2, X3, X4, X5, X6, X7, X8, X9, X10, X11, X12, X13, X14, X15, X16, X17, X18, X19, X20, X21] 2 = true)
    (any_2 : PySem.W.exmAny K (.ref X2) [.ref X19, .ref X20, .ref X21] = some true)
    (ty_2 : PySem.W.typeIn K (.ref X2) = some (.type "type"))
    (no_2 : PySem.W.findIn K (.ref X2) "given" = some none)
    (a_InvalidNumber_init : PySem.W.findIn K (.ref X4) "__init__" = some (some (.ref f_InvalidNumber_init)))
    (i_InvalidNumber_init : PySem.W.isFn K (.ref f_InvalidNumber_init) = true)
    (l_InvalidNumber_init : K.lookup f_InvalidNumber_init = some ⟨oc_InvalidNumber_init, od_InvalidNumber_init, .func (PySem.W.fnOf "__init__" "InvalidNumber.__init__" (defArgs s_InvalidNumber_init) (defBody s_InvalidNumber_init) (defScope s_InvalidNumber_init) .none kV_InvalidNumber_init dc_InvalidNumber_init pm_InvalidNumber_init an_InvalidNumber_init cd_InvalidNumber_init ct_InvalidNumber_init), sl_InvalidNumber_init⟩)
    (c_InvalidNumber_init : PySem.W.codeIn K cd_InvalidNumber_init "InvalidNumber.__init__" = true)
    (k_InvalidNumber_init : PySem.W.keepIn K (.ref f_InvalidNumber_init) = true)
    (xb_4 : xcB K X4 [.type "ValueError", .type "Exception", .type "BaseException", .type "object"] "ValueError.__new__" = true)
    (ro_4 : rowB K [X0, X1, X2, X3, X4, X5, X6, X7, X8, X9, X10, X11, X12, X13, X14, X15, X16, X17, X18, X19, X20, X21] 4 = true)
    (any_4 : PySem.W.exmAny K (.ref X4) [.ref X19, .ref X20, .ref X21] = some true)
    (ty_4 : PySem.W.typeIn K (.ref X4) = some (.type "type"))
    (no_4 : PySem.W.findIn K (.ref X4) "given" = some none)
    (a_law_classes : PySem.W.nsIn K mainGlobals "_law_classes" = some (some (.ref f_law_classes)))
    (l_law_classes : K.lookup f_law_classes = some ⟨oc_law_classes, od_law_classes, .func (PySem.W.fnOf "_law_classes" "_law_classes" (defArgs s_law_classes) (defBody s_law_classes) (defScope s_law_classes) .none kV_law_classes dc_law_classes pm_law_classes an_law_classes cd_law_classes ct_law_classes), sl_law_classes⟩)
    (c_law_classes : PySem.W.codeIn K cd_law_classes "_law_classes" = true)
    (k_law_classes : PySem.W.keepIn K (.ref f_law_classes) = true)
    (a_law_caught : PySem.W.nsIn K mainGlobals "_law_caught" = some (some (.ref f_law_caught)))
    (l_law_caught : K.lookup f_law_caught = some ⟨oc_law_caught, od_law_caught, .func (PySem.W.fnOf "_law_caught" "_law_caught" (defArgs s_law_caught) (defBody s_law_caught) (defScope s_law_caught) .none kV_law_caught dc_law_caught pm_law_caught an_law_caught cd_law_caught ct_law_caught), sl_law_caught⟩)
    (c_law_caught : PySem.W.codeIn K cd_law_caught "_law_caught" = true)
    (k_law_caught : PySem.W.keepIn K (.ref f_law_caught) = true)
    (a_law_right : PySem.W.nsIn K mainGlobals "_law_right" = some (some (.ref f_law_right)))
    (l_law_right : K.lookup f_law_right = some ⟨oc_law_right, od_law_right, .func (PySem.W.fnOf "_law_right" "_law_right" (defArgs s_law_right) (defBody s_law_right) (defScope s_law_right) .none kV_law_right dc_law_right pm_law_right an_law_right cd_law_right ct_law_right), sl_law_right⟩)
    (c_law_right : PySem.W.codeIn K cd_law_right "_law_right" = true)
    (k_law_right : PySem.W.keepIn K (.ref f_law_right) = true)
    (e_law_right : cd_law_right = .ref cA_law_right)
    (lc_law_right : K.lookup cA_law_right = some ⟨.type "code", dC_law_right, .fields vC_law_right, sC_law_right⟩)
    (pl_law_right : (vC_law_right[11]? : Option Value) = some (.ref PA_law_right))
    (ch_law_right : PySem.W.codeHdIn K cA_law_right PA_law_right = true)
    (tt_law_right : h.get? PA_law_right = some (PySem.W.tabObj #[]))
    (kn_law_right : K.lookup PA_law_right = none)
    (a_law : PySem.W.nsIn K mainGlobals "law" = some (some (.ref f_law)))
    (l_law : K.lookup f_law = some ⟨oc_law, od_law, .func (PySem.W.fnOf "law" "law" (defArgs s_law) (defBody s_law) (defScope s_law) .none kV_law dc_law pm_law an_law cd_law ct_law), sl_law⟩)
    (c_law : PySem.W.codeIn K cd_law "law" = true)
    (k_law : PySem.W.keepIn K (.ref f_law) = true)
    (e_law : cd_law = .ref cA_law)
    (lc_law : K.lookup cA_law = some ⟨.type "code", dC_law, .fields vC_law, sC_law⟩)
    (pl_law : (vC_law[11]? : Option Value) = some (.ref PA_law))
    (ch_law : PySem.W.codeHdIn K cA_law PA_law = true)
    (tt_law : h.get? PA_law = some (PySem.W.tabObj #[]))
    (kn_law : K.lookup PA_law = none)
    (ne_law_right_law : PA_law_right ≠ PA_law)
    (ne_law_law_right : PA_law ≠ PA_law_right) :
    LawT l w K 11 63 "_law_script" mg fa h := by
  have e := hfa.symm.trans (PySem.W.mg_of X G a_law)
  cases e
  subst e_law_right
  subst e_law
  have T : Txt4 K mg tG tG tG tG tP tG aO aO Ce Ce Ce Ce := { len := PySem.W.mg_none_of X G z_len, abs := PySem.W.mg_none_of X G z_abs, int_ := PySem.W.mg_none_of X G z_int, bool_ := PySem.W.mg_none_of X G z_bool, tuple_ := PySem.W.mg_none_of X G z_tuple, isinstance := PySem.W.mg_none_of X G z_isinstance, divmod := PySem.W.mg_none_of X G z_divmod, max := PySem.W.mg_none_of X G z_max, min := PySem.W.mg_none_of X G z_min, range := PySem.W.mg_none_of X G z_range, all := PySem.W.mg_none_of X G z_all, repr := PySem.W.mg_none_of X G z_repr, str_ := PySem.W.mg_none_of X G z_str, enumerate := PySem.W.mg_none_of X G z_enumerate, mgG := PySem.W.mg_of X G aG, mgO := PySem.W.mg_of X G aOp, opn := ⟨_, _, _, laOp, rfl, rfl, (by show 2 ≤ sizeLine; decide), .cons ⟨_, rfl⟩ (.cons ⟨_, rfl⟩ .nil)⟩, mgP := PySem.W.mg_of X G aP, mgE := PySem.W.mg_of X G aCe, clE := ⟨pgCe, hdCe, poCe, saCe⟩, nP := nCe_parts }
  refine ⟨PySem.W.fnOf "law" "law" (defArgs s_law) (defBody s_law) (defScope s_law) .none kV_law dc_law pm_law an_law (.ref cA_law) ct_law, [(cA_law_right, PA_law_right), (cA_law, PA_law)], spLaw K [(PA_law_right, ("_law_right" : Str) ++ ".<locals>.<lambda>"), (PA_law, ("law" : Str) ++ ".<locals>.<lambda>")], List.forall_mem_cons.mpr ⟨tt_law_right, List.forall_mem_cons.mpr ⟨tt_law, fun _ z => nomatch z⟩⟩, List.forall_mem_cons.mpr ⟨kn_law_right, List.forall_mem_cons.mpr ⟨kn_law, fun _ z => nomatch z⟩⟩, List.forall_mem_cons.mpr ⟨PySem.W.codeHd_of_K X ch_law_right, List.forall_mem_cons.mpr ⟨PySem.W.codeHd_of_K X ch_law, fun _ z => nomatch z⟩⟩, fun s v => .of_eq rfl, fun H a ns hl hT hS => ⟨a, ns, rfl, hS, hl, ?_, fun _ => rfl⟩, fun base _ _ hTB => ?_⟩
  · exact List.forall_mem_cons.mpr ⟨LamX.TabS.nil (hT (cA_law_right, PA_law_right) (by simp)), List.forall_mem_cons.mpr ⟨LamX.TabS.nil (hT (cA_law, PA_law) (by simp)), fun _ z => nomatch z⟩⟩
  have TB_law_right := hTB (cA_law_right, PA_law_right) (by simp)
  have TM_law_right : (PA_law_right, ("_law_right" : Str) ++ ".<locals>.<lambda>") ∈ ([(PA_law_right, ("_law_right" : Str) ++ ".<locals>.<lambda>"), (PA_law, ("law" : Str) ++ ".<locals>.<lambda>")] : List (Addr × Str)) := by simp
  have TU_law_right : ∀ p ∈ ([(PA_law_right, ("_law_right" : Str) ++ ".<locals>.<lambda>"), (PA_law, ("law" : Str) ++ ".<locals>.<lambda>")] : List (Addr × Str)), p.1 = PA_law_right → p.2 = ("_law_right" : Str) ++ ".<locals>.<lambda>" := List.forall_mem_cons.mpr ⟨fun _ => rfl, List.forall_mem_cons.mpr ⟨fun z => absurd z ne_law_law_right, fun _ z => nomatch z⟩⟩
  have FC_law_right : FunC K "_law_right" "_law_right" s_law_right f_law_right _ cA_law_right := ⟨_, _, _, _, _, _, _, _, rfl, l_law_right, c_law_right⟩
  have TB_law := hTB (cA_law, PA_law) (by simp)
  have TM_law : (PA_law, ("law" : Str) ++ ".<locals>.<lambda>") ∈ ([(PA_law_right, ("_law_right" : Str) ++ ".<locals>.<lambda>"), (PA_law, ("law" : Str) ++ ".<locals>.<lambda>")] : List (Addr × Str)) := by simp
  have TU_law : ∀ p ∈ ([(PA_law_right, ("_law_right" : Str) ++ ".<locals>.<lambda>"), (PA_law, ("law" : Str) ++ ".<locals>.<lambda>")] : List (Addr × Str)), p.1 = PA_law → p.2 = ("law" : Str) ++ ".<locals>.<lambda>" := List.forall_mem_cons.mpr ⟨fun z => absurd z ne_law_right_law, List.forall_mem_cons.mpr ⟨fun _ => rfl, fun _ z => nomatch z⟩⟩
  have FC_law : FunC K "law" "law" s_law fa _ cA_law := ⟨_, _, _, _, _, _, _, _, rfl, l_law, c_law⟩
  have F_is_integer := fun_mk (st := s_is_integer) l_is_integer c_is_integer k_is_integer
  have b_is_integer := F_is_integer.binds (ps := ["value"]) fun _ _ _ _ _ _ us hl => match us, hl with | [_], _ => rfl
  have D_is_integer : Df l.prog w K mg base 1 "is_integer" ["value"] spIsInt := ⟨_, _, ok_isint F_is_integer T.toTxt, PySem.W.mg_of X G a_is_integer, k_is_integer, b_is_integer⟩
  have F_is_integer_within := fun_mk (st := s_is_integer_within) l_is_integer_within c_is_integer_within k_is_integer_within
  have b_is_integer_within := F_is_integer_within.binds (ps := ["value", "least", "most"]) fun _ _ _ _ _ _ us hl => match us, hl with | [_, _, _], _ => rfl
  have D_is_integer_within : Df l.prog w K mg base 2 "is_integer_within" ["value", "least", "most"] spWithin := ⟨_, _, ok_within F_is_integer_within D_is_integer, PySem.W.mg_of X G a_is_integer_within, k_is_integer_within, b_is_integer_within⟩
  have F_is_pair_of_integers := fun_mk (st := s_is_pair_of_integers) l_is_pair_of_integers c_is_pair_of_integers k_is_pair_of_integers
  have b_is_pair_of_integers := F_is_pair_of_integers.binds (ps := ["value"]) fun _ _ _ _ _ _ us hl => match us, hl with | [_], _ => rfl
  have D_is_pair_of_integers : Df l.prog w K mg base 2 "is_pair_of_integers" ["value"] spIsPair := ⟨_, _, ok_ispair F_is_pair_of_integers T.toTxt D_is_integer, PySem.W.mg_of X G a_is_pair_of_integers, k_is_pair_of_integers, b_is_pair_of_integers⟩
  have F_is_resistance := fun_mk (st := s_is_resistance) l_is_resistance c_is_resistance k_is_resistance
  have b_is_resistance := F_is_resistance.binds (ps := ["value"]) fun _ _ _ _ _ _ us hl => match us, hl with | [_], _ => rfl
  have D_is_resistance : Df l.prog w K mg base 3 "is_resistance" ["value"] spIsRes := ⟨_, _, ok_isres F_is_resistance T.toTxt2 D_is_integer D_is_pair_of_integers, PySem.W.mg_of X G a_is_resistance, k_is_resistance, b_is_resistance⟩
  have F_pair_of := fun_mk (st := s_pair_of) l_pair_of c_pair_of k_pair_of
  have b_pair_of := F_pair_of.binds (ps := ["fraction_or_open"]) fun _ _ _ _ _ _ us hl => match us, hl with | [_], _ => rfl
  have D_pair_of : Df l.prog w K mg base 2 "pair_of" ["fraction_or_open"] spPairOf := ⟨_, _, ok_pairof F_pair_of D_is_integer, PySem.W.mg_of X G a_pair_of, k_pair_of, b_pair_of⟩
  have F_common_divisor := fun_mk (st := s_common_divisor) l_common_divisor c_common_divisor k_common_divisor
  have b_common_divisor := F_common_divisor.binds (ps := ["first", "second"]) fun _ _ _ _ _ _ us hl => match us, hl with | [_, _], _ => rfl
  have D_common_divisor : Df l.prog w K mg base 1 "common_divisor" ["first", "second"] spGcd := ⟨_, _, ok_gcd F_common_divisor T.toTxt, PySem.W.mg_of X G a_common_divisor, k_common_divisor, b_common_divisor⟩
  have F_lowest_terms := fun_mk (st := s_lowest_terms) l_lowest_terms c_lowest_terms k_lowest_terms
  have b_lowest_terms := F_lowest_terms.binds (ps := ["top", "bottom"]) fun _ _ _ _ _ _ us hl => match us, hl with | [_, _], _ => rfl
  have D_lowest_terms : Df l.prog w K mg base 2 "lowest_terms" ["top", "bottom"] spLow := ⟨_, _, ok_low F_lowest_terms D_common_divisor, PySem.W.mg_of X G a_lowest_terms, k_lowest_terms, b_lowest_terms⟩
  have F_sign := fun_mk (st := s_sign) l_sign c_sign k_sign
  have b_sign := F_sign.binds (ps := ["number"]) fun _ _ _ _ _ _ us hl => match us, hl with | [_], _ => rfl
  have D_sign : Df l.prog w K mg base 1 "sign" ["number"] spSign := ⟨_, _, ok_sign F_sign, PySem.W.mg_of X G a_sign, k_sign, b_sign⟩
  have F_square_root := fun_mk (st := s_square_root) l_square_root c_square_root k_square_root
  have b_square_root := F_square_root.binds (ps := ["number"]) fun _ _ _ _ _ _ us hl => match us, hl with | [_], _ => rfl
  have D_square_root : Df l.prog w K mg base 1 "square_root" ["number"] spRoot := ⟨_, _, ok_sqrt F_square_root, PySem.W.mg_of X G a_square_root, k_square_root, b_square_root⟩
  have F_under_root := fun_mk (st := s_under_root) l_under_root c_under_root k_under_root
  have b_under_root := F_under_root.binds (ps := ["square", "line", "whole"]) fun _ _ _ _ _ _ us hl => match us, hl with | [_, _, _], _ => rfl
  have D_under_root : Df l.prog w K mg base 1 "under_root" ["square", "line", "whole"] spUnder := ⟨_, _, ok_under F_under_root, PySem.W.mg_of X G a_under_root, k_under_root, b_under_root⟩
  have F_equation_of_fraction := fun_mk (st := s_equation_of_fraction) l_equation_of_fraction c_equation_of_fraction k_equation_of_fraction
  have b_equation_of_fraction := F_equation_of_fraction.binds (ps := ["top", "bottom"]) fun _ _ _ _ _ _ us hl => match us, hl with | [_, _], _ => rfl
  have D_equation_of_fraction : Df l.prog w K mg base 3 "equation_of_fraction" ["top", "bottom"] spEqF := ⟨_, _, ok_eqf F_equation_of_fraction D_lowest_terms, PySem.W.mg_of X G a_equation_of_fraction, k_equation_of_fraction, b_equation_of_fraction⟩
  have F_simplest_equation := fun_mk (st := s_simplest_equation) l_simplest_equation c_simplest_equation k_simplest_equation
  have b_simplest_equation := F_simplest_equation.binds (ps := ["square", "line", "whole"]) fun _ _ _ _ _ _ us hl => match us, hl with | [_, _, _], _ => rfl
  have D_simplest_equation : Df l.prog w K mg base 4 "simplest_equation" ["square", "line", "whole"] spSimp := ⟨_, _, ok_simp F_simplest_equation D_common_divisor D_square_root D_under_root D_equation_of_fraction, PySem.W.mg_of X G a_simplest_equation, k_simplest_equation, b_simplest_equation⟩
  have F_with_commas := fun_mk (st := s_with_commas) l_with_commas c_with_commas k_with_commas
  have b_with_commas := F_with_commas.binds (ps := ["parts"]) fun _ _ _ _ _ _ us hl => match us, hl with | [_], _ => rfl
  have D_with_commas : Df l.prog w K mg base 1 "with_commas" ["parts"] spCm := ⟨_, _, ok_cm F_with_commas T.toTxt, PySem.W.mg_of X G a_with_commas, k_with_commas, b_with_commas⟩
  have F_beside_fraction := fun_mk (st := s_beside_fraction) l_beside_fraction c_beside_fraction k_beside_fraction
  have b_beside_fraction := F_beside_fraction.binds (ps := ["parts", "top", "bottom"]) fun _ _ _ _ _ _ us hl => match us, hl with | [_, _, _], _ => rfl
  have D_beside_fraction : Df l.prog w K mg base 2 "beside_fraction" ["parts", "top", "bottom"] spBeside := ⟨_, _, ok_beside F_beside_fraction D_sign, PySem.W.mg_of X G a_beside_fraction, k_beside_fraction, b_beside_fraction⟩
  have F_floor_of := fun_mk (st := s_floor_of) l_floor_of c_floor_of k_floor_of
  have b_floor_of := F_floor_of.binds (ps := ["parts", "times"]) fun _ _ _ _ _ _ us hl => match us, hl with | [_, _], _ => rfl
  have D_floor_of : Df l.prog w K mg base 2 "floor_of" ["parts", "times"] spFloOf := ⟨_, _, ok_floof F_floor_of D_square_root D_under_root, PySem.W.mg_of X G a_floor_of, k_floor_of, b_floor_of⟩
  have F_law_cup := fun_mk (st := s_law_cup) l_law_cup c_law_cup k_law_cup
  have b_law_cup := F_law_cup.binds (ps := ["_law_script", "_law_spot"]) fun _ _ _ _ _ _ us hl => match us, hl with | [_, _], _ => rfl
  have D_law_cup : Df l.prog w K mg base 1 "_law_cup" ["_law_script", "_law_spot"] (spCup K) := ⟨_, _, ok_cup F_law_cup T.toTxt, PySem.W.mg_of X G a_law_cup, k_law_cup, b_law_cup⟩
  have F_law_sip := fun_mk (st := s_law_sip) l_law_sip c_law_sip k_law_sip
  have b_law_sip := F_law_sip.binds (ps := ["_law_cup_here", "_law_many"]) fun _ _ _ _ _ _ us hl => match us, hl with | [_, _], _ => rfl
  have D_law_sip : Df l.prog w K mg base 1 "_law_sip" ["_law_cup_here", "_law_many"] spSip := ⟨_, _, ok_sip F_law_sip T.toTxt, PySem.W.mg_of X G a_law_sip, k_law_sip, b_law_sip⟩
  have F_law_pick := fun_mk (st := s_law_pick) l_law_pick c_law_pick k_law_pick
  have b_law_pick := F_law_pick.binds (ps := ["_law_cup_here", "_law_things"]) fun _ _ _ _ _ _ us hl => match us, hl with | [_, _], _ => rfl
  have D_law_pick : Df l.prog w K mg base 2 "_law_pick" ["_law_cup_here", "_law_things"] spPick := ⟨_, _, ok_pick F_law_pick T.toTxt D_law_sip, PySem.W.mg_of X G a_law_pick, k_law_pick, b_law_pick⟩
  have F_law_odd := fun_mk (st := s_law_odd) l_law_odd c_law_odd k_law_odd
  have b_law_odd := F_law_odd.binds (ps := ["_law_cup_here"]) fun _ _ _ _ _ _ us hl => match us, hl with | [_], _ => rfl
  have D_law_odd : Df l.prog w K mg base 3 "_law_odd" ["_law_cup_here"] (spOdd K) := ⟨_, _, ok_odd F_law_odd T.toTxt D_law_pick, PySem.W.mg_of X G a_law_odd, k_law_odd, b_law_odd⟩
  have F_law_due := fun_mk (st := s_law_due) l_law_due c_law_due k_law_due
  have b_law_due := F_law_due.binds (ps := ["_law_a", "_law_b", "_law_c"]) fun _ _ _ _ _ _ us hl => match us, hl with | [_, _, _], _ => rfl
  have D_law_due : DfG l.prog w K mg base 2 "_law_due" ["_law_a", "_law_b", "_law_c"] (spDue K) := ⟨_, _, ok_due F_law_due T.toTxt, PySem.W.mg_of X G a_law_due, k_law_due, b_law_due⟩
  have F_Exact_init := fun_mk (st := s_Exact_init) l_Exact_init c_Exact_init k_Exact_init
  have b_Exact_init := F_Exact_init.binds (ps := ["self", "square", "line", "whole"]) fun _ _ _ _ _ _ us hl => match us, hl with | [_, _, _, _], _ => rfl
  have F_Exact_repr := fun_mk (st := s_Exact_repr) l_Exact_repr c_Exact_repr k_Exact_repr
  have b_Exact_repr := F_Exact_repr.binds (ps := ["self"]) fun _ _ _ _ _ _ us hl => match us, hl with | [_], _ => rfl
  have F_Exact_compare := fun_mk (st := s_Exact_compare) l_Exact_compare c_Exact_compare k_Exact_compare
  have b_Exact_compare := F_Exact_compare.binds (ps := ["self", "resistance"]) fun _ _ _ _ _ _ us hl => match us, hl with | [_, _], _ => rfl
  have F_Exact_floor := fun_mk (st := s_Exact_floor) l_Exact_floor c_Exact_floor k_Exact_floor
  have b_Exact_floor := F_Exact_floor.binds (ps := ["self", "times"]) fun _ _ _ _ _ _ us hl => match us, hl with | [_, _], _ => rfl
  have TE : TxE mg (cF [X0, X1, X2, X3, X4, X5, X6, X7, X8, X9, X10, X11, X12, X13, X14, X15, X16, X17, X18, X19, X20, X21]) := { m0 := PySem.W.mg_of X G aX0, m1 := PySem.W.mg_of X G aX1, m2 := PySem.W.mg_of X G aX2, m3 := PySem.W.mg_of X G aX3, m4 := PySem.W.mg_of X G aX4, m5 := PySem.W.mg_of X G aX5, m6 := PySem.W.mg_of X G aX6, m7 := PySem.W.mg_of X G aX7, m8 := PySem.W.mg_of X G aX8, m9 := PySem.W.mg_of X G aX9, m10 := PySem.W.mg_of X G aX10, m11 := PySem.W.mg_of X G aX11, m12 := PySem.W.mg_of X G aX12, m13 := PySem.W.mg_of X G aX13, m14 := PySem.W.mg_of X G aX14, m15 := PySem.W.mg_of X G aX15, m16 := PySem.W.mg_of X G aX16, m17 := PySem.W.mg_of X G aX17, m18 := PySem.W.mg_of X G aX18, m19 := PySem.W.mg_of X G aX19, m20 := PySem.W.mg_of X G aX20, m21 := PySem.W.mg_of X G aX21, vV := PySem.W.mg_none_of X G z_ValueError, vL := PySem.W.mg_none_of X G z_LookupError, vA := PySem.W.mg_none_of X G z_ArithmeticError }
  have Z : XK0 K := ⟨cn, ct⟩
  have F_WrongValue_init := fun_mk (st := s_WrongValue_init) l_WrongValue_init c_WrongValue_init k_WrongValue_init
  have b_WrongValue_init := F_WrongValue_init.binds (ps := ["self"]) fun _ _ _ _ _ _ us hl => match us, hl with | [_], _ => rfl
  have B19 : Bi l.prog w K mg base "WrongValue" := ⟨X19, f_WrongValue_init, .type "type", _, PySem.W.mg_of X G aX19, ⟨rd_19, ga_19⟩, fc_19, k_WrongValue_init, ok_WrongValue_init F_WrongValue_init, b_WrongValue_init⟩
  have F_InvalidResistance_init := fun_mk (st := s_InvalidResistance_init) l_InvalidResistance_init c_InvalidResistance_init k_InvalidResistance_init
  have b_InvalidResistance_init := F_InvalidResistance_init.binds (ps := ["self", "given"]) fun _ _ _ _ _ _ us hl => match us, hl with | [_, _], _ => rfl
  have x2 : XC K X2 := xcB_ok PySem.F.excBase_ValueError PySem.F.store_ValueError xb_2
  have M2 : XM l.prog w K mg base 2 X2 ["self", "given"] (spI K "given") := ⟨x2, f_InvalidResistance_init, _, a_InvalidResistance_init, i_InvalidResistance_init, ok_InvalidResistance_init F_InvalidResistance_init B19, b_InvalidResistance_init, fun y z e => by
    cases e
    exact ⟨fun s us ws _ h1 h2 => match us, h1, ws, h2 with | [_], _, [_], _ => BindsTo.of_eq (fd := PySem.W.fnOf "__init__" "InvalidResistance.__init__" (defArgs s_InvalidResistance_init) (defBody s_InvalidResistance_init) (defScope s_InvalidResistance_init) .none kV_InvalidResistance_init dc_InvalidResistance_init pm_InvalidResistance_init an_InvalidResistance_init cd_InvalidResistance_init ct_InvalidResistance_init) rfl, fun r1 r2 => r1.append r2⟩⟩
  have RZ2 : Rz l.prog w K mg base (cF [X0, X1, X2, X3, X4, X5, X6, X7, X8, X9, X10, X11, X12, X13, X14, X15, X16, X17, X18, X19, X20, X21]) 2 "given" := ⟨M2, ty_2, no_2⟩
  have EC2 : EC K (cF [X0, X1, X2, X3, X4, X5, X6, X7, X8, X9, X10, X11, X12, X13, X14, X15, X16, X17, X18, X19, X20, X21]) (cF [X0, X1, X2, X3, X4, X5, X6, X7, X8, X9, X10, X11, X12, X13, X14, X15, X16, X17, X18, X19, X20, X21] 2) 2 [2, 20, 23] := ec_2 x2 ro_2 any_2 no_2
  have F_InvalidNumber_init := fun_mk (st := s_InvalidNumber_init) l_InvalidNumber_init c_InvalidNumber_init k_InvalidNumber_init
  have b_InvalidNumber_init := F_InvalidNumber_init.binds (ps := ["self", "given"]) fun _ _ _ _ _ _ us hl => match us, hl with | [_, _], _ => rfl
  have x4 : XC K X4 := xcB_ok PySem.F.excBase_ValueError PySem.F.store_ValueError xb_4
  have M4 : XM l.prog w K mg base 2 X4 ["self", "given"] (spI K "given") := ⟨x4, f_InvalidNumber_init, _, a_InvalidNumber_init, i_InvalidNumber_init, ok_InvalidNumber_init F_InvalidNumber_init B19, b_InvalidNumber_init, fun y z e => by
    cases e
    exact ⟨fun s us ws _ h1 h2 => match us, h1, ws, h2 with | [_], _, [_], _ => BindsTo.of_eq (fd := PySem.W.fnOf "__init__" "InvalidNumber.__init__" (defArgs s_InvalidNumber_init) (defBody s_InvalidNumber_init) (defScope s_InvalidNumber_init) .none kV_InvalidNumber_init dc_InvalidNumber_init pm_InvalidNumber_init an_InvalidNumber_init cd_InvalidNumber_init ct_InvalidNumber_init) rfl, fun r1 r2 => r1.append r2⟩⟩
  have RZ4 : Rz l.prog w K mg base (cF [X0, X1, X2, X3, X4, X5, X6, X7, X8, X9, X10, X11, X12, X13, X14, X15, X16, X17, X18, X19, X20, X21]) 4 "given" := ⟨M4, ty_4, no_4⟩
  have EC4 : EC K (cF [X0, X1, X2, X3, X4, X5, X6, X7, X8, X9, X10, X11, X12, X13, X14, X15, X16, X17, X18, X19, X20, X21]) (cF [X0, X1, X2, X3, X4, X5, X6, X7, X8, X9, X10, X11, X12, X13, X14, X15, X16, X17, X18, X19, X20, X21] 4) 4 [4, 20, 23] := ec_4 x4 ro_4 any_4 no_4
  have F_law_classes := fun_mk (st := s_law_classes) l_law_classes c_law_classes k_law_classes
  have b_law_classes := F_law_classes.binds (ps := ["_law_e"]) fun _ _ _ _ _ _ us hl => match us, hl with | [_], _ => rfl
  have D_law_classes : DfE l.prog w K mg base 1 "_law_classes" ["_law_e"] (spClsP K (cF [X0, X1, X2, X3, X4, X5, X6, X7, X8, X9, X10, X11, X12, X13, X14, X15, X16, X17, X18, X19, X20, X21])) := ⟨_, _, ok_clsP F_law_classes T.toTxt TE Z, PySem.W.mg_of X G a_law_classes, k_law_classes, b_law_classes⟩
  have F_law_caught := fun_mk (st := s_law_caught) l_law_caught c_law_caught k_law_caught
  have b_law_caught := F_law_caught.binds (ps := ["_law_act"]) fun _ _ _ _ _ _ us hl => match us, hl with | [_], _ => rfl
  have CG3 : CgtD l.prog w K mg base (cF [X0, X1, X2, X3, X4, X5, X6, X7, X8, X9, X10, X11, X12, X13, X14, X15, X16, X17, X18, X19, X20, X21]) 3 (rTextOwn Ce (spRep Ce)) := ⟨T.toTxt, TE, ⟨_, _, F_law_caught, PySem.W.mg_of X G a_law_caught⟩, D_law_classes, rp_own a_Exact_repr i_Exact_repr (ok_rep F_Exact_repr T D_with_commas) b_Exact_repr⟩
  have CG := CG3.up (show 3 ≤ 4 by decide)
  have D_is_integerG : Df l.prog w K mg base 1 "is_integer" ["value"] (spIntG K) := ⟨_, _, ok_isintG F_is_integer T.toTxt, PySem.W.mg_of X G a_is_integer, k_is_integer, b_is_integer⟩
  have D_is_integer_withinG : Df l.prog w K mg base 2 "is_integer_within" ["value", "least", "most"] (spWithinG K) := ⟨_, _, ok_withinG F_is_integer_within D_is_integerG, PySem.W.mg_of X G a_is_integer_within, k_is_integer_within, b_is_integer_within⟩
  have D_is_pair_of_integersG : Df l.prog w K mg base 2 "is_pair_of_integers" ["value"] (spPairG K) := ⟨_, _, ok_ispairG F_is_pair_of_integers T.toTxt D_is_integerG, PySem.W.mg_of X G a_is_pair_of_integers, k_is_pair_of_integers, b_is_pair_of_integers⟩
  have D_is_resistanceG : Df l.prog w K mg base 3 "is_resistance" ["value"] (spResG K) := ⟨_, _, ok_isresG F_is_resistance T.toTxt2 D_is_integerG D_is_pair_of_integersG, PySem.W.mg_of X G a_is_resistance, k_is_resistance, b_is_resistance⟩
  have kb : KBn K _ ["self", "square", "line", "whole"] 1 (["whole", "line", "square"] : List Str) ordN ordN := ⟨fun s us ws _ h1 h2 => match us, h1, ws, h2 with | [_], _, [_, _, _], _ => BindsTo.of_eq (fd := PySem.W.fnOf "__init__" "Exact.__init__" (defArgs s_Exact_init) (defBody s_Exact_init) (defScope s_Exact_init) .none kV_Exact_init dc_Exact_init pm_Exact_init an_Exact_init cd_Exact_init ct_Exact_init) rfl, ordN_rel⟩
  have X_exact : ExD l.prog w K mg base Ce := ⟨_, _, ⟨mkCe, a_Exact_init, i_Exact_init, kcCe⟩, ok_init F_Exact_init T D_is_integer_within D_simplest_equation, b_Exact_init⟩
  have X_exN : ExN l.prog w K mg base Ce (cF [X0, X1, X2, X3, X4, X5, X6, X7, X8, X9, X10, X11, X12, X13, X14, X15, X16, X17, X18, X19, X20, X21] 4) := ⟨_, _, ⟨mkCe, a_Exact_init, i_Exact_init, kcCe⟩, ok_initB (c := cF [X0, X1, X2, X3, X4, X5, X6, X7, X8, X9, X10, X11, X12, X13, X14, X15, X16, X17, X18, X19, X20, X21]) F_Exact_init T TE RZ4 D_is_integer_withinG D_simplest_equation, b_Exact_init, kb⟩
  have M_compare : MtC l.prog w K mg base Ce 4 "compare" "self" "resistance" (spCompare Ce) f_Exact_compare _ := ⟨⟨a_Exact_compare, i_Exact_compare, k_Exact_compare⟩, ok_compare F_Exact_compare T D_is_resistance D_pair_of D_beside_fraction, b_Exact_compare⟩
  have M_floor : MtC l.prog w K mg base Ce 3 "floor" "self" "times" (spFloor Ce) f_Exact_floor _ := ⟨⟨a_Exact_floor, i_Exact_floor, k_Exact_floor⟩, ok_floor F_Exact_floor T D_is_integer_within D_floor_of, b_Exact_floor⟩
  have M_compareN : MtN l.prog w K mg base Ce 4 "compare" "self" "resistance" (spCmpN K (cF [X0, X1, X2, X3, X4, X5, X6, X7, X8, X9, X10, X11, X12, X13, X14, X15, X16, X17, X18, X19, X20, X21] 2)) := ⟨_, _, ok_cmpN (c := cF [X0, X1, X2, X3, X4, X5, X6, X7, X8, X9, X10, X11, X12, X13, X14, X15, X16, X17, X18, X19, X20, X21]) F_Exact_compare T TE RZ2 D_is_resistanceG, ⟨a_Exact_compare, i_Exact_compare, k_Exact_compare⟩, b_Exact_compare, fun _ _ _ _ => .of_eq rfl⟩
  have M_floorN : MtN l.prog w K mg base Ce 4 "floor" "self" "times" (spFloN K (cF [X0, X1, X2, X3, X4, X5, X6, X7, X8, X9, X10, X11, X12, X13, X14, X15, X16, X17, X18, X19, X20, X21] 4)) := ⟨_, _, ok_floN (c := cF [X0, X1, X2, X3, X4, X5, X6, X7, X8, X9, X10, X11, X12, X13, X14, X15, X16, X17, X18, X19, X20, X21]) F_Exact_floor T TE RZ4 D_is_integer_withinG, ⟨a_Exact_floor, i_Exact_floor, k_Exact_floor⟩, b_Exact_floor, fun _ _ _ _ => .of_eq rfl⟩
  have F_law_right := fun_mk (st := s_law_right) l_law_right c_law_right k_law_right
  have b_law_right := F_law_right.binds (ps := ["_law_cup_here"]) fun _ _ _ _ _ _ us hl => match us, hl with | [_], _ => rfl
  have D_law_right : DfG l.prog w K mg base 10 "_law_right" ["_law_cup_here"] (spRight [(PA_law_right, ("_law_right" : Str) ++ ".<locals>.<lambda>"), (PA_law, ("law" : Str) ++ ".<locals>.<lambda>")]) := ⟨_, _, ok_right FC_law_right T X_exact X_exN M_compare M_floor M_compareN M_floorN CG EC2 EC4 TB_law_right TM_law_right TU_law_right D_law_sip D_law_pick D_law_odd D_law_due, PySem.W.mg_of X G a_law_right, k_law_right, b_law_right⟩
  exact ok_law FC_law T X_exN CG EC4 TB_law TM_law TU_law D_law_cup D_law_right
end RL

open PySem PySem.W PyProof.Rows
set_option maxRecDepth 100000 in
set_option maxHeartbeats 0 in
theorem PySem.Challenge.cw_rungladders_k03_exact_numbers_refused_holds : PySem.Challenge.rw_rungladders_k03_exact_numbers_refused.Holds := by
  w_on; o_law; k_head; (case hw => w_witness2)
  k_fill
  refine RL.walk_ofT (l := PySem.Challenge.rw_rungladders_k03_exact_numbers_refused) (n := 63) (k := 11) (x := "_law_script") rfl (by decide) rfl ⟨rfl, by decide, by decide⟩ (fun w h Y => PySem.W.km_in_of Y) ?F
  case F =>
    intro w mg fa h Y KX G hmg
    have hT8 := PySem.W.km_tabs_of Y
    refine' RL.all_mk KX G hmg ?aG ?aP ?aOp ?laOp ?cn ?ct ?aCe ?pgCe ?hdCe ?poCe ?saCe ?mkCe ?kcCe ?nCe_parts ?z_len ?z_abs ?z_int ?z_bool ?z_tuple ?z_isinstance ?z_divmod ?z_max ?z_min ?z_range ?z_all ?z_repr ?z_str ?z_enumerate ?a_is_integer ?l_is_integer ?c_is_integer ?k_is_integer ?a_is_integer_within ?l_is_integer_within ?c_is_integer_within ?k_is_integer_within ?a_is_pair_of_integers ?l_is_pair_of_integers ?c_is_pair_of_integers ?k_is_pair_of_integers ?a_is_resistance ?l_is_resistance ?c_is_resistance ?k_is_resistance ?a_pair_of ?l_pair_of ?c_pair_of ?k_pair_of ?a_common_divisor ?l_common_divisor ?c_common_divisor ?k_common_divisor ?a_lowest_terms ?l_lowest_terms ?c_lowest_terms ?k_lowest_terms ?a_sign ?l_sign ?c_sign ?k_sign ?a_square_root ?l_square_root ?c_square_root ?k_square_root ?a_under_root ?l_under_root ?c_under_root ?k_under_root ?a_equation_of_fraction ?l_equation_of_fraction ?c_equation_of_fraction ?k_equation_of_fraction ?a_simplest_equation ?l_simplest_equation ?c_simplest_equation ?k_simplest_equation ?a_with_commas ?l_with_commas ?c_with_commas ?k_with_commas ?a_beside_fraction ?l_beside_fraction ?c_beside_fraction ?k_beside_fraction ?a_floor_of ?l_floor_of ?c_floor_of ?k_floor_of ?a_law_cup ?l_law_cup ?c_law_cup ?k_law_cup ?a_law_sip ?l_law_sip ?c_law_sip ?k_law_sip ?a_law_pick ?l_law_pick ?c_law_pick ?k_law_pick ?a_law_odd ?l_law_odd ?c_law_odd ?k_law_odd ?a_law_due ?l_law_due ?c_law_due ?k_law_due ?a_Exact_init ?i_Exact_init ?l_Exact_init ?c_Exact_init ?k_Exact_init ?a_Exact_repr ?i_Exact_repr ?l_Exact_repr ?c_Exact_repr ?k_Exact_repr ?a_Exact_compare ?i_Exact_compare ?l_Exact_compare ?c_Exact_compare ?k_Exact_compare ?a_Exact_floor ?i_Exact_floor ?l_Exact_floor ?c_Exact_floor ?k_Exact_floor ?aX0 ?aX1 ?aX2 ?aX3 ?aX4 ?aX5 ?aX6 ?aX7 ?aX8 ?aX9 ?aX10 ?aX11 ?aX12 ?aX13 ?aX14 ?aX15 ?aX16 ?aX17 ?aX18 ?aX19 ?aX20 ?aX21 ?z_ValueError ?z_LookupError ?z_ArithmeticError ?a_WrongValue_init ?i_WrongValue_init ?l_WrongValue_init ?c_WrongValue_init ?k_WrongValue_init ?rd_19 ?ga_19 ?fc_19 ?a_InvalidResistance_init ?i_InvalidResistance_init ?l_InvalidResistance_init ?c_InvalidResistance_init ?k_InvalidResistance_init ?xb_2 ?ro_2 ?any_2 ?ty_2 ?no_2 ?a_InvalidNumber_init ?i_InvalidNumber_init ?l_InvalidNumber_init ?c_InvalidNumber_init ?k_InvalidNumber_init ?xb_4 ?ro_4 ?any_4 ?ty_4 ?no_4 ?a_law_classes ?l_law_classes ?c_law_classes ?k_law_classes ?a_law_caught ?l_law_caught ?c_law_caught ?k_law_caught ?a_law_right ?l_law_right ?c_law_right ?k_law_right ?e_law_right ?lc_law_right ?pl_law_right ?ch_law_right ?tt_law_right ?kn_law_right ?a_law ?l_law ?c_law ?k_law ?e_law ?lc_law ?pl_law ?ch_law ?tt_law ?kn_law ?ne_law_right_law ?ne_law_law_right
    (case aCe => k_is)
    (case aX0 => k_is)
    (case aX1 => k_is)
    (case aX2 => k_is)
    (case aX3 => k_is)
    (case aX4 => k_is)
    (case aX5 => k_is)
    (case aX6 => k_is)
    (case aX7 => k_is)
    (case aX8 => k_is)
    (case aX9 => k_is)
    (case aX10 => k_is)
    (case aX11 => k_is)
    (case aX12 => k_is)
    (case aX13 => k_is)
    (case aX14 => k_is)
    (case aX15 => k_is)
    (case aX16 => k_is)
    (case aX17 => k_is)
    (case aX18 => k_is)
    (case aX19 => k_is)
    (case aX20 => k_is)
    (case aX21 => k_is)
    (case aG => k_is)
    (case aP => k_is)
    (case aOp => k_is)
    (case laOp => k_is)
    (case cn => k_is)
    (case ct => k_is)
    (case pgCe => k_is)
    (case hdCe => k_is)
    (case poCe => k_is)
    (case saCe => k_is)
    (case mkCe => k_is)
    (case kcCe => k_is)
    (case nCe_parts => k_is)
    (case z_len => k_is)
    (case z_abs => k_is)
    (case z_int => k_is)
    (case z_bool => k_is)
    (case z_tuple => k_is)
    (case z_isinstance => k_is)
    (case z_divmod => k_is)
    (case z_max => k_is)
    (case z_min => k_is)
    (case z_range => k_is)
    (case z_all => k_is)
    (case z_repr => k_is)
    (case z_str => k_is)
    (case z_enumerate => k_is)
    (case a_is_integer => k_is)
    (case l_is_integer => k_is)
    (case c_is_integer => k_is)
    (case k_is_integer => k_is)
    (case a_is_integer_within => k_is)
    (case l_is_integer_within => k_is)
    (case c_is_integer_within => k_is)
    (case k_is_integer_within => k_is)
    (case a_is_pair_of_integers => k_is)
    (case l_is_pair_of_integers => k_is)
    (case c_is_pair_of_integers => k_is)
    (case k_is_pair_of_integers => k_is)
    (case a_is_resistance => k_is)
    (case l_is_resistance => k_is)
    (case c_is_resistance => k_is)
    (case k_is_resistance => k_is)
    (case a_pair_of => k_is)
    (case l_pair_of => k_is)
    (case c_pair_of => k_is)
    (case k_pair_of => k_is)
    (case a_common_divisor => k_is)
    (case l_common_divisor => k_is)
    (case c_common_divisor => k_is)
    (case k_common_divisor => k_is)
    (case a_lowest_terms => k_is)
    (case l_lowest_terms => k_is)
    (case c_lowest_terms => k_is)
    (case k_lowest_terms => k_is)
    (case a_sign => k_is)
    (case l_sign => k_is)
    (case c_sign => k_is)
    (case k_sign => k_is)
    (case a_square_root => k_is)
    (case l_square_root => k_is)
    (case c_square_root => k_is)
    (case k_square_root => k_is)
    (case a_under_root => k_is)
    (case l_under_root => k_is)
    (case c_under_root => k_is)
    (case k_under_root => k_is)
    (case a_equation_of_fraction => k_is)
    (case l_equation_of_fraction => k_is)
    (case c_equation_of_fraction => k_is)
    (case k_equation_of_fraction => k_is)
    (case a_simplest_equation => k_is)
    (case l_simplest_equation => k_is)
    (case c_simplest_equation => k_is)
    (case k_simplest_equation => k_is)
    (case a_with_commas => k_is)
    (case l_with_commas => k_is)
    (case c_with_commas => k_is)
    (case k_with_commas => k_is)
    (case a_beside_fraction => k_is)
    (case l_beside_fraction => k_is)
    (case c_beside_fraction => k_is)
    (case k_beside_fraction => k_is)
    (case a_floor_of => k_is)
    (case l_floor_of => k_is)
    (case c_floor_of => k_is)
    (case k_floor_of => k_is)
    (case a_law_cup => k_is)
    (case l_law_cup => k_is)
    (case c_law_cup => k_is)
    (case k_law_cup => k_is)
    (case a_law_sip => k_is)
    (case l_law_sip => k_is)
    (case c_law_sip => k_is)
    (case k_law_sip => k_is)
    (case a_law_pick => k_is)
    (case l_law_pick => k_is)
    (case c_law_pick => k_is)
    (case k_law_pick => k_is)
    (case a_law_odd => k_is)
    (case l_law_odd => k_is)
    (case c_law_odd => k_is)
    (case k_law_odd => k_is)
    (case a_law_due => k_is)
    (case l_law_due => k_is)
    (case c_law_due => k_is)
    (case k_law_due => k_is)
    (case a_Exact_init => k_is)
    (case i_Exact_init => k_is)
    (case l_Exact_init => k_is)
    (case c_Exact_init => k_is)
    (case k_Exact_init => k_is)
    (case a_Exact_repr => k_is)
    (case i_Exact_repr => k_is)
    (case l_Exact_repr => k_is)
    (case c_Exact_repr => k_is)
    (case k_Exact_repr => k_is)
    (case a_Exact_compare => k_is)
    (case i_Exact_compare => k_is)
    (case l_Exact_compare => k_is)
    (case c_Exact_compare => k_is)
    (case k_Exact_compare => k_is)
    (case a_Exact_floor => k_is)
    (case i_Exact_floor => k_is)
    (case l_Exact_floor => k_is)
    (case c_Exact_floor => k_is)
    (case k_Exact_floor => k_is)
    (case z_ValueError => k_is)
    (case z_LookupError => k_is)
    (case z_ArithmeticError => k_is)
    (case a_WrongValue_init => k_is)
    (case i_WrongValue_init => k_is)
    (case l_WrongValue_init => k_is)
    (case c_WrongValue_init => k_is)
    (case k_WrongValue_init => k_is)
    (case rd_19 => k_is)
    (case ga_19 => k_is)
    (case fc_19 => k_is)
    (case a_InvalidResistance_init => k_is)
    (case i_InvalidResistance_init => k_is)
    (case l_InvalidResistance_init => k_is)
    (case c_InvalidResistance_init => k_is)
    (case k_InvalidResistance_init => k_is)
    (case xb_2 => kernel_rfl)
    (case ro_2 => kernel_rfl)
    (case any_2 => kernel_rfl)
    (case ty_2 => k_is)
    (case no_2 => k_is)
    (case a_InvalidNumber_init => k_is)
    (case i_InvalidNumber_init => k_is)
    (case l_InvalidNumber_init => k_is)
    (case c_InvalidNumber_init => k_is)
    (case k_InvalidNumber_init => k_is)
    (case xb_4 => kernel_rfl)
    (case ro_4 => kernel_rfl)
    (case any_4 => kernel_rfl)
    (case ty_4 => k_is)
    (case no_4 => k_is)
    (case a_law_classes => k_is)
    (case l_law_classes => k_is)
    (case c_law_classes => k_is)
    (case k_law_classes => k_is)
    (case a_law_caught => k_is)
    (case l_law_caught => k_is)
    (case c_law_caught => k_is)
    (case k_law_caught => k_is)
    (case a_law_right => k_is)
    (case l_law_right => k_is)
    (case c_law_right => k_is)
    (case k_law_right => k_is)
    (case e_law_right => rfl)
    (case lc_law_right => k_is)
    (case pl_law_right => rfl)
    (case ch_law_right => kernel_rfl)
    (case tt_law_right => exact hT8 _ (by k_mem))
    (case kn_law_right => kernel_rfl)
    (case a_law => k_is)
    (case l_law => k_is)
    (case c_law => k_is)
    (case k_law => k_is)
    (case e_law => rfl)
    (case lc_law => k_is)
    (case pl_law => rfl)
    (case ch_law => kernel_rfl)
    (case tt_law => exact hT8 _ (by k_mem))
    (case kn_law => kernel_rfl)
    (case ne_law_right_law => decide)
    (case ne_law_law_right => decide)

