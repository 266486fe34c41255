import PyProof.Rows.All
import Wide.All
import OpenK.AllK
import Wide.FinOn
import HandS.ForMost
import HandS.OwnEq
import HandS.IsInst
import HandS.Wide
import HandS.EndBits
import HandS.Property
import KE.LtData
import HandS.NamedTupSort
import HandS.Exc
import HandS.ExcInit
import HandS.ExcIs
import HandS.ExcField
import HandS.TryOnly
import HandS.Lambda
import HandS.ClsMeth
import HandS.MakeKwOnly
import KE.KOpsOwn
import HandS.WordsExc
import HandS.WordsDict
import HandS.Codes
import HandS.Walk
import HandS.SetFor
import HandS.Strs
import HandS.Set
import PyProof.Rows.SortShellAny
import PyProof.Rows.StrMeet
import HandS.Defaults
import HandS.Small
import HandS.LawCells
import OpenK.KMeth
import KE.DataMinMax
import HandS.Star
import HandS.DictComp
import HandS.More
import HandS.Comp
import PyProof.ListNew
import PyProof.Conv_bool
import OpenK.KOps
import HandS.DictTup
import HandS.Iter
import HandS.TupLen
import HandS.Call
import HandS.Text
import PyProof.Rows.StrPins3
import HandS.FStr
import HandS.Dict
import KE.KDictPairs
import KE.KCallOwn
import PyProof.NeKinds
import PyProof.EqAt
import KE.GoesEnum
import KE.GoesMore
import HandS.Style
import PyProof.StrLawsTight
import PyProof.StrLawsChain
import PyProof.Rows.StrSplitJoin
import PyProof.Rows.StrItems
import PyProof.Rows.StrSplitAre
import PyProof.StrLawsRepr
import HandS.RaiseMore
import PySem.Challenge.RW_soundtill_k30_histories_written
set_option Elab.async false
set_option linter.all false
set_option maxRecDepth 100000
set_option maxHeartbeats 8000000
/-! So: rules of our own over the hand layer. Runs whose guards are known (for repr), repr of data, == and != by an own __eq__ with both answers, < of data, a method's call with keywords. -/
namespace So
open PySem PySem.Spec PyProof.Rows L2

/-! ### repr of data -/
mutual
theorem dp_noDict {K : PySem.W.Frag} {H : Hp} : ∀ (d : PyData) (v : V), Dp K H v d → d.hasDict = false
  | .none, _, _ => rfl
  | .bool _, _, _ => rfl
  | .int _, _, _ => rfl
  | .str _, _, _ => rfl
  | .list ds, _, h => by
    cases h with
    | lst _ ha => simpa [PyData.hasDict] using dp_noDictAll ds _ ha
  | .tuple ds, _, h => by
    cases h with
    | tup _ ha => simpa [PyData.hasDict] using dp_noDictAll ds _ ha
  | .dict _, _, h => by cases h
theorem dp_noDictAll {K : PySem.W.Frag} {H : Hp} : ∀ (ds : List PyData) (vs : List V), DpAll K H vs ds → PyData.hasDictAll ds = false
  | [], _, _ => rfl
  | d :: ds, _, h => by
    cases h with
    | cons h1 h2 => simp [PyData.hasDictAll, dp_noDict d _ h1, dp_noDictAll ds _ h2]
end

/-- repr(x): what it asks -/
def rRepr (K : PySem.W.Frag) : List V → Hp → VK → Prop := fun xs H Q => ∃ v d, xs = [v] ∧ Dp K H v d ∧ d.showable = true ∧ d.depth ≤ 60 ∧ d.shown.length ≤ sizeLine ∧ Q (.str d.shown) H
section
variable {X : Cx}
theorem call_reprD (hg : X.A.guards = some []) (hu : X.A.units + 64 < cLine) : CallR X (.builtin "repr") (rRepr X.K) := by
  intro pins s σ H xs us Q I r h
  obtain ⟨v, d, rfl, hd, hs, hdep, hz, q⟩ := h
  obtain ⟨u, rfl, rv⟩ := vals1 r
  obtain ⟨as, rd⟩ := Dp.reads I d v u hd rv
  have nd : d.hasDict = false := dp_noDict d v hd
  cases v with
  | ref a =>
    cases rv
    refine repr_of_reads' rd hs (fun z => by rw [nd] at z; cases z) hg (by omega) (fun _ _ e => e) (fun h' t tk k => ?_) hz
    exact ⟨.str d.shown, H, I.kept k, ⟨t, rfl⟩, q⟩
  | non =>
    cases hd
    cases rv
    exact PySem.P.repr_of_none ⟨.str _, H, I.tok _, ⟨_, rfl⟩, q⟩
  | bl b =>
    cases hd
    cases rv
    refine PySem.P.repr_of_bool ⟨.str (PyData.shown (.bool b)), H, I.tok _, ⟨s.toks, ?_⟩, q⟩
    cases b <;> rfl
  | int i =>
    cases hd
    obtain ⟨t, rfl⟩ := rv
    exact PySem.P.repr_of_int (by simpa [PyData.showable] using hs) ⟨.str _, H, I.tok _, ⟨_, rfl⟩, q⟩
  | str x =>
    cases hd
    obtain ⟨t, rfl⟩ := rv
    exact PySem.P.repr_of_str ⟨.str _, H, I.tok _, ⟨_, rfl⟩, q⟩ hz
  | byt b => cases hd
  | flt b => cases hd
  | ty n => cases hd

/-! ### < of data -/
def rLtD (K : PySem.W.Frag) : R2 := fun x y H Q => ∃ d e, Dp K H x d ∧ Dp K H y e ∧ PySem.W.alike d e = true ∧ d ≠ .none ∧ d.depth ≤ 60 ∧ Q (.bl (PySem.W.dataLt d e)) H
theorem op_ltD (hu : X.A.units + 64 < cLine) : OpR X (compareOp .Lt) (rLtD X.K) := by
  intro pins s σ H x y v u Q I rx ry h
  obtain ⟨d, e, hd, he, al, nn, dep, q⟩ := h
  obtain ⟨as, r1⟩ := Dp.reads I d x v hd rx
  obtain ⟨bs, r2⟩ := Dp.reads I e y u he ry
  have hm : min d.depth e.depth ≤ d.depth := Nat.min_le_left _ _
  exact PySem.W.rcLt_alike d e X.A s v u as bs r1 r2 al nn (by omega) _ _ _ _ ⟨.bl _, H, I, rfl, q⟩
end
end So

namespace So
open PySem PySem.Spec PyProof.Rows L2

/-! ### == and != by an own __eq__, both answers -/
/-- x is an instance of C, y of a type that is no class below C; the own __eq__ answers b -/
def rOwn (C : Addr) (K : PySem.W.Frag) (sp : Sp) (E : XK) (g : Bool → Bool) : R2 := fun x y H Q => ∃ a dx fs t, x = .ref a ∧ H a = some (.ins C dx fs) ∧ TyX K H y t ∧ PySem.W.notFirst K C t = true ∧
  sp [.ref a, y] H (fun v H' => ∃ b, v = .bl b ∧ Q (.bl (g b)) H') E
section
variable {X : Cx} {CX : CXT} {k : Nat} {C f : Addr} {fd : FuncData} {ps : List Str} {sp : Sp} {E : XK}
/-- what is wanted of a comparison's answer -/
def BlP (X : Cx) (pins : List (Addr × Obj)) (σ : L2.St) (g : Bool → Bool) (Q : VK) (v : Value) (s' : Shared) : Prop := ∃ b H', v = .bool b ∧ Inv X pins σ H' s' ∧ Q (.bl (g b)) H'
theorem run_eq {pins : List (Addr × Obj)} {s : Shared} {σ : L2.St} {H : Hp} {a dx : Addr} {fs : List (Str × V)} {y : V} {u : Value} {Q : VK} {g : Bool → Bool} {A : Around} (F : FnOk X.prog X.w X.K X.mg X.base CX k f fd ps sp) (hb : Binds X.K fd ps [])
    (hx : Passes CX X E) (hr : Room k A) (hf : A.frames = X.A.frames) (I : Inv X pins σ H s) (ry : RelV y u) (h : sp [.ref a, y] H (fun v H' => ∃ b, v = .bl b ∧ Q (.bl (g b)) H') E) :
    wpAny (model X.prog X.w) A (call (.ref f) [.ref a, u]) (fun v s' => BlP X pins σ g Q v s') X.xe s := by
  have e0 : Env0 X.prog X.w X.K X.mg X.base A X.stack s H := by
    have e := I.env0
    exact ⟨hf.trans e.frames, e.mod, e.bs, e.bsz, e.funs, e.frf, e.hok, e.bare⟩
  have hl : ([Value.ref a, u] ++ ([] : List Value)).length = ps.length := (F.len _ _ _ _ h : [V.ref a, y].length = ps.length)
  refine wpAny_call (codeAny_mono (F.run A X.stack s H ⟨[.ref a, u], []⟩ ([.ref a, u] ++ []) [.ref a, y] _ E hr e0 (hb s [.ref a, u] I.kIn hl) (.cons rfl (.cons ry .nil)) h) fun r s' hq => ?_)
  cases r with
  | error e => exact hx pins σ H s e s' I hq
  | ok fl =>
    cases fl with
    | ret w =>
      obtain ⟨z, H', I', rz, b, ez, q⟩ := I.after hq
      subst ez
      cases rz
      exact ⟨b, H', rfl, I', q⟩
    | next => exact False.elim hq
    | brk => exact False.elim hq
    | cont => exact False.elim hq

theorem op_eqOwn (F : FnOk X.prog X.w X.K X.mg X.base CX k f fd ps sp) (hs : PySem.W.findIn X.K (.ref C) "__eq__" = some (some (.ref f))) (hf : PySem.W.isFn X.K (.ref f) = true) (hb : Binds X.K fd ps []) (hx : Passes CX X E) (hr : Room k X.A) :
    OpR X (compareOp .Eq) (rOwn C X.K sp E id) := by
  intro pins s σ H x y v u Q I rx ry h
  obtain ⟨a, dx, fs, t, rfl, ha, ty, nf, q⟩ := h
  cases rx
  obtain ⟨mA, J, _⟩ := ins_get I.hok ha
  obtain ⟨od, J, _⟩ := J.look
  obtain ⟨P, Z, p, _⟩ := kit_of I ry ty
  obtain ⟨m, hF⟩ := I.fr
  show wpAny _ _ (richCompare .Eq (.ref a) u) _ _ s
  refine PySem.W.cmp_K (op := .Eq) (tb := t) hr.units0 hF I.ok.mod.kin J (Z.ty _ _ I.kIn p) nf hs hf ?_
  refine wpAny_mono (run_eq (dx := dx) (fs := fs) F hb hx hr rfl I ry q) (fun w s' z => ?_) fun _ _ z => z
  obtain ⟨b, H', rfl, I', q'⟩ := z
  exact ⟨.bl b, H', I', rfl, q'⟩

/-- != where the class has an own __eq__ and object's __ne__ -/
theorem op_neOwn (F : FnOk X.prog X.w X.K X.mg X.base CX k f fd ps sp) (hs : PySem.W.findIn X.K (.ref C) "__eq__" = some (some (.ref f))) (hf : PySem.W.isFn X.K (.ref f) = true) (hb : Binds X.K fd ps []) (hx : Passes CX X E) (hr : Room (k + 1) X.A)
    (hn : PySem.W.findIn X.K (.ref C) "__ne__" = some (some (.builtin "object.__ne__"))) (hm : PySem.W.mroIn X.K C (.type "object") = some true) : OpR X (compareOp .NotEq) (rOwn C X.K sp E not) := by
  intro pins s σ H x y v u Q I rx ry h
  obtain ⟨a, dx, fs, t, rfl, ha, ty, nf, q⟩ := h
  cases rx
  obtain ⟨mA, J, _⟩ := ins_get I.hok ha
  obtain ⟨od, J, _⟩ := J.look
  obtain ⟨P, Z, p, _⟩ := kit_of I ry ty
  have KI := I.kIn
  have hb' := Z.ty (model X.prog X.w) _ I.kIn p
  have hu : X.A.units < cLine := hr.units0
  show wpAny _ _ (richCompare .NotEq (.ref a) u) _ _ s
  have one : wpAny (model X.prog X.w) X.A (tryCompare (.ref a) "__ne__" u) (fun r s' => ∃ v, r = some v ∧ EP X pins σ Q v s') X.xe s := by
    unfold tryCompare
    refine wpAny_bind (NtL.csib (J.type.andThen (PySem.W.looks_findIn KI hn)) (PySem.F.cmp_object.ne.bind _) (wpAny_call (codeAny_call_builtin PySem.F.cmp_object.ne.plain PySem.F.cmpEntry_ne (PySem.W.check_slot PySem.F.cmpKind_ne PySem.F.cmpSplit_ne (J.type.andThen (PySem.W.looks_mroIn KI hm)) (PySem.F.cmpArgs_ne _ _) ?_))))
    unfold Builtin.«object.__ne__»
    refine wpAny_bind (wpAny_of_eq (a := ((Value.ref a : Value), [u])) (by first | rfl | (simp only [slotArgs]; rfl)) ?_)
    refine wpAny_bind (wpAny_cRoomFor (by show X.A.units + 1 < cLine; have := hr.units; omega) ?_)
    refine wpAny_bind (PySem.W.ifBound_K KI J hs hf (wpAny_mono (run_eq (dx := dx) (fs := fs) F hb hx hr.in1 rfl I ry q) (fun w s' z => ?_) fun _ _ z => z))
    obtain ⟨b, H', rfl, I', q'⟩ := z
    refine wpAny_bind (wpAny_truthy_bool ?_)
    refine wpAny_pure ?_
    exact wpAny_pure ⟨_, rfl, .bl (!b), H', I', rfl, q'⟩
  unfold richCompare
  simp only [oneThing_ref]
  refine wpAny_holding (wpAny_bind (wpAny_cRoomFor hu ?_))
  refine wpAny_bind (J.type.here (wpAny_bind (hb'.here ?_)))
  have fin : wpAny (model X.prog X.w) X.A (tryCompare (.ref a) "__ne__" u) (fun r s' => ∃ v, r = some v ∧ EP X pins σ Q v s') X.xe s := one
  split
  · rename_i z
    have e : PySem.W.subIn X.K t (.ref C) = some false := by
      rcases Bool.or_eq_true_iff.mp nf with e | e
      · rw [beq_iff_eq.mp e] at z; simp at z
      · exact beq_iff_eq.mp e
    refine wpAny_bind ((PySem.W.looks_subIn KI e).here ?_)
    simp only [Bool.false_eq_true, if_false]
    exact wpAny_bind (wpAny_mono fin (fun r s' z => by obtain ⟨v, rfl, hq⟩ := z; exact wpAny_pure hq) fun _ _ e => e)
  · refine wpAny_bind (wpAny_pure ?_)
    simp only [Bool.false_eq_true, if_false]
    exact wpAny_bind (wpAny_mono fin (fun r s' z => by obtain ⟨v, rfl, hq⟩ := z; exact wpAny_pure hq) fun _ _ e => e)
end
end So

namespace So
open PySem PySem.Spec PyProof.Rows L2

/-! ### runs in which no repr is under way -/
/-- as FnOk, where no repr is under way at the call -/
structure FnG (P : Program) (w : World) (K : PySem.W.Frag) (mg : Str → Option Value) (base : Heap) (CX : CXT) (k : Nat) (f : Addr) (fd : FuncData) (ps : List Str) (sp : Sp) : Prop where
  lenG : ∀ (vs : List V) (H : Hp) (Q : VK) (E : XK), sp vs H Q E → vs.length = ps.length
  runG : ∀ (A : Around) (outer : List Env) (s : Shared) (H : Hp) (args : Args) (us : List Value) (vs : List V) (Q : VK) (E : XK), A.guards = some [] → Room k A → Env0 P w K mg base A outer s H →
    BindsTo s fd args (ps.zip us) → Vals vs us → sp vs H Q E → codeAny (model P w) A (.call (.ref f) args) (CR CX outer P w H s Q E) s
section
variable {P : Program} {w : World} {K : PySem.W.Frag} {mg : Str → Option Value} {base : Heap} {CX : CXT} {sp : Sp} {fd : FuncData} {ps N : List Str} {k : Nat} {f : Addr}
theorem FnG.ofOk (F : FnOk P w K mg base CX k f fd ps sp) : FnG P w K mg base CX k f fd ps sp :=
  ⟨F.len, fun A outer s H args us vs Q E _ => F.run A outer s H args us vs Q E⟩
/-- a def by its body, as the layer's rule, the guards told -/
theorem fnG_of {x qual : Str} {st : Stmt} (F : Fun K x qual st f fd) (S : FnScope N ps (defScope st)) (len : ∀ vs H Q E, sp vs H Q E → vs.length = ps.length)
    (hbody : ∀ (cdv : Value) (A : Around) (outer : List Env) (s : Shared) (H : Hp) (vs : List V) (Q : VK) (E : XK), A.guards = some [] → Room k (A.deeper (envOfC qual (defScope st) s.heap.objs.size f cdv)) → sp vs H Q E →
      ∃ t, PSs (cxOf CX P w K mg base N qual (defScope st) f cdv A outer s H E).nox (defBody st) t ∧ t { nx := fun _ H' => Q .non H', rt := Q } (start N vs) H) : FnG P w K mg base CX (k + 1) f fd ps sp := by
  obtain ⟨oc, od, kV, doc, pm, an, cdv, ct, osl, rfl, lk, hcd⟩ := F.ex
  constructor
  · exact len
  intro A outer s H args us vs Q E hg hr e0 hb r hsp
  have old : ∀ b o, base.get? b = some o → s.heap.get? b = some o := fun b o e => (e0.bs b o e).1
  have KX := e0.mod.kin.keeps old
  have lim := e0.mod.nolimit.keeps old
  refine codeAny_call_function hr.depth (KX _ _ lk) rfl S.co S.gen rfl (PySem.W.codeRec_of KX hcd) (hb _ _ _ _ ?_)
  refine wpAny_newFunctionEnv_cells S.kind (fun y hy => ?_) fun env he s1 x => ?_
  · rcases S.par y.1 (List.of_mem_zip (show (y.1, y.2) ∈ ps.zip us from hy)).1 with q | q
    · exact Or.inl q
    · exact Or.inr (And.intro q (PySem.W.cellsFrom_some _ _ _ (Or.inl q)))
  subst he
  refine And.intro (lim.keeps x.toInCall.keep) (codeAny_func ?_)
  obtain ⟨t, ht, hq⟩ := hbody cdv A outer s H vs Q E hg (hr.deeper _) hsp
  refine wpAny_mono (ht.nox.run [] s1 (start N vs) H _ (inv_start S hr.hd e0 (len _ _ _ _ hsp) r x) hq) (fun fl s' hs => ?_) fun _ _ hs => hs
  match fl, hs with
  | .ret u, ⟨v, σ', H', J, rv, q⟩ => exact ⟨v, H', J.os, J.bare, J.base, J.hok, rv, q⟩
  | .next, ⟨σ', H', J, q⟩ => exact ⟨V.non, H', J.os, J.bare, J.base, J.hok, rfl, q⟩
  | .brk, ⟨_, _, _, q⟩ => exact q.elim
  | .cont, ⟨_, _, _, q⟩ => exact q.elim
end

/-! ### calls -/
section
variable {X : Cx} {CX : CXT} {k : Nat} {f C : Addr} {fd : FuncData} {ps ks : List Str} {sp : Sp} {E : XK} {x m : Str} {p pos apos : Pos} {e o : Expr} {es : List Expr} {kws : List Keyword} {ta : TE} {t tk : TA} {dvs : List V} {ds : List Value}
theorem run_fnG {pins : List (Addr × Obj)} {σ : L2.St} {H : Hp} {s : Shared} {Q : VK} {us : List Value} {vs : List V} (F : FnG X.prog X.w X.K X.mg X.base CX k f fd ps sp) (hg : X.A.guards = some []) (hr : Room k X.A) (hb : Binds X.K fd ps ds) (hd : Vals dvs ds)
    (hx : Passes CX X E) (I : Inv X pins σ H s) (r : Vals vs us) (h : sp (vs ++ dvs) H Q E) : wpAny (model X.prog X.w) X.A (call (.ref f) us) (EP X pins σ Q) X.xe s := by
  have r2 := r.append hd
  have hl : (us ++ ds).length = ps.length := r2.length.symm.trans (F.lenG _ _ _ _ h)
  refine wpAny_call (codeAny_mono (F.runG X.A X.stack s H ⟨us, []⟩ (us ++ ds) (vs ++ dvs) Q E hg hr I.env0 (hb s us I.kIn hl) r2 h) fun r s' hq => ?_)
  match r, hq with
  | .error e, hq => exact hx pins σ H s e s' I hq
  | .ok (.ret u), hq => exact I.after hq
  | .ok .next, hq => exact hq.elim
  | .ok .brk, hq => exact hq.elim
  | .ok .cont, hq => exact hq.elim
/-- f(e, ..), f by FnG -/
theorem pe_callG (F : FnG X.prog X.w X.K X.mg X.base CX k f fd ps sp) (hg : X.A.guards = some []) (hr : Room k X.A) (hgl : Gl X x) (hm : X.mg x = some (.ref f)) (hk : PySem.W.keepIn X.K (.ref f) = true) (hb : Binds X.K fd ps ds) (hd : Vals dvs ds) (hx : Passes CX X E)
    (ha : PA X (e :: es) t) (hdb : (x == ("__debug__" : Str)) = false := by decide) (he : starEach (e :: es) X.env = (false, eval e X.env) :: starEach es X.env := by rfl) (hpl : (backTo pos (starEach es X.env)).any (·.1) = false := by rfl) :
    PE X (.Call (.Name x p) (e :: es) [] pos) (tCall sp dvs E t) := by
  constructor
  intro pins s σ H Q I h
  refine wpAny_Call_Name_kw (ld_glob I hgl hm (PySem.W.callWith_K (h₀ := X.base) I.ok.mod.kin hk (thn (ha.run pos pins s σ H _ I h) fun us s1 q => ?_) he hpl) hdb)
  obtain ⟨vs, H1, I1, r, q⟩ := q
  exact ⟨I1.kIn, run_fnG F hg hr hb hd hx I1 r q⟩
/-- o.m(k = v, ..): keywords alone -/
theorem pe_methK {g : List Value → List Value → List Value} {gV : List V → List V → List V} {pl : Sem Bool} (he : PE X o ta) (c : Cls X.K C) (hm : Meth X.K C m f) (F : FnOk X.prog X.w X.K X.mg X.base CX k f fd ps sp) (hr : Room k X.A) (hb : KBinds X.K fd ps ks g gV)
    (hx : Passes CX X E) (hkw : PK X kws tk) (hall : (backToKw pos (keywordEach kws X.env)).all (·.1.isSome) = true := by rfl) (hks : (backToKw pos (keywordEach kws X.env)).filterMap (·.1) = ks := by rfl)
    (hpl : ((backTo pos (starEach [] X.env)).any (·.1) || (backToKw pos (keywordEach kws X.env)).any (·.1.isNone)) = false := by rfl)
    (ht : eval (.Call (.Attribute o m apos) [] kws pos) X.env = (do
      let ov ← eval o X.env
      standAt apos.atName
      let fx ← holding [ov] (getMethod ov m pl)
      callWith pos fx.1 fx.2 (backTo pos (starEach [] X.env)) (backToKw pos (keywordEach kws X.env))) := by rfl) :
    PE X (.Call (.Attribute o m apos) [] kws pos) (fun σ H Q => ta σ H fun x H1 => ∃ a dx fs, x = .ref a ∧ H1 a = some (.ins C dx fs) ∧ fs.lookup m = none ∧ tk σ H1 fun zs H2 => sp (gV [x] zs) H2 Q E) := by
  constructor
  intro pins s σ H Q I h
  refine PySem.W.methodCall_KW (pl := pl) (thn (he.run pins s σ H _ I h) fun u s1 z => ?_) ht
  obtain ⟨x, H1, I1, rx, a, dx, fs, ex, ea, l, q⟩ := z
  subst ex
  cases rx
  refine getmeth_ok I1 ea c hm l ?_
  refine PySem.W.callWith_KW0 (first := [.ref a]) (h₀ := X.base) I.ok.mod.kin hm.kp hall (thn (hkw.run pos pins s1 σ H1 _ I1 q) fun ws s2 z => ?_) hpl
  obtain ⟨zs, H2, I2, rz, q2⟩ := z
  refine ⟨I2.kIn, ?_⟩
  rw [hks]
  exact run_fnk (us := [.ref a]) (vs := [.ref a]) F hr hb hx I2 (.cons rfl .nil) rz q2
end

/-! ### the end of a law -/
theorem law_callG {P : Program} {w : World} {K : PySem.W.Frag} {mg mb : Str → Option Value} {CX : CXT} {k : Nat} {fa a : Addr} {fd : FuncData} {x : Str} {sp : Sp} {s₁ : Shared} {vs : List Value} {ns : List Int}
    (KX : K.In s₁.heap) (hns : s₁.heap.Ns mainGlobals mg) (hb : s₁.heap.Ns builtinsNs mb) (hbb : ∀ x : Str, x ≠ "__name__" → mb x = bootBuiltins x) (hlim : s₁.heap.NoLimit) (hg : s₁.gens = #[])
    (ha : s₁.heap.get? a = some { cls := .type "list", data := .seq vs.toArray }) (hi : IntsAre vs ns) (hl : ns.length ≤ sizeLine) (hr : Room k callerA)
    (F : ∀ base : Heap, K.In base → base.Ns mainGlobals mg → FnG P w K mg base CX k fa fd [x] sp) (hbind : ∀ (s : Shared) (u : Value), BindsTo s fd ⟨[u], []⟩ [(x, u)])
    (hsp : ∀ H : Hp, Only H → SqL K H a (ns.map V.int) → sp [.ref a] H (fun v _ => v = .bl true) fun _ _ _ => False)
    (hCX : ∀ H e s', CX [] H s₁ (fun _ _ _ => False) e s' → False) :
    codeAny (model P w) callerA (.call (.ref fa) ⟨[.ref a], []⟩) (fun r s' => r = .ok (.ret (.bool true)) ∧ OldK s₁.heap s'.heap ∧ s'.os = s₁.os ∧ AllBare s'.gens) s₁ := by
  -- the call itself, for a heap in which the script alone may be tracked
  have go : ∀ H : Hp, Only H → SqL K H a (ns.map V.int) → HOk P w H s₁.heap → (∀ b u, H b = some u → b = a ∧ K.lookup a = none) →
      codeAny (model P w) callerA (.call (.ref fa) ⟨[.ref a], []⟩) (fun r s' => r = .ok (.ret (.bool true)) ∧ OldK s₁.heap s'.heap ∧ s'.os = s₁.os ∧ AllBare s'.gens) s₁ := by
    intro H hO hS hok hA
    have free : ∀ b : Addr, (b ≠ a ∨ K.lookup a ≠ none) → H b = none := by
      intro b z
      cases q : H b with
      | none => rfl
      | some u => exact (z.elim (fun z => z (hA b u q).1) fun z => z (hA b u q).2).elim
    have notSeq : ∀ {b : Addr} {m : Str → Option Value}, s₁.heap.Ns b m → b ≠ a := by
      rintro b m ⟨o, es, ep, e, d, _⟩ rfl
      rw [ha] at e
      cases e
      cases d
    have inH : ∀ {b : Addr} {m : Str → Option Value}, s₁.heap.Ns b m → (hidT s₁.heap H).Ns b m := by
      intro b m n
      have nb := free b (Or.inl (notSeq n))
      obtain ⟨o, es, ep, e, r⟩ := n
      exact ⟨o, es, ep, hidT_get e nb, r⟩
    have kin : K.In (hidT s₁.heap H) := by
      intro b o e
      refine hidT_get (KX b o e) ?_
      by_cases hb : b = a
      · exact free b (Or.inr (by rw [← hb, e]; exact fun z => nomatch z))
      · exact free b (Or.inl hb)
    have lim2 : (hidT s₁.heap H).NoLimit := by
      obtain ⟨mc, h1, h2⟩ := hlim
      exact ⟨mc, inH h1, h2⟩
    have e0 : Env0 P w K mg (hidT s₁.heap H) callerA [] s₁ H := by
      refine ⟨rfl, ⟨kin, inH hns, ⟨mb, inH hb, hbb⟩, lim2⟩, fun b o e => of_hidT e, Nat.le_of_eq (hidT_size _ _), True.intro, ?_, hok, .of_eq hg⟩
      intro b hb
      cases hb
    refine codeAny_mono ((F _ kin (inH hns)).runG callerA [] s₁ H ⟨[.ref a], []⟩ [.ref a] [.ref a] _ _ rfl hr e0 (hbind s₁ (.ref a)) (.cons rfl .nil) (hsp H hO hS)) fun r s' h => ?_
    match r, h with
    | .error e, h => exact (hCX H e s' h).elim
    | .ok .next, h => exact h.elim
    | .ok .brk, h => exact h.elim
    | .ok .cont, h => exact h.elim
    | .ok (.ret u), ⟨v, H', os, bare, un, hok', rv, q⟩ =>
      have q2 : v = .bl true := q
      subst q2
      cases rv
      refine ⟨rfl, OldK.of_keep (fun b o e => ?_), os, bare⟩
      rcases hO b with z | ⟨ob, xs, z⟩
      · exact un.keep b o e z (fun z => nomatch z) (fun z => nomatch z)
      · have z1 := (hok b _ z).1
        have z2 := (hok' b _ (un.frzs b ob _ z)).1
        rw [z1] at e
        rw [z2, e]
  have rv := vals_ints hi
  have hlen : (ns.map V.int).length ≤ sizeLine := by rw [List.length_map]; exact hl
  cases hk : K.lookup a with
  | some o =>
    have e := KX a o hk
    rw [ha] at e
    cases e
    exact go (fun _ => none) (fun _ => Or.inl rfl) (Or.inr ⟨_, vs.toArray, _, hk, rfl, rfl, rfl, by rw [List.size_toArray, hi.length]; exact hl, by simpa using rv⟩) (fun b u z => nomatch z) fun b u z => nomatch z
  | none =>
    have at_ : ∀ b u, (if b = a then some (HO.frz { cls := .type "list", data := .seq vs.toArray } (.lst (ns.map V.int))) else none) = some u → b = a ∧ u = .frz { cls := .type "list", data := .seq vs.toArray } (.lst (ns.map V.int)) := by
      intro b u z
      split at z
      · rename_i hb
        exact ⟨hb, (Option.some.inj z).symm⟩
      · cases z
    refine go (fun b => if b = a then some (.frz { cls := .type "list", data := .seq vs.toArray } (.lst (ns.map V.int))) else none) (fun b => ?_) (Or.inl (Or.inr ⟨_, if_pos rfl⟩)) (fun b u z => ?_) fun b u z => ⟨(at_ b u z).1, hk⟩
    · by_cases hb : b = a
      · exact Or.inr ⟨_, _, if_pos hb⟩
      · exact Or.inl (if_neg hb)
    · obtain ⟨rfl, rfl⟩ := at_ b u z
      exact ⟨ha, hlen, vs, _, rv, ha⟩

theorem walk_ofG {l : PySem.W.OpenLaw} {n k : Nat} {q : Program} {loose : List Str} {XP : (Str → Option Value) → Heap → Prop} {YP : World → Heap → Prop} {d : DefRec} {K : Params → PySem.W.Frag} {CX : World → CXT} {sp : World → Sp} {x : Str}
    (hn : l.most = some n) (hn2 : n ≤ sizeLine) (hdf : d.params.defaults = []) (hr : Room k callerA) (hY : ∀ (w : World) (h : Heap), YP w h → (K w.params).In h)
    (F : ∀ (w : World) (mg : Str → Option Value) (fa : Addr) (h : Heap), (K w.params).In h → h.Ns mainGlobals mg → mg d.name = some (.ref fa) →
      ∃ fd : FuncData, (∀ (s : Shared) (u : Value), BindsTo s fd ⟨[u], []⟩ [(x, u)]) ∧ ∀ base : Heap, (K w.params).In base → base.Ns mainGlobals mg → FnG l.prog w (K w.params) mg base (CX w) k fa fd [x] (sp w))
    (hsp : ∀ (w : World) (H : Hp) (a : Addr) (ns : List Int), ns.length ≤ n → (∀ z ∈ ns, Builtin.Int.intBits z ≤ 1048576) → Only H → SqL (K w.params) H a (ns.map V.int) → sp w [.ref a] H (fun v _ => v = .bl true) fun _ _ _ => False)
    (hCX : ∀ (w : World) (H : Hp) (s : Shared) (e : Value) (s' : Shared), CX w [] H s (fun _ _ _ => False) e s' → False) :
    PySem.W.WalkO q loose XP YP l.row.toRowW d [] (fun f vs => PySem.call f vs) := by
  apply Att.attach_callB hn hdf
  intro w s₀ s₁ mg mb fa o pm cd doc a vs ns G Y _ _ _ hmg hobj hints hlen hbits hg
  obtain ⟨fd, hb, hF⟩ := F w mg fa _ (hY w _ Y) G.T.g hmg
  exact law_callG (hY w _ Y) G.T.g G.T.b G.T.builtins G.T.nolimit hg hobj hints (Nat.le_trans hlen hn2) hr hF hb (fun H hO hS => hsp w H a ns hlen hbits hO hS) fun H e s' => hCX w H s₁ e s'
end So

namespace So
open PySem PySem.Spec PyProof.Rows L2
section
variable {K : PySem.W.Frag} {C : Addr}
theorem kit_self : PySem.W.kitOne K (.ref C) (.ref C) = some true := by
  unfold PySem.W.kitOne
  rw [if_pos]
  simp
/-- no built-in type stands below an own class -/
theorem sub_ty {T : String} (h : (fastBuiltinMro T).map (fun l => l.all fun v => match v with | .type _ => true | _ => false) = some true) : PySem.W.subIn K (.type T) (.ref C) = some false := by
  show (fastBuiltinMro T).map (·.contains (.ref C)) = some false
  cases e : fastBuiltinMro T with
  | none => rw [e] at h; cases h
  | some l =>
    rw [e] at h
    have h2 : (l.all fun v => match v with | .type _ => true | _ => false) = true := Option.some.inj h
    show some (l.contains (.ref C)) = some false
    congr 1
    cases c : l.contains (.ref C) with
    | false => rfl
    | true =>
      have m : (Value.ref C) ∈ l := by simpa using c
      have := List.all_eq_true.mp h2 _ m
      cases this
theorem notFirst_ty {T : String} (h : (fastBuiltinMro T).map (fun l => l.all fun v => match v with | .type _ => true | _ => false) = some true) : PySem.W.notFirst K C (.type T) = true := by
  unfold PySem.W.notFirst
  rw [sub_ty h]
  simp
theorem kit_no {T : String} (hc : PySem.W.isClsIn K C = true) (ht : PySem.W.typeIn K (.ref C) = some (.type "type")) (h : (fastBuiltinMro T).map (fun l => l.all fun v => match v with | .type _ => true | _ => false) = some true) : PySem.W.kitOne K (.type T) (.ref C) = some false := by
  unfold PySem.W.kitOne PySem.W.kitCls
  unfold PySem.W.isClsIn at hc
  have hb : ((PySem.W.clsIn K C).isSome && PySem.W.typeIn K (.ref C) == some (.type "type")) = true := by
    rw [hc, ht]
    simp
  have sb := sub_ty (K := K) (C := C) h
  simp [hb, sb]
end
end So

/-! So, on: exceptions that are kept as values. -/
namespace So
open PySem PySem.Spec PyProof.Rows L2
/-- an exception object of the class cls, its dict at d, that stands at a and is nobody's news -/
def Xo (cls : Value) (d : Option Addr) (a : Addr) : HO := .ext fun h => ∃ (oe : Obj) (vs : Array Value), h.get? a = some oe ∧ Zc cls d oe ∧ oe.data = .fields vs
theorem xo_ok {P : Program} {w : World} {H : Hp} {h : Heap} {a : Addr} {cls : Value} {d : Option Addr} {oe : Obj} {vs : Array Value} (e : h.get? a = some oe) (z : Zc cls d oe) (f : oe.data = .fields vs) : ObjOk P w H h a (Xo cls d a) := by
  refine ⟨⟨oe, vs, e, z, f⟩, ⟨oe, e⟩, ?_⟩
  rintro h1 h2 ⟨o, v, q, r⟩ k
  exact ⟨o, v, k o q, r⟩
theorem xo_at {P : Program} {w : World} {H : Hp} {h : Heap} {a : Addr} {cls : Value} {d : Option Addr} (hok : HOk P w H h) (e : H a = some (Xo cls d a)) : ∃ (oe : Obj) (vs : Array Value), h.get? a = some oe ∧ Zc cls d oe ∧ oe.data = .fields vs := by
  have x : ObjOk P w H h a (.ext fun h => ∃ (oe : Obj) (vs : Array Value), h.get? a = some oe ∧ Zc cls d oe ∧ oe.data = .fields vs) := hok a _ e
  exact x.1
section
variable {X : Cx} {pins : List (Addr × Obj)} {σ : L2.St} {H : Hp} {s sI : Shared} {a : Addr} {cls : Value} {d : Option Addr} {oe : Obj} {vs : Array Value}
/-- an exception that has landed is tracked from now on -/
theorem track (J : Inv X pins σ H sI) (hex : X.ex = []) (hI : sI.heap.get? a = none) (I : Inv X pins σ H s) (he : s.heap.get? a = some oe) (hz : Zc cls d oe) (hd : oe.data = .fields vs) (na : H a = none) (nL : a ≠ X.env.locals) :
    Inv X pins σ (upd H a (Xo cls d a)) s := by
  have h0 : ∀ b o, X.s_0.heap.get? b = some o → b ≠ a := by
    rintro b o e rfl
    obtain ⟨o', e'⟩ := J.base.there b o e (by rw [hex]; exact fun z => nomatch z)
    rw [hI] at e'
    cases e'
  have hs : ∀ {b : Addr} {u : HO}, H b = some u → (upd H a (Xo cls d a)) b = some u := fun e => (upd_ne (ne_of_none e na)).trans e
  refine ⟨I.ok, I.os, I.bare, ⟨I.base.keep, I.base.slot, fun b o e n hx => (upd_ne (h0 b o e)).trans (I.base.free b o e n hx), I.base.there, fun b xs q => hs (I.base.tups b xs q), fun b o u q => hs (I.base.frzs b o u q), fun b ps q => ?_⟩,
    I.loc, I.cell, (upd_ne nL.symm).trans I.free, fun x c e => ?_, fun p hp => ?_, fun b u e => ?_, I.len⟩
  · obtain ⟨m, q'⟩ := I.base.tbls b ps q
    exact ⟨m, hs q'⟩
  · refine (upd_ne ?_).trans (I.freeC x c e)
    rintro rfl
    obtain ⟨v, o, ho, hc⟩ := I.cell x c e
    rw [he] at ho
    cases ho
    rw [hd] at hc
    cases hc
  · obtain ⟨p1, p2, p3, p4, p5⟩ := I.pin p hp
    refine ⟨p1, (upd_ne ?_).trans p2, p3, p4, p5⟩
    intro z
    have := (J.pin p hp).1
    rw [z, hI] at this
    cases this
  · by_cases hb : b = a
    · subst hb
      rw [upd_same] at e
      cases e
      exact xo_ok he hz hd
    · rw [upd_ne hb] at e
      exact (I.hok b u e).stay (fun _ _ _ q => q) (fun c q => hs q) fun c xs q => hs q
end

/-! ### try: body, except x as n: suite, the exception kept as a value -/
/-- what such a clause wishes of an exception of the body -/
def wKeep (K : PySem.W.Frag) (c : Value) (i : Nat) (ts : TS) (Wout : WX) (D : Ends) : WX := fun cls d σ H =>
  ∃ b, PySem.W.exmOne K cls c = some b ∧ (b = true → ∀ a, H a = none → ts { nx := fun σ' H' => D.nx (σ'.set i none) H', rt := D.rt, bk := fun σ' H' => D.bk (σ'.set i none) H', ct := fun σ' H' => D.ct (σ'.set i none) H' } (σ.set i (some (.ref a))) (upd H a (Xo cls d a))) ∧
    (b = false → Wout cls d σ H)
section
variable {X : Cx} {x n : Str} {c : Value} {i : Nat} {body suite : List Stmt} {b₀ : Stmt} {np pos pos' : Pos} {tb : WX → TS} {ts : TS} {Wout : WX}
theorem ps_try_keep (hs : X.stack = X.env :: X.outer) (hf : X.env.frame = some X.env.locals) (hex : X.ex = []) (hN : X.N.Nodup) (hi : X.N[i]? = some n) (hln : X.env.kindOf n = some .local) (hc : Names X x c) (tk : Takes X Wout)
    (hb : ∀ (W : WX) (pn : List (Addr × Obj)) (xe : Value → Shared → Prop), Takes (X.tr pn xe) W → PassesOwn (model X.prog X.w) X.A X.env xe → PSs (X.tr pn xe) body (tb W))
    (hsu : ∀ (a : Addr) (pn : List (Addr × Obj)), PSs (X.suite a pn) (b₀ :: suite) ts) :
    PS X (.Try body [.ExceptHandler (some (.Name x np)) (some n) (b₀ :: suite) pos'] [] [] pos) (fun D σ H => tb (wKeep X.K c i ts Wout D) D σ H) := by
  constructor
  intro pins s σ H D I h
  have ok := I.ok
  have hfr : X.A.frames = some (X.env :: X.outer) := ok.frames.trans (congrArg some hs)
  refine wpAny_Try_except (wpAny_mono ((hb (wKeep X.K c i ts Wout D) (X.pn ++ pins) (fun e s₁ => wpAny (model X.prog X.w) X.A (noteFrame e X.env) (fun _ s₂ => wpAny (model X.prog X.w) X.A (setFlight e none) (fun _ s₃ =>
    wpAny (model X.prog X.w) X.A (handleBy e X.env [.ExceptHandler (some (.Name x np)) (some n) (b₀ :: suite) pos']) (SP X pins D) X.xe s₃) X.xe s₂) X.xe s₁) (fun u s' xx => ?_) PassesOwn.looking).run [] s σ H D (I.toTry _) h) (fun f s1 hsp => ?_) fun e s1 he => he)
  · obtain ⟨a, B, sI, pins', σ', H', cls, d, rfl, J', nb, up, sky, na, os, ag, b, hb1, hyes, hno⟩ := xx
    have J : Inv X pins σ' H' sI := J'.ofTry ok
    have sky' : Sky B (X.env :: X.outer) a (Zc cls d) X.env.locals s'.heap := hs ▸ sky
    refine Sky.land Zc.steady hfr hf sky' fun h3 fl3 up3 => ?_
    have J3 : Inv X pins σ' H' { s' with heap := h3 } := J.landed nb fl3.1 (up.trans up3) os ag
    obtain ⟨oe3, vs3, he3, hz3, hd3⟩ := fl3.there
    have nfr : a ∉ frs (X.env :: X.outer) := fun hm => by
      obtain ⟨_, o', e', hnf⟩ := fl3.2.2.1.mem hm
      rw [he3] at e'
      cases e'
      exact hnf _ hd3
    have nL : a ≠ X.env.locals := fun z => nfr (by
      refine List.mem_filterMap.mpr ⟨X.env, List.mem_cons_self, ?_⟩
      rw [hf, z])
    have hBa : B.get? a = none := fl3.2.1
    have hIa : sI.heap.get? a = none := by
      cases e : sI.heap.get? a with
      | none => rfl
      | some o =>
        have := nb a o e (by rw [hs]; exact nfr)
        rw [hBa] at this
        cases this
    refine wpAny_handleBy_cons (codeAny_handlers_test ?_) (by intro q; cases q)
    have LT : PySem.W.Looks (model X.prog X.w) h3 (typeOf (.ref a)) cls := by
      intro A Q E s k q
      refine wpAny_typeOf_ref (k _ _ he3) ?_
      rw [hz3.1]
      exact q
    have LM := PySem.W.exm_one (M := model X.prog X.w) (J3.kIn) LT hb1
    have S0 : ∀ {h4 : Heap}, Inv X pins σ' H' { s' with heap := h4 } → ∀ {o : Obj} {v : Array Value}, h4.get? a = some o → Zc cls d o → o.data = .fields v → Inv (X.suite a (X.pn ++ pins)) [] σ' (upd H' a (Xo cls d a)) { s' with heap := h4 } := by
      intro h4 J4 o v e z dt
      have T := track J hex hIa J4 e z dt na nL
      exact ⟨T.ok.suite _ _, T.os, T.bare, T.base, T.loc, T.cell, T.free, T.freeC, fun p hp => T.pin p (by rwa [List.append_nil] at hp), T.hok, T.len⟩
    have S3 := S0 J3 he3 hz3 hd3
    have test : ∀ {Q : Value → Shared → Prop} {E : Value → Shared → Prop}, Q c { s' with heap := h3 } → wpAny (model X.prog X.w) (X.A.mark (some (.ref a))) (eval (.Name x np) X.env) Q E { s' with heap := h3 } := by
      intro Q E q
      rcases hc with ⟨hg, hdbg, hm | ⟨hm, hv, hnn⟩⟩
      · exact ld_glob (X := X.suite a (X.pn ++ pins)) S3 hg hm q hdbg
      · exact ld_blt (X := X.suite a (X.pn ++ pins)) S3 hg hm hv q hnn hdbg
    refine test (LM.here ?_)
    cases b with
    | true =>
      refine codeAny_handlers_suite_as (HandSPX.lands_againZ fl3 fun h4 fl4 up4 => ?_)
      have J4 : Inv X pins σ' H' { s' with heap := h4 } := J.landed nb fl4.1 ((up.trans up3).trans up4) os ag
      obtain ⟨oe4, vs4, he4, hz4, hd4⟩ := fl4.there
      have S4 := S0 J4 he4 hz4 hd4
      refine store_ok (X := X.suite a (X.pn ++ pins)) (v := .ref a) S4 hN hi (.inl hln) rfl (fun s5 S5 => ?_) (.inr hln)
      refine wpAny_mono ((hsu a (X.pn ++ pins)).run [] s5 _ _ _ S5 (hyes rfl a na)) (fun f s6 hsp => ?_) (fun _ _ z => z.elim)
      have out : ∀ {σ6 : L2.St} {H6 : Hp}, Inv (X.suite a (X.pn ++ pins)) [] σ6 H6 s6 → Inv X pins σ6 H6 s6 := fun S6 =>
        ⟨ok, S6.os, S6.bare, S6.base, S6.loc, S6.cell, S6.free, S6.freeC, fun p hp => S6.pin p (List.mem_append_left _ hp), S6.hok, S6.len⟩
      match f, hsp with
      | .next, ⟨σ6, H6, S6, q6⟩ => exact gone_ok (out S6) hN hi hln fun s7 J7 => ⟨_, _, J7, q6⟩
      | .brk, ⟨σ6, H6, S6, q6⟩ => exact gone_ok (out S6) hN hi hln fun s7 J7 => ⟨_, _, J7, q6⟩
      | .cont, ⟨σ6, H6, S6, q6⟩ => exact gone_ok (out S6) hN hi hln fun s7 J7 => ⟨_, _, J7, q6⟩
      | .ret u, ⟨v6, σ6, H6, S6, r6, q6⟩ => exact gone_ok (out S6) hN hi hln fun s7 J7 => ⟨_, _, _, J7, r6, q6⟩
    | false =>
      refine wpAny_handleBy_nil ?_
      obtain ⟨_, _, _, oe, vs, T, _, _, he, _, hd, h1, _⟩ := id fl3
      unfold PySem.passOn
      refine wpAny_bind (wpAny_field he hd h1 ?_)
      have nn : ¬ ((Value.ref T == Value.none) = true) := by simp
      rw [if_neg nn]
      have fin : wpAny (model X.prog X.w) X.A (setFlight (.ref a) X.env.frame) (fun _ s4 => wpAny (model X.prog X.w) X.A (throw (.ref a) : Sem Flow) (SP X pins D) X.xe s4) X.xe { s' with heap := h3 } := by
        rw [hf]
        refine HandSPX.setFlight_upZ fl3 fun h4 hh4 up4 => wpAny_throw (tk _ _ ⟨a, B, sI, pins, σ', H', cls, d, rfl, J, nb, (up.trans up3).trans up4, ?_, na, os, ag, hno rfl⟩)
        exact Or.inr (Or.inr (hs ▸ hh4))
      first
        | exact wpAny_bind (wpAny_pure (wpAny_bind fin))
        | exact wpAny_bind fin
  · match f, hsp with
    | .next, ⟨σ', H', J', q⟩ => exact wpAny_execs_nil ⟨σ', H', J'.ofTry ok, q⟩
    | .brk, ⟨σ', H', J', q⟩ => exact ⟨σ', H', J'.ofTry ok, q⟩
    | .cont, ⟨σ', H', J', q⟩ => exact ⟨σ', H', J'.ofTry ok, q⟩
    | .ret u, ⟨v, σ', H', J', r, q⟩ => exact ⟨v, σ', H', J'.ofTry ok, r, q⟩
end
end So

namespace So
open PySem PySem.Spec PyProof.Rows L2
/-- what an error class of the program's own says of its instances -/
structure Err (K : PySem.W.Frag) (C : Addr) : Prop where
  ga : PySem.W.findIn K (.ref C) "__getattribute__" = some (some (.builtin "BaseException.__getattribute__"))
  gg : PySem.W.findIn K (.ref C) "__getattr__" = some none
  exC : PySem.W.subIn K (.ref C) (.type "BaseException") = some true
  hdC : PySem.W.hasDictIn K C = true
  ca : PySem.W.findIn K (.ref C) "__class__" = some (some (.builtin "object.__class__"))
  cn : PySem.W.specialIn K (.builtin "object.__class__") "__get__" = some (some (.builtin "getset_descriptor.__get__"))
  ct : PySem.W.takesIn K (.builtin "object.__class__") = some true
  cm : PySem.W.mroIn K C (.type "object") = some true
section
variable {X : Cx}
/-- e.n, e an exception that is kept -/
theorem pe_xo {C : Addr} {e : Expr} {te : TE} {pos : Pos} {n : Str} (T : Err X.K C) (hno : PySem.W.findIn X.K (.ref C) n = some none) (he : PE X e te) (hb : attributeBase e n X.env (eval e X.env) = eval e X.env := by rfl) :
    PE X (.Attribute e n pos) (fun σ H Q => te σ H fun x H1 => ∃ (a dd : Addr) (fs : List (Str × V)) (v : V), x = .ref a ∧ H1 a = some (Xo (.ref C) (some dd) a) ∧ H1 dd = some (.xd fs) ∧ fs.lookup n = some v ∧ Q v H1) := by
  constructor
  intro pins s σ H Q I h
  refine attr_of hb (thn (he.run pins s σ H _ I h) fun u s1 hh => ?_)
  obtain ⟨x, H1, I1, rx, a, dd, fs, v, rfl, ha, ea, l, q⟩ := hh
  cases rx
  obtain ⟨oe, vs, hg, hz, hd⟩ := xo_at I1.hok ha
  obtain ⟨mA, hns, hr⟩ := (show ObjOk X.prog X.w H1 s1.heap dd (.xd fs) from I1.hok dd _ ea)
  obtain ⟨od, ho, hl⟩ := lookIn_ns hns
  have hrn := hr n
  rw [l] at hrn
  obtain ⟨u, hu, ru⟩ := RelO.some_of hrn
  have nc : PySem.W.notCls oe = true := by
    unfold PySem.W.notCls
    rw [hd]
  have J : PySem.W.InstAt s1.heap a oe C (some od) := by
    refine ⟨hg, hz.1, nc, ?_⟩
    rw [hz.2]
    exact ho
  have fo := PySem.W.findObj_own (K := X.K) (C := C) (od := od) (name := n) (v := u) T.hdC hno rfl (by rw [hl, hu])
  exact HandSPX.exc_get I1.kIn J T.ga T.gg T.exC fo (handed_of ru) ⟨v, H1, I1.tok _, ru, q⟩
end
/-! ### isinstance of a kept exception -/
section
open PySem.W PySem.Calls
variable {prog : Program} {w : World} {A : Around} {E : Value → Shared → Prop} {K : Frag} {x D : Addr} {ox : Obj} {od : Option Obj}
theorem err_class {Q : Option Value → Shared → Prop} (T : Err K D) (hp : Heap) (g : Array GenState) (dr : Drawn) (t : Nat) (os : OsState) (X : K.In hp) (I : InstAt hp x ox D od)
    (h : Q (some (.ref D)) ⟨hp, g, dr, t + 1, os⟩) : wpAny (model prog w) A (getAttr? (.ref x) "__class__") Q E ⟨hp, g, dr, t, os⟩ := by
  have isc : (clsIn K D).isSome = true := by
    obtain ⟨cd, hc, _⟩ := any_some T.hdC
    rw [hc]
    rfl
  have hf : findObj K D od "__class__" = some (.bind (.builtin "getset_descriptor.__get__") (.builtin "object.__class__")) := by
    cases od with
    | none => exact findObj_dataN isc T.ca T.cn T.ct
    | some o => exact findObj_data isc T.ca T.cn T.ct
  have k0 := I.type (M := model prog w)
  have k1 := looks_findIn (M := model prog w) X T.ga
  have k2 := looks_findIn (M := model prog w) X T.gg
  have k3 := looks_find (M := model prog w) X I hf
  have below : Looks (model prog w) hp (isInstance (.ref x) (.type "BaseException")) true := k0.andThen (looks_subIn X T.exC)
  have ne : (Value.builtin "BaseException.__getattribute__" == Value.builtin "object.__getattribute__") = false := by decide +kernel
  have both : (onTheHeap (Value.ref D) && Value.builtin "BaseException.__getattribute__" == Value.builtin "object.__getattribute__") = false := by
    rw [ne]
    exact Bool.and_false _
  have own : onTheHeap (Value.ref D) = true := rfl
  have noheap : (false && onTheHeap (Value.builtin "BaseException.__getattribute__")) = false := rfl
  unfold getAttr? getAttrBy? getAttrBy
  apply wpAny_bind
  apply wpAny_mkText
  apply wpAny_bind
  apply wpAny_attempt
  apply wpAny_holding
  apply wpAny_bind
  apply k0.at
  apply wpAny_bind
  apply k1.at
  show wpAny _ _ (ite ((onTheHeap (Value.ref D) && Value.builtin "BaseException.__getattribute__" == Value.builtin "object.__getattribute__") = true) _ _) _ _ _
  rw [both, if_neg (by decide)]
  unfold getAttrByItsOwn hookBefore
  apply wpAny_bind
  rw [if_pos own]
  apply k2.at
  apply wpAny_bind
  apply wpAny_attempt
  apply wpAny_holding
  unfold callGetattribute
  rw [noheap, if_neg (by decide)]
  unfold boundAndCalled
  rw [F.excAttr_ValueError.ga.bind (.ref x)]
  apply wpAny_bind
  apply wpAny_pure
  show wpAny _ _ (call (.builtin "BaseException.__getattribute__") [.ref x, .str "__class__" t]) _ _ _
  apply wpAny_call
  refine codeAny_call_builtin F.excAttr_ValueError.ga.plain F.entry_bexc_ga (@check_slot (model prog w) _ _ ⟨hp, g, dr, t + 1, os⟩ "BaseException.__getattribute__" "BaseException" "__getattribute__" (.ref x) [.str "__class__" t] [] _ (by decide +kernel) (by decide +kernel) below (F.args_bexc_ga (.ref x) (.str "__class__" t)) ?_)
  unfold Builtin.«object.__getattribute__»
  apply wpAny_bind
  refine wpAny_of_eq (a := ((Value.ref x : Value), [Value.str "__class__" t])) (by first | rfl | (simp only [slotArgs]; rfl)) ?_
  apply wpAny_bind
  apply wpAny_pure
  apply wpAny_bind
  apply k0.at
  apply wpAny_bind
  apply k3.at
  show wpAny _ _ (holding [Value.builtin "object.__class__"] (call (.builtin "getset_descriptor.__get__") [.builtin "object.__class__", .ref x, .ref D]) >>= ret) _ _ _
  apply wpAny_bind
  apply wpAny_holding
  apply wpAny_call
  refine class_get (s := ⟨hp, g, dr, t + 1, os⟩) (ox := ox) (od := od) X I T.cm (wpAny_pure ?_)
  show wpAny _ _ (handedOut (.ref D)) _ _ _
  rw [handedOut_of (v := .ref D) rfl]
  first
    | exact wpAny_pure (wpAny_pure h)
    | exact wpAny_pure h
    | exact wpAny_pure (wpAny_bind (wpAny_pure (wpAny_pure h)))
theorem kitx_err (T : Err K D) : KitX K (.ref x) (.ref D) (fun h => ∃ ox od, InstAt h x ox D od) where
  ty := fun _ _ _ ⟨_, _, I⟩ => I.type
  it := fun _ _ X _ => by
    obtain ⟨cd, hc, _⟩ := any_some T.hdC
    unfold clsIn at hc
    split at hc
    · rename_i ho
      intro A' Q' E' s' k q
      unfold isType loadHead
      exact wpAny_bind (wpAny_loadPart (k _ _ (X _ _ ho)) (wpAny_pure q))
    · cases hc
  ne := fun h tp dd its n sl X htp => by
    cases q : (Value.ref D == Value.ref tp) with
    | false => rfl
    | true =>
      have e : D = tp := Value.ref.inj (beq_iff_eq.mp q)
      subst e
      obtain ⟨cd, hc, _⟩ := any_some T.hdC
      unfold clsIn at hc
      split at hc
      · rename_i ho
        have z := (X _ _ ho).symm.trans htp
        cases z
      · cases hc
  ca := fun {prog w A E Q s} X I k => by
    obtain ⟨ox, od, I⟩ := I
    obtain ⟨hp, g, dr, t, os⟩ := s
    exact err_class T hp g dr t os X I k
end
section
variable {X : Cx}
/-- isinstance(e, c), e a kept exception, c one class -/
theorem call_isXo : CallR X (.builtin "isinstance") (fun xs H Q => ∃ (a D dd : Addr) (fs : List (Str × V)) (c : V) (u : Value) (b : Bool), xs = [.ref a, c] ∧ H a = some (Xo (.ref D) (some dd) a) ∧ H dd = some (.xd fs) ∧ Err X.K D ∧ ClsV c u ∧ PySem.W.kitOne X.K (.ref D) u = some b ∧ Q (.bl b) H) := by
  intro pins s σ H xs us Q I r h
  obtain ⟨a, D, dd, fs, c, u, b, rfl, ha, hd, T, cv, e, q⟩ := h
  obtain ⟨u1, u2, rfl, r1, r2⟩ := vals2 r
  cases r1
  have e2 := cv.eq r2
  subst e2
  obtain ⟨oe, vs, hg, hz, hdat⟩ := xo_at I.hok ha
  obtain ⟨mA, hns, _⟩ := (show ObjOk X.prog X.w H s.heap dd (.xd fs) from I.hok dd _ hd)
  obtain ⟨od, ho, _⟩ := lookIn_ns hns
  have nc : PySem.W.notCls oe = true := by
    unfold PySem.W.notCls
    rw [hdat]
  have J : PySem.W.InstAt s.heap a oe D (some od) := by
    refine ⟨hg, hz.1, nc, ?_⟩
    rw [hz.2]
    exact ho
  exact PySem.W.kia_one (kitx_err T) I.kIn ⟨oe, some od, J⟩ e (fun z => nomatch z) fun tk => ⟨.bl b, H, I.tok tk, rfl, q⟩
end
end So

namespace So
open PySem PySem.Spec PyProof.Rows L2
/-- C.m is a static method: its record at p, its def at g -/
structure Sta (K : PySem.W.Frag) (C : Addr) (mc : Value) (m : Str) (p g : Addr) : Prop where
  rd : PySem.W.readsIn K C mc = true
  ga : PySem.W.specialIn K (.ref C) "__getattribute__" = some (some (.builtin "type.__getattribute__"))
  at_ : PySem.W.findCls K (.ref C) mc m = some (.get (.builtin "staticmethod.__get__") (.ref p) .none (.ref C))
  rc : ∃ rest, PySem.W.recIn K p "staticmethod" = some (.ref g :: rest)
  kp : PySem.W.keepIn K (.ref g) = true
section
variable {X : Cx} {CX : CXT} {k : Nat} {C f p0 : Addr} {mc : Value} {fd : FuncData} {ps ks : List Str} {sp : Sp} {E : XK} {m : Str} {pos apos : Pos} {e o : Expr} {es : List Expr} {kws : List Keyword} {ta : TE} {t tk : TA}
theorem getsta_ok {pins : List (Addr × Obj)} {σ : L2.St} {H : Hp} {s : Shared} {pl : Sem Bool} {A : Around} {E' : Value → Shared → Prop} {Q : Value × List Value → Shared → Prop} (I : Inv X pins σ H s) (S : Sta X.K C mc m p0 f) (h : ∀ s', Inv X pins σ H s' → Q (.ref f, []) s') :
    wpAny (model X.prog X.w) A (getMethod (.ref C) m pl) Q E' s := by
  obtain ⟨rest, hp⟩ := S.rc
  refine PySem.W.method_cls I.kIn S.ga (PySem.W.cls_bind I.kIn S.rd S.at_ (wpAny_call (PySem.W.sm_get (s := { s with toks := s.toks + 1 }) I.kIn hp (PySem.W.handed_on rfl ?_))))
  exact h _ (I.tok _)
/-- C.m(e, ..), m static -/
theorem pe_sta {pl : Sem Bool} (he : PE X o ta) (S : Sta X.K C mc m p0 f) (F : FnOk X.prog X.w X.K X.mg X.base CX k f fd ps sp) (hr : Room k X.A) (hb : Binds X.K fd ps []) (hx : Passes CX X E) (ha : PA X (e :: es) t)
    (hst : starEach (e :: es) X.env = (false, eval e X.env) :: starEach es X.env := by rfl) (hpl : (backTo pos (starEach es X.env)).any (·.1) = false := by rfl)
    (ht : eval (.Call (.Attribute o m apos) (e :: es) [] pos) X.env = (do
      let ov ← eval o X.env
      standAt apos.atName
      let fx ← holding [ov] (getMethod ov m pl)
      callWith pos fx.1 fx.2 (backTo pos (starEach (e :: es) X.env)) (backToKw pos (keywordEach [] X.env))) := by rfl) :
    PE X (.Call (.Attribute o m apos) (e :: es) [] pos) (fun σ H Q => ta σ H fun x H1 => x = .ref C ∧ t σ H1 fun vs H2 => sp vs H2 Q E) := by
  constructor
  intro pins s σ H Q I h
  refine PySem.W.methodCall_KW (pl := pl) (thn (he.run pins s σ H _ I h) fun u s1 z => ?_) ht
  obtain ⟨x, H1, I1, rx, rfl, q⟩ := z
  cases rx
  refine getsta_ok I1 S fun s2 I2 => PySem.W.callWith_K (first := []) (h₀ := X.base) I2.ok.mod.kin S.kp (thn (ha.run pos pins s2 σ H1 _ I2 q) fun us s3 z => ?_) hst hpl
  obtain ⟨vs, H2, I3, r, q2⟩ := z
  refine ⟨I3.kIn, ?_⟩
  have q3 : sp (vs ++ []) H2 Q E := by
    rw [List.append_nil]
    exact q2
  exact run_fn F hr hb .nil hx I3 r q3
/-- C.m(k = v, ..), m static, keywords alone -/
theorem pe_staK {g : List Value → List Value → List Value} {gV : List V → List V → List V} {pl : Sem Bool} (he : PE X o ta) (S : Sta X.K C mc m p0 f) (F : FnOk X.prog X.w X.K X.mg X.base CX k f fd ps sp) (hr : Room k X.A) (hb : KBinds X.K fd ps ks g gV) (hx : Passes CX X E)
    (hkw : PK X kws tk) (hall : (backToKw pos (keywordEach kws X.env)).all (·.1.isSome) = true := by rfl) (hks : (backToKw pos (keywordEach kws X.env)).filterMap (·.1) = ks := by rfl)
    (hpl : ((backTo pos (starEach [] X.env)).any (·.1) || (backToKw pos (keywordEach kws X.env)).any (·.1.isNone)) = false := by rfl)
    (ht : eval (.Call (.Attribute o m apos) [] kws pos) X.env = (do
      let ov ← eval o X.env
      standAt apos.atName
      let fx ← holding [ov] (getMethod ov m pl)
      callWith pos fx.1 fx.2 (backTo pos (starEach [] X.env)) (backToKw pos (keywordEach kws X.env))) := by rfl) :
    PE X (.Call (.Attribute o m apos) [] kws pos) (fun σ H Q => ta σ H fun x H1 => x = .ref C ∧ tk σ H1 fun zs H2 => sp (gV [] zs) H2 Q E) := by
  constructor
  intro pins s σ H Q I h
  refine PySem.W.methodCall_KW (pl := pl) (thn (he.run pins s σ H _ I h) fun u s1 z => ?_) ht
  obtain ⟨x, H1, I1, rx, rfl, q⟩ := z
  cases rx
  refine getsta_ok I1 S fun s2 I2 => PySem.W.callWith_KW0 (first := []) (h₀ := X.base) I2.ok.mod.kin S.kp hall (thn (hkw.run pos pins s2 σ H1 _ I2 q) fun ws s3 z => ?_) hpl
  obtain ⟨zs, H2, I3, rz, q2⟩ := z
  refine ⟨I3.kIn, ?_⟩
  rw [hks]
  exact run_fnk (us := []) (vs := []) F hr hb hx I3 .nil rz q2
/-- ~o by an own __invert__ -/
theorem un_invOwn (F : FnOk X.prog X.w X.K X.mg X.base CX k f fd ps sp) (hs : PySem.W.findIn X.K (.ref C) "__invert__" = some (some (.ref f))) (hf : PySem.W.isFn X.K (.ref f) = true) (hb : Binds X.K fd ps []) (hx : Passes CX X E) (hr : Room k X.A) :
    UnR X (unaryOp .Invert) (fun x H Q => ∃ a dx fs, x = .ref a ∧ H a = some (.ins C dx fs) ∧ sp [.ref a] H Q E) := by
  intro pins s σ H x v Q I rx h
  obtain ⟨a, dx, fs, rfl, ha, q⟩ := h
  cases rx
  obtain ⟨mA, J, _⟩ := ins_get I.hok ha
  obtain ⟨od, J, _⟩ := J.look
  obtain ⟨m, hF⟩ := I.fr
  refine PySem.W.ksp_inv hF I.ok.mod.kin J hs hf ?_
  exact run_fn (us := [.ref a]) (vs := [.ref a]) F hr hb .nil hx I (.cons rfl .nil) q
end
end So

namespace So
open PySem PySem.Spec PyProof.Rows L2
/-! ### own errors with one field -/
/-- the __init__ of such an error: the field is what was passed -/
def spOneE (C : Addr) (n : Str) : Sp := fun vs H Q _ => ∃ (a : Addr) (v : V), vs = [.ref a, v] ∧ H a = some (exo a C none) ∧ ∀ dx, H dx = none → dx ≠ a → Q .non (upd (upd H dx (exd dx [(n, v)])) a (exo a C (some dx)))
/-- what the top says of such an error: its class at C, named x, its field n, its __init__ at f -/
structure OneE (K : PySem.W.Frag) (mg : Str → Option Value) (x n : Str) (C f : Addr) (fd : FuncData) : Prop where
  T : OexC K C
  iC : PySem.W.findIn K (.ref C) "__init__" = some (some (.ref f))
  tI : PySem.W.typeIn K (.ref f) = some (.type "function")
  mgC : mg x = some (.ref C)
  no : PySem.W.findIn K (.ref C) n = some none
  err : Err K C
  hb : Binds K fd ["self", n] []
/-- behind C(v) -/
theorem mkOne {C : Addr} {n : Str} {vs : List V} {v : V} {H1 : Hp} {Q : XK} (e : vs = [v]) (h : ∀ d H', Same H1 H' → H1 d = none → H' d = some (.xd [(n, v)]) → Q (.ref C) (some d) H') :
    vs.length ≤ 1000 ∧ ∀ a, H1 a = none → spOneE C n (.ref a :: (vs ++ [])) (upd H1 a (exo a C none))
      (fun v H2 => v = .non ∧ ∃ (d : Addr) (fs : List (Str × V)), H2 a = some (exo a C (some d)) ∧ H2 d = some (exd d fs) ∧ H1 d = none ∧ Q (.ref C) (some d) (upd (del H2 a) d (.xd fs))) (fun _ _ _ => False) := by
  subst e
  refine ⟨by show 1 ≤ 1000; decide, fun a ha => ⟨a, v, rfl, upd_same, fun dx hdx ne => ⟨rfl, dx, [(n, v)], upd_same, ?_, ?_, h dx _ (fun b o hb => ?_) ?_ upd_same⟩⟩⟩
  · rw [upd_ne ne, upd_same]
  · rw [upd_ne ne] at hdx
    exact hdx
  · rw [upd_ne ne] at hdx
    have hba : b ≠ a := ne_of_none hb ha
    have hbd : b ≠ dx := ne_of_none hb hdx
    rw [upd_ne hbd, del_ne hba, upd_ne hba, upd_ne hbd, upd_ne hba]
    exact hb
  · rw [upd_ne ne] at hdx
    exact hdx
section
variable {X : Cx} {x n : Str} {C f : Addr} {fd : FuncData} {ta : TA} {e : Expr} {p pos pos2 : Pos}
theorem pmk_one (O : OneE X.K X.mg x n C f fd) (F : FnOk X.prog X.w X.K X.mg X.base CX0 1 f fd ["self", n] (spOneE C n)) (hr : Room 2 X.A) (hg : Gl X x) (ha : PA X [e] ta)
    (hdb : (x == ("__debug__" : Str)) = false := by decide) (he : starEach [e] X.env = (false, eval e X.env) :: starEach [] X.env := by rfl) (hpl : (backTo pos (starEach [] X.env)).any (·.1) = false := by rfl) :
    PMk X (.Call (.Name x p) [e] [] pos) (tMkO C (spOneE C n) [] ta) :=
  pmk_oex O.T O.iC O.tI F hr O.hb .nil (fun _ _ _ _ _ _ _ h => h.elim) hg O.mgC ha hdb he hpl
/-- raise C(e) -/
theorem ps_raiseOne {W : WX} (O : OneE X.K X.mg x n C f fd) (F : FnOk X.prog X.w X.K X.mg X.base CX0 1 f fd ["self", n] (spOneE C n)) (hc : X.calm = true) (hr : Room 2 X.A) (tk : Takes X W) (hg : Gl X x) (ha : PA X [e] ta)
    (hdb : (x == ("__debug__" : Str)) = false := by decide) (he : starEach [e] X.env = (false, eval e X.env) :: starEach [] X.env := by rfl) (hpl : (backTo pos (starEach [] X.env)).any (·.1) = false := by rfl) :
    PS X (.Raise (some (.Call (.Name x p) [e] [] pos)) none pos2) (fun _ σ H => tMkO C (spOneE C n) [] ta σ H fun cls d H' => W cls d σ H') := ps_raise hc tk (pmk_one O F hr hg ha hdb he hpl)
end

/-! ### repr of data, of a tuple of a text and an empty dict -/
section
variable {X : Cx}
theorem call_reprT (hg : X.A.guards = some []) (hu : X.A.units + 64 < cLine) : CallR X (.builtin "repr") (fun xs H Q => ∃ (r a : Addr) (w : Str), xs = [.ref r] ∧ SqT X.K H r [.str w, .ref a] ∧ H a = some (.dK []) ∧ (PyData.tuple [.str w, .dict []]).shown.length ≤ sizeLine ∧ Q (.str (PyData.tuple [.str w, .dict []]).shown) H) := by
  intro pins s σ H xs us Q I r h
  obtain ⟨rr, a, w, rfl, ht, ha, hz, q⟩ := h
  obtain ⟨u, rfl, rv⟩ := vals1 r
  cases rv
  obtain ⟨its, rw', ⟨o, ho, hc, n, hd⟩, _⟩ := I.tuple ht
  obtain ⟨hz2, hsm, vs, hk, hD⟩ : ([] : List (Key × V)).length ≤ sizeLine ∧ (a == sysModules) = false ∧ ∃ vs, KV [] vs ∧ s.heap.DictOf (mixKind X.prog X.w) a vs := I.hok a _ ha
  obtain ⟨u1, u2, rfl, r1, r2⟩ := vals2 rw'
  obtain ⟨t1, rfl⟩ := r1
  cases r2
  obtain ⟨o2, es, ep, e1, e2, e3, _, e5, _⟩ := hD
  cases hk
  have es0 : es.toList = [] := by
    cases h : es.toList with
    | nil => rfl
    | cons y ys =>
      rw [h] at e5
      cases e5
  have rdD : Reads s.heap (.ref a) (.dict []) (a :: [] ++ []) := Reads.dict (kvs := []) e1 e2.1 e3 (by rw [es0]; exact ReadsAll.nil) (by rw [es0]; exact ReadsAll.nil)
  have rd : Reads s.heap (.ref rr) (.tuple [.str w, .dict []]) ([] ++ ((a :: [] ++ []) ++ [])) := Reads.tuple ho hc hd (ReadsAll.cons (Reads.str w t1) (ReadsAll.cons rdD ReadsAll.nil))
  refine repr_of_reads' rd rfl (fun _ z => ?_) hg (by show X.A.units + (2 + 1) < cLine; omega) (fun _ _ e => e) (fun h' t tk k => ?_) hz
  · have : sysModules = a := by simpa using z
    rw [this] at hsm
    simp at hsm
  · exact ⟨.str _, H, I.kept k, ⟨t, rfl⟩, q⟩
theorem CallR.or {b : Value} {r r' : List V → Hp → VK → Prop} (h : CallR X b r) (h' : CallR X b r') : CallR X b (fun xs H Q => r xs H Q ∨ r' xs H Q) := by
  intro pins s σ H xs us Q I rv q
  exact q.elim (h pins s σ H xs us Q I rv) (h' pins s σ H xs us Q I rv)
end
end So

namespace K30
open PySem PySem.Spec PyProof.Rows L2 So
/-! ### the text -/
def topS (i : Nat) : Stmt := PySem.Challenge.pw_soundtill_k30_histories_written.main.body.getD i (.Pass ⟨0, 0, 0, 0⟩)
abbrev sPen : Stmt := topS 26
abbrev sDraw : Stmt := topS 27
abbrev sPick : Stmt := topS 28
theorem scPen : FnScope ["_law_script"] ["_law_script"] (defScope sPen) := ⟨rfl, rfl, rfl, by decide +kernel, rfl, by decide +kernel, by decide +kernel⟩
theorem scDraw : FnScope ["_law_pen_here", "_law_many", "_law_digit", "_law_at", "_law_cell", "_law_great", "_law_mixed"] ["_law_pen_here", "_law_many"] (defScope sDraw) := ⟨rfl, rfl, rfl, by decide +kernel, rfl, by decide +kernel, by decide +kernel⟩
theorem scPick : FnScope ["_law_pen_here", "_law_some"] ["_law_pen_here", "_law_some"] (defScope sPick) := ⟨rfl, rfl, rfl, by decide +kernel, rfl, by decide +kernel, by decide +kernel⟩

/-! ### the pen -/
/-- the pen at p: the cells at l, how many were begun, what is left of a great one -/
structure Pen (H : Hp) (p l : Addr) (ns : List Int) (n : Nat) (g : Int) : Prop where
  pen : H p = some (.lst [.ref l, .int n, .int g])
  cells : H l = some (.lst (ns.map V.int))
  left : 0 ≤ g
/-- all that was tracked beside p is as it was -/
def Off (p : Addr) (H H' : Hp) : Prop := ∀ b o, b ≠ p → H b = some o → H' b = some o
theorem Off.refl {p : Addr} {H : Hp} : Off p H H := fun _ _ _ e => e
theorem Off.trans {p : Addr} {H H1 H2 : Hp} (a : Off p H H1) (b : Off p H1 H2) : Off p H H2 := fun c o n e => b c o n (a c o n e)
theorem Off.upd {p : Addr} {H H1 : Hp} {o : HO} (a : Off p H H1) : Off p H (upd H1 p o) := fun c u n e => by
  rw [upd_ne n]
  exact a c u n e
theorem Off.new {p q : Addr} {H H1 : Hp} {o : HO} (a : Off p H H1) (h : H1 q = none) : Off p H (L2.upd H1 q o) := fun c u n e => by
  have e1 := a c u n e
  rw [upd_ne (ne_of_none e1 h)]
  exact e1
theorem dp_ints {K : PySem.W.Frag} {H : Hp} : ∀ ns : List Int, DpAll K H (ns.map V.int) (ns.map PyData.int)
  | [] => .nil
  | n :: r => .cons (.int n) (dp_ints r)
theorem depth_ints : ∀ ns : List Int, PyData.depthAll (ns.map PyData.int) ≤ 1
  | [] => by simp [PyData.depthAll]
  | n :: r => by
    have h := depth_ints r
    simp only [List.map_cons, PyData.depthAll, PyData.depth]
    omega
theorem shaped_ints (ns : List Int) : SeqAt.shaped (.list (ns.map PyData.int)) = true := by
  unfold SeqAt.shaped
  rw [Bool.and_eq_true]
  have hd := depth_ints ns
  refine ⟨?_, decide_eq_true ?_⟩
  · show PyData.canLay0 _ = true
    simp only [PyData.canLay0]
    induction ns with
    | nil => rfl
    | cons a r ih => simpa [PyData.canLayAll0, PyData.canLay0] using ih (depth_ints r)
  · simp only [PyData.depth]
    omega
theorem Pen.apart {H : Hp} {p l : Addr} {ns : List Int} {n : Nat} {g : Int} (h : Pen H p l ns n g) : l ≠ p := by
  refine ne_of h.cells h.pen (fun z => ?_)
  injection z with z
  cases ns with
  | nil => cases z
  | cons a r => cases z
theorem eqv_nil (ds : List PyData) : PyData.eqv (.list ds) (.list []) = ds.isEmpty := by
  cases ds <;> simp [PyData.eqv, PyData.eqvAll]
section
variable {P : Program} {w : World} {K : PySem.W.Frag} {mg : Str → Option Value} {base : Heap}
def spDraw : Sp := fun vs H Q _ => ∃ (p l : Addr) (ns : List Int) (n : Nat) (g many : Int), vs = [.ref p, .int many] ∧ Pen H p l ns n g ∧ n < 1000000 ∧ 0 < many ∧ many.natAbs < 2 ^ 200 ∧
  ∀ (d : Int) (n' : Nat) (g' : Int) (H' : Hp), 0 ≤ d → d < many → n' ≤ n + 1 → Off p H H' → Pen H' p l ns n' g' → Q (.int d) H'
theorem ok_draw {f : Addr} {fd : FuncData} (F : Fun K "_law_draw" "_law_draw" sDraw f fd) (ml : mg "len" = none) (mi : mg "int" = none) (ma : mg "abs" = none) : FnOk P w K mg base CX0 1 f fd ["_law_pen_here", "_law_many"] spDraw := by
  refine F.ok scDraw (fun vs H Q E h => ?_) (fun cdv A outer s H vs Q E hr h => ?_)
  · obtain ⟨p, l, ns, n, g, many, rfl, _⟩ := h
    rfl
  · obtain ⟨p, l, ns, n, g, many, rfl, hp, hn, hm, hm2, q⟩ := h
    refine ⟨_, pss_cons (ps_if (pt_cmpR op_gt (pe_ix ix_list (pv 0) pe_int (fun _ _ => rfl)) pe_int (nomark _))
        (pss_cons (ps_set (i := 2) scDraw.nd rfl (.inl rfl) (pe_op op_mod (pe_callTy call_int1 (by rfl) mi (by decide +kernel) (pa_cons (pe_ix ix_list (pv 0) pe_int (fun _ _ => rfl)) pa_nil)) (pv 1)))
        (pss_cons (ps_asg (pe_op op_fdivW (pe_callTy call_int1 (by rfl) mi (by decide +kernel) (pa_cons (pe_ix ix_list (pv 0) pe_int (fun _ _ => rfl)) pa_nil)) (pv 1)) (pg_sub (pv 0) pe_int set_list))
        (pss_one (ps_ret (pv 2))))) pss_nil)
      (pss_cons (ps_set (i := 3) scDraw.nd rfl (.inl rfl) (pe_ix ix_list (pv 0) pe_int (fun _ _ => rfl)))
      (pss_cons (ps_asg (pe_op op_add (pv 3) pe_int) (pg_sub (pv 0) pe_int set_list))
      (pss_cons (ps_set (i := 4) scDraw.nd rfl (.inl rfl) (pe_op op_add (pe_op op_mul pe_int (pv 3)) pe_int))
      (C8.pss_cut (ps_if (pt_cmpR (op_neD (by have := hr.units; exact this)) (pe_ix ix_list (pv 0) pe_int (fun _ _ => rfl)) (pe_lst pa_nil) (nomark _))
        (pss_one (ps_set (i := 4) scDraw.nd rfl (.inl rfl) (pe_ix ix_list (pe_ix ix_list (pv 0) pe_int (fun _ _ => rfl)) (pe_op op_mod (pe_callTy call_int1 (by rfl) mi (by decide +kernel) (pa_cons (pv 3) pa_nil)) (pe_callB call_len_seq (by rfl) ml PySem.boot_len (pa_cons (pe_ix ix_list (pv 0) pe_int (fun _ _ => rfl)) pa_nil))) (fun _ _ => rfl)))) pss_nil)
      (pss_cons (ps_if (PW.pt (pw_and (pt_cmpR op_lt (pv 3) (pe_callB call_len_seq (by rfl) ml PySem.boot_len (pa_cons (pe_ix ix_list (pv 0) pe_int (fun _ _ => rfl)) pa_nil)) (nomark _))
            (pw_and1 (pt_cmpR op_ge (pe_callB call_abs (by rfl) ma (by decide +kernel) (pa_cons (pv 4) pa_nil)) (pe_op op_pow pe_int pe_int) (nomark _)))))
        (pss_cons (ps_set (i := 5) scDraw.nd rfl (.inl rfl) (pe_op op_add (pe_op op_mul pe_int (pe_op op_sub (pe_callB call_abs (by rfl) ma (by decide +kernel) (pa_cons (pv 4) pa_nil)) (pe_op op_pow pe_int pe_int)))
            (pe_callTy call_int1 (by rfl) mi (by decide +kernel) (pa_cons (pe_cmpR op_lt (pv 4) pe_int (nomark _)) pa_nil))))
        (pss_cons (ps_asg (pe_op op_fdivW (pe_callTy call_int1 (by rfl) mi (by decide +kernel) (pa_cons (pv 5) pa_nil)) (pv 1)) (pg_sub (pv 0) pe_int set_list))
        (pss_one (ps_ret (pe_op op_mod (pe_callTy call_int1 (by rfl) mi (by decide +kernel) (pa_cons (pv 5) pa_nil)) (pv 1)))))) pss_nil)
      (pss_cons (ps_set (i := 6) scDraw.nd rfl (.inl rfl) (pe_op op_mod (pe_callTy call_int1 (by rfl) mi (by decide +kernel) (pa_cons
          (pe_op op_pow (pe_op op_add (pe_op op_add (pe_op op_mod (pe_callTy call_int1 (by rfl) mi (by decide +kernel) (pa_cons (pv 4) pa_nil)) pe_int) (pe_op op_mul pe_int (pv 3))) pe_int) pe_int) pa_nil)) pe_int))
      (pss_cons (ps_set (i := 6) scDraw.nd rfl (.inl rfl) (pe_op op_mod (pe_callTy call_int1 (by rfl) mi (by decide +kernel) (pa_cons
          (pe_op op_pow (pe_op op_add (pe_op op_add (pe_op op_mul (pv 6) (pe_op op_add (pe_op op_mul pe_int (pv 3)) pe_int)) (pe_op op_mul (pe_op op_mul pe_int (pv 3)) (pv 3))) pe_int) pe_int) pa_nil)) pe_int))
      (pss_one (ps_ret (pe_op op_mod (pe_callTy call_int1 (by rfl) mi (by decide +kernel) (pa_cons (pe_op op_fdiv (pv 6) pe_int) pa_nil)) (pv 1))))))))))), ?_⟩
    have hP : SqL K H p [.ref l, .int n, .int g] := SqL.of hp.pen
    refine ⟨_, rfl, p, _, 2, _, rfl, rfl, hP, atI_nat (j := 2) rfl, _, _, rfl, rfl, _, rfl, ite2 (fun e => ?_) (fun e => ?_)⟩
    · refine ⟨_, rfl, p, _, 2, _, rfl, rfl, hP, atI_nat (j := 2) rfl, .inl ⟨_, rfl, _, rfl, _, _, rfl, rfl, hm, ?_⟩⟩
      refine ⟨_, rfl, p, _, 2, _, rfl, rfl, hP, atI_nat (j := 2) rfl, .inl ⟨_, rfl, _, rfl, _, _, rfl, rfl, wide_div hm hm2 (by decide) (by decide), _, rfl, p, _, 2, 2, rfl, rfl, hp.pen, rfl, ?_⟩⟩
      refine ⟨_, rfl, q _ n (g / many) _ (Int.emod_nonneg _ (Int.ne_of_gt hm)) (Int.emod_lt_of_pos _ hm) (by omega) Off.refl.upd ⟨upd_same, (upd_ne hp.apart).trans hp.cells, Int.ediv_nonneg hp.left (Int.le_of_lt hm)⟩⟩
    · refine ⟨_, rfl, p, _, 1, _, rfl, rfl, hP, atI_nat (j := 1) rfl, ?_⟩
      refine ⟨_, rfl, _, _, rfl, rfl, _, rfl, p, _, 1, 1, rfl, rfl, hp.pen, rfl, ?_⟩
      have hP1 : (upd H p (.lst [.ref l, .int (n + 1), .int g])) p = some (.lst [.ref l, .int (n + 1), .int g]) := upd_same
      have hL1 : (upd H p (.lst [.ref l, .int (n + 1), .int g])) l = some (.lst (ns.map V.int)) := (upd_ne hp.apart).trans hp.cells
      have hO1 : Off p H (upd H p (.lst [.ref l, .int (n + 1), .int g])) := Off.refl.upd
      refine ⟨_, rfl, _, _, rfl, rfl, .inl ⟨by decide, by decide⟩, _, _, rfl, rfl, ?_⟩
      refine ⟨fun σ' H2 => ∃ c : Int, σ' = [some (.ref p), some (.int many), none, some (.int n), some (.int c), none, none] ∧ H2 p = some (.lst [.ref l, .int (n + 1), .int g]) ∧ H2 l = some (.lst (ns.map V.int)) ∧ Off p H H2, ?_, ?_⟩
      · refine ⟨_, rfl, p, _, 0, _, rfl, rfl, SqL.of hP1, atI_nat (j := 0) rfl, Nat.zero_le _, fun z hz => ?_⟩
        have hP2 := (upd_ne (o := .lst []) (ne_of_none hP1 hz)).trans hP1
        have hL2 := (upd_ne (o := .lst []) (ne_of_none hL1 hz)).trans hL1
        refine ⟨.list (ns.map PyData.int), .list [], .lst (SqL.of hL2) (dp_ints ns), .lst (SqL.of upd_same) .nil, shaped_ints ns, by decide, _, rfl, ite2 (fun e1 => ?_) (fun e1 => ?_)⟩
        · rw [eqv_nil] at e1
          have hlen : 0 < ns.length := by
            cases ns with
            | nil => cases e1
            | cons a r => exact Nat.succ_pos _
          have hlt : n % ns.length < ns.length := Nat.mod_lt _ hlen
          refine ⟨_, rfl, p, _, 0, _, rfl, rfl, SqL.of hP2, atI_nat (j := 0) rfl, _, rfl, .inl ⟨_, rfl, _, rfl, p, _, 0, _, rfl, rfl, SqL.of hP2, atI_nat (j := 0) rfl, l, _, rfl, .inl (SqL.of hL2), _, _, rfl, rfl, (by rw [List.length_map]; omega), l, _, _, .int ns[n % ns.length], rfl, rfl, SqL.of hL2, ?_, ?_⟩⟩
          · have e2 : ((n : Int) % (((ns.map V.int).length : Nat) : Int)) = ((n % ns.length : Nat) : Int) := by
              rw [List.length_map]
              exact (Int.natCast_emod n ns.length).symm
            rw [e2]
            refine atI_nat ?_
            rw [List.getElem?_map, List.getElem?_eq_getElem hlt]
            rfl
          · exact ⟨_, rfl, hP2, hL2, hO1.new hz⟩
        · exact ⟨_, rfl, hP2, hL2, hO1.new hz⟩
      · rintro σ' H2 ⟨c, rfl, hP2, hL2, hO2⟩
        have hmix : ∀ t : Int, 0 ≤ t % many ∧ t % many < many := fun t => ⟨Int.emod_nonneg _ (Int.ne_of_gt hm), Int.emod_lt_of_pos _ hm⟩
        have bm : ∀ Y : Int, 0 ≤ Y % 2147483629 ∧ Y % 2147483629 < 2147483629 := fun Y => ⟨Int.emod_nonneg _ (by decide), Int.emod_lt_of_pos _ (by decide)⟩
        have bd : ∀ Y : Int, -(2 ^ 64) < Y % 2147483629 ∧ Y % 2147483629 < 2 ^ 64 := fun Y => by
          have := bm Y
          omega
        have key : ∀ Y : Int, ((Y % 2147483629) * (2 * (n : Int) + 91) + 53873 * (n : Int) * (n : Int) + 17).natAbs < 2 ^ 64 := by
          intro Y
          have b2 := bm Y
          revert b2
          generalize Y % 2147483629 = m1
          intro b2
          have b3 : 0 ≤ m1 * (2 * (n : Int) + 91) ∧ m1 * (2 * (n : Int) + 91) ≤ 2147483629 * 2000091 := ⟨Int.mul_nonneg b2.1 (by omega), Int.mul_le_mul (by omega) (by omega) (by omega) (by decide)⟩
          have b4 : 0 ≤ 53873 * (n : Int) * (n : Int) ∧ 53873 * (n : Int) * (n : Int) ≤ (53873 * 1000000) * 1000000 := ⟨Int.mul_nonneg (by omega) (by omega), Int.mul_le_mul (by omega) (by omega) (by omega) (by decide)⟩
          omega
        refine ⟨_, rfl, _, rfl, p, _, 0, _, rfl, rfl, SqL.of hP2, atI_nat (j := 0) rfl, l, _, rfl, .inl (SqL.of hL2), _, _, rfl, rfl, _, rfl, ite2 (fun e1 => ⟨_, rfl, _, rfl, _, _, rfl, rfl, ⟨by decide, by decide, by decide⟩, _, _, rfl, rfl, _, rfl, ite2 (fun e2 => ?great) (fun e2 => ?late)⟩) (fun e1 => ?small)⟩
        case great =>
          have e3 : (10 : Int) ^ (18 : Int).toNat ≤ (if c < 0 then -c else c) := of_decide_eq_true e2
          refine ⟨_, rfl, _, rfl, _, _, rfl, rfl, ⟨by decide, by decide, by decide⟩, _, _, rfl, rfl, _, _, rfl, rfl, .inl ⟨by decide, by decide⟩, _, rfl, _, _, rfl, rfl, .inr ⟨_, rfl, _, _, rfl, rfl, ?_⟩⟩
          have hG : ∀ k : Bool, 0 ≤ 2 * ((if c < 0 then -c else c) - (10 : Int) ^ (18 : Int).toNat) + (if k = true then (1 : Int) else 0) := by
            intro k
            have : (0 : Int) ≤ (if k = true then (1 : Int) else 0) := by cases k <;> decide
            omega
          have hG1 := hG (decide (c < 0))
          refine ⟨_, rfl, .inl ⟨_, rfl, _, rfl, _, _, rfl, rfl, wide_div hm hm2 (by decide) (by decide), _, rfl, p, _, 2, 2, rfl, rfl, hP2, rfl, ?_⟩⟩
          exact ⟨_, rfl, .inl ⟨_, rfl, _, rfl, _, _, rfl, rfl, hm, q _ (n + 1) _ _ (hmix _).1 (hmix _).2 (Nat.le_refl _) hO2.upd ⟨upd_same, (upd_ne (Pen.apart ⟨hP2, hL2, hp.left⟩)).trans hL2, Int.ediv_nonneg hG1 (Int.le_of_lt hm)⟩⟩⟩
        all_goals
          have b1 : 0 ≤ c % 2147483563 ∧ c % 2147483563 < 2147483563 := ⟨Int.emod_nonneg _ (by decide), Int.emod_lt_of_pos _ (by decide)⟩
          refine ⟨_, rfl, .inl ⟨_, rfl, _, _, rfl, rfl, (by decide : (0 : Int) < 2147483563), _, rfl, _, _, rfl, rfl, .inl ⟨by decide, by decide⟩, _, _, rfl, rfl, _, _, rfl, rfl, _, _, rfl, rfl, ⟨by decide, by decide, ?_⟩, .inl ⟨_, rfl, _, _, rfl, rfl, (by decide : (0 : Int) < 2147483629), ?_⟩⟩⟩
          · omega
          refine ⟨_, rfl, _, rfl, _, _, rfl, rfl, .inl ⟨by decide, by decide⟩, _, _, rfl, rfl, _, _, rfl, rfl, .inl (bd _), _, rfl, _, _, rfl, rfl, .inl ⟨by decide, by decide⟩, _, rfl, _, _, rfl, rfl, .inr ⟨?_, ?_⟩, _, _, rfl, rfl, _, _, rfl, rfl, _, _, rfl, rfl, ⟨by decide, by decide, key _⟩, .inl ⟨_, rfl, _, _, rfl, rfl, (by decide : (0 : Int) < 2147483587), ?_⟩⟩
          · omega
          · omega
          exact ⟨_, rfl, _, _, rfl, rfl, ⟨by decide, by decide⟩, .inl ⟨_, rfl, _, rfl, _, _, rfl, rfl, hm, q _ (n + 1) g H2 (hmix _).1 (hmix _).2 (Nat.le_refl _) hO2 ⟨hP2, hL2, hp.left⟩⟩⟩


/-- one of a list's things, one of a text's signs -/
def spPick (K : PySem.W.Frag) : Sp := fun vs H Q _ => ∃ (p l : Addr) (ns : List Int) (n : Nat) (g : Int) (y : V), vs = [.ref p, y] ∧ Pen H p l ns n g ∧ n < 1000000 ∧
  ((∃ (q : Addr) (xs : List V), y = .ref q ∧ q ≠ p ∧ H q = some (.lst xs) ∧ 0 < xs.length ∧ xs.length ≤ 1000 ∧
    ∀ (v : V) (n' : Nat) (g' : Int) (H' : Hp), v ∈ xs → n' ≤ n + 1 → Off p H H' → Pen H' p l ns n' g' → Q v H') ∨
   (∃ z : Str, y = .str z ∧ 0 < z.length ∧ z.length ≤ 1000 ∧
    ∀ (c : Nat) (n' : Nat) (g' : Int) (H' : Hp), c ∈ z.cps.toList → n' ≤ n + 1 → Off p H H' → Pen H' p l ns n' g' → Q (.str (⟨#[c]⟩)) H'))
theorem ok_pick {f fD : Addr} {fd fdD : FuncData} (F : Fun K "_law_pick" "_law_pick" sPick f fd) (ml : mg "len" = none) (FD : Fun K "_law_draw" "_law_draw" sDraw fD fdD) (bD : Binds K fdD ["_law_pen_here", "_law_many"] []) (gD : mg "_law_draw" = some (.ref fD))
    (GD : FnOk P w K mg base CX0 1 fD fdD ["_law_pen_here", "_law_many"] spDraw) : FnOk P w K mg base CX0 2 f fd ["_law_pen_here", "_law_some"] (spPick K) := by
  refine F.ok scPick (fun vs H Q E h => ?_) (fun cdv A outer s H vs Q E hr h => ?_)
  · obtain ⟨p, l, ns, n, g, y, rfl, _⟩ := h
    rfl
  · obtain ⟨p, l, ns, n, g, y, rfl, hp, hn, k⟩ := h
    refine ⟨_, pss_one (ps_ret (pe_ix (ix_list.or ix_str) (pv 1) (pe_call GD hr (by rfl) gD FD.kp bD .nil pass0 (pa_cons (pv 0) (pa_cons (pe_callB (So.CallR.or call_len_seq call_len_str) (by rfl) ml PySem.boot_len (pa_cons (pv 1) pa_nil)) pa_nil))) (fun _ _ => rfl))), ?_⟩
    rcases k with ⟨q, xs, rfl, hne, hq, h0, h1, k⟩ | ⟨z, rfl, h0, h1, k⟩
    · refine ⟨_, rfl, _, rfl, _, rfl, .inl ⟨q, _, rfl, .inl (SqL.of hq), p, l, ns, n, g, _, rfl, hp, hn, by omega, ?_, ?_⟩⟩
      · have : ((xs.length : Nat) : Int).natAbs = xs.length := Int.natAbs_natCast _
        rw [this]
        exact Nat.lt_of_le_of_lt h1 (by decide)
      · intro d n' g' H' d0 d1 hn' off pen
        obtain ⟨j, rfl⟩ : ∃ j : Nat, d = j := ⟨d.toNat, by omega⟩
        have hlt : j < xs.length := by omega
        exact .inl ⟨q, xs, j, xs[j], rfl, rfl, SqL.of (off q _ hne hq), atI_nat (List.getElem?_eq_getElem hlt), k _ n' g' H' (List.getElem_mem hlt) hn' off pen⟩
    · refine ⟨_, rfl, _, rfl, _, rfl, .inr ⟨z, rfl, Nat.le_trans h1 (by decide), p, l, ns, n, g, _, rfl, hp, hn, by omega, ?_, ?_⟩⟩
      · have : ((z.length : Nat) : Int).natAbs = z.length := Int.natAbs_natCast _
        rw [this]
        exact Nat.lt_of_le_of_lt h1 (by decide)
      · intro d n' g' H' d0 d1 hn' off pen
        obtain ⟨j, rfl⟩ : ∃ j : Nat, d = j := ⟨d.toNat, by omega⟩
        have hz : z.length = z.cps.toList.length := Array.length_toList.symm
        have hlt : j < z.cps.toList.length := by omega
        exact .inr ⟨z, j, z.cps.toList[j], rfl, rfl, Nat.le_trans h1 (by decide), atI_nat (List.getElem?_eq_getElem hlt), k _ n' g' H' (List.getElem_mem hlt) hn' off pen⟩
theorem Pen.new {H : Hp} {p l q : Addr} {ns : List Int} {n : Nat} {g : Int} {o : HO} (h : Pen H p l ns n g) (hq : H q = none) : Pen (upd H q o) p l ns n g :=
  ⟨(upd_ne (ne_of_none h.pen hq)).trans h.pen, (upd_ne (ne_of_none h.cells hq)).trans h.cells, h.left⟩
end
end K30

namespace K30
open PySem PySem.Spec PyProof.Rows L2 So
abbrev sWhole : Stmt := topS 14
abbrev sMoment : Stmt := topS 15
abbrev sName : Stmt := topS 16
abbrev sCheck : Stmt := topS 17
theorem scWhole : FnScope ["value"] ["value"] (defScope sWhole) := ⟨rfl, rfl, rfl, by decide +kernel, rfl, by decide +kernel, by decide +kernel⟩
theorem scMoment : FnScope ["value"] ["value"] (defScope sMoment) := ⟨rfl, rfl, rfl, by decide +kernel, rfl, by decide +kernel, by decide +kernel⟩
theorem scName : FnScope ["value", "sign"] ["value"] (defScope sName) := ⟨rfl, rfl, rfl, by decide +kernel, rfl, by decide +kernel, by decide +kernel⟩
theorem scCheck : FnScope ["value", "form"] ["value", "form"] (defScope sCheck) := ⟨rfl, rfl, rfl, by decide +kernel, rfl, by decide +kernel, by decide +kernel⟩
/-! ### what a name is -/
def letters : Str := "abcdefghijklmnopqrstuvwxyz"
def digits : Str := "0123456789"
def noNames : List Str := ["begun", "setby", "found", "trusted", "passed", "failed", "agreed", "differed", "served", "backed", "sound", "unsound", "sure", "never", "open", "none", "record", "lot", "menu", "wanted"]
def isAln (c : Nat) : Bool := decide (c ∈ (letters ++ digits).cps.toList)
def isName (z : Str) : Bool := decide (1 ≤ z.length) && decide (z.length ≤ 8) && !(noNames.contains z) && decide (z.cps.toList.headD 0 ∈ letters.cps.toList) && z.cps.toList.all isAln
/-- the module's names that the words of the package read -/
structure Words (K : PySem.W.Frag) (mg : Str → Option Value) : Prop where
  greatest : ∃ t, mg "GREATEST" = some (.int 1000000000000000000000000000000 t)
  longest : ∃ t, mg "LONGEST_NAME" = some (.int 8 t)
  letters : ∃ t, mg "LETTERS" = some (.str letters t)
  digits : ∃ t, mg "DIGITS" = some (.str digits t)
  noNames : ∃ a, mg "NO_NAMES" = some (.ref a) ∧ ∀ H : Hp, SqT K H a (noNames.map V.str)
  isi : mg "isinstance" = none
  int : mg "int" = none
  bool : mg "bool" = none
  str : mg "str" = none
  len : mg "len" = none
  all : mg "all" = none
section
variable {P : Program} {w : World} {K : PySem.W.Frag} {mg : Str → Option Value} {base : Heap}
theorem kit_int_int : PySem.W.kitOne K (.type "int") (.type "int") = some true := kit_ty (by decide +kernel)
theorem kit_int_bool : PySem.W.kitOne K (.type "int") (.type "bool") = some false := kit_ty (by decide +kernel)
theorem kit_str_str : PySem.W.kitOne K (.type "str") (.type "str") = some true := kit_ty (by decide +kernel)
theorem kit_bool_bool : PySem.W.kitOne K (.type "bool") (.type "bool") = some true := kit_ty (by decide +kernel)

/-- the values that the law draws: what each is, by its type's name -/
inductive Gv (H : Hp) : V → String → Prop where
  | non : Gv H .non "NoneType"
  | bl (b : Bool) : Gv H (.bl b) "bool"
  | int (i : Int) : Gv H (.int i) "int"
  | str (z : Str) (h : z.length ≤ 2000) : Gv H (.str z) "str"
  | lst {a : Addr} {xs : List V} (e : H a = some (.lst xs)) : Gv H (.ref a) "list"
  | tup {a : Addr} {xs : List V} (e : H a = some (.tup xs)) : Gv H (.ref a) "tuple"
  | dK {a : Addr} {kvs : List (Key × V)} (e : H a = some (.dK kvs)) : Gv H (.ref a) "dict"
theorem Gv.ty {H : Hp} {v : V} {T : String} (h : Gv H v T) : TyX K H v (.type T) := by
  cases h with
  | non => exact .base .non
  | bl b => exact .base (.bl b)
  | int i => exact .base (.int i)
  | str z h => exact .base (.str z)
  | lst e => exact .base (.lst e)
  | tup e => exact .base (.tup e)
  | dK e => exact .base (.dK e)
theorem Gv.same {H H' : Hp} {v : V} {T : String} (h : Gv H v T) (s : Same H H') : Gv H' v T := by
  cases h with
  | non => exact .non
  | bl b => exact .bl b
  | int i => exact .int i
  | str z h => exact .str z h
  | lst e => exact .lst (s _ _ e)
  | tup e => exact .tup (s _ _ e)
  | dK e => exact .dK (s _ _ e)
theorem Gv.off {H H' : Hp} {v : V} {T : String} {p : Addr} (h : Gv H v T) (n : v ≠ .ref p) (s : Off p H H') : Gv H' v T := by
  cases h with
  | non => exact .non
  | bl b => exact .bl b
  | int i => exact .int i
  | str z h => exact .str z h
  | lst e => exact .lst (s _ _ (fun z => n (by rw [z])) e)
  | tup e => exact .tup (s _ _ (fun z => n (by rw [z])) e)
  | dK e => exact .dK (s _ _ (fun z => n (by rw [z])) e)
def gInt : V → Bool
  | .int _ => true
  | _ => false
def gMom : V → Bool
  | .int i => decide (0 ≤ i ∧ i ≤ 1000000000000000000000000000000)
  | _ => false
def gNam : V → Bool
  | .str z => isName z
  | _ => false
def gTru : V → Bool
  | .bl _ => true
  | _ => false
/-- what isinstance says of such a value and a built-in type -/
theorem Gv.kit {H : Hp} {v : V} {T : String} (h : Gv H v T) (c : String) (hc : c = "int" ∨ c = "bool" ∨ c = "str") : PySem.W.kitOne K (.type T) (.type c) = some (decide (T = c ∨ (T = "bool" ∧ c = "int"))) := by
  rcases hc with rfl | rfl | rfl <;> cases h <;> exact kit_ty (by decide +kernel)
/-- is_whole -/
def spWhole : Sp := fun vs H Q _ => ∃ (v : V) (T : String), vs = [v] ∧ Gv H v T ∧ Q (.bl (gInt v)) H
theorem ok_whole {f : Addr} {fd : FuncData} (F : Fun K "is_whole" "is_whole" sWhole f fd) (W : Words K mg) : FnOk P w K mg base CX0 1 f fd ["value"] spWhole := by
  refine F.ok scWhole (fun vs H Q E h => ?_) (fun cdv A outer s H vs Q E hr h => ?_)
  · obtain ⟨v, T, rfl, _⟩ := h
    rfl
  · obtain ⟨v, T, rfl, hv, q⟩ := h
    refine ⟨_, pss_one (ps_ret (pe_and (pe_callB call_isi (by rfl) W.isi (by decide +kernel) (pa_cons (pv 0) (pa_cons (pe_bltn (v := .ty "int") (by rfl) W.int (by decide +kernel) rfl) pa_nil)))
      (pe_one (pe_not (pe_callB call_isi (by rfl) W.isi (by decide +kernel) (pa_cons (pv 0) (pa_cons (pe_bltn (v := .ty "bool") (by rfl) W.bool (by decide +kernel) rfl) pa_nil))))))), ?_⟩
    refine ⟨_, rfl, _, _, _, _, _, rfl, .ty "int", hv.ty, hv.kit "int" (.inl rfl), _, rfl, ?_⟩
    cases hv with
    | int i =>
      refine iteT ?_
      exact ⟨_, rfl, _, _, _, _, false, rfl, .ty "bool", .base (.int i), kit_int_bool, _, rfl, q⟩
    | bl b =>
      refine iteT ?_
      exact ⟨_, rfl, _, _, _, _, true, rfl, .ty "bool", .base (.bl b), kit_bool_bool, _, rfl, q⟩
    | non => exact iteF q
    | str z h => exact iteF q
    | lst e => exact iteF q
    | tup e => exact iteF q
    | dK e => exact iteF q
/-- is_moment -/
def spMoment : Sp := fun vs H Q _ => ∃ (v : V) (T : String), vs = [v] ∧ Gv H v T ∧ Q (.bl (gMom v)) H
theorem ok_moment {f fW : Addr} {fd fdW : FuncData} (F : Fun K "is_moment" "is_moment" sMoment f fd) (W : Words K mg) (FW : Fun K "is_whole" "is_whole" sWhole fW fdW) (bW : Binds K fdW ["value"] []) (gW : mg "is_whole" = some (.ref fW)) :
    FnOk P w K mg base CX0 2 f fd ["value"] spMoment := by
  have GW : FnOk P w K mg base CX0 1 fW fdW ["value"] spWhole := ok_whole FW W
  refine F.ok scMoment (fun vs H Q E h => ?_) (fun cdv A outer s H vs Q E hr h => ?_)
  · obtain ⟨v, T, rfl, _⟩ := h
    rfl
  · obtain ⟨v, T, rfl, hv, q⟩ := h
    obtain ⟨tG, hG⟩ := W.greatest
    refine ⟨_, pss_one (ps_ret (pe_and (pe_call GW hr (by rfl) gW FW.kp bW .nil pass0 (pa_cons (pv 0) pa_nil)) (pe_one (pe_chain op_le op_le pe_int (pv 0) (pe_glob (v := .int 1000000000000000000000000000000) rfl hG ⟨_, rfl⟩))))), ?_⟩
    refine ⟨_, rfl, v, T, rfl, hv, gInt v, rfl, ?_⟩
    cases hv with
    | int i =>
      refine iteT ?_
      refine ⟨_, rfl, _, _, rfl, rfl, _, rfl, ite2 (fun e => ?_) (fun e => ?_)⟩
      · have e' : 0 ≤ i := of_decide_eq_true e
        refine ⟨_, _, rfl, rfl, ?_⟩
        have : gMom (.int i) = decide (i ≤ 1000000000000000000000000000000) := by simp [gMom, e']
        rw [this] at q
        exact q
      · have e' : ¬ 0 ≤ i := fun z => e (decide_eq_true z)
        have : gMom (.int i) = false := by simp [gMom, e']
        rw [this] at q
        exact q
    | bl b => exact iteF q
    | non => exact iteF q
    | str z h => exact iteF q
    | lst e => exact iteF q
    | tup e => exact iteF q
    | dK e => exact iteF q

theorem inV_strs (z : Str) : ∀ l : List Str, inV (.str z) (l.map V.str) = l.contains z
  | [] => rfl
  | x :: r => by
    have h := inV_strs z r
    have e : eqV (.str x) (.str z) = (z == x) := Bool.beq_comm (a := x) (b := z)
    show (eqV (.str x) (.str z) || inV (.str z) (r.map V.str)) = _
    rw [h, e, List.contains_cons]
theorem flat_strs (l : List Str) : (l.map V.str).all flatV = true := by
  rw [List.all_map]
  exact List.all_eq_true.mpr fun _ _ => rfl
theorem Same.over {H H1 : Hp} {D : Addr} {o : HO} (s : Same H H1) (h : H D = none) : Same H (upd H1 D o) := fun b u e => by
  rw [upd_ne (ne_of_none e h)]
  exact s b u e
/-- is_name -/
def spName : Sp := fun vs H Q _ => ∃ (v : V) (T : String), vs = [v] ∧ Gv H v T ∧ ∀ H', Same H H' → Q (.bl (gNam v)) H'
theorem ok_name {f : Addr} {fd : FuncData} (F : Fun K "is_name" "is_name" sName f fd) (W : Words K mg) : FnOk P w K mg base CX0 1 f fd ["value"] spName := by
  refine F.ok scName (fun vs H Q E h => ?_) (fun cdv A outer s H vs Q E hr h => ?_)
  · obtain ⟨v, T, rfl, _⟩ := h
    rfl
  · obtain ⟨v, T, rfl, hv, q⟩ := h
    obtain ⟨tL, hL⟩ := W.longest
    obtain ⟨tA, hA⟩ := W.letters
    obtain ⟨tD, hD⟩ := W.digits
    obtain ⟨aN, gN, hN⟩ := W.noNames
    have gA : ∀ {X : Cx}, X.mg = mg → True := fun _ => trivial
    refine ⟨_, pss_cons (ps_if (PW.pt (pw_or (pt_not (pt_val (pe_callB call_isi (by rfl) W.isi (by decide +kernel) (pa_cons (pv 0) (pa_cons (pe_bltn (v := .ty "str") (by rfl) W.str (by decide +kernel) rfl) pa_nil)))))
        (pw_or (pt_not (pt_chain op_le op_le pe_int (pe_callB call_len_str (by rfl) W.len PySem.boot_len (pa_cons (pv 0) pa_nil)) (pe_glob (v := .int 8) rfl hL ⟨_, rfl⟩)))
          (pw_or1 (pt_cmpR op_in_seq (pv 0) (pe_glob (v := .ref aN) rfl gN rfl) (by rfl))))))
        (pss_one (ps_ret pe_bl)) pss_nil)
      (pss_one (ps_ret (pe_and (pe_cmpR op_in_sign (pe_ix ix_str (pv 0) pe_int (fun _ _ => rfl)) (pe_glob (v := .str letters) rfl hA ⟨_, rfl⟩) (by rfl))
        (pe_one (pe_callB (cr_all rfl) (by rfl) W.all (by decide +kernel) (pa_cons (pe_lc (own := [("sign", 1)]) (g := gName 1) (tt := tYes) rfl scName.nd (pi_str (pv 0)) (blkOk_by (N := ["value", "sign"]) (sc := defScope sName) (by decide +kernel))
          (fun _ _ _ _ _ => pg_name (i := 1) scName.nd rfl (Or.inl rfl)) (fun _ _ _ _ _ => pts_nil)
          (fun _ _ _ _ _ => pe_cmpR op_in_sign (pv 1) (pe_op op_add_str (pe_glob (v := .str letters) rfl hA ⟨_, rfl⟩) (pe_glob (v := .str digits) rfl hD ⟨_, rfl⟩)) (by rfl))) pa_nil)))))), ?_⟩
    refine ⟨_, rfl, _, _, _, _, _, rfl, .ty "str", hv.ty, hv.kit "str" (.inr (.inr rfl)), _, rfl, ?_⟩
    cases hv with
    | non => exact iteT (q H (Same.refl H))
    | bl b => exact iteT (q H (Same.refl H))
    | int i => exact iteT (q H (Same.refl H))
    | lst e => exact iteT (q H (Same.refl H))
    | tup e => exact iteT (q H (Same.refl H))
    | dK e => exact iteT (q H (Same.refl H))
    | str z hz => ?_
    have q : ∀ H', Same H H' → Q (.bl (isName z)) H' := q
    have hzl : z.length ≤ sizeLine := Nat.le_trans hz (by decide)
    refine iteF ?_
    have no : isName z = false → Q (.bl false) H := fun e => by
      have := q H (Same.refl H)
      rw [e] at this
      exact this
    refine ⟨_, rfl, _, rfl, hzl, _, _, rfl, rfl, _, rfl, ite2 (fun c1 => ?_) (fun c1 => ⟨_, rfl, iteT (no ?_)⟩)⟩
    case refine_2 =>
      have c1' : ¬ (1 : Int) ≤ ((z.length : Nat) : Int) := fun e => c1 (decide_eq_true e)
      unfold isName
      rw [show decide (1 ≤ z.length) = false from decide_eq_false (by omega)]
      rfl
    have c1' : (1 : Int) ≤ ((z.length : Nat) : Int) := of_decide_eq_true c1
    refine ⟨_, _, rfl, rfl, _, rfl, ?_⟩
    by_cases c2 : ((z.length : Nat) : Int) ≤ 8
    case neg =>
      rw [decide_eq_false c2]
      refine iteT (no ?_)
      unfold isName
      rw [show decide (z.length ≤ 8) = false from decide_eq_false (by omega), Bool.and_false]
      rfl
    rw [decide_eq_true c2]
    refine iteF ⟨_, rfl, aN, _, rfl, .inr (hN H), rfl, flat_strs _, ?_⟩
    refine ⟨_, rfl, ?_⟩
    rw [show inV (.str z) (noNames.map V.str) = noNames.contains z from inV_strs z noNames]
    cases c3 : noNames.contains z with
    | true =>
      refine iteT (no ?_)
      unfold isName
      rw [c3, Bool.not_true, Bool.and_false]
      rfl
    | false =>
      refine iteF ?_
      have hz0 : 0 < z.cps.toList.length := by
        have : z.length = z.cps.toList.length := Array.length_toList.symm
        omega
      obtain ⟨c0, cr, hc⟩ : ∃ c0 cr, z.cps.toList = c0 :: cr := by
        cases e : z.cps.toList with
        | nil => rw [e] at hz0; cases hz0
        | cons a r => exact ⟨a, r, rfl⟩
      have e1 : decide (1 ≤ z.length) = true := decide_eq_true (by omega)
      have e2 : decide (z.length ≤ 8) = true := decide_eq_true (by omega)
      have e3 : isName z = (decide (c0 ∈ letters.cps.toList) && z.cps.toList.all isAln) := by
        unfold isName
        rw [e1, e2, c3, hc]
        rfl
      refine ⟨_, rfl, _, _, c0, rfl, rfl, hzl, ?_, _, _, rfl, rfl, _, rfl, ite2 (fun c4 => ?_) (fun c4 => ?_)⟩
      · rw [hc]
        exact atI_nat (j := 0) rfl
      · refine ⟨_, rfl, _, rfl, fun D hD => lc_it walk_str (fun i H' => H' D = some (.lst ((z.cps.toList.take i).map fun c => V.bl (isAln c))) ∧ Same H H') ⟨?_, ?_⟩ (fun _ _ _ _ => trivial) ?_ ?_⟩
        · exact upd_same
        · exact Same.over (Same.refl H) hD
        · rintro i x H1 H2 hi ⟨h1, s1⟩ ⟨rfl, c, hc1, rfl⟩
          have hc2 : z.cps.toList[i]? = some c := by
            rw [Array.getElem?_toList]
            exact hc1
          refine ⟨rfl, _, rfl, _, _, rfl, rfl, by decide, c, _, rfl, rfl, _, h1, ?_, ?_, Same.over s1 hD⟩
          · rw [List.length_map, List.length_take]
            have : z.cps.toList.length = z.length := Array.length_toList
            exact Nat.lt_of_le_of_lt (Nat.le_trans (Nat.min_le_right _ _) (by omega)) (by decide : 2000 < sizeLine)
          · rw [upd_same, List.take_add_one, hc2, List.map_append]
            rfl
        · rintro H1 ⟨h1, s1⟩
          refine ⟨D, z.cps.toList.map isAln, rfl, SqL.of ?_, ?_⟩
          · rw [h1, List.take_of_length_le (by rw [Array.length_toList]; exact Nat.le_refl _), List.map_map]
            rfl
          · have := q H1 s1
            rw [e3, show decide (c0 ∈ letters.cps.toList) = true from c4, Bool.true_and] at this
            rw [List.all_map]
            exact this
      · refine no ?_
        rw [e3]
        have : decide (c0 ∈ letters.cps.toList) = false := by
          cases h : decide (c0 ∈ letters.cps.toList) with
          | true => exact absurd h c4
          | false => rfl
        rw [this]
        rfl
end
end K30

namespace So
open PySem PySem.Spec PyProof.Rows L2
/-! a statement that is never come to -/
def tDead : TS := fun _ _ _ => False
theorem ps_dead {X : Cx} {st : Stmt} : PS X st tDead := ⟨fun _ _ _ _ _ _ h => h.elim⟩
theorem pss_dead {X : Cx} {st : List Stmt} : PSs X st tDead := ⟨fun _ _ _ _ _ _ h => h.elim⟩
def tDeadE : TE := fun _ _ _ => False
theorem pe_dead {X : Cx} {e : Expr} : PE X e tDeadE := ⟨fun _ _ _ _ _ _ h => h.elim⟩
end So

/-! set(xs) of a list or a tuple of ints, so that sorted can walk it. -/
namespace So
open PySem PySem.Spec PyProof.Rows L2
/-- a set just made -/
abbrev bareSet (w : World) : Obj := { cls := .type "set", dict := none, data := .set #[] 0 (.fresh 0 0 (!w.params.followText "set-order")) }
section
variable {P : Program} {w : World} {A : Around} {E : Value → Shared → Prop} {s : Shared}
/-- what set(..) hands back -/
abbrev GotSet (w : World) (ns : List Int) (s : Shared) (h' : Heap) (c : Nat) : Prop :=
  SetR w h' s.heap.objs.size (fun j => decide (j ∈ ns)) c ∧ c ≤ ns.length ∧ ∀ b o, s.heap.get? b = some o → h'.get? b = some o
theorem set_of_list {l : Addr} {its : Array Value} (ns : List Int) {Q : Value → Shared → Prop} (hh : A.handled = none) (hl : s.heap.IsList l its) (hit : IntsAre its.toList ns) (hb : ns.length + 1 < scanBound)
    (q : ∀ h' tk c, GotSet w ns s h' c → Q (.ref s.heap.objs.size) { s with heap := h', toks := tk }) : wpAny (model P w) A (call (.type "set") [.ref l]) Q E s := by
  have sz : its.size = ns.length := by
    have e := hit.length
    rwa [Array.length_toList] at e
  obtain ⟨c, tl, mro⟩ := F.called_set.mro
  have mde := F.called_set.made
  have sbt := F.called_set.sub
  refine wpAny_call (codeAny_of_tree ?_)
  show wpAny _ _ (callAny (.type "set") _) _ _ _
  refine wpAny_pure ⟨Code.quiet_builtin _ (by decide +kernel), codeAny_builtin F.entry_type_call ?_⟩
  rw [Around.under_plain (weight_type_call_type "set" [.ref l] []) rfl]
  have k1 := F.called_set.notType
  have k2 := F.called_set.canCreate
  have k3 := F.typeCall_set_1 (.ref l)
  repeat (any_goals (first | assumption | wp_step))
  refine codeAny_mono (code_set_led1 (.ref l) (E := E) (Q₁ := fun ob s1 => ob = .ref s.heap.objs.size ∧ s1 = { s with heap := s.heap.push (bareSet w) }) ⟨rfl, rfl⟩) fun r s1 hr => ?_
  match r, hr with
  | .error e, hr => exact hr
  | .ok .next, hr => exact hr.elim
  | .ok .brk, hr => exact hr.elim
  | .ok .cont, hr => exact hr.elim
  | .ok (.ret ob), hr =>
    obtain ⟨rfl, rfl⟩ := hr
    generalize hH : s.heap.push (bareSet w) = g0
    have at0 : g0.get? s.heap.objs.size = some (bareSet w) := by rw [← hH]; exact Heap.get?_push_size _ rfl
    have up0 : ∀ b o, s.heap.get? b = some o → g0.get? b = some o := fun b o e => by rw [← hH]; exact Heap.get?_push_of_some _ e
    have z0 : g0.objs.size = s.heap.objs.size + 1 := by rw [← hH]; exact Heap.size_push ..
    have tS : Shared.TypeIs { s with heap := g0 } (.ref s.heap.objs.size) "set" := ⟨_, at0, rfl⟩
    have i1 := F.called_set.init.lookup
    have i2 := F.called_set.init.bind (.ref s.heap.objs.size)
    repeat (any_goals (first | assumption | wp_step))
    refine codeAny_mono (codeAny_call_builtin (R := wants (fun r s2 => r = .none ∧ ∃ h' tk c, s2 = { s with heap := h', toks := tk } ∧ GotSet w ns s h' c) E) F.called_set.init.plain F.entry_set_init (check_set_init_1 tS ?_)) fun r2 s2 hr2 => ?_
    · obtain ⟨ob, ho, hc, nl, hd⟩ := hl
      obtain ⟨cc, dd, da, sl⟩ := ob
      simp only at hc hd
      subst hc
      subst hd
      have ho1 := up0 _ _ ho
      have n1 := F.sub_list_set
      have n2 := F.sub_list_frozenset
      have n3 : (Value.type "list" == Value.type "dict") = false := by decide
      have il : g0.IsList l its := ⟨_, ho1, rfl, nl, rfl⟩
      unfold Builtin.«set.__init__» noKeywords Builtin.Frozenset.updateFrom
      generalize hit' : pyIter = pI
      wp_walk
      subst hit'
      refine wpAny_pyIter_list il (wpAny_bind (wpAny_runValue ?_))
      have ll : l < s.heap.objs.size := Heap.lt_size ho
      have nI : l ≠ g0.objs.size := by
        rw [z0]
        exact Nat.ne_of_lt (Nat.lt_succ_of_lt ll)
      have nS : s.heap.objs.size ∉ [g0.objs.size, l] := by
        intro z
        rcases List.mem_cons.mp z with z | z
        · rw [z0] at z
          exact Nat.ne_of_lt (Nat.lt_succ_self _) z
        · exact Nat.ne_of_gt ll (List.mem_singleton.mp z)
      have vals : ∀ (i : Nat) (v : Value), its[i]? = some v → ∃ k t, ns[i]? = some k ∧ v = .int k t := fun i v hv => by
        have hi : i < ns.length := by rw [← sz]; exact (Array.getElem?_eq_some_iff.mp hv).1
        obtain ⟨t, e⟩ := hit.int_at i v (by rw [Array.getElem?_toList]; exact hv)
        exact ⟨ns[i], t, List.getElem?_eq_getElem hi, by rw [e, List.getD_eq_getElem?_getD, List.getElem?_eq_getElem hi]; rfl⟩
      refine set_update_ints ((Walks.list (by simp [hh]) _ l nI its).toS) s.heap.objs.size nS ns sz hb vals (its.size - 0) 0 _ (by omega) (Nat.zero_le _) ⟨⟨_, Heap.get?_push_size _ rfl, rfl, rfl⟩, il.push _⟩
        ⟨0, Nat.le_refl 0, setR_new_at (Heap.get?_push_of_some _ at0)⟩ fun s' c' hm hc' hS' => ?_
      obtain ⟨h', g2, d', tk', os'⟩ := s'
      have eg : g2 = s.gens := hm.gens
      have ed : d' = s.drawn := hm.drawn
      have eo : os' = s.os := hm.os
      subst eg ed eo
      rw [sz] at hc'
      refine wpAny_pure (wpAny_pure ⟨rfl, h', tk', c', rfl, hS', hc', fun b o e => ?_⟩)
      have hb0 : b < s.heap.objs.size := Heap.lt_size e
      refine hm.heap b o (fun z => ?_) (Heap.get?_push_of_some _ (up0 _ _ e))
      rcases List.mem_cons.mp z with z | z
      · exact Nat.ne_of_lt hb0 z
      · rw [List.mem_singleton.mp z, z0] at hb0
        exact Nat.lt_irrefl _ (Nat.lt_of_succ_lt hb0)
    · match r2, hr2 with
      | .error e, hr2 => exact hr2
      | .ok .next, hr2 => exact hr2.elim
      | .ok .brk, hr2 => exact hr2.elim
      | .ok .cont, hr2 => exact hr2.elim
      | .ok (.ret r), hr2 =>
        obtain ⟨rfl, h', tk, c', rfl, g⟩ := hr2
        repeat (any_goals (first | assumption | wp_step))
        exact q _ _ _ g
end
/-- set(xs): ints, fewer than 64 -/
def rSetI (K : PySem.W.Frag) (w : World) : List V → Hp → VK → Prop := fun xs H Q => ∃ (l : Addr) (ns : List Int), xs = [.ref l] ∧ (SqL K H l (ns.map V.int) ∨ SqT K H l (ns.map V.int)) ∧ ns.length < 64 ∧
  ∀ p c, H p = none → c ≤ ns.length → Q (.ref p) (upd H p (SetO w p (fun k => decide (k ∈ ns)) c))
section
variable {X : Cx}
theorem cr_setI (hc : X.calm = true) : CallR X (.type "set") (rSetI X.K X.w) := by
  intro pins s σ H xs us Q I r h
  obtain ⟨l, ns, rfl, hs, hl, q⟩ := h
  rw [Vals.ref1 r]
  have fin : ∀ (h' : Heap) (tk c : Nat), GotSet X.w ns s h' c → EP X pins σ Q (.ref s.heap.objs.size) { s with heap := h', toks := tk } := fun h' tk c ⟨g1, g2, g3⟩ =>
    ⟨.ref s.heap.objs.size, _, I.laid (t' := tk) g3 (Nat.le_refl _) (setO_new g1), rfl, q _ c (I.hok.fresh (Nat.le_refl _)) g2⟩
  have hb : ns.length + 1 < scanBound := by
    unfold scanBound
    omega
  rcases hs with hs | hs
  · obtain ⟨its, rv, pl, _⟩ := I.list hs
    exact set_of_list ns (I.ok.hd hc) pl.isList (by simpa using ints_of_vals rv) hb fin
  · obtain ⟨its, rv, pl, _⟩ := I.tuple hs
    exact call_set_tupI ns (I.ok.hd hc) pl (by simpa using ints_of_vals rv) hb fun h' tk c g1 g2 g3 => fin h' tk c ⟨g1, g2, g3⟩
/-- sorted(set(xs)) -/
theorem pairwise_ext : ∀ {xs ys : List Int}, xs.Pairwise (· < ·) → ys.Pairwise (· < ·) → (∀ k, k ∈ xs ↔ k ∈ ys) → xs = ys
  | [], [], _, _, _ => rfl
  | [], y :: ys, _, _, h => absurd ((h y).mpr List.mem_cons_self) (by simp)
  | x :: xs, [], _, _, h => absurd ((h x).mp List.mem_cons_self) (by simp)
  | x :: xs, y :: ys, hx, hy, h => by
    rw [List.pairwise_cons] at hx hy
    have e : x = y := by
      rcases List.mem_cons.mp ((h x).mp List.mem_cons_self) with e | e
      · exact e
      · rcases List.mem_cons.mp ((h y).mpr List.mem_cons_self) with e2 | e2
        · exact e2.symm
        · have a := hy.1 x e
          have b := hx.1 y e2
          omega
    subst e
    congr 1
    refine pairwise_ext hx.2 hy.2 fun k => ⟨fun hk => ?_, fun hk => ?_⟩
    · rcases List.mem_cons.mp ((h k).mp (List.mem_cons_of_mem _ hk)) with e | e
      · subst e
        exact absurd (hx.1 _ hk) (by omega)
      · exact e
    · rcases List.mem_cons.mp ((h k).mpr (List.mem_cons_of_mem _ hk)) with e | e
      · subst e
        exact absurd (hy.1 _ hk) (by omega)
      · exact e
end
end So

/-! sorted(set(list)), the list's members texts, or ints -/
namespace So
open PySem PySem.Spec PyProof.Rows L2
/-- keys of one kind, and what they are as values -/
structure KyT (P : Program) (w : World) (α : Type) [DecidableEq α] where
  knd : PySem.KeyKind P w α
  mkv : α → Tok → Value
  key : Value → α
  hk : ∀ k t, key (mkv k t) = k
  his : ∀ k t, knd.is k (mkv k t) = true
  iff : ∀ k k0 t, knd.is k (mkv k0 t) = true ↔ k0 = k
  hsc : ∀ k t, (mkv k t).scannable = true
def kyStr (P : Program) (w : World) : KyT P w Str where
  knd := PySem.strKind P w
  mkv := Value.str
  key := fun v => match v with | .str x _ => x | _ => Str.empty
  hk := fun _ _ => rfl
  his := fun k t => strKind_is P w k t
  iff := fun k k0 t => by
    show ((k0 == k) = true) ↔ k0 = k
    exact beq_iff_eq
  hsc := fun _ _ => rfl
section
variable {P : Program} {w : World} {α : Type} [DecidableEq α] (T : KyT P w α)
def GoodG (e : Int × Value) : Prop := ∃ k tk, e.2 = T.mkv k tk ∧ e.1 = T.knd.hash k
def keyG (e : Int × Value) : α := T.key e.2
/-- the set at a: S its members, n their number; its table rises and can be walked -/
def SetG (h : Heap) (a : Addr) (S : α → Bool) (n : Nat) : Prop :=
  ∃ o es ep t, h.get? a = some o ∧ o.ExactSet ∧ o.data = .set es ep t ∧ (∀ e ∈ es.toList, GoodG T e) ∧ (es.toList.map (keyG T)).Nodup ∧ (∀ k, S k = true ↔ k ∈ es.toList.map (keyG T)) ∧
    es.size < scanBound ∧ t.fits es.size = true ∧ es.size = n ∧ Ris t.place.toList ∧ (w.params.followText "set-order" = true ∨ t.led = true)
end
section
variable {P : Program} {w : World} {α : Type} [DecidableEq α] {T : KyT P w α} {h h' : Heap} {a : Addr} {S : α → Bool} {n : Nat}
theorem SetG.at (R : SetG T h a S n) (k : ∀ o, h.get? a = some o → h'.get? a = some o) : SetG T h' a S n := by
  obtain ⟨o, es, ep, t, ho, r⟩ := R
  exact ⟨o, es, ep, t, k o ho, r⟩
theorem SetG.congr {S' : α → Bool} (R : SetG T h a S n) (e : ∀ k, S' k = S k) : SetG T h a S' n := by
  have q : S' = S := funext e
  rw [q]; exact R
theorem goodG_elems {l : List (Int × Value)} (g : ∀ e ∈ l, GoodG T e) : ElemsOf T.knd l := fun e he => by
  obtain ⟨k, tk, h1, h2⟩ := g e he
  exact ⟨⟨k, by rw [h1]; exact T.his k tk, h2⟩, by rw [h1]; exact T.hsc k tk⟩
theorem goodG_is {e : Int × Value} (g : GoodG T e) (k : α) : T.knd.is k e.2 = true ↔ keyG T e = k := by
  obtain ⟨k0, tk, h1, _⟩ := g
  unfold keyG
  rw [h1, T.hk]
  exact T.iff k k0 tk
theorem goodG_mem {l : List (Int × Value)} (g : ∀ e ∈ l, GoodG T e) (k : α) : k ∈ l.map (keyG T) ↔ ∃ e ∈ l, T.knd.is k e.2 = true := by
  rw [List.mem_map]
  constructor
  · rintro ⟨e, he, q⟩
    exact ⟨e, he, (goodG_is (g e he) k).2 q⟩
  · rintro ⟨e, he, q⟩
    exact ⟨e, he, (goodG_is (g e he) k).1 q⟩
theorem setG_fresh {h : Heap} : SetG T (h.push { cls := .type "set", dict := none, data := .set #[] 0 (.fresh 0 0 (!w.params.followText "set-order")) }) h.objs.size (fun _ => false) 0 :=
  ⟨_, #[], 0, _, Heap.get?_push_size _ rfl, ⟨rfl, rfl, rfl⟩, rfl, (fun e he => by simp at he), (by simp), (fun k => by simp), (by decide), (by rfl), rfl, List.Pairwise.nil, by
    show _ ∨ (!w.params.followText "set-order") = true
    cases w.params.followText "set-order"
    · exact .inr rfl
    · exact .inl rfl⟩
end
section
variable {P : Program} {w : World} {α : Type} [DecidableEq α] {T : KyT P w α} {A : Around} {E : Value → Shared → Prop} {s : Shared} {a : Addr} {S : α → Bool} {n : Nat}
theorem setG_add_tail {g : Bool → Sem Unit} (hg : ∀ (b : Bool) (s₁ : Shared) (Q' : Unit → Shared → Prop), Q' () s₁ → wpAny (model P w) A (g b) Q' E s₁)
    {o : Obj} {es : Array (Int × Value)} {ep : Nat} {t : SetTable} (ho : s.heap.get? a = some o) (hex : o.ExactSet) (hd : o.data = .set es ep t)
    {es1 : Array (Int × Value)} {t2 : SetTable} {S' : α → Bool} (g1 : ∀ e ∈ es1.toList, GoodG T e) (nd1 : (es1.toList.map (keyG T)).Nodup) (m1 : ∀ k, S' k = true ↔ k ∈ es1.toList.map (keyG T))
    (hb1 : es1.size < scanBound) (hf2 : t2.fits es1.size = true) (hr : Ris t2.place.toList) (hl : w.params.followText "set-order" = true ∨ t2.led = true) {wasDummy : Bool} {R : Option Bool → Shared → Prop}
    (hR : ∀ h', Heap.SameBut a s.heap h' → SetG T h' a S' es1.size → R (some true) { s with heap := h' }) :
    wpAny (model P w) A (do
        storeSet a es1 t2
        if (!wasDummy && t2.tooFull) = true then do
            g (relayAll t2 es1 (SetTable.grown es1.size)).2.2
            storeSet a (relayAll t2 es1 (SetTable.grown es1.size)).1 (relayAll t2 es1 (SetTable.grown es1.size)).2.1
            pure (some true)
          else pure (some true)) R E s := by
  refine wpAny_bind (wpAny_storeSet_of ho hd ?_ (fits_of_scanBound hb1))
  have ho1 := store_at (es' := es1) (t' := t2) ho hd
  have sb1 := Heap.SameBut.update s.heap a (Obj.putSet es1 t2)
  split
  · have pm := relayAll_perm t2 es1 (SetTable.grown es1.size)
    have hf3 := relayAll_fits t2 es1 (SetTable.grown es1.size)
    have hr3 := relayAll_ris t2 es1 (SetTable.grown es1.size)
    have hl3 := relayAll_led t2 es1 (SetTable.grown es1.size)
    generalize relayAll t2 es1 (SetTable.grown es1.size) = Z at pm hf3 hr3 hl3 ⊢
    obtain ⟨es2, t3, gave⟩ := Z
    dsimp only at pm hf3 hr3 hl3 ⊢
    have hsz : es2.size = es1.size := by rw [← Array.length_toList, pm.length_eq, Array.length_toList]
    have hb2 : es2.size < scanBound := by rw [hsz]; exact hb1
    refine wpAny_bind (hg _ _ _ ?_)
    refine wpAny_bind (wpAny_storeSet_of ho1 rfl ?_ (fits_of_scanBound hb2))
    have ho2 := store_at (es' := es2) (t' := t3) ho1 rfl
    refine wpAny_pure (hR _ (sb1.trans (Heap.SameBut.update _ a _)) ?_)
    exact ⟨_, es2, _, t3, ho2, hex, rfl, fun e he => g1 e (pm.mem_iff.mp he), (pm.map (keyG T)).nodup_iff.mpr nd1, fun k => (m1 k).trans (pm.map (keyG T)).mem_iff.symm, hb2, hf3, hsz, hr3,
      hl.imp id fun z => by rw [hl3]; exact z⟩
  · exact wpAny_pure (hR _ sb1 ⟨_, es1, _, t2, ho1, hex, rfl, g1, nd1, m1, hb1, hf2, rfl, hr, hl⟩)

theorem setG_add_hashed {k : α} {tk : Tok} {Q : Bool → Shared → Prop} (R : SetG T s.heap a S n) (room : n + 1 < scanBound)
    (hQ : ∀ h', Heap.SameBut a s.heap h' → SetG T h' a (fun j => S j || decide (j = k)) (if S k = true then n else n + 1) → Q (!S k) { s with heap := h' }) :
    wpAny (model P w) A (setAddHashed a (T.mkv k tk) (T.knd.hash k)) Q E s := by
  obtain ⟨o, es, ep, t, ho, hex, hd, g, nd, hm, hb, hf, hn, hr, hl⟩ := R
  have hkey : T.knd.is k (T.mkv k tk) = true := T.his k tk
  have hsc : (T.mkv k tk).scannable = true := T.hsc k tk
  have hel : ElemsOf T.knd es.toList := goodG_elems g
  unfold setAddHashed setAddHashedIn
  refine wpAny_holding (wpAny_bind (wpAny_setState_of ho hd hf ?_))
  dsimp only
  rw [byScan_of hsc hb hel]
  simp only [↓reduceIte]
  unfold setAddByScan
  refine wpAny_bind ?_
  refine wpAny_bind (wpAny_rule ?_)
  refine wpAny_bind (wpAny_setScan_of hkey ho hd hf hel ?_)
  cases hfi : List.findIdx? (fun e => T.knd.is k e.2) es.toList with
  | some j =>
    dsimp only
    obtain ⟨hj, pj, _⟩ := List.findIdx?_eq_some_iff_getElem.mp hfi
    have hSk : S k = true := (hm k).2 ((goodG_mem g k).2 ⟨es.toList[j], List.getElem_mem hj, pj⟩)
    refine wpAny_pure (wpAny_pure ?_)
    have q := hQ s.heap (Heap.SameBut.refl a s.heap) ⟨o, es, ep, t, ho, hex, hd, g, nd, fun i => by
      rw [Bool.or_eq_true, decide_eq_true_eq, ← hm i]
      exact ⟨fun z => z.elim id (fun e => e ▸ hSk), .inl⟩, hb, hf, by rw [if_pos hSk]; exact hn, hr, hl⟩
    rw [hSk] at q
    exact q
  | none =>
    dsimp only
    have hnk : k ∉ es.toList.map (keyG T) := fun z => by
      obtain ⟨e, he, q⟩ := (goodG_mem g k).1 z
      have c := List.findIdx?_eq_none_iff.mp hfi e he
      rw [q] at c
      cases c
    have hSk : S k = false := by
      cases q : S k with
      | false => rfl
      | true => exact absurd ((hm k).1 q) hnk
    have hgw : ∀ (b : Bool) {s₁ : Shared} {Q' : Unit → Shared → Prop}, Q' () s₁ → wpAny (model P w) A (match b with | true => rule "set.scan.the-table-gave-way" | false => pure ()) Q' E s₁ :=
      fun b s₁ Q' q => by cases b <;> first | exact wpAny_pure q | exact wpAny_rule q
    have pm := layNew_perm t es (T.knd.hash k) (T.mkv k tk)
    have hf1 := layNew_fits t es (T.knd.hash k) (T.mkv k tk)
    have hr1 := layNew_ris t es (T.knd.hash k) (T.mkv k tk) hr
    have hl1 := layNew_led t es (T.knd.hash k) (T.mkv k tk)
    generalize layNew t es (T.knd.hash k) (T.mkv k tk) = Z at pm hf1 hr1 hl1 ⊢
    obtain ⟨es1, t1, wasDummy, gave⟩ := Z
    dsimp only at pm hf1 hr1 hl1 ⊢
    rw [Array.toList_push] at pm
    have pc : es1.toList.Perm ((T.knd.hash k, T.mkv k tk) :: es.toList) := pm.trans (List.perm_append_singleton _ _)
    have pk : (es1.toList.map (keyG T)).Perm (k :: es.toList.map (keyG T)) := by
      have q := pc.map (keyG T)
      rw [List.map_cons] at q
      have e : keyG T (T.knd.hash k, T.mkv k tk) = k := T.hk k tk
      rw [e] at q
      exact q
    have g1 : ∀ e ∈ es1.toList, GoodG T e := fun e he => by
      rcases List.mem_cons.mp (pc.mem_iff.mp he) with z | z
      · rw [z]; exact ⟨k, tk, rfl, rfl⟩
      · exact g e z
    have nd1 : (es1.toList.map (keyG T)).Nodup := pk.nodup_iff.mpr (List.nodup_cons.mpr ⟨hnk, nd⟩)
    have m1 : ∀ i, (S i || decide (i = k)) = true ↔ i ∈ es1.toList.map (keyG T) := fun i => by
      rw [Bool.or_eq_true, decide_eq_true_eq, hm i, pk.mem_iff, List.mem_cons]
      exact Or.comm
    have hsz : es1.size = n + 1 := by rw [← Array.length_toList, pc.length_eq, List.length_cons, Array.length_toList, hn]
    have hb1 : es1.size < scanBound := by rw [hsz]; exact room
    have hled : w.params.followText "set-order" = true ∨ t1.led = true := hl.imp id fun z => by rw [hl1]; exact z
    have fin : ∀ h', Heap.SameBut a s.heap h' → SetG T h' a (fun j => S j || decide (j = k)) es1.size → Q true { s with heap := h' } := fun h' sb r => by
      have q := hQ h' sb
      rw [hSk] at q
      rw [hsz] at r
      exact q r
    refine wpAny_bind (hgw _ ?_)
    split
    · refine wpAny_bind ?_
      rw [hashByValue_scannable 8 hsc]
      refine wpAny_pure ?_
      refine setG_add_tail ?_ ho hex hd g1 nd1 m1 hb1 ?_ ?_ ?_ ?_
      · intro b s₁ Q' q; cases b <;> first | exact wpAny_pure q | exact wpAny_rule q
      · first | (split <;> first | exact hf1 | exact SetTable.fits_plain_off hf1) | exact hf1
      · first | (split <;> exact hr1) | exact hr1
      · first | (split <;> exact hled) | exact hled
      · intro h' sb r; dsimp only; exact wpAny_pure (fin h' sb r)
    · refine wpAny_bind (wpAny_pure ?_)
      simp only [↓reduceIte]
      refine setG_add_tail ?_ ho hex hd g1 nd1 m1 hb1 hf1 hr1 hled ?_
      · intro b s₁ Q' q; cases b <;> first | exact wpAny_pure q | exact wpAny_rule q
      · intro h' sb r; dsimp only; exact wpAny_pure (fin h' sb r)
end
end So

namespace So
open PySem PySem.Spec PyProof.Rows L2
section
variable {P : Program} {w : World} {α : Type} [DecidableEq α] {T : KyT P w α} {A : Around} {E : Value → Shared → Prop} {s : Shared}
theorem code_set_led1 (a : Value) {Q₁ : Value → Shared → Prop}
    (h : Q₁ (.ref s.heap.objs.size) { s with heap := s.heap.push { cls := .type "set", dict := none, data := .set #[] 0 (.fresh 0 0 (!w.params.followText "set-order")) } }) :
    codeAny (model P w) A (.call (.builtin "set.__new__") ⟨[.type "set", a], []⟩) (wants Q₁ E) s := by
  refine codeAny_of_tree ?_
  show wpAny _ A.in1 (do checkBuiltinCall "set.__new__" ⟨[.type "set", a], []⟩; again (.builtin "set.__new__" ⟨[.type "set", a], []⟩)) _ _ s
  refine wpAny_bind (wpAny_of_eq (F.newCall_set_1 a) (wpAny_pure ⟨plainId_quiet F.plain_set_new _, codeAny_builtin F.entry_set_new ?_⟩))
  rw [Around.under_plainId F.plain_set_new _]
  unfold Builtin.«set.__new__» Builtin.Frozenset.newClass
  have hsub := sub_set_self
  obtain ⟨hp, g, d, tk, os⟩ := s
  dsimp only
  wp_walk
  refine wpAny_askSetting (wpAny_pure ?_)
  dsimp only
  simp only [newObj]
  refine wpAny_bind (wpAny_alloc (wpAny_pure ?_))
  exact wpAny_pure h
end
section
variable {prog : Program} {w : World} {α : Type} [DecidableEq α] {T : KyT prog w α} {A : Around} {R : Result → Shared → Prop} {I : Addr} {fp wr : List Addr} {G : Array GenState → Array GenState → Prop} {n : Nat} {P : Nat → Value → Prop} {St : Nat → Shared → Prop}
theorem loopG (W : WalksS prog w A.in1 I fp wr G n P St) (S : Addr) (hSf : S ∉ fp) (xs : List α) (hsz : xs.length = n) (hn1 : n + 1 < scanBound)
    (hval : ∀ i v, P i v → ∃ k t, xs[i]? = some k ∧ v = T.mkv k t) :
    ∀ (k i : Nat) (s : Shared), n - i = k → i ≤ n → St i s →
      (∃ m, m ≤ i ∧ SetG T s.heap S (fun k' => decide (k' ∈ xs.take i)) m) →
      (∀ s', Moved (S :: wr) G s s' → (∃ m, m ≤ n ∧ SetG T s'.heap S (fun k' => decide (k' ∈ xs)) m) → R (.ok (.ret .none)) s') →
      codeAny (model prog w) A (.builtin "set.update.loop" ⟨[.ref S, .ref I], []⟩) R s := by
  have hSw : S ∉ wr := fun h => hSf (W.sub _ h)
  have hsub : ∀ b ∈ wr, b ∈ S :: wr := fun b hb => List.mem_cons_of_mem _ hb
  intro k
  induction k with
  | zero =>
    intro i s hk hi hst hS hR
    have hin : i = n := by omega
    subst hin
    refine codeAny_builtin PyProof.Rows.F.entry_set_update_loop ?_
    rw [Around.under_plainId PyProof.Rows.F.plain_set_update_loop _]
    show wpAny _ A.in1 (pyNext (.ref I) >>= _) _ _ s
    refine wpAny_bind (W.done s _ _ hst fun s' hm => ?_)
    show wpAny _ A.in1 (ret Value.none) _ _ s'
    refine wpAny_pure (hR s' (hm.mono hsub) ?_)
    obtain ⟨m, hm1, R1⟩ := hS
    rw [← hsz, List.take_length] at R1
    exact ⟨m, hm1, R1.at fun o ho => hm.heap S _ hSw ho⟩
  | succ k ih =>
    intro i s hk hi hst hS hR
    have hlt : i < n := by omega
    refine codeAny_builtin PyProof.Rows.F.entry_set_update_loop ?_
    rw [Around.under_plainId PyProof.Rows.F.plain_set_update_loop _]
    show wpAny _ A.in1 (pyNext (.ref I) >>= _) _ _ s
    refine wpAny_bind (W.item i s _ _ hlt hst fun v s' hP hst' hm => ?_)
    obtain ⟨x, t, hx, rfl⟩ := hval i v hP
    obtain ⟨m, hm1, R1⟩ := hS
    have R2 : SetG T s'.heap S (fun k' => decide (k' ∈ xs.take i)) m := R1.at fun o ho => hm.heap S _ hSw ho
    show wpAny _ A.in1 (holding [T.mkv x t] (setAdd S (T.mkv x t)) >>= _) _ _ s'
    refine wpAny_bind (wpAny_holding ?_)
    unfold setAdd
    refine wpAny_holding ?_
    refine wpAny_bind (T.knd.pyHash (k := x) (T.his x t) ?_)
    refine setG_add_hashed (s := { s' with toks := s'.toks + 1 }) R2 (by omega) fun h' hsb R3 => ?_
    have et : xs.take (i + 1) = xs.take i ++ [x] := by rw [List.take_add_one, hx]; rfl
    have R4 : ∃ m', m' ≤ i + 1 ∧ SetG T h' S (fun k' => decide (k' ∈ xs.take (i + 1))) m' := by
      refine ⟨_, ?_, R3.congr fun k' => ?_⟩
      · split <;> omega
      · rw [et, Bool.eq_iff_iff, Bool.or_eq_true, decide_eq_true_eq, decide_eq_true_eq, decide_eq_true_eq, List.mem_append, List.mem_singleton]
    refine wpAny_pure ⟨plainId_quiet PyProof.Rows.F.plain_set_update_loop _, ih (i + 1) _ (by omega) hlt (W.frame _ s' _ _ hst' (Nat.le_succ _) fun b hb o e => ?_) R4 fun s'' hm'' hS'' => ?_⟩
    · rw [hsb.2 b (fun h : b = S => hSf (by rw [← h]; exact hb))]; exact e
    · refine hR s'' (Moved.trans W.gtrans ((hm.mono hsub).then_heap (Nat.le_succ _) fun b o hb e => ?_) hm'') hS''
      rw [hsb.2 b (fun h : b = S => hb (by rw [h]; exact List.mem_cons_self))]; exact e
end
section
variable {prog : Program} {w : World} {α : Type} [DecidableEq α] {T : KyT prog w α} {A : Around} {E : Value → Shared → Prop} {s : Shared}
set_option maxHeartbeats 8000000 in
theorem call_set_listG {l : Addr} {items : Array Value} {xs : List α} {Q : Value → Shared → Prop}
    (hh : A.handled = none) (hl : s.heap.IsList l items) (hsz : xs.length = items.size) (hval : ∀ (i : Nat) (v : Value), items[i]? = some v → ∃ k t, xs[i]? = some k ∧ v = T.mkv k t) (hn1 : xs.length + 1 < scanBound)
    (h : ∀ (h' : Heap) (tk m : Nat), m ≤ xs.length → SetG T h' s.heap.objs.size (fun k' => decide (k' ∈ xs)) m →
      (∀ b o, b < s.heap.objs.size → s.heap.get? b = some o → h'.get? b = some o) → Q (.ref s.heap.objs.size) { s with heap := h', toks := tk }) :
    wpAny (model prog w) A (call (.type "set") [.ref l]) Q E s := by
  obtain ⟨c, tl, hmro⟩ := PySem.F.called_set.mro
  have hmade := PySem.F.called_set.made
  have hsub := PySem.F.called_set.sub
  refine wpAny_call (codeAny_of_tree ?_)
  show wpAny _ _ (callAny (.type "set") _) _ _ _
  refine wpAny_pure ⟨Code.quiet_builtin _ (by decide +kernel), codeAny_builtin PySem.F.entry_type_call ?_⟩
  rw [Around.under_plain (weight_type_call_type "set" [.ref l] []) rfl]
  have h1 := PySem.F.called_set.notType
  have h2 := PySem.F.called_set.canCreate
  have hct := PySem.F.typeCall_set_1 (.ref l)
  repeat (any_goals (first | assumption | wp_step))

  refine codeAny_mono (code_set_led1 (.ref l) (E := E) (Q₁ := fun obj s₁ => obj = .ref s.heap.objs.size ∧ s₁ = { s with heap := s.heap.push { cls := .type "set", dict := none, data := .set #[] 0 (.fresh 0 0 (!w.params.followText "set-order")) } }) ⟨rfl, rfl⟩) fun r s₁ hr => ?_
  cases r with
  | error e => exact hr
  | ok fl =>
    cases fl with
    | ret obj =>
      obtain ⟨rfl, rfl⟩ := hr
      have R0 := setG_fresh (T := T) (h := s.heap)
      generalize (!w.params.followText "set-order") = led at R0 ⊢
      have hS : (s.heap.push { cls := .type "set", dict := none, data := .set #[] 0 (.fresh 0 0 led) }).get? s.heap.objs.size = some { cls := .type "set", dict := none, data := .set #[] 0 (.fresh 0 0 led) } := Heap.get?_push_size _ rfl
      have hT : Shared.TypeIs { s with heap := s.heap.push { cls := .type "set", dict := none, data := .set #[] 0 (.fresh 0 0 led) } } (.ref s.heap.objs.size) "set" := ⟨_, hS, rfl⟩
      have hli := PySem.F.called_set.init.lookup
      have hbi := PySem.F.called_set.init.bind (.ref s.heap.objs.size)
      repeat (any_goals (first | assumption | wp_step))

      refine codeAny_mono (codeAny_call_builtin (R := wants (fun r s₂ => r = .none ∧ ∃ h' tk m, s₂ = { s with heap := h', toks := tk } ∧ m ≤ xs.length ∧
          SetG T h' s.heap.objs.size (fun k' => decide (k' ∈ xs)) m ∧
          (∀ b o, b < s.heap.objs.size → s.heap.get? b = some o → h'.get? b = some o)) E) PySem.F.called_set.init.plain PySem.F.entry_set_init (check_set_init_1 hT ?_)) fun r₂ s₂ hr₂ => ?_
      · obtain ⟨ol, hol, hcl, nl, hdl⟩ := hl
        obtain ⟨ocls, odict, odata, oslots⟩ := ol
        simp only at hcl hdl
        subst hcl; subst hdl
        have hol' : (s.heap.push { cls := .type "set", dict := none, data := .set #[] 0 (.fresh 0 0 led) }).get? l = some { cls := .type "list", dict := odict, data := .seq items nl, slots := oslots } := Heap.get?_push_of_some _ hol
        have hsls := PySem.F.sub_list_set
        have hslf := PySem.F.sub_list_frozenset
        have hne : (Value.type "list" == Value.type "dict") = false := by decide
        have hl1 : (s.heap.push { cls := .type "set", dict := none, data := .set #[] 0 (.fresh 0 0 led) }).IsList l items := ⟨_, hol', rfl, nl, rfl⟩
        unfold Builtin.«set.__init__» noKeywords Builtin.Frozenset.updateFrom
        generalize hPI : pyIter = PI
        wp_walk
        subst hPI

        refine wpAny_pyIter_list hl1 ?_
        refine wpAny_bind (wpAny_runValue ?_)
        have hlS : l < s.heap.objs.size := Heap.lt_size hol
        have hh3 : A.in1.in1.in1.handled = none := by simp [hh]
        have hneI : l ≠ (s.heap.push { cls := .type "set", dict := none, data := .set #[] 0 (.fresh 0 0 led) }).objs.size := by
          rw [Heap.size_push]; exact Nat.ne_of_lt (Nat.lt_succ_of_lt hlS)
        have hSf : s.heap.objs.size ∉ [(s.heap.push { cls := .type "set", dict := none, data := .set #[] 0 (.fresh 0 0 led) }).objs.size, l] := by
          rw [Heap.size_push]; simp only [List.mem_cons, List.mem_singleton, List.not_mem_nil, or_false, not_or]
          exact ⟨Nat.ne_of_lt (Nat.lt_succ_self _), Nat.ne_of_gt hlS⟩
        refine loopG (T := T) ((Walks.list hh3 _ l hneI items).toS) s.heap.objs.size
          hSf xs hsz (by rw [← hsz]; exact hn1) hval (items.size - 0) 0 _ (by omega) (Nat.zero_le _)
          ⟨⟨_, Heap.get?_push_size _ rfl, rfl, rfl⟩, (hl1.push _)⟩ ?hS0 ?hR
        case hS0 =>
          exact ⟨0, Nat.le_refl _, (R0.at fun o ho => Heap.get?_push_of_some _ ho).congr fun k => by simp⟩
        case hR =>
          intro s' hm hS'
          obtain ⟨h', g', d', tk', os'⟩ := s'
          have eg : g' = s.gens := hm.gens
          have ed : d' = s.drawn := hm.drawn
          have eo : os' = s.os := hm.os
          subst eg; subst ed; subst eo
          show wpAny _ _ _ _ _ _
          refine wpAny_pure ?_
          show wpAny _ _ (ret Value.none) _ _ _
          obtain ⟨m, hm1, R1⟩ := hS'
          refine wpAny_pure ⟨rfl, h', tk', m, rfl, by rw [hsz]; exact hm1, R1, fun b o hb e => ?_⟩
          have hb1 : b ≠ s.heap.objs.size := Nat.ne_of_lt hb
          have hb2 : b ≠ (s.heap.push { cls := .type "set", dict := none, data := .set #[] 0 (.fresh 0 0 led) }).objs.size := by
            rw [Heap.size_push]; exact Nat.ne_of_lt (Nat.lt_succ_of_lt hb)
          exact hm.heap b o (by simp only [List.mem_cons, List.mem_singleton, List.not_mem_nil, or_false, not_or]; exact ⟨hb1, hb2⟩) (Heap.get?_push_of_some _ (Heap.get?_push_of_some _ e))

      · cases r₂ with
        | error e => exact hr₂
        | ok fl₂ =>
          cases fl₂ with
          | ret r =>
            obtain ⟨rfl, h', tk, m, rfl, hm1, hS', hk'⟩ := hr₂
            repeat (any_goals (first | assumption | wp_step))
            exact h _ _ _ hm1 hS' hk'
          | _ => exact hr₂.elim
    | _ => exact hr.elim
end
end So

namespace So
open PySem PySem.Spec PyProof.Rows L2
/-! ### there is one ascending list of the same texts -/
theorem risingS_pair : ∀ {l : List Str} {p : Str}, risingS p l = true → (p :: l).Pairwise (fun a b => a.cps.toList ≤ b.cps.toList)
  | [], p, _ => List.pairwise_singleton _ _
  | x :: r, p, h => by
    have h : (!ltCps x.cps.toList p.cps.toList && risingS x r) = true := h
    rw [Bool.and_eq_true, Bool.not_eq_true', ltCps_eq, decide_eq_false_iff_not] at h
    have ih := risingS_pair h.2
    have h1 : p.cps.toList ≤ x.cps.toList := List.not_lt.mp h.1
    refine List.pairwise_cons.mpr ⟨fun y hy => ?_, ih⟩
    rcases List.mem_cons.mp hy with e | e
    · rw [e]; exact h1
    · exact List.le_trans h1 ((List.pairwise_cons.mp ih).1 y e)
theorem sortedS_pair {l : List Str} (h : sortedS l = true) : l.Pairwise (fun a b => a.cps.toList ≤ b.cps.toList) := by
  cases l with
  | nil => exact List.Pairwise.nil
  | cons x r => exact risingS_pair h
theorem str_of_cps {a b : Str} (h : a.cps.toList = b.cps.toList) : a = b := by
  cases a
  cases b
  simp only [Str.mk.injEq]
  exact Array.toList_inj.mp h
theorem sortedS_one {a b : List Str} (ha : sortedS a = true) (hb : sortedS b = true) (na : a.Nodup) (nb : b.Nodup) (h : ∀ k, k ∈ a ↔ k ∈ b) : a = b := by
  have p : a.Perm b := (List.perm_ext_iff_of_nodup na nb).mpr h
  exact p.eq_of_pairwise (le := fun a b : Str => a.cps.toList ≤ b.cps.toList) (fun x y _ _ h1 h2 => str_of_cps (List.le_antisymm h1 h2)) (sortedS_pair ha) (sortedS_pair hb)
theorem ints_one {a b : List Int} (ha : a.Pairwise (· < ·)) (hb : b.Pairwise (· < ·)) (h : ∀ k, k ∈ a ↔ k ∈ b) : a = b := by
  have nd : ∀ {l : List Int}, l.Pairwise (· < ·) → l.Nodup := fun h => h.imp fun h e => by omega
  have p : a.Perm b := (List.perm_ext_iff_of_nodup (nd ha) (nd hb)).mpr h
  exact p.eq_of_pairwise (le := fun a b : Int => a < b) (fun x y _ _ h1 h2 => by omega) ha hb
section
variable {P : Program} {w : World} {A : Around} {E : Value → Shared → Prop} {s : Shared} {a : Addr}
theorem strs_of (P : Program) (w : World) : ∀ (l : List Value), (∀ v ∈ l, ∃ k tk, v = Value.str k tk) → StrsAre l (l.map (kyStr P w).key)
  | [], _ => .nil
  | v :: l, h => by
    obtain ⟨k, tk, rfl⟩ := h v List.mem_cons_self
    exact .cons k tk (strs_of P w l fun u hu => h u (List.mem_cons_of_mem _ hu))
theorem list_sort_treeSt {a : Addr} {vs : List Value} {ss : List Str} {n : Nat} {Q : Fin → Shared → Prop} (ho : s.heap.get? a = some (seqObj "list" vs.toArray n))
    (hS : StrsAre vs ss) (hL : vs.length ≤ sizeLine)
    (h : ∀ (out : Array Value) (ss' : List Str), StrsAre out.toList ss' → ss'.Perm ss → sortedS ss' = true → Q (.done (.ret .none)) { s with heap := sortedHeap s.heap a vs out }) :
    wpAny (model P w) A (Builtin.«list.sort» ⟨[.ref a], []⟩) Q E s := by
  refine list_sort_treeKAny strKind_oneLt ho hS.keysOf (fun v₁ v₂ rest e => keyKind_strs (by rw [← e]; exact hS)) hL fun st' hp hs => ?_
  obtain ⟨ss', h1, h2, h3⟩ := sorted_out_str hS hp hs
  exact h _ ss' h1 h2 h3
theorem sorted_setS {S : Str → Bool} {n : Nat} {Q : Value → Shared → Prop} (R : SetG (kyStr P w) s.heap a S n) (hh : A.handled = none)
    (hQ : ∀ s' p (out : Array Value) (c : Nat) (ns : List Str), (∀ b o, s.heap.get? b = some o → s'.heap.get? b = some o) → s'.gens = s.gens → s'.os = s.os → s.heap.objs.size ≤ p →
      s'.heap.get? p = some (seqObj "list" out c) → StrsAre out.toList ns → sortedS ns = true → ns.Nodup → (∀ k, k ∈ ns ↔ S k = true) → ns.length = n → Q (.ref p) s') :
    wpAny (model P w) A (call (.builtin "sorted") [.ref a]) Q E s := by
  obtain ⟨o, es, ep, t, ho, hex, hd, g, nd, hm, hb, hf, hn, hr, hl⟩ := R
  refine Calls.call_function_entry kind_sorted plain_sorted entry_sorted (args_sorted1 _) ?_
  unfold Builtin.«sorted»
  refine wpAny_bind (m := checkCount "sorted" 1 1 _) (wpAny_pure ?_)
  refine wpAny_bind (collect_set (A := A.in1) hh ⟨o, ho, hex.1, hd⟩ hf hb hr hl fun s1 vs k1 hz g1 o1 pm => ?_)
  have hvl : vs.length = n := by rw [pm.length_eq, List.length_map, Array.length_toList]; exact hn
  have hvz : vs.length ≤ sizeLine := by rw [hvl, ← hn]; exact fits_of_scanBound hb
  have hI : StrsAre vs (vs.map (kyStr P w).key) := strs_of P w vs fun v hv => by
    obtain ⟨e, he, q⟩ := List.mem_map.mp (pm.mem_iff.mp hv)
    obtain ⟨k, tk, h1, _⟩ := g e he
    exact ⟨k, tk, by rw [← q]; exact h1⟩
  have pk : (vs.map (kyStr P w).key).Perm (es.toList.map (keyG (kyStr P w))) := by
    have q := pm.map (kyStr P w).key
    rw [List.map_map] at q
    exact q
  refine wpAny_bind (wpAny_newList ?_ hvz)
  have hoL : (s1.heap.push (seqObj "list" vs.toArray 0)).get? s1.heap.objs.size = some (seqObj "list" vs.toArray 0) := Heap.get?_push_size _ rfl
  refine wpAny_bind (wpAny_holding (wpAny_call_entry slot_list_sort ⟨_, hoL, rfl⟩ entry_list_sort (list_sort_treeSt hoL hI hvz fun out ns' a1 a2 a3 => ⟨_, rfl, ?_⟩) (args_list_sort _)))
  obtain ⟨c, hc⟩ := sortedHeap_at (vs := vs) (out := out) hoL
  have pn : ns'.Perm (es.toList.map (keyG (kyStr P w))) := a2.trans pk
  refine wpAny_pure ⟨_, rfl, hQ _ s1.heap.objs.size out c ns' (fun b u e => ?_) g1 o1 hz hc a1 a3 (pn.nodup_iff.mpr nd) (fun k => by rw [pn.mem_iff, ← hm k]) ?_⟩
  · have q := k1 b u e
    have hlt := Heap.lt_size q
    show (sortedHeap (s1.heap.push (seqObj "list" vs.toArray 0)) s1.heap.objs.size vs out).get? b = some u
    rw [sortedHeap_old (Nat.ne_of_lt hlt) (by rw [size_push']; exact Nat.lt_succ_of_lt hlt)]
    exact Heap.get?_push_of_some _ q
  · rw [pn.length_eq, List.length_map, Array.length_toList]; exact hn
end
/-! ### the calls -/
section
variable {X : Cx}
/-- the set of texts at a -/
def SetS (P : Program) (w : World) (a : Addr) (S : Str → Bool) (n : Nat) : HO := .ext fun h => SetG (kyStr P w) h a S n
theorem setS_new {w : World} {P P' : Program} {H : Hp} {h : Heap} {a : Addr} {S : Str → Bool} {n : Nat} (R : SetG (kyStr P' w) h a S n) : ObjOk P w H h a (SetS P' w a S n) := by
  have ⟨o, _, _, _, ho, _⟩ := R
  exact ⟨R, ⟨o, ho⟩, fun h1 h2 p k => SetG.at p k⟩
theorem setS_get {pins : List (Addr × Obj)} {σ : L2.St} {H : Hp} {s : Shared} {a : Addr} {S : Str → Bool} {n : Nat} (I : Inv X pins σ H s) (ha : H a = some (SetS X.prog X.w a S n)) : SetG (kyStr X.prog X.w) s.heap a S n := (I.hok a _ ha).1
/-- set(list of texts) -/
def rSetS (K : PySem.W.Frag) (P : Program) (w : World) : List V → Hp → VK → Prop := fun xs H Q => ∃ (l : Addr) (ks : List Str), xs = [.ref l] ∧ SqL K H l (ks.map V.str) ∧ ks.length < 1000 ∧
  ∀ (p : Addr) (n : Nat), H p = none → n ≤ ks.length → Q (.ref p) (upd H p (SetS P w p (fun k => decide (k ∈ ks)) n))
theorem vals_at : ∀ {xs : List Str} {us : List Value}, Vals (xs.map V.str) us → ∀ (i : Nat) (v : Value), us[i]? = some v → ∃ k t, xs[i]? = some k ∧ v = Value.str k t
  | [], us, r, i, v, h => by
    cases r
    simp at h
  | x :: xs, us, r, i, v, h => by
    cases r with
    | cons r1 r =>
      obtain ⟨t, rfl⟩ := r1
      cases i with
      | zero =>
        simp at h
        exact ⟨x, t, rfl, h.symm⟩
      | succ i => exact vals_at r i v (by simpa using h)
theorem cr_setS (hc : X.calm = true) : CallR X (.type "set") (rSetS X.K X.prog X.w) := by
  intro pins s σ H xs us Q I r h
  obtain ⟨l, ks, rfl, hs, h1000, q⟩ := h
  obtain ⟨its, rv, hl, _⟩ := I.list hs
  rw [Vals.ref1 r]
  have hlen := rv.length
  rw [List.length_map] at hlen
  refine call_set_listG (T := kyStr X.prog X.w) (xs := ks) (I.ok.hd hc) hl.isList (by simpa using hlen) (fun i v hv => vals_at rv i v (by simpa using hv)) (by unfold scanBound; omega) fun h' tk m hm R k => ?_
  exact ⟨.ref _, upd H s.heap.objs.size (SetS X.prog X.w s.heap.objs.size (fun k => decide (k ∈ ks)) m), I.laid (t' := tk) (fun b u e => k b u (Heap.lt_size e) e) (Nat.le_refl _) (setS_new R), rfl, q _ _ (I.hok.fresh (Nat.le_refl _)) hm⟩
/-- sorted(set of texts) -/
def rSortSS (P : Program) (w : World) : List V → Hp → VK → Prop := fun xs H Q => ∃ (a : Addr) (S : Str → Bool) (n : Nat), xs = [.ref a] ∧ H a = some (SetS P w a S n) ∧ n < 1000 ∧
  ∀ (ns : List Str) (p : Addr), sortedS ns = true → ns.Nodup → (∀ k, k ∈ ns ↔ S k = true) → ns.length = n → H p = none → Q (.ref p) (upd H p (.lst (ns.map V.str)))
theorem cr_sortSS (hc : X.calm = true) : CallR X (.builtin "sorted") (rSortSS X.prog X.w) := by
  intro pins s σ H vs us Q I r h
  obtain ⟨a, S, n, rfl, ha, h64, q⟩ := h
  have R := setS_get I ha
  rw [Vals.ref1 r]
  refine sorted_setS R (I.ok.hd hc) fun s' p out c ns k g o hp hg hi hs hnd hm hl => ?_
  have hlen : (ns.map V.str).length ≤ sizeLine := by rw [List.length_map, hl, sizeLine_eq]; omega
  have hn : H p = none := I.hok.fresh hp
  have J : Inv X pins σ (upd H p (.lst (ns.map V.str))) { s with heap := s'.heap, gens := s'.gens, drawn := s'.drawn, toks := s'.toks } :=
    I.call (ch := []) (Un.laid k hp hn) (I.hok.laid k hp ⟨hlen, out.toList, c, vals_of_strs hi, hg⟩) (by rw [g]; exact I.bare) (fun _ z => nomatch z)
  have e : s' = { s with heap := s'.heap, gens := s'.gens, drawn := s'.drawn, toks := s'.toks } := by
    cases s'
    cases s
    cases o
    rfl
  rw [e]
  exact ⟨.ref p, _, J, rfl, q ns p hs hnd hm hl hn⟩
/-! ### ints -/
def kyInt (P : Program) (w : World) : KyT P w Int where
  knd := PySem.intKind P w
  mkv := Value.int
  key := fun v => match v with | .int k _ => k | _ => 0
  hk := fun _ _ => rfl
  his := fun k t => intKind_is P w k t
  iff := fun k k0 t => by
    show ((k0 == k) = true) ↔ k0 = k
    exact beq_iff_eq
  hsc := fun _ _ => rfl
theorem setR_of {P : Program} {w : World} {h : Heap} {a : Addr} {S : Int → Bool} {n : Nat} (R : SetG (kyInt P w) h a S n) : SetR w h a S n := by
  obtain ⟨o, es, ep, t, ho, hex, hd, g, nd, hm, r⟩ := R
  exact ⟨o, es, ep, t, ho, hex, hd, g, nd, hm, r⟩
/-- set(list of ints) -/
def rSetI2 (K : PySem.W.Frag) (w : World) : List V → Hp → VK → Prop := fun xs H Q => ∃ (l : Addr) (ks : List Int), xs = [.ref l] ∧ SqL K H l (ks.map V.int) ∧ ks.length < 1000 ∧
  ∀ (p : Addr) (n : Nat), H p = none → n ≤ ks.length → Q (.ref p) (upd H p (SetO w p (fun k => decide (k ∈ ks)) n))
theorem vals_atI2 : ∀ {xs : List Int} {us : List Value}, Vals (xs.map V.int) us → ∀ (i : Nat) (v : Value), us[i]? = some v → ∃ k t, xs[i]? = some k ∧ v = Value.int k t
  | [], us, r, i, v, h => by
    cases r
    simp at h
  | x :: xs, us, r, i, v, h => by
    cases r with
    | cons r1 r =>
      obtain ⟨t, rfl⟩ := r1
      cases i with
      | zero =>
        simp at h
        exact ⟨x, t, rfl, h.symm⟩
      | succ i => exact vals_atI2 r i v (by simpa using h)
theorem cr_setI2 (hc : X.calm = true) : CallR X (.type "set") (rSetI2 X.K X.w) := by
  intro pins s σ H xs us Q I r h
  obtain ⟨l, ks, rfl, hs, h1000, q⟩ := h
  obtain ⟨its, rv, hl, _⟩ := I.list hs
  rw [Vals.ref1 r]
  have hlen := rv.length
  rw [List.length_map] at hlen
  refine call_set_listG (T := kyInt X.prog X.w) (xs := ks) (I.ok.hd hc) hl.isList (by simpa using hlen) (fun i v hv => vals_atI2 rv i v (by simpa using hv)) (by unfold scanBound; omega) fun h' tk m hm R k => ?_
  exact ⟨.ref _, upd H s.heap.objs.size (SetO X.w s.heap.objs.size (fun k => decide (k ∈ ks)) m), I.laid (t' := tk) (fun b u e => k b u (Heap.lt_size e) e) (Nat.le_refl _) (setO_new (setR_of R)), rfl, q _ _ (I.hok.fresh (Nat.le_refl _)) hm⟩
end
end So

namespace So
open PySem PySem.Spec PyProof.Rows L2 PySem.HandSPX
section
variable {M : Model} {A : Around} {E : Value → Shared → Prop} {h : Heap} {g : Array GenState} {d : Drawn} {t : Nat} {os : OsState}
variable {nm q : Str} {C N : Addr} {bs bm bmB : List Value} {hdct : Bool} {sn : List Str} {sub : List Value} {ab : Bool} {col : Option Bool} {dd : Option Addr} {k0 k1 k2 k3 k5 : Option Value} {B newId initId : String}
theorem kw_check (F : ExcBaseFacts B newId initId bmB) (hT : ∀ X : String, bm.contains (.type X) = bmB.contains (.type X)) {kws : List (Str × Value)} {Q : Unit → Shared → Prop}
    (hC : h.get? C = some (excClassObj nm q C N bs bm hdct sn sub ab col dd k0 k1 k2 k3 k5 newId)) (hq : Q () ⟨h, g, d, t, os⟩) :
    wpAny M A (checkBuiltinCall newId ⟨[.ref C], kws⟩) Q E ⟨h, g, d, t, os⟩ := by
  have inB : (Value.ref C :: bm).contains (.type B) = true := by
    rw [List.contains_cons, hT, F.hasB, Bool.or_true]
  have stars := F.noStar
  simp only [checkBuiltinCall, F.newKind, F.newSplit, F.newRow]
  repeat (first
    | refine wpAny_loadPart_at hC ?_
    | (refine wpAny_isSubtype_exc hC ?_
       rw [inB])
    | refine wpAny_staticBase_exc hC ?_
    | refine wpAny_madeBy_exc hC ?_
    | simp only [bne_self_eq_false, Bool.false_eq_true, if_false]
    | wp_step)
  exact hq
end
section
variable {prog : Program} {w : World} {A : Around} {E : Value → Shared → Prop} {R : Result → Shared → Prop} {h : Heap} {g : Array GenState} {d : Drawn} {t : Nat} {os : OsState}
variable {nm q : Str} {C N : Addr} {bs bm bmB : List Value} {hdct : Bool} {sn : List Str} {sub : List Value} {ab : Bool} {col : Option Bool} {dd : Option Addr} {k0 k1 k2 k3 k5 : Option Value} {B newId initId : String}
theorem kw_new (F : ExcBaseFacts B newId initId bmB) (hT : ∀ X : String, bm.contains (.type X) = bmB.contains (.type X)) {kws : List (Str × Value)}
    (hC : h.get? C = some (excClassObj nm q C N bs bm hdct sn sub ab col dd k0 k1 k2 k3 k5 newId))
    (hq : R (.ok (.ret (.ref (h.objs.size + 1)))) ⟨(h.push (PySem.W.kdv_tup [])).push (excO C h.objs.size), g, d, t, os⟩) :
    codeAny (model prog w) A (.builtin newId ⟨[.ref C], kws⟩) R ⟨h, g, d, t, os⟩ := by
  have ends := F.ends
  have inB : (Value.ref C :: bm).contains (.type B) = true := by
    rw [List.contains_cons, hT, F.hasB, Bool.or_true]
  have noA : (Value.ref C :: bm).contains (.type "AttributeError") = false := by
    rw [List.contains_cons, hT, F.noAttr]
    rfl
  have noN : (Value.ref C :: bm).contains (.type "NameError") = false := by
    rw [List.contains_cons, hT, F.noName]
    rfl
  refine codeAny_builtinAt F.entry ?_
  unfold Builtin.«BaseException.__new__»
  refine PySem.wpAt_bind ?_
  show PySem.wpAt _ _ _ (stack >>= _) _ _ _
  refine PySem.wpAt_bind (PySem.wpAt_stack fun p below => ?_)
  refine PySem.wpAt_of_wpAny ?_
  wp_walk
  refine PySem.wpAt_of_wpAny ?_
  rw [F.owner]
  repeat (first
    | with_reducible refine wpAny_madeHere_exc F.canon hC ?_
    | with_reducible refine wpAny_loadPart_at hC ?_
    | (with_reducible refine wpAny_isSubtype_exc hC ?_
       first
         | rw [inB]
         | rw [noA]
         | rw [noN])
    | wp_step)
  show R _ _
  rw [Heap.size_push]
  exact hq
theorem kw_type (F : ExcBaseFacts B newId initId bmB) (hT : ∀ X : String, bm.contains (.type X) = bmB.contains (.type X)) {kws : List (Str × Value)} {fI : Addr} {Q : Fin → Shared → Prop}
    (hC : h.get? C = some (excClassObj nm q C N bs bm hdct sn sub ab col dd k0 k1 k2 k3 k5 newId))
    (hi : PySem.W.Looks (model prog w) h (typeLookup (.ref C) "__init__") (some (.ref fI))) (hb : ∀ self, PySem.W.Looks (model prog w) h (bindSpecial (.ref fI) self) (.ref fI, [self]))
    (hq : codeAny (model prog w) A (.call (.ref fI) ⟨[.ref (h.objs.size + 1)], kws⟩)
      (fun r s' => match r with | .ok (.ret v) => v = .none ∧ Q (.done (.ret (.ref (h.objs.size + 1)))) s' | .ok _ => False | .error e => E e s')
      ⟨(h.push (PySem.W.kdv_tup [])).push (excO C h.objs.size), g, d, t, os⟩) :
    wpAny (model prog w) A (Builtin.«type.__call__» ⟨[.ref C], kws⟩) Q E ⟨h, g, d, t, os⟩ := by
  repeat (first
    | with_reducible refine wpAny_loadPart_at hC ?_
    | with_reducible refine wpAny_madeBy_exc hC ?_
    | wp_step)
  refine codeAny_call_builtin_code (Code.quiet_builtin _ F.quiet) ?_
  refine kw_check F hT hC ?_
  refine kw_new F hT hC ?_
  show wpAny _ _ _ _ _ _
  have keep : ∀ b o, h.get? b = some o → ((h.push (PySem.W.kdv_tup [])).push (excO C h.objs.size)).get? b = some o := by
    intro b o e
    exact Heap.get?_push_of_some _ (Heap.get?_push_of_some _ e)
  have hC' := keep _ _ hC
  have here : ((h.push (PySem.W.kdv_tup [])).push (excO C h.objs.size)).get? (h.objs.size + 1) = some (excO C h.objs.size) := by
    heap_get
  have self : (Value.ref C :: bm).contains (.ref C) = true := by simp
  have look := hi.keeps keep
  have bind := (hb (.ref (h.objs.size + 1))).keeps keep
  unfold isInstance
  repeat (first
    | with_reducible refine wpAny_loadPart_at here ?_
    | (with_reducible refine wpAny_isSubtype_exc hC' ?_
       rw [self])
    | wp_step)
  show wpAny _ _ (typeLookup (.ref C) _) _ _ _
  refine look.at ?_
  refine wpAny_holding (wpAny_bind (bind.at ?_))
  refine wpAny_bind (wpAny_call (codeAny_mono hq fun r s' z => ?_))
  match r, z with
  | .error e, z => exact z
  | .ok .next, z => exact z.elim
  | .ok .brk, z => exact z.elim
  | .ok .cont, z => exact z.elim
  | .ok (.ret v), z =>
    obtain ⟨e, z⟩ := z
    subst e
    first
      | exact wpAny_pure (wpAny_pure z)
      | (wp_walk
         exact z)
theorem kw_checkT {kws : List (Str × Value)} {Q : Unit → Shared → Prop} (hC : h.get? C = some (excClassObj nm q C N bs bm hdct sn sub ab col dd k0 k1 k2 k3 k5 newId)) (hq : Q () ⟨h, g, d, t, os⟩) :
    wpAny (model prog w) A (checkBuiltinCall "type.__call__" ⟨[.ref C], kws⟩) Q (fun e s' => E e s') ⟨h, g, d, t, os⟩ := by
  have f3 := tc_sub
  have ty : (⟨h, g, d, t, os⟩ : Shared).TypeIs (.ref C) "type" := ⟨_, hC, rfl⟩
  simp only [checkBuiltinCall, tc_kind, tc_split]
  repeat (any_goals (first
    | assumption
    | with_reducible refine wpAny_loadPart_at hC ?_
    | with_reducible refine wpAny_onRaise ?_
    | with_reducible refine wpAny_map ?_
    | wp_step))
theorem kw_call (F : ExcBaseFacts B newId initId bmB) (hT : ∀ X : String, bm.contains (.type X) = bmB.contains (.type X)) {kws : List (Str × Value)} {fI : Addr}
    (hC : h.get? C = some (excClassObj nm q C N bs bm hdct sn sub ab col dd k0 k1 k2 k3 k5 newId))
    (hi : PySem.W.Looks (model prog w) h (typeLookup (.ref C) "__init__") (some (.ref fI))) (hb : ∀ self, PySem.W.Looks (model prog w) h (bindSpecial (.ref fI) self) (.ref fI, [self]))
    (hq : codeAny (model prog w) (A.under (.builtin "type.__call__" ⟨[.ref C], kws⟩)) (.call (.ref fI) ⟨[.ref (h.objs.size + 1)], kws⟩) (PySem.W.InitBack (h.objs.size + 1) R)
      ⟨(h.push (PySem.W.kdv_tup [])).push (excO C h.objs.size), g, d, t, os⟩) :
    codeAny (model prog w) A (.call (.ref C) ⟨[], kws⟩) R ⟨h, g, d, t, os⟩ := by
  have lk := tc_lookup
  have bd := tc_bind (.ref C)
  have ty : (⟨h, g, d, t, os⟩ : Shared).TypeIs (.ref C) "type" := ⟨_, hC, rfl⟩
  refine codeAny_of_tree ?_
  show wpAny _ _ (callAny (.ref C) _) _ _ _
  repeat (any_goals (first
    | assumption
    | with_reducible refine wpAny_loadPart_at hC ?_
    | wp_step))
  refine ⟨rfl, ?_⟩
  refine codeAny_call_builtin_at (Code.quiet_builtin _ (by decide +kernel)) entry_typeCall ?_
  refine kw_checkT hC ?_
  refine kw_type F hT hC hi hb ?_
  refine codeAny_mono hq fun r s' z => ?_
  match r, z with
  | .error e, z => exact z
  | .ok (.ret v), z => exact z
  | .ok .next, z => exact z
  | .ok .brk, z => exact z
  | .ok .cont, z => exact z
end
end So

namespace So
open PySem PySem.Spec PyProof.Rows L2
/-- C(k = v, ..), C's own __init__ keeping sp -/
def tMkK (C : Addr) (n : Nat) (sp : Sp) (gV : List V → List V → List V) (tk : TA) : L2.St → Hp → XK → Prop := fun σ H Q => tk σ H fun zs H1 => zs.length = n ∧ ∀ a, H1 a = none → sp (gV [.ref a] zs) (upd H1 a (exo a C none))
  (fun v H2 => v = .non ∧ ∃ (d : Addr) (fs : List (Str × V)), H2 a = some (exo a C (some d)) ∧ H2 d = some (exd d fs) ∧ H1 d = none ∧ Q (.ref C) (some d) (upd (del H2 a) d (.xd fs))) (fun _ _ _ => False)
section
variable {X : Cx} {CX : CXT} {x : Str} {C fI : Addr} {k : Nat} {fd : FuncData} {ps ks : List Str} {sp : Sp} {g : List Value → List Value → List Value} {gV : List V → List V → List V} {kws : List Keyword} {tk : TA} {p pos : Pos}
theorem pmk_oexK (T : OexC X.K C) (iC : PySem.W.findIn X.K (.ref C) "__init__" = some (some (.ref fI))) (tI : PySem.W.typeIn X.K (.ref fI) = some (.type "function")) (F1 : FnOk X.prog X.w X.K X.mg X.base CX k fI fd ps sp) (hr : Room (k + 1) X.A) (hb : KBn X.K fd ps 1 ks g gV)
    (hx : Passes CX X (fun _ _ _ => False)) (hg : Gl X x) (hm : X.mg x = some (.ref C)) (hkw : PK X kws tk)
    (hall : (backToKw pos (keywordEach kws X.env)).all (·.1.isSome) = true := by rfl) (hks : (backToKw pos (keywordEach kws X.env)).filterMap (·.1) = ks := by rfl) (hdb : (x == ("__debug__" : Str)) = false := by decide)
    (hpl : ((backTo pos (starEach [] X.env)).any (·.1) || (backToKw pos (keywordEach kws X.env)).any (·.1.isNone)) = false := by rfl) :
    PMk X (.Call (.Name x p) [] kws pos) (tMkK C ks.length sp gV tk) := by
  intro pins s σ H Q I h
  obtain ⟨nm, q, N, bs, bm, sn, sub, ab, col, dd, k0, k1, k2, k3, k5, hC, hbm⟩ := T.cls
  refine wpAny_Call_Name_kw (ld_glob I hg hm ?_ hdb)
  refine PySem.W.callWith_KW0 (h₀ := X.base) I.ok.mod.kin T.kC hall ?_ hpl
  refine thn (hkw.run pos pins s σ H _ I h) fun ws s1 z => ?_
  obtain ⟨zs, H1, I1, rz, hz, q1⟩ := z
  refine ⟨I1.kIn, ?_⟩
  rw [hks]
  show wpAny _ _ (call (.ref C) [] (ks.zip ws)) _ _ _
  obtain ⟨hp, g', dr, tk', os⟩ := s1
  have big : hp.objs.size ≤ hp.objs.size + 1 := Nat.le_succ _
  have fresh : H1 (hp.objs.size + 1) = none := I1.hok.fresh big
  have hq := q1 _ fresh
  have keep : ∀ b o, hp.get? b = some o → ((hp.push (PySem.W.kdv_tup [])).push (PySem.HandSPX.excO C hp.objs.size)).get? b = some o := by
    intro b o e
    exact Heap.get?_push_of_some _ (Heap.get?_push_of_some _ e)
  have here : ((hp.push (PySem.W.kdv_tup [])).push (PySem.HandSPX.excO C hp.objs.size)).get? (hp.objs.size + 1) = some (PySem.HandSPX.excO C hp.objs.size) := by
    heap_get
  have I2 : Inv X pins σ (upd H1 (hp.objs.size + 1) (exo (hp.objs.size + 1) C none)) ⟨(hp.push (PySem.W.kdv_tup [])).push (PySem.HandSPX.excO C hp.objs.size), g', dr, tk', os⟩ :=
    I1.laid (t' := tk') (o := exo (hp.objs.size + 1) C none) keep big (exo_ok here)
  have r1 : Vals [V.ref (hp.objs.size + 1)] [Value.ref (hp.objs.size + 1)] := .cons rfl .nil
  refine wpAny_call (kw_call F.excBase_ValueError (fun Y => PySem.HandSPX.refsVE_contains Y bm hbm) (I1.kIn _ _ hC) (PySem.W.looks_findIn I1.kIn iC) (fun self => PySem.W.bind_fn I1.kIn self tI)
    (codeAny_mono (F1.run _ X.stack _ _ ⟨[.ref (hp.objs.size + 1)], ks.zip ws⟩ (g [.ref (hp.objs.size + 1)] ws) _ _ (fun _ _ _ => False) (hr.make C [] (ks.zip ws)) (I2.env0.make C [] (ks.zip ws))
      (hb.to _ [.ref (hp.objs.size + 1)] ws I2.kIn rfl (rz.length.symm.trans hz)) (hb.rel r1 rz) hq) fun r s' hq' => ?_))
  match r, hq' with
  | .error er, hq' => exact hx pins σ _ _ er s' I2 hq'
  | .ok .next, hq' => exact hq'.elim
  | .ok .brk, hq' => exact hq'.elim
  | .ok .cont, hq' => exact hq'.elim
  | .ok (.ret u), hq' =>
    obtain ⟨v, H2, os2, bare2, un2, hok2, rv, ev, d, fs, ea, ed, hd1, q2⟩ := hq'
    subst ev
    obtain ⟨h2, g2, d2, t2, os'⟩ := s'
    exact ⟨rv, mk_end (raises_own T.exC T.tyC) I1 big keep un2 hok2 os2 bare2 ea ed hd1 q2⟩
/-- an exception that is made and kept, not raised -/
theorem pe_ofMk {e : Expr} {t : L2.St → Hp → XK → Prop} (hex : X.ex = []) (h : PMk X e t) : PE X e (fun σ H Q => t σ H fun cls d H' => ∀ a, H' a = none → Q (.ref a) (upd H' a (Xo cls d a))) := by
  refine ⟨fun pins s σ H Q I w => ?_⟩
  refine thn (h pins s σ H _ I w) fun u s' z => ?_
  obtain ⟨a, oe, fv, sI, H', cls, d, rfl, J, k, na, he, hz, hd, h1, nH, ho, hb, _, q⟩ := z
  have K := J.kept (t' := s'.toks) (h' := s'.heap) k
  have I' : Inv X pins σ H' s' := ⟨K.ok, ho.trans J.os, hb, K.base, K.loc, K.cell, K.free, K.freeC, K.pin, K.hok, K.len⟩
  have nL : a ≠ X.env.locals := fun z => by
    obtain ⟨m, hn, _⟩ := J.loc
    obtain ⟨o, es, ep, e, _⟩ := hn
    rw [← z, na] at e
    cases e
  exact ⟨.ref a, _, track J hex na I' he hz hd nH nL, rfl, q a nH⟩
end
end So

namespace So
open PySem PySem.Spec PyProof.Rows L2
theorem overS {H H1 : Hp} {D : Addr} {o : HO} (s : Same H H1) (h : H1 D = none) : Same H (upd H1 D o) := fun b u e => (upd_ne (ne_of_none (s b u e) h)).trans (s b u e)
/-! ### errors with two fields -/
def spTwoE (C : Addr) (n1 n2 : Str) : Sp := fun vs H Q _ => ∃ (a : Addr) (v1 v2 : V), vs = [.ref a, v1, v2] ∧ H a = some (exo a C none) ∧ ∀ dx, H dx = none → dx ≠ a → Q .non (upd (upd (upd H dx (exd dx [(n1, v1)])) a (exo a C (some dx))) dx (exd dx [(n2, v2), (n1, v1)]))
section
variable {P : Program} {w : World} {K : PySem.W.Frag} {mg : Str → Option Value} {base : Heap}
theorem ok_one {n qual : Str} {st : Stmt} {C f : Addr} {fd : FuncData} (F : Fun K "__init__" qual st f fd) (T : OexC K C) (no : PySem.W.findIn K (.ref C) n = some none) (S : FnScope ["self", n] ["self", n] (defScope st))
    (hb : ∃ p1 p2 p3 p4, defBody st = [.Assign [.Attribute (.Name "self" p1) n p2] (.Name n p3) p4]) (h1 : (n == ("__debug__" : Str)) = false) (h2 : (n == ("__classdict__" : Str)) = false) :
    FnOk P w K mg base CX0 1 f fd ["self", n] (spOneE C n) := by
  obtain ⟨p1, p2, p3, p4, hb⟩ := hb
  refine F.ok S (fun vs H Q E h => ?_) (fun cdv A outer s H vs Q E hr h => ?_)
  · obtain ⟨a, v, rfl, _⟩ := h
    rfl
  · obtain ⟨a, v, rfl, ha, q⟩ := h
    rw [hb]
    have vs0 : Vis (defScope st) "self" := vis_par S (by simp)
    have vs1 : Vis (defScope st) n := vis_par S (by simp)
    exact ⟨_, pss_one (ps_ost (pe_var (i := 0) rfl vs0) (pe_var (i := 1) rfl vs1 h1 h2)), _, rfl, _, rfl, a, C, rfl, T, no, .inl ⟨ha, fun dx h n => q dx h n⟩⟩
theorem ok_two {n1 n2 qual : Str} {st : Stmt} {C f : Addr} {fd : FuncData} (F : Fun K "__init__" qual st f fd) (T : OexC K C) (no1 : PySem.W.findIn K (.ref C) n1 = some none) (no2 : PySem.W.findIn K (.ref C) n2 = some none) (S : FnScope ["self", n1, n2] ["self", n1, n2] (defScope st))
    (hb : ∃ p1 p2 p3 p4 q1 q2 q3 q4, defBody st = [.Assign [.Attribute (.Name "self" p1) n1 p2] (.Name n1 p3) p4, .Assign [.Attribute (.Name "self" q1) n2 q2] (.Name n2 q3) q4]) (h1 : (n1 == ("__debug__" : Str)) = false) (h2 : (n1 == ("__classdict__" : Str)) = false)
    (h3 : (n2 == ("__debug__" : Str)) = false) (h4 : (n2 == ("__classdict__" : Str)) = false) : FnOk P w K mg base CX0 1 f fd ["self", n1, n2] (spTwoE C n1 n2) := by
  obtain ⟨p1, p2, p3, p4, q1, q2, q3, q4, hb⟩ := hb
  refine F.ok S (fun vs H Q E h => ?_) (fun cdv A outer s H vs Q E hr h => ?_)
  · obtain ⟨a, v1, v2, rfl, _⟩ := h
    rfl
  · obtain ⟨a, v1, v2, rfl, ha, q⟩ := h
    rw [hb]
    have vs0 : Vis (defScope st) "self" := vis_par S (by simp)
    have vs1 : Vis (defScope st) n1 := vis_par S (by simp)
    have vs2 : Vis (defScope st) n2 := vis_par S (by simp)
    refine ⟨_, pss_cons (ps_ost (pe_var (i := 0) rfl vs0) (pe_var (i := 1) rfl vs1 h1 h2)) (pss_one (ps_ost (pe_var (i := 0) rfl vs0) (pe_var (i := 2) rfl vs2 h3 h4))), ?_⟩
    refine ⟨_, rfl, _, rfl, a, C, rfl, T, no1, .inl ⟨ha, fun dx hd ne => ?_⟩⟩
    refine ⟨_, rfl, _, rfl, a, C, rfl, T, no2, .inr ⟨dx, [(n1, v1)], upd_same, ?_, by show 1 ≤ 900; decide, q dx hd ne⟩⟩
    rw [upd_ne ne, upd_same]
end
/-- behind C(v1, v2) -/
theorem mkTwo {C : Addr} {n1 n2 : Str} {v1 v2 : V} {H1 : Hp} {Q : XK} (h : ∀ d H', Same H1 H' → H1 d = none → H' d = some (.xd [(n2, v2), (n1, v1)]) → Q (.ref C) (some d) H') :
    ∀ a, H1 a = none → spTwoE C n1 n2 [.ref a, v1, v2] (upd H1 a (exo a C none))
      (fun v H2 => v = .non ∧ ∃ (d : Addr) (fs : List (Str × V)), H2 a = some (exo a C (some d)) ∧ H2 d = some (exd d fs) ∧ H1 d = none ∧ Q (.ref C) (some d) (upd (del H2 a) d (.xd fs))) (fun _ _ _ => False) := by
  refine fun a ha => ⟨a, v1, v2, rfl, upd_same, fun dx hdx ne => ?_⟩
  have hd : H1 dx = none := by
    rw [upd_ne ne] at hdx
    exact hdx
  refine ⟨rfl, dx, [(n2, v2), (n1, v1)], ?_, upd_same, hd, h dx _ (fun b o hb => ?_) hd upd_same⟩
  · rw [upd_ne ne.symm, upd_same]
  · have hba : b ≠ a := ne_of_none hb ha
    have hbd : b ≠ dx := ne_of_none hb hd
    rw [upd_ne hbd, del_ne hba, upd_ne hbd, upd_ne hba, upd_ne hbd, upd_ne hba]
    exact hb
/-- a kept error with its fields -/
def ErAt (H : Hp) (a C : Addr) (fs : List (Str × V)) : Prop := ∃ d, H a = some (Xo (.ref C) (some d) a) ∧ H d = some (.xd fs)
theorem ErAt.same {H H' : Hp} {a C : Addr} {fs : List (Str × V)} (h : ErAt H a C fs) (s : Same H H') : ErAt H' a C fs := h.elim fun d e => ⟨d, s _ _ e.1, s _ _ e.2⟩
/-- what is wished behind an error that is made and kept -/
theorem keepOne {C : Addr} {fs : List (Str × V)} {H1 : Hp} {Q : VK} (h : ∀ a H', Same H1 H' → ErAt H' a C fs → Q (.ref a) H') :
    ∀ d H', Same H1 H' → H1 d = none → H' d = some (.xd fs) → ∀ a, H' a = none → Q (.ref a) (upd H' a (Xo (.ref C) (some d) a)) := by
  intro d H' s _ e a na
  exact h a _ (overS s na) ⟨d, upd_same, (upd_ne (ne_of_none e na)).trans e⟩
section
variable {X : Cx}
/-- e.n of a kept error of any class -/
theorem pe_xoA {e : Expr} {te : TE} {pos : Pos} {n : Str} (he : PE X e te) (hb : attributeBase e n X.env (eval e X.env) = eval e X.env := by rfl) :
    PE X (.Attribute e n pos) (fun σ H Q => te σ H fun x H1 => ∃ (a C : Addr) (fs : List (Str × V)) (v : V), x = .ref a ∧ ErAt H1 a C fs ∧ Err X.K C ∧ PySem.W.findIn X.K (.ref C) n = some none ∧ fs.lookup n = some v ∧ Q v H1) := by
  constructor
  intro pins s σ H Q I h
  refine attr_of hb (thn (he.run pins s σ H _ I h) fun u s1 hh => ?_)
  obtain ⟨x, H1, I1, rx, a, C, fs, v, rfl, ⟨dd, ha, ea⟩, T, hno, l, q⟩ := hh
  cases rx
  obtain ⟨oe, vs, hg, hz, hd⟩ := xo_at I1.hok ha
  obtain ⟨mA, hns, hr⟩ := (show ObjOk X.prog X.w H1 s1.heap dd (.xd fs) from I1.hok dd _ ea)
  obtain ⟨od, ho, hl⟩ := lookIn_ns hns
  have hrn := hr n
  rw [l] at hrn
  obtain ⟨u, hu, ru⟩ := RelO.some_of hrn
  have nc : PySem.W.notCls oe = true := by
    unfold PySem.W.notCls
    rw [hd]
  have J : PySem.W.InstAt s1.heap a oe C (some od) := by
    refine ⟨hg, hz.1, nc, ?_⟩
    rw [hz.2]
    exact ho
  have fo := PySem.W.findObj_own (K := X.K) (C := C) (od := od) (name := n) (v := u) T.hdC hno rfl (by rw [hl, hu])
  exact HandSPX.exc_get I1.kIn J T.ga T.gg T.exC fo (handed_of ru) ⟨v, H1, I1.tok _, ru, q⟩
/-- isinstance of a kept error that has no dict -/
theorem call_isX0 : CallR X (.builtin "isinstance") (fun xs H Q => ∃ (a D : Addr) (c : V) (u : Value) (b : Bool), xs = [.ref a, c] ∧ H a = some (Xo (.ref D) none a) ∧ Err X.K D ∧ ClsV c u ∧ PySem.W.kitOne X.K (.ref D) u = some b ∧ Q (.bl b) H) := by
  intro pins s σ H xs us Q I r h
  obtain ⟨a, D, c, u, b, rfl, ha, T, cv, e, q⟩ := h
  obtain ⟨u1, u2, rfl, r1, r2⟩ := vals2 r
  cases r1
  have e2 := cv.eq r2
  subst e2
  obtain ⟨oe, vs, hg, hz, hdat⟩ := xo_at I.hok ha
  have nc : PySem.W.notCls oe = true := by
    unfold PySem.W.notCls
    rw [hdat]
  have J : PySem.W.InstAt s.heap a oe D none := by
    refine ⟨hg, hz.1, nc, ?_⟩
    rw [hz.2]
    trivial
  exact PySem.W.kia_one (kitx_err T) I.kIn ⟨oe, none, J⟩ e (fun z => nomatch z) fun tk => ⟨.bl b, H, I.tok tk, rfl, q⟩
/-- C(), C an own error class without own __init__ -/
theorem pmk_own0 {C : Addr} {bmB : List Value} {B newId initId : String} {x : Str} {p pos : Pos} (F : ExcBaseFacts B newId initId bmB) (q : PySem.W.excIn X.K C bmB newId = true) (gC : X.mg x = some (.ref C))
    (kC : PySem.W.keepIn X.K (.ref C) = true) (r : Raises X (.ref C)) (hg : Gl X x) (hdb : (x == ("__debug__" : Str)) = false := by decide) :
    PMk X (.Call (.Name x p) [] [] pos) (fun _ H Q => Q (.ref C) none H) := by
  intro pins s σ H Q I h
  refine wpAny_Call_Name_kw (ld_glob I hg gC ?_ hdb)
  refine PySem.W.callWith_K0 I.kIn kC ?_
  show wpAny _ _ (call (.ref C) []) _ _ _
  obtain ⟨bm, N, nm, qn, bs, hdct, sn, sub, ab, col, dd, k0, k1, k2, k3, k5, mN, hC, hN, hni, T⟩ := exc_obj I.kIn q
  refine wpAny_call_exc_subT F T hC hN hni (fun h' e hm => ?_) (by decide)
  exact mk_of I hm r h (I.hok.gone hm.new)
end
end So

/-! own errors made and kept: what is asked in one step -/
namespace So
open PySem PySem.Spec PyProof.Rows L2
section
variable {X : Cx}
theorem pe_weak {e : Expr} {t t' : TE} (h : PE X e t) (k : ∀ σ H Q, t' σ H Q → t σ H Q) : PE X e t' := ⟨fun pins s σ H Q I w => h.run pins s σ H Q I (k σ H Q w)⟩
theorem ps_weak {st : Stmt} {t t' : TS} (h : PS X st t) (k : ∀ D σ H, t' D σ H → t D σ H) : PS X st t' := ⟨fun pins s σ H D I w => h.run pins s σ H D I (k D σ H w)⟩
/-- what the top says of an error with two fields -/
structure TwoE (K : PySem.W.Frag) (mg : Str → Option Value) (x n1 n2 : Str) (C f : Addr) (fd : FuncData) : Prop where
  T : OexC K C
  iC : PySem.W.findIn K (.ref C) "__init__" = some (some (.ref f))
  tI : PySem.W.typeIn K (.ref f) = some (.type "function")
  mgC : mg x = some (.ref C)
  no1 : PySem.W.findIn K (.ref C) n1 = some none
  no2 : PySem.W.findIn K (.ref C) n2 = some none
  err : Err K C
  hb : Binds K fd ["self", n1, n2] []
def k2 {α : Type} : List α → List α → List α
  | [u], [z] => [u, z]
  | _, _ => []
def k3 {α : Type} : List α → List α → List α
  | [u], [y, z] => [u, z, y]
  | _, _ => []
theorem k2_rel {vs : List V} {us : List Value} {zs : List V} {ws : List Value} (a : Vals vs us) (b : Vals zs ws) : Vals (k2 vs zs) (k2 us ws) := by
  cases a with
  | nil => exact .nil
  | cons a1 a2 =>
    cases a2 with
    | cons _ _ => exact .nil
    | nil =>
      cases b with
      | nil => exact .nil
      | cons b1 b2 =>
        cases b2 with
        | nil => exact .cons a1 (.cons b1 .nil)
        | cons _ _ => exact .nil
theorem k3_rel {vs : List V} {us : List Value} {zs : List V} {ws : List Value} (a : Vals vs us) (b : Vals zs ws) : Vals (k3 vs zs) (k3 us ws) := by
  cases a with
  | nil => exact .nil
  | cons a1 a2 =>
    cases a2 with
    | cons _ _ => exact .nil
    | nil =>
      cases b with
      | nil => exact .nil
      | cons b1 b2 =>
        cases b2 with
        | nil => exact .nil
        | cons b3 b4 =>
          cases b4 with
          | nil => exact .cons a1 (.cons b3 (.cons b1 .nil))
          | cons _ _ => exact .nil
theorem kbn2 {K : PySem.W.Frag} {fd : FuncData} {n : Str} (h : ∀ (s : Shared) (u z : Value), BindsTo s fd ⟨[u], [(n, z)]⟩ [("self", u), (n, z)]) : KBn K fd ["self", n] 1 [n] k2 k2 :=
  ⟨fun s us ws _ h1 h2 => match us, ws, h1, h2 with | [u], [z], _, _ => h s u z, k2_rel⟩
theorem kbn3 {K : PySem.W.Frag} {fd : FuncData} {n1 n2 : Str} (h : ∀ (s : Shared) (u y z : Value), BindsTo s fd ⟨[u], [(n2, y), (n1, z)]⟩ [("self", u), (n1, z), (n2, y)]) : KBn K fd ["self", n1, n2] 1 [n2, n1] k3 k3 :=
  ⟨fun s us ws _ h1 h2 => match us, ws, h1, h2 with | [u], [y, z], _, _ => h s u y z, k3_rel⟩
variable {x n n1 n2 : Str} {C f : Addr} {fd : FuncData} {e e2 : Expr} {p pos kp kp2 : Pos} {i j : Nat}
theorem pe_new1 (hex : X.ex = []) (O : OneE X.K X.mg x n C f fd) (F : FnOk X.prog X.w X.K X.mg X.base CX0 1 f fd ["self", n] (spOneE C n)) (hr : Room 2 X.A) (hg : Gl X x) (ha : PA X [e] (tCons (tVar i) tNil))
    (hdb : (x == ("__debug__" : Str)) = false := by decide) (hst : starEach [e] X.env = (false, eval e X.env) :: starEach [] X.env := by rfl) (hpl : (backTo pos (starEach [] X.env)).any (·.1) = false := by rfl) :
    PE X (.Call (.Name x p) [e] [] pos) (fun σ H Q => ∃ v, σ[i]? = some (some v) ∧ ∀ a H', Same H H' → ErAt H' a C [(n, v)] → Q (.ref a) H') :=
  pe_weak (pe_ofMk hex (pmk_one O F hr hg ha hdb hst hpl)) fun _ _ Q0 ⟨v, q, h⟩ => ⟨v, q, mkOne (C := C) (n := n) (v := v) (vs := [v]) (Q := fun cls d H' => ∀ a, H' a = none → Q0 (.ref a) (upd H' a (Xo cls d a))) rfl (keepOne h)⟩
theorem pe_new1K (hex : X.ex = []) (O : OneE X.K X.mg x n C f fd) (F : FnOk X.prog X.w X.K X.mg X.base CX0 1 f fd ["self", n] (spOneE C n)) (kb : KBn X.K fd ["self", n] 1 [n] k2 k2) (hr : Room 2 X.A) (hg : Gl X x) (he : PE X e (tVar i))
    (hall : (backToKw pos (keywordEach [⟨some n, e, kp⟩] X.env)).all (·.1.isSome) = true := by rfl) (hks : (backToKw pos (keywordEach [⟨some n, e, kp⟩] X.env)).filterMap (·.1) = [n] := by rfl) (hdb : (x == ("__debug__" : Str)) = false := by decide)
    (hpl : ((backTo pos (starEach [] X.env)).any (·.1) || (backToKw pos (keywordEach [⟨some n, e, kp⟩] X.env)).any (·.1.isNone)) = false := by rfl) :
    PE X (.Call (.Name x p) [] [⟨some n, e, kp⟩] pos) (fun σ H Q => ∃ v, σ[i]? = some (some v) ∧ ∀ a H', Same H H' → ErAt H' a C [(n, v)] → Q (.ref a) H') :=
  pe_weak (pe_ofMk hex (pmk_oexK O.T O.iC O.tI F hr kb (fun _ _ _ _ _ _ _ h => h.elim) hg O.mgC (pk_cons he pk_nil) hall hks hdb hpl)) fun _ _ Q0 ⟨v, q, h⟩ => ⟨v, q, rfl, (mkOne (C := C) (n := n) (v := v) (vs := [v]) (Q := fun cls d H' => ∀ a, H' a = none → Q0 (.ref a) (upd H' a (Xo cls d a))) rfl (keepOne h)).2⟩
theorem pe_new2 (hex : X.ex = []) (O : TwoE X.K X.mg x n1 n2 C f fd) (F : FnOk X.prog X.w X.K X.mg X.base CX0 1 f fd ["self", n1, n2] (spTwoE C n1 n2)) (hr : Room 2 X.A) (hg : Gl X x) (ha : PA X [e, e2] (tCons (tVar i) (tCons (tVar j) tNil)))
    (hdb : (x == ("__debug__" : Str)) = false := by decide) (hst : starEach [e, e2] X.env = (false, eval e X.env) :: starEach [e2] X.env := by rfl) (hpl : (backTo pos (starEach [e2] X.env)).any (·.1) = false := by rfl) :
    PE X (.Call (.Name x p) [e, e2] [] pos) (fun σ H Q => ∃ v, σ[i]? = some (some v) ∧ ∃ u, σ[j]? = some (some u) ∧ ∀ a H', Same H H' → ErAt H' a C [(n2, u), (n1, v)] → Q (.ref a) H') :=
  pe_weak (pe_ofMk hex (pmk_oex O.T O.iC O.tI F hr O.hb .nil (fun _ _ _ _ _ _ _ h => h.elim) hg O.mgC ha hdb hst hpl)) fun _ _ Q0 ⟨v, q, u, q2, h⟩ => ⟨v, q, u, q2, by show 2 ≤ 1000; decide, mkTwo (C := C) (n1 := n1) (n2 := n2) (v1 := v) (v2 := u) (Q := fun cls d H' => ∀ a, H' a = none → Q0 (.ref a) (upd H' a (Xo cls d a))) (keepOne h)⟩
theorem pe_new2K (hex : X.ex = []) (O : TwoE X.K X.mg x n1 n2 C f fd) (F : FnOk X.prog X.w X.K X.mg X.base CX0 1 f fd ["self", n1, n2] (spTwoE C n1 n2)) (kb : KBn X.K fd ["self", n1, n2] 1 [n2, n1] k3 k3) (hr : Room 2 X.A) (hg : Gl X x) (he : PE X e (tVar i)) (he2 : PE X e2 (tVar j))
    (hall : (backToKw pos (keywordEach [⟨some n2, e2, kp2⟩, ⟨some n1, e, kp⟩] X.env)).all (·.1.isSome) = true := by rfl) (hks : (backToKw pos (keywordEach [⟨some n2, e2, kp2⟩, ⟨some n1, e, kp⟩] X.env)).filterMap (·.1) = [n2, n1] := by rfl) (hdb : (x == ("__debug__" : Str)) = false := by decide)
    (hpl : ((backTo pos (starEach [] X.env)).any (·.1) || (backToKw pos (keywordEach [⟨some n2, e2, kp2⟩, ⟨some n1, e, kp⟩] X.env)).any (·.1.isNone)) = false := by rfl) :
    PE X (.Call (.Name x p) [] [⟨some n2, e2, kp2⟩, ⟨some n1, e, kp⟩] pos) (fun σ H Q => ∃ u, σ[j]? = some (some u) ∧ ∃ v, σ[i]? = some (some v) ∧ ∀ a H', Same H H' → ErAt H' a C [(n2, u), (n1, v)] → Q (.ref a) H') :=
  pe_weak (pe_ofMk hex (pmk_oexK O.T O.iC O.tI F hr kb (fun _ _ _ _ _ _ _ h => h.elim) hg O.mgC (pk_cons he2 (pk_cons he pk_nil)) hall hks hdb hpl)) fun _ _ Q0 ⟨u, q, v, q2, h⟩ => ⟨u, q, v, q2, rfl, mkTwo (C := C) (n1 := n1) (n2 := n2) (v1 := v) (v2 := u) (Q := fun cls d H' => ∀ a, H' a = none → Q0 (.ref a) (upd H' a (Xo cls d a))) (keepOne h)⟩
theorem pe_new0 (hex : X.ex = []) {bmB : List Value} {B newId initId : String} (F : ExcBaseFacts B newId initId bmB) (q : PySem.W.excIn X.K C bmB newId = true) (gC : X.mg x = some (.ref C)) (kC : PySem.W.keepIn X.K (.ref C) = true) (r : Raises X (.ref C)) (hg : Gl X x)
    (hdb : (x == ("__debug__" : Str)) = false := by decide) :
    PE X (.Call (.Name x p) [] [] pos) (fun _ H Q => ∀ a H', Same H H' → H' a = some (Xo (.ref C) none a) → Q (.ref a) H') :=
  pe_weak (pe_ofMk hex (pmk_own0 F q gC kC r hg hdb)) fun _ H _ h => fun a ha => h a _ (overS (Same.refl H) ha) upd_same
end
end So

/-! own `in` and `not in`; min(xs, default=d); a walk over what is a list or a tuple -/
namespace So
open PySem PySem.Spec PyProof.Rows L2
section
variable {X : Cx} {CX : CXT} {k : Nat} {C f : Addr} {fd : FuncData} {ps : List Str} {sp : Sp} {E : XK}
/-- what x in o asks, o of an own class with __contains__; g: the answer as it is, or turned about -/
def rInO (C : Addr) (sp : Sp) (E : XK) (g : Bool → Bool) : R2 := fun x y H Q => ∃ a dx fs, y = .ref a ∧ H a = some (.ins C dx fs) ∧ sp [.ref a, x] H (fun v H' => ∃ b, v = .bl b ∧ Q (.bl (g b)) H') E
theorem op_inO (F : FnOk X.prog X.w X.K X.mg X.base CX k f fd ps sp) (hs : PySem.W.findIn X.K (.ref C) "__contains__" = some (some (.ref f))) (hf : PySem.W.isFn X.K (.ref f) = true) (hb : Binds X.K fd ps []) (hx : Passes CX X E) (hr : Room k X.A) :
    OpR X (compareOp .In) (rInO C sp E id) := by
  intro pins s σ H x y v u Q I rx ry h
  obtain ⟨a, dx, fs, rfl, ha, q⟩ := h
  cases ry
  obtain ⟨mA, J, _⟩ := ins_get I.hok ha
  obtain ⟨od, J, _⟩ := J.look
  obtain ⟨m, hF⟩ := I.fr
  refine PySem.W.in_K hF I.ok.mod.kin J hs hf (wpAny_mono (run_eq (dx := dx) (fs := fs) F hb hx hr rfl I rx q) (fun w s' z => ?_) fun _ _ z => z)
  obtain ⟨b, H', rfl, I', q'⟩ := z
  exact wpAny_truthy_bool ⟨.bl b, H', I', rfl, q'⟩
theorem op_notInO (F : FnOk X.prog X.w X.K X.mg X.base CX k f fd ps sp) (hs : PySem.W.findIn X.K (.ref C) "__contains__" = some (some (.ref f))) (hf : PySem.W.isFn X.K (.ref f) = true) (hb : Binds X.K fd ps []) (hx : Passes CX X E) (hr : Room k X.A) :
    OpR X (compareOp .NotIn) (rInO C sp E not) := by
  intro pins s σ H x y v u Q I rx ry h
  obtain ⟨a, dx, fs, rfl, ha, q⟩ := h
  cases ry
  obtain ⟨mA, J, _⟩ := ins_get I.hok ha
  obtain ⟨od, J, _⟩ := J.look
  obtain ⟨m, hF⟩ := I.fr
  refine PySem.W.notIn_K hF I.ok.mod.kin J hs hf (wpAny_mono (run_eq (dx := dx) (fs := fs) F hb hx hr rfl I rx q) (fun w s' z => ?_) fun _ _ z => z)
  obtain ⟨b, H', rfl, I', q'⟩ := z
  exact wpAny_truthy_bool ⟨.bl (!b), H', I', rfl, q'⟩
/-- a walk by one of two roads -/
theorem pi_or {tg e : Expr} {w1 w2 : TI} (h1 : PI X tg e w1) (h2 : PI X tg e w2) : PI X tg e (fun σ H R => w1 σ H R ∨ w2 σ H R) := by
  refine ⟨fun pins s σ H R I h => ?_⟩
  rcases h with h | h
  · exact h1.run pins s σ H R I h
  · exact h2.run pins s σ H R I h
end
end So
namespace So
open PySem PySem.Spec PyProof.Rows L2
theorem foldl_min : ∀ (ns : List Int) (n : Int), (ns.foldl min n ∈ n :: ns) ∧ (∀ z ∈ n :: ns, ns.foldl min n ≤ z)
  | [], n => ⟨List.mem_cons_self, fun z hz => by rw [List.mem_singleton.mp hz]; exact Int.le_refl _⟩
  | k :: r, n => by
    obtain ⟨h1, h2⟩ := foldl_min r (min n k)
    have e : min n k ≤ n ∧ min n k ≤ k ∧ (min n k = n ∨ min n k = k) := by omega
    refine ⟨?_, fun z hz => ?_⟩
    · rw [List.foldl_cons]
      rcases List.mem_cons.mp h1 with h | h
      · rw [h]
        rcases e.2.2 with q | q <;> rw [q] <;> simp
      · exact List.mem_cons_of_mem _ (List.mem_cons_of_mem _ h)
    · rw [List.foldl_cons]
      have h0 := h2 (min n k) List.mem_cons_self
      rcases List.mem_cons.mp hz with h | h
      · rw [h]
        omega
      · rcases List.mem_cons.mp h with h | h
        · rw [h]
          omega
        · exact h2 z (List.mem_cons_of_mem _ h)
theorem alike_ints (ns : List Int) : PySem.W.AlikeAll (ns.map PyData.int) := by
  refine ⟨fun x hx y hy => ?_, fun x hx => ?_⟩
  · obtain ⟨i, _, rfl⟩ := List.mem_map.mp hx
    obtain ⟨j, _, rfl⟩ := List.mem_map.mp hy
    rfl
  · obtain ⟨i, _, rfl⟩ := List.mem_map.mp hx
    intro h
    cases h
theorem depth_ints0 : ∀ ns : List Int, PyData.depthAll (ns.map PyData.int) = 0
  | [] => rfl
  | n :: r => by simp [PyData.depthAll, PyData.depth, depth_ints0 r]
section
variable {X : Cx}
theorem dpi {K : PySem.W.Frag} {H : Hp} : ∀ ns : List Int, DpAll K H (ns.map V.int) (ns.map PyData.int)
  | [] => .nil
  | n :: r => .cons (.int n) (dpi r)
/-- min(xs, default=d): ints -/
theorem pe_minDef {e d : Expr} {p pos kp : Pos} {ta td : TA} (hc : X.calm = true) (hu : X.A.units + 64 < cLine) (hg : Gl X "min") (hm : X.mg "min" = none) (ha : PA X [e] ta) (hk : PK X [⟨some "default", d, kp⟩] td)
    (he : backTo pos (starEach [e] X.env) = (false, eval e X.env) :: backTo pos (starEach [] X.env) := by rfl) (hpl : (backTo pos (starEach [e] X.env)).any (·.1) = false := by rfl)
    (hall : (backToKw pos (keywordEach [⟨some "default", d, kp⟩] X.env)).all (·.1.isSome) = true := by rfl) (hkw : (backToKw pos (keywordEach [⟨some "default", d, kp⟩] X.env)).any (·.1.isNone) = false := by rfl)
    (hks : (backToKw pos (keywordEach [⟨some "default", d, kp⟩] X.env)).filterMap (·.1) = [("default" : Str)] := by rfl) :
    PE X (.Call (.Name "min" p) [e] [⟨some "default", d, kp⟩] pos) (fun σ H Q => ta σ H fun xs H1 => td σ H1 fun ys H2 => ∃ l ns y, xs = [.ref l] ∧ ys = [y] ∧ SqL X.K H2 l (ns.map V.int) ∧ (ns = [] → Q y H2) ∧ (∀ m, m ∈ ns → (∀ z ∈ ns, m ≤ z) → Q (.int m) H2)) := by
  refine ⟨fun pins s σ H Q I h => ?_⟩
  refine wpAny_Call_Name_kw (ld_blt I hg hm (show bootBuiltins "min" = some (.builtin "min") by decide +kernel) (PyProof.Rows.callWith_kw (thn (ha.run pos pins s σ H _ I h) fun us s1 ⟨xs, H1, I1, r1, q1⟩ => ?_) he hpl hall hkw))
  refine thn (hk.run pos pins s1 σ H1 _ I1 q1) fun ws s2 ⟨ys, H2, I2, r2, l, ns, y, ex, ey, hs, q0, q1⟩ => ?_
  subst ex ey
  rw [Vals.ref1 r1, hks]
  obtain ⟨u, rfl, ru⟩ := vals1 r2
  obtain ⟨its, rv, hl, _⟩ := I2.list hs
  have hd : DpAll X.K H2 (ns.map V.int) (ns.map PyData.int) := dpi ns
  obtain ⟨as, rd⟩ := Dp.readsAll I2 (ns.map PyData.int) (ns.map V.int) its hd rv
  refine PySem.W.min_list_default (I2.ok.hd hc) hl.isList (by simpa using rd) (alike_ints ns) (by rw [depth_ints0]; omega) (fun e0 h' tk k => ?_) (fun z zs i v h' tk bs e0 hv rz k => ?_)
  · exact ⟨y, H2, I2.kept k, ru, q0 (List.map_eq_nil_iff.mp e0)⟩
  · obtain ⟨n, r, rfl⟩ : ∃ n r, ns = n :: r := by
      cases ns with
      | nil => cases e0
      | cons n r => exact ⟨n, r, rfl⟩
    rw [List.map_cons] at e0
    injection e0 with e1 e2
    subst e1 e2
    rw [PySem.W.minD_ints] at rz
    cases rz with
    | int _ t =>
      obtain ⟨m1, m2⟩ := foldl_min r n
      exact ⟨.int _, H2, I2.kept k, ⟨t, rfl⟩, q1 _ m1 m2⟩
end
end So

namespace K30
open PySem PySem.Spec PyProof.Rows L2 So
abbrev sWith : Stmt := topS 23
abbrev sLInit : Stmt := inClass (topS 24) 0
theorem scWith : FnScope ["tool", "moments", "moment", "later"] ["tool", "moments"] (defScope sWith) := ⟨rfl, rfl, rfl, by decide +kernel, rfl, by decide +kernel, by decide +kernel⟩
theorem scLInit : FnScope ["self", "begun", "tool"] ["self", "begun"] (defScope sLInit) := ⟨rfl, rfl, rfl, by decide +kernel, rfl, by decide +kernel, by decide +kernel⟩
theorem same_upd0 {H : Hp} {p : Addr} {o : HO} (h : H p = none) : Same H (upd H p o) := Same.over (Same.refl H) h
def gBeg : V → Bool
  | .int i => decide (1 ≤ i ∧ i ≤ 1000000000000000000000000000000)
  | _ => false
/-- what more the module's names say -/
structure WordsL (mg : Str → Option Value) : Prop where
  sorted : mg "sorted" = none
  set : mg "set" = none
  max : mg "max" = none
  tuple : mg "tuple" = none
  dict : mg "dict" = none
/-! ### whole numbers in order -/
def ins1 (k : Int) : List Int → List Int
  | [] => [k]
  | x :: r => if k < x then k :: x :: r else if k = x then x :: r else x :: ins1 k r
def srt (l : List Int) : List Int := l.foldr ins1 []
theorem mem_ins1 {k j : Int} : ∀ {l : List Int}, j ∈ ins1 k l ↔ j = k ∨ j ∈ l
  | [] => by simp [ins1]
  | x :: r => by
    unfold ins1
    split
    · simp
    · split
      · rename_i h
        subst h
        simp
      · rw [List.mem_cons, mem_ins1 (l := r), List.mem_cons]
        constructor
        · rintro (h | h | h) <;> simp [h]
        · rintro (h | h | h) <;> simp [h]
theorem asc_ins1 {k : Int} : ∀ {l : List Int}, l.Pairwise (· < ·) → (ins1 k l).Pairwise (· < ·)
  | [], _ => by simp [ins1]
  | x :: r, h => by
    rw [List.pairwise_cons] at h
    unfold ins1
    split
    · rename_i hk
      refine List.pairwise_cons.mpr ⟨fun j hj => ?_, List.pairwise_cons.mpr h⟩
      rcases List.mem_cons.mp hj with e | e
      · omega
      · have := h.1 j e
        omega
    · split
      · exact List.pairwise_cons.mpr h
      · refine List.pairwise_cons.mpr ⟨fun j hj => ?_, asc_ins1 h.2⟩
        rcases mem_ins1.mp hj with e | e
        · omega
        · exact h.1 j e
theorem srt_asc : ∀ l : List Int, (srt l).Pairwise (· < ·)
  | [] => .nil
  | x :: r => asc_ins1 (srt_asc r)
theorem srt_mem {k : Int} : ∀ {l : List Int}, k ∈ srt l ↔ k ∈ l
  | [] => by simp [srt]
  | x :: r => by
    show k ∈ ins1 x (srt r) ↔ _
    rw [mem_ins1, srt_mem (l := r), List.mem_cons]
theorem srt_one {l ns : List Int} (h : l.Pairwise (· < ·)) (hm : ∀ k, k ∈ l ↔ k ∈ ns) : l = srt ns := pairwise_ext h (srt_asc ns) fun k => (hm k).trans srt_mem.symm
theorem notS {a b : Str} (h : a ≠ b) : ¬ (decide (V.str a = V.str b) = true) := fun e => h (V.str.inj (of_decide_eq_true e))
section
variable {P : Program} {w : World} {K : PySem.W.Frag} {mg : Str → Option Value} {base : Heap}
/-- check_form, of what has the form -/
def Form (form : Str) (v : V) : Prop := (form = "name" ∧ gNam v = true) ∨ (form = "moment" ∧ gMom v = true) ∨ (form = "beginning" ∧ gBeg v = true)
def spCheck : Sp := fun vs H Q _ => ∃ (v : V) (T : String) (form : Str), vs = [v, .str form] ∧ Gv H v T ∧ Form form v ∧ ∀ H', Same H H' → Q .non H'
theorem ok_check {f fM fN : Addr} {fd fdM fdN : FuncData} (F : Fun K "check_form" "check_form" sCheck f fd) (W : Words K mg) (FM : Fun K "is_moment" "is_moment" sMoment fM fdM) (bM : Binds K fdM ["value"] []) (gM : mg "is_moment" = some (.ref fM))
    (GM : FnOk P w K mg base CX0 2 fM fdM ["value"] spMoment) (FN : Fun K "is_name" "is_name" sName fN fdN) (bN : Binds K fdN ["value"] []) (gN : mg "is_name" = some (.ref fN)) (GN : FnOk P w K mg base CX0 1 fN fdN ["value"] spName) :
    FnOk P w K mg base CX0 3 f fd ["value", "form"] spCheck := by
  refine F.ok scCheck (fun vs H Q E h => ?_) (fun cdv A outer s H vs Q E hr h => ?_)
  · obtain ⟨v, T, form, rfl, _⟩ := h
    rfl
  · obtain ⟨v, T, form, rfl, hv, hf, qy⟩ := h
    have hr1 : Room 1 _ := hr.mono (by decide)
    refine ⟨_, pss_cons (ps_if (PW.pt (pw_and (pt_cmpR op_eq (pv 1) pe_str (nomark _)) (pw_and1 (pt_not (pt_val (pe_call GN hr1 (by rfl) gN FN.kp bN .nil pass0 (pa_cons (pv 0) pa_nil))))))) pss_dead pss_nil)
      (pss_cons (ps_if (PW.pt (pw_and (pt_cmpR op_eq (pv 1) pe_str (nomark _)) (pw_and1 (pt_not (pt_val (pe_call GM hr (by rfl) gM FM.kp bM .nil pass0 (pa_cons (pv 0) pa_nil))))))) pss_dead pss_nil)
      (pss_cons (ps_if (PW.pt (pw_and (pt_cmpR op_eq (pv 1) pe_str (nomark _)) (pw_and1 (pt_not (PW.pt (pw_and (pt_val (pe_call GM hr (by rfl) gM FM.kp bM .nil pass0 (pa_cons (pv 0) pa_nil))) (pw_and1 (pt_cmpR op_gt (pv 0) pe_int (nomark _))))))))) pss_dead pss_nil)
      (pss_one (ps_if (PW.pt (pw_and (pt_cmpR op_eq (pv 1) pe_str (nomark _)) (pw_and1 (pt_not (pt_val (pe_callB call_isi (by rfl) W.isi (by decide +kernel) (pa_cons (pv 0) (pa_cons (pe_bltn (v := .ty "bool") (by rfl) W.bool (by decide +kernel) rfl) pa_nil))))))))
        pss_dead pss_nil)))), ?_⟩
    rcases hf with ⟨rfl, hg⟩ | ⟨rfl, hg⟩ | ⟨rfl, hg⟩
    · refine ⟨_, rfl, rfl, _, rfl, ite2 (fun _ => ?_) (fun e => absurd (decide_eq_true rfl) e)⟩
      refine ⟨_, rfl, v, T, rfl, hv, fun H1 s1 => ⟨_, rfl, ?_⟩⟩
      rw [hg]
      refine iteF ?_
      refine ⟨_, rfl, rfl, _, rfl, ite2 (fun e => absurd e (notS (by decide +kernel))) (fun _ => ?_)⟩
      refine ⟨_, rfl, rfl, _, rfl, ite2 (fun e => absurd e (notS (by decide +kernel))) (fun _ => ?_)⟩
      refine ⟨_, rfl, rfl, _, rfl, ite2 (fun e => absurd e (notS (by decide +kernel))) (fun _ => ?_)⟩
      exact qy H1 s1
    · refine ⟨_, rfl, rfl, _, rfl, ite2 (fun e => absurd e (notS (by decide +kernel))) (fun _ => ?_)⟩
      refine ⟨_, rfl, rfl, _, rfl, ite2 (fun _ => ?_) (fun e => absurd (decide_eq_true rfl) e)⟩
      refine ⟨_, rfl, v, T, rfl, hv, _, rfl, ?_⟩
      rw [hg]
      refine iteF ?_
      refine ⟨_, rfl, rfl, _, rfl, ite2 (fun e => absurd e (notS (by decide +kernel))) (fun _ => ?_)⟩
      refine ⟨_, rfl, rfl, _, rfl, ite2 (fun e => absurd e (notS (by decide +kernel))) (fun _ => ?_)⟩
      exact qy H (Same.refl H)
    · refine ⟨_, rfl, rfl, _, rfl, ite2 (fun e => absurd e (notS (by decide +kernel))) (fun _ => ?_)⟩
      refine ⟨_, rfl, rfl, _, rfl, ite2 (fun e => absurd e (notS (by decide +kernel))) (fun _ => ?_)⟩
      refine ⟨_, rfl, rfl, _, rfl, ite2 (fun _ => ?_) (fun e => absurd (decide_eq_true rfl) e)⟩
      refine ⟨_, rfl, v, T, rfl, hv, _, rfl, ?_⟩
      obtain ⟨i, rfl⟩ : ∃ i, v = .int i := by
        cases v with
        | int i => exact ⟨i, rfl⟩
        | _ => cases hg
      have hi : 1 ≤ i ∧ i ≤ 1000000000000000000000000000000 := of_decide_eq_true hg
      rw [show gMom (.int i) = true from decide_eq_true ⟨by omega, hi.2⟩]
      refine iteT ?_
      refine ⟨_, rfl, _, _, rfl, rfl, _, rfl, ?_⟩
      rw [show decide (i > 0) = true from decide_eq_true (by omega)]
      refine iteF ?_
      refine ⟨_, rfl, rfl, _, rfl, ite2 (fun e => absurd e (notS (by decide +kernel))) (fun _ => ?_)⟩
      exact qy H (Same.refl H)
/-- with_first, of a name and of beginnings -/
def spWith (K : PySem.W.Frag) : Sp := fun vs H Q _ => ∃ (z : Str) (l : Addr) (ns : List Int), vs = [.str z, .ref l] ∧ isName z = true ∧ z.length ≤ 2000 ∧ SqL K H l (ns.map V.int) ∧ ns.length < 64 ∧ (∀ n ∈ ns, gBeg (.int n) = true) ∧
  ∀ (t : Addr) (H' : Hp), Same H H' → H' t = some (.tup ((0 :: srt ns).map V.int)) → Q (.ref t) H'
theorem ok_with {f fC : Addr} {fd fdC : FuncData} (F : Fun K "with_first" "with_first" sWith f fd) (L : WordsL mg) (FC : Fun K "check_form" "check_form" sCheck fC fdC) (bC : Binds K fdC ["value", "form"] []) (gC : mg "check_form" = some (.ref fC))
    (GC : FnOk P w K mg base CX0 3 fC fdC ["value", "form"] spCheck) : FnOk P w K mg base CX0 4 f fd ["tool", "moments"] (spWith K) := by
  refine F.ok scWith (fun vs H Q E h => ?_) (fun cdv A outer s H vs Q E hr h => ?_)
  · obtain ⟨z, l, ns, rfl, _⟩ := h
    rfl
  · obtain ⟨z, l, ns, rfl, hz, hzl, hl, h64, hb, q⟩ := h
    refine ⟨_, pss_cons (ps_expr (pe_call GC hr (by rfl) gC FC.kp bC .nil pass0 (pa_cons (pv 0) (pa_cons pe_str pa_nil))))
      (pss_cons (ps_for PassesOwn.never rfl (pi_list (pv 1)) (pg_name (i := 2) scWith.nd rfl (Or.inl rfl)) (pss_one (ps_expr (pe_call GC hr (by rfl) gC FC.kp bC .nil pass0 (pa_cons (pv 2) (pa_cons pe_str pa_nil))))))
      (pss_cons (ps_set (i := 3) scWith.nd rfl (.inl rfl) (pe_callB (cr_sortedSet rfl) (by rfl) L.sorted (by decide +kernel) (pa_cons (pe_callTy (cr_setI rfl) (by rfl) L.set (by decide +kernel) (pa_cons (pv 1) pa_nil)) pa_nil)))
      (pss_one (ps_ret (pe_tup (pa_cons pe_int (StX.pa_star (pv 3) pa_nil))))))), ?_⟩
    refine ⟨_, rfl, _, "str", _, rfl, .str z hzl, .inl ⟨rfl, hz⟩, fun H1 s1 => ?_⟩
    refine ⟨_, rfl, l, rfl, ⟨_, hl.ext s1⟩, ?_⟩
    refine for_it walk_list (fun i σ H' => (∃ v2, σ = [some (.str z), some (.ref l), v2, none]) ∧ Same H H') ⟨⟨_, rfl⟩, s1⟩ (fun _ _ _ _ y => hl.ext y.2) ?_ ?_
    · rintro i x σ H2 H3 hi ⟨⟨v2, rfl⟩, s2⟩ ⟨rfl, hx⟩
      obtain ⟨n, hn, rfl⟩ : ∃ n, n ∈ ns ∧ x = .int n := by
        have := List.mem_of_getElem? hx
        obtain ⟨n, h1, h2⟩ := List.mem_map.mp this
        exact ⟨n, h1, h2.symm⟩
      exact ⟨_, rfl, _, "int", _, rfl, .int n, .inr (.inr ⟨rfl, hb n hn⟩), fun H4 s4 => ⟨⟨_, rfl⟩, s2.trans s4⟩⟩
    · rintro σ H2 ⟨⟨v2, rfl⟩, s2⟩
      refine ⟨_, rfl, l, ns, rfl, .inl (hl.ext s2), h64, fun p c hp hc => ⟨p, _, c, rfl, upd_same, Nat.lt_of_le_of_lt hc h64, fun later p2 hw hm hlen hp2 => ?_⟩⟩
      refine ⟨_, rfl, p2, later.map V.int, rfl, .inr (SqL.of upd_same), ?_⟩
      have el : later = srt ns := srt_one hw fun k => (hm k).trans ⟨of_decide_eq_true, decide_eq_true⟩
      subst el
      refine ⟨?_, fun t ht => q t _ (((s2.trans (same_upd0 hp)).trans (same_upd0 hp2)).trans (same_upd0 ht)) ?_⟩
      · rw [List.append_nil, List.length_cons, List.length_map, hlen]
        have : c < 64 := Nat.lt_of_le_of_lt hc h64
        have := sizeLine_eq
        omega
      · rw [upd_same, List.append_nil]
        rfl
/-! ### the lives -/
/-- an entry of the lives' dict: a tool and the tuple of its beginnings -/
def EntL (H : Hp) (kv : Key × V) (p : Str × List Int) : Prop := kv.1 = Sum.inr p.1 ∧ ∃ t, kv.2 = .ref t ∧ H t = some (.tup (p.2.map V.int))
/-- at a stand the lives L, in order -/
def LsAt (C : Addr) (H : Hp) (a : Addr) (L : List (Str × List Int)) : Prop := ∃ (dx d : Addr) (kvs : List (Key × V)), H a = some (.ins C dx [("_begun", .ref d)]) ∧ H d = some (.dK kvs) ∧ Paired (EntL H) kvs L
theorem EntL.same {H H' : Hp} {kv : Key × V} {p : Str × List Int} (h : EntL H kv p) (s : Same H H') : EntL H' kv p := by
  obtain ⟨e, t, e1, e2⟩ := h
  exact ⟨e, t, e1, s _ _ e2⟩
theorem LsAt.same {C : Addr} {H H' : Hp} {a : Addr} {L : List (Str × List Int)} (h : LsAt C H a L) (s : Same H H') : LsAt C H' a L := by
  obtain ⟨dx, d, kvs, h1, h2, h3⟩ := h
  exact ⟨dx, d, kvs, s _ _ h1, s _ _ h2, L2.Paired.mapP h3 fun _ _ e => e.same s⟩
theorem ls_get {H : Hp} (z : Str) : ∀ {kvs : List (Key × V)} {L : List (Str × List Int)}, Paired (EntL H) kvs L →
    (L.lookup z = none → valV kvs (.inr z) = none) ∧ ∀ ns, L.lookup z = some ns → ∃ t, valV kvs (.inr z) = some (.ref t) ∧ H t = some (.tup (ns.map V.int))
  | _, _, .nil => ⟨fun _ => rfl, fun ns e => by cases e⟩
  | _, _, .cons (a := kv) (b := p) h t => by
    obtain ⟨e, t', e1, e2⟩ := h
    obtain ⟨zp, ns'⟩ := p
    obtain ⟨kk, kv2⟩ := kv
    have e : kk = Sum.inr zp := e
    subst e
    by_cases c : z = zp
    · subst c
      refine ⟨fun hn => ?_, fun ns hn => ⟨t', (valV_pos rfl).trans (congrArg some e1), ?_⟩⟩
      · rw [List.lookup_cons, beq_self_eq_true] at hn
        cases hn
      · rw [List.lookup_cons, beq_self_eq_true] at hn
        cases hn
        exact e2
    · have en : ¬ (Sum.inr zp : Key) = Sum.inr z := fun y => c (Sum.inr.inj y).symm
      have eb : (z == zp) = false := beq_eq_false_iff_ne.mpr c
      obtain ⟨r1, r2⟩ := ls_get z t
      refine ⟨fun hn => ?_, fun ns hn => ?_⟩
      · rw [List.lookup_cons, eb] at hn
        rw [valV_neg en]
        exact r1 hn
      · rw [List.lookup_cons, eb] at hn
        rw [valV_neg en]
        exact r2 ns hn
theorem lookup_not {z : Str} : ∀ {L : List (Str × List Int)}, z ∉ L.map (·.1) → L.lookup z = none
  | [], _ => rfl
  | (y, ns) :: r, h => by
    rw [List.map_cons, List.mem_cons, not_or] at h
    rw [List.lookup_cons, show (z == y) = false from beq_eq_false_iff_ne.mpr h.1]
    exact lookup_not h.2
theorem lookup_mem {z : Str} {ns : List Int} : ∀ {L : List (Str × List Int)}, (L.map (·.1)).Nodup → (z, ns) ∈ L → L.lookup z = some ns
  | [], _, h => nomatch h
  | (y, ms) :: r, hn, h => by
    rw [List.map_cons, List.nodup_cons] at hn
    rcases List.mem_cons.mp h with e | e
    · cases e
      rw [List.lookup_cons, beq_self_eq_true]
    · have : z ≠ y := fun q => hn.1 (q ▸ List.mem_map_of_mem (f := (·.1)) e)
      rw [List.lookup_cons, show (z == y) = false from beq_eq_false_iff_ne.mpr this]
      exact lookup_mem hn.2 e
theorem lookup_in {z : Str} {ns : List Int} : ∀ {L : List (Str × List Int)}, L.lookup z = some ns → (z, ns) ∈ L
  | [], h => nomatch h
  | (y, ms) :: r, h => by
    rw [List.lookup_cons] at h
    by_cases c : z = y
    · subst c
      rw [beq_self_eq_true] at h
      cases h
      exact List.mem_cons_self
    · rw [show (z == y) = false from beq_eq_false_iff_ne.mpr c] at h
      exact List.mem_cons_of_mem _ (lookup_in h)
/-- the lives as they are told -/
structure LOk (L : List (Str × List Int)) : Prop where
  srt : sortedS (L.map (·.1)) = true
  nd : (L.map (·.1)).Nodup
  few : L.length < 64
  ns : ∀ z ns, (z, ns) ∈ L → isName z = true ∧ z.length ≤ 2000 ∧ ∃ l : List Int, ns = 0 :: l ∧ l.length < 64 ∧ (∀ n ∈ l, gBeg (.int n) = true) ∧ l.Pairwise (· < ·)
/-- a dict of beginnings: what Lives is made of, for the lives L -/
def BgAt (K : PySem.W.Frag) (H : Hp) (d : Addr) (L : List (Str × List Int)) : Prop := ∃ (kvs : List (Key × V)) (ks : List Str), H d = some (.dK kvs) ∧ kvs.map (·.1) = ks.map Sum.inr ∧ ks.Perm (L.map (·.1)) ∧
  ∀ z ns, (z, ns) ∈ L → ∃ (l : Addr) (ms : List Int), valV kvs (.inr z) = some (.ref l) ∧ SqL K H l (ms.map V.int) ∧ ms.length < 64 ∧ (∀ n ∈ ms, gBeg (.int n) = true) ∧ ns = 0 :: srt ms
theorem BgAt.same {d : Addr} {H H' : Hp} {L : List (Str × List Int)} (h : BgAt K H d L) (s : Same H H') : BgAt K H' d L := by
  obtain ⟨kvs, ks, h1, h2, h3, h6⟩ := h
  refine ⟨kvs, ks, s _ _ h1, h2, h3, fun z ns e => ?_⟩
  obtain ⟨l, ms, e1, e2, e3⟩ := h6 z ns e
  exact ⟨l, ms, e1, e2.ext s, e3⟩
/-- what the top says of the class Lives, at C -/
structure Lvs (K : PySem.W.Frag) (mg : Str → Option Value) (C : Addr) : Prop where
  cl : Cls K C
  nB : NoAttr K C "_begun"
  mgC : mg "Lives" = some (.ref C)
theorem dc_it {J : It} {n : Nat} {G : Hp → Prop} {Y : Nat → Hp → V → Hp → Prop} (w : Walk J n G Y) {g : TG} {tt : TT} {tk tv : TE} {vs : List Nat} {σ : L2.St} {H1 : Hp} {D : Addr} {Qd : Hp → Prop} (Pv : Nat → Hp → Prop) (h0 : Pv 0 (upd H1 D (.dK []))) (hG : ∀ i H, i ≤ n → Pv i H → G H)
    (hs : ∀ i x H H', i < n → Pv i H → Y i H x H' → g x (wipe σ vs) H' fun σ2 H2 => wipe σ2 vs = wipe σ vs ∧ tt σ2 H2 fun b H3 =>
      if b = true then tk σ2 H3 fun y H4 => tv σ2 H4 fun z H5 => ∃ kvs k, y = kV k ∧ H5 D = some (.dK kvs) ∧ kvs.length < sizeLine ∧ Pv (i + 1) (upd H5 D (.dK (putK kvs k z))) else Pv (i + 1) H3) (hd : ∀ H, Pv n H → Qd H) :
    ∃ W : Nat → Nat → Hp → Prop, (∃ m, W 0 m (upd H1 D (.dK []))) ∧ ∀ i m H, W i m H →
      (J.stop i H ∧ Qd H) ∨ (J.go i H ∧ ∃ Nx : Hp → Prop, (∀ H', Nx H' → ∃ m', m' < m ∧ W (i + 1) m' H') ∧ ∀ x H', J.yld i H x H' → g x (wipe σ vs) H' fun σ2 H2 => wipe σ2 vs = wipe σ vs ∧ tt σ2 H2 fun b H3 =>
        if b = true then tk σ2 H3 fun y H4 => tv σ2 H4 fun z H5 => ∃ kvs k, y = kV k ∧ H5 D = some (.dK kvs) ∧ kvs.length < sizeLine ∧ Nx (upd H5 D (.dK (putK kvs k z))) else Nx H3) := by
  refine ⟨fun i m H => m = n - i ∧ i ≤ n ∧ Pv i H, ⟨n, by simp, Nat.zero_le _, h0⟩, ?_⟩
  rintro i m H ⟨rfl, hi, p⟩
  have q := hG i H hi p
  by_cases hlt : i < n
  · exact .inr ⟨w.goes i H hlt q, Pv (i + 1), fun H' p' => ⟨n - (i + 1), by omega, rfl, hlt, p'⟩, fun x H' y => hs i x H H' hlt p (w.yields i H x H' hlt q y)⟩
  · have e : i = n := by omega
    subst e
    exact .inl ⟨w.stops H q, hd H p⟩
/-- Lives.__init__ of such a dict -/
def spLInit (K : PySem.W.Frag) (C : Addr) : Sp := fun vs H Q _ => ∃ (x dx d : Addr) (L : List (Str × List Int)), vs = [.ref x, .ref d] ∧ H x = some (.ins C dx []) ∧ BgAt K H d L ∧ LOk L ∧ ∀ H', Off x H H' → LsAt C H' x L → Q .non H'
theorem ok_linit {f C fW : Addr} {fd fdW : FuncData} (F : Fun K "__init__" "Lives.__init__" sLInit f fd) (T : Lvs K mg C) (L : WordsL mg) (FW : Fun K "with_first" "with_first" sWith fW fdW) (bW : Binds K fdW ["tool", "moments"] []) (gW : mg "with_first" = some (.ref fW))
    (GW : FnOk P w K mg base CX0 4 fW fdW ["tool", "moments"] (spWith K)) : FnOk P w K mg base CX0 5 f fd ["self", "begun"] (spLInit K C) := by
  refine F.ok scLInit (fun vs H Q E h => ?_) (fun cdv A outer s H vs Q E hr h => ?_)
  · obtain ⟨x, dx, d, F, rfl, _⟩ := h
    rfl
  · obtain ⟨x, dx, d, L0, rfl, hx, hb, hO, q⟩ := h
    obtain ⟨kvs, ks, hd, hk, hpm, hv⟩ := id hb
    have h64 : ks.length < 64 := by rw [hpm.length_eq, List.length_map]; exact hO.few
    refine ⟨_, pss_one (ps_fld (pv 0) (pe_dc (own := [("tool", 2)]) (g := gName 2) (tt := tYes) rfl scLInit.nd (pi_list (pe_callB (call_sortedD rfl) (by rfl) L.sorted (by decide +kernel) (pa_cons (pv 1) pa_nil))) (blkOk_by (N := ["self", "begun", "tool"]) (sc := defScope sLInit) (by decide +kernel))
        (fun _ _ _ _ _ => pg_name (i := 2) scLInit.nd rfl (Or.inl rfl)) (fun _ _ _ _ _ => pts_nil) (fun _ _ _ _ _ => pv 2)
        (fun _ _ _ _ _ => pe_call GW hr (by rfl) gW FW.kp bW .nil pass0 (pa_cons (pv 2) (pa_cons (pe_dget (hu_of hr) (pv 1) (pv 2) (fun _ _ => rfl)) pa_nil)))) rfl), ?_⟩
    refine ⟨_, rfl, d, kvs, ks, rfl, .inl hd, hk, h64, fun ys p hp hsrt hpn => ⟨p, rfl, ⟨_, SqL.of upd_same⟩, fun D hD => ?_⟩⟩
    have sp : Same H (upd H p (.lst (ys.map V.str))) := same_upd0 hpn
    obtain rfl : ys = L0.map (·.1) := sortedS_one hsrt hO.srt (((hp.trans hpm).nodup_iff).mpr hO.nd) hO.nd fun k => (hp.trans hpm).mem_iff
    refine dc_it walk_list (fun i H' => Same (upd H p (.lst ((L0.map (·.1)).map V.str))) H' ∧ ∃ kvs' : List (Key × V), H' D = some (.dK kvs') ∧ Paired (EntL H') kvs' (L0.take i)) ⟨same_upd0 hD, [], upd_same, .nil⟩ (fun _ _ _ y => SqL.of (y.1 _ _ upd_same)) ?_ ?_
    · rintro i v H2 H3 hi ⟨s2, kvs', hD2, y2⟩ ⟨rfl, hv2⟩
      rw [List.length_map, List.length_map] at hi
      obtain ⟨⟨z, ns⟩, hz⟩ : ∃ p, L0[i]? = some p := ⟨_, List.getElem?_eq_getElem hi⟩
      rw [List.getElem?_map, List.getElem?_map, hz] at hv2
      obtain rfl : V.str z = v := Option.some.inj hv2
      have hmem := List.mem_of_getElem? hz
      obtain ⟨hn1, hn2, _⟩ := hO.ns z ns hmem
      obtain ⟨l, ms, hl1, hl3, hl4, hl5, rfl⟩ := hv z ns hmem
      have sA := sp.trans s2
      have et : L0.take (i + 1) = L0.take i ++ [(z, 0 :: srt ms)] := by rw [List.take_add_one, hz]; rfl
      have hfresh : valV kvs' (.inr z) = none := by
        refine (ls_get z y2).1 (lookup_not fun hin => ?_)
        have nd := hO.nd
        rw [← List.take_append_drop i L0, List.map_append, List.nodup_append] at nd
        have hdrop : z ∈ (L0.drop i).map (·.1) := by
          refine List.mem_map.mpr ⟨(z, 0 :: srt ms), ?_, rfl⟩
          refine List.mem_of_getElem? (i := 0) ?_
          rw [List.getElem?_drop, Nat.add_zero]
          exact hz
        exact nd.2.2 z hin z hdrop rfl
      have hl2 : kvs'.length ≤ i := by
        rw [Paired.length y2, List.length_take]
        exact Nat.min_le_left _ _
      refine ⟨rfl, _, rfl, _, rfl, _, rfl, _, rfl, d, _, rfl, .inl ⟨kvs, .inr z, .inl (sA _ _ hd), rfl, hl1.symm⟩, ?_⟩
      have few := hO.few
      refine ⟨z, l, ms, rfl, hn1, hn2, hl3.ext sA, hl4, hl5, fun t H4 s4 ht => ⟨kvs', .inr z, rfl, s4 _ _ hD2, Nat.lt_of_le_of_lt hl2 (by have := sizeLine_eq; omega), ?_⟩⟩
      have nD : ∀ {t : Addr} {xs : List V}, H4 t = some (.tup xs) → t ≠ D := fun ht z => by rw [z, s4 _ _ hD2] at ht; cases ht
      refine ⟨fun b o e => ?_, _, upd_same, ?_⟩
      · rw [upd_ne (ne_of_none e hD)]
        exact s4 _ _ (s2 _ _ e)
      · rw [putK_new _ hfresh, et]
        refine Paired.snoc (L2.Paired.mapP y2 fun kv p e => ?_) ⟨rfl, t, rfl, (upd_ne (nD ht)).trans ht⟩
        obtain ⟨e0, t2, e1, e2⟩ := e
        have e3 := s4 _ _ e2
        exact ⟨e0, t2, e1, (upd_ne (nD e3)).trans e3⟩
    · rintro H2 ⟨s2, kvs', hD2, y2⟩
      have sA := sp.trans s2
      refine ⟨_, rfl, x, C, dx, [], rfl, sA _ _ hx, T.cl, T.nB, (by show 0 < 1000; decide), ?_⟩
      have nDx : D ≠ x := fun z => by rw [z, sA _ _ hx] at hD2; cases hD2
      rw [List.length_map, List.length_map, List.take_length] at y2
      refine q _ (fun b o n e => (upd_ne n).trans (sA _ _ e)) ⟨dx, D, kvs', upd_same, (upd_ne nDx).trans hD2, L2.Paired.mapP y2 fun kv p e => ?_⟩
      obtain ⟨e0, t2, e1, e2⟩ := e
      exact ⟨e0, t2, e1, (upd_ne (fun y => by rw [y, sA _ _ hx] at e2; cases e2)).trans e2⟩
end
end K30

/-! a comprehension of two fors: the outer walk, the inner walk -/
namespace So
open PySem PySem.Spec PyProof.Rows L2
/-- what the inner for of a comprehension asks; Nx: what holds behind it -/
def Inn (J : It) (g : TG) (tt : TT) (te : TE) (vs : List Nat) (σ : L2.St) (D : Addr) (H0 : Hp) (Nx : Hp → Prop) : Prop :=
  ∃ W1 : Nat → Nat → Hp → Prop, (∃ m, W1 0 m H0) ∧ ∀ j k H, W1 j k H → (J.stop j H ∧ Nx H) ∨ (J.go j H ∧ ∃ N1 : Hp → Prop, (∀ H', N1 H' → ∃ k', k' < k ∧ W1 (j + 1) k' H') ∧ ∀ x H', J.yld j H x H' → g x (wipe σ vs) H' fun σ3 H5 => wipe σ3 vs = wipe σ vs ∧ tt σ3 H5 fun b H6 =>
    if b = true then te σ3 H6 fun y H7 => ∃ acc, H7 D = some (.lst acc) ∧ acc.length < sizeLine ∧ N1 (upd H7 D (.lst (acc ++ [y]))) else N1 H6)
section
variable {n : Nat} {J : It} {G : Hp → Prop} {Y : Nat → Hp → V → Hp → Prop}
theorem inn_it (w : Walk J n G Y) {g : TG} {tt : TT} {te : TE} {vs : List Nat} {σ : L2.St} {H0 : Hp} {D : Addr} {Nx : Hp → Prop} (Pv : Nat → Hp → Prop) (h0 : Pv 0 H0) (hG : ∀ i H, i ≤ n → Pv i H → G H)
    (hs : ∀ i x H H', i < n → Pv i H → Y i H x H' → g x (wipe σ vs) H' fun σ2 H2 => wipe σ2 vs = wipe σ vs ∧ tt σ2 H2 fun b H3 =>
      if b = true then te σ2 H3 fun y H4 => ∃ acc, H4 D = some (.lst acc) ∧ acc.length < sizeLine ∧ Pv (i + 1) (upd H4 D (.lst (acc ++ [y]))) else Pv (i + 1) H3) (hd : ∀ H, Pv n H → Nx H) : Inn J g tt te vs σ D H0 Nx := by
  refine ⟨fun i m H => m = n - i ∧ i ≤ n ∧ Pv i H, ⟨n, (Nat.sub_zero n).symm, Nat.zero_le _, h0⟩, ?_⟩
  rintro i m H ⟨rfl, hi, p⟩
  have q := hG i H hi p
  rcases Nat.lt_or_ge i n with hlt | hge
  · refine .inr ⟨w.goes i H hlt q, Pv (i + 1), fun H' p' => ⟨n - (i + 1), by omega, rfl, hlt, p'⟩, fun x H' y => hs i x H H' hlt p (w.yields i H x H' hlt q y)⟩
  · obtain rfl : i = n := by omega
    exact .inl ⟨w.stops H q, hd H p⟩
theorem lc2_it (w : Walk J n G Y) {g g1 : TG} {tt tt1 : TT} {te : TE} {wi1 : TI} {vs vs1 : List Nat} {σ : L2.St} {H1 : Hp} {D : Addr} {Qd : Hp → Prop} (Pv : Nat → Hp → Prop) (h0 : Pv 0 (upd H1 D (.lst []))) (hG : ∀ i H, i ≤ n → Pv i H → G H)
    (hs : ∀ i x H H', i < n → Pv i H → Y i H x H' → g x (wipe σ vs) H' fun σ2 H2 => wipe σ2 vs = wipe σ vs ∧ tt σ2 H2 fun b H3 =>
      if b = true then wi1 σ2 H3 fun J1 H4 => Inn J1 g1 tt1 te vs1 σ2 D H4 (Pv (i + 1)) else Pv (i + 1) H3) (hd : ∀ H, Pv n H → Qd H) :
    ∃ W : Nat → Nat → Hp → Prop, (∃ m, W 0 m (upd H1 D (.lst []))) ∧ ∀ i m H, W i m H →
      (J.stop i H ∧ Qd H) ∨ (J.go i H ∧ ∃ Nx : Hp → Prop, (∀ H', Nx H' → ∃ m', m' < m ∧ W (i + 1) m' H') ∧ ∀ x H', J.yld i H x H' → g x (wipe σ vs) H' fun σ2 H2 => wipe σ2 vs = wipe σ vs ∧ tt σ2 H2 fun b H3 =>
        if b = true then wi1 σ2 H3 fun J1 H4 => Inn J1 g1 tt1 te vs1 σ2 D H4 Nx else Nx H3) := by
  refine ⟨fun i m H => m = n - i ∧ i ≤ n ∧ Pv i H, ⟨n, (Nat.sub_zero n).symm, Nat.zero_le _, h0⟩, ?_⟩
  rintro i m H ⟨rfl, hi, p⟩
  have q := hG i H hi p
  rcases Nat.lt_or_ge i n with hlt | hge
  · refine .inr ⟨w.goes i H hlt q, Pv (i + 1), fun H' p' => ⟨n - (i + 1), by omega, rfl, hlt, p'⟩, fun x H' y => hs i x H H' hlt p (w.yields i H x H' hlt q y)⟩
  · obtain rfl : i = n := by omega
    exact .inl ⟨w.stops H q, hd H p⟩
end
end So

/-! the truth of an instance by its own __bool__, bool(x) and len(x) by own __bool__ and __len__ -/
namespace So
open PySem PySem.Spec PyProof.Rows L2
section
variable {X : Cx} {CX : CXT} {k : Nat} {C f : Addr} {fd : FuncData} {ps : List Str} {sp : Sp} {E : XK}
/-- a method of one argument, called a room deeper or here -/
theorem run_one {pins : List (Addr × Obj)} {s : Shared} {σ : L2.St} {H : Hp} {a : Addr} {Q : VK} {A : Around} (F : FnOk X.prog X.w X.K X.mg X.base CX k f fd ps sp) (hb : Binds X.K fd ps [])
    (hx : Passes CX X E) (hr : Room k A) (hf : A.frames = X.A.frames) (I : Inv X pins σ H s) (h : sp [.ref a] H Q E) : wpAny (model X.prog X.w) A (call (.ref f) [.ref a]) (EP X pins σ Q) X.xe s := by
  have e0 : Env0 X.prog X.w X.K X.mg X.base A X.stack s H := by
    have e := I.env0
    exact ⟨hf.trans e.frames, e.mod, e.bs, e.bsz, e.funs, e.frf, e.hok, e.bare⟩
  have hl : ([Value.ref a] ++ ([] : List Value)).length = ps.length := (F.len _ _ _ _ h : [V.ref a].length = ps.length)
  refine wpAny_call (codeAny_mono (F.run A X.stack s H ⟨[.ref a], []⟩ ([Value.ref a] ++ []) [.ref a] Q E hr e0 (hb s [Value.ref a] I.kIn hl) (.cons (show RelV (.ref a) (Value.ref a) from rfl) .nil) h) fun r s' hq => ?_)
  cases r with
  | error e => exact hx pins σ H s e s' I hq
  | ok fl =>
    cases fl with
    | ret w => exact I.after hq
    | next => exact False.elim hq
    | brk => exact False.elim hq
    | cont => exact False.elim hq
/-- as a test -/
theorem pt_own {e : Expr} {t : TE} (F : FnOk X.prog X.w X.K X.mg X.base CX k f fd ps sp) (hs : PySem.W.findIn X.K (.ref C) "__bool__" = some (some (.ref f))) (hf : PySem.W.isFn X.K (.ref f) = true) (hb : Binds X.K fd ps []) (hx : Passes CX X E) (hr : Room k X.A)
    (h : PE X e t) (he : ∀ whole, isTrue e X.env whole = (do let v ← whole; standAt e.pos; holding [v] (truthy v)) := by intro _; rfl) :
    PT X e (fun σ H Q => t σ H fun x H1 => ∃ a dx fs, x = .ref a ∧ H1 a = some (.ins C dx fs) ∧ sp [.ref a] H1 (fun v H' => ∃ b, v = .bl b ∧ Q b H') E) := by
  refine ⟨fun pins s σ H Q I hw => ?_⟩
  refine isTrue_plain (thn (h.run pins s σ H _ I hw) fun v s1 ⟨x, H1, I1, r1, q1⟩ => ?_) (he _)
  obtain ⟨a, dx, fs, rfl, ha, q⟩ := q1
  cases r1
  obtain ⟨mA, J, _⟩ := ins_get I1.hok ha
  obtain ⟨od, J, _⟩ := J.look
  obtain ⟨m, hF⟩ := I1.fr
  refine PySem.W.truthy_K hF I1.ok.mod.kin J hs hf (wpAny_mono (run_one F hb hx hr rfl I1 q) (fun w s' z => ?_) fun _ _ z => z)
  obtain ⟨v, H', I', rv, b, rfl, q'⟩ := z
  cases rv
  exact ⟨H', I', q'⟩
/-- len(x) -/
theorem call_lenO (F : FnOk X.prog X.w X.K X.mg X.base CX k f fd ps sp) (hs : PySem.W.findIn X.K (.ref C) "__len__" = some (some (.ref f))) (hf : PySem.W.isFn X.K (.ref f) = true) (hb : Binds X.K fd ps []) (hx : Passes CX X E) (hr : Room (k + 1) X.A) :
    CallR X (.builtin "len") (fun xs H Q => ∃ a dx fs, xs = [.ref a] ∧ H a = some (.ins C dx fs) ∧ sp [.ref a] H (fun v H' => ∃ n : Nat, v = .int n ∧ (n : Int) < 2 ^ 63 ∧ Q (.int n) H') E) := by
  intro pins s σ H xs us Q I r h
  obtain ⟨a, dx, fs, rfl, ha, q⟩ := h
  rw [Vals.ref1 r]
  obtain ⟨mA, J, _⟩ := ins_get I.hok ha
  obtain ⟨od, J, _⟩ := J.look
  obtain ⟨m, hF⟩ := I.fr
  refine PySem.W.len_K hF I.ok.mod.kin J hs hf (wpAny_mono (run_one F hb hx hr.in1 rfl I q) (fun w s' z => ?_) fun _ _ z => z)
  obtain ⟨v, H', I', rv, n, rfl, hn, q'⟩ := z
  obtain ⟨t, rfl⟩ := rv
  exact ⟨⟨Int.natCast_nonneg n, hn⟩, .int n, H', I'.tok _, ⟨_, rfl⟩, q'⟩
/-- bool(x) -/
theorem call_boolO (G : FnOk X.prog X.w X.K X.mg X.base CX k f fd ps sp) (hs : PySem.W.findIn X.K (.ref C) "__bool__" = some (some (.ref f))) (hf : PySem.W.isFn X.K (.ref f) = true) (hb : Binds X.K fd ps []) (hx : Passes CX X E) (hr : Room (k + 2) X.A) :
    CallR X (.type "bool") (fun xs H Q => ∃ a dx fs, xs = [.ref a] ∧ H a = some (.ins C dx fs) ∧ sp [.ref a] H (fun v H' => ∃ b, v = .bl b ∧ Q (.bl b) H') E) := by
  intro pins s σ H xs us Q I r h
  obtain ⟨a, dx, fs, rfl, ha, q⟩ := h
  rw [Vals.ref1 r]
  obtain ⟨mA, J, _⟩ := ins_get I.hok ha
  obtain ⟨od, J, _⟩ := J.look
  obtain ⟨m, hF⟩ := I.fr
  have tr : ∀ (R : Bool → Shared → Prop), (∀ b s' H', Inv X pins σ H' s' → Q (.bl b) H' → R b s') → wpAny (model X.prog X.w) X.A.in1.in1 (truthy (.ref a)) R X.xe s := fun R hR => by
    refine PySem.W.truthy_K hF I.ok.mod.kin J hs hf (wpAny_mono (run_one G hb hx hr.in1.in1 rfl I q) (fun w s' z => ?_) fun _ _ z => z)
    obtain ⟨v, H', I', rv, b, rfl, q'⟩ := z
    cases rv
    exact hR b s' H' I' q'
  refine callType_codes (Q₁ := fun ob s1 => ∃ b H', ob = .bool b ∧ Inv X pins σ H' s1 ∧ Q (.bl b) H') PySem.F.called_bool (PySem.F.typeCall_bool_1 _) PySem.F.entry_object_init (codeAny_call_builtin PySem.F.called_bool.plain F.entry_bool_new (wpAny_of_eq (PySem.F.newCall_bool_1 _) ?_)) fun ob s1 hq => ?_
  · have f1 := PySem.F.conv_sub_bool
    refine wpAny_mono (Q := fun fin s' => ∃ b H', fin = .done (.ret (.bool b)) ∧ Inv X pins σ H' s' ∧ Q (.bl b) H') ?_ (fun fin s' z => ?_) fun _ _ z => z
    · unfold Builtin.«bool.__new__»
      repeat (any_goals (first | assumption | (with_reducible refine tr _ fun b s' H' I' q' => ?_) | wp_step))
      exact ⟨_, _, rfl, I', q'⟩
    · obtain ⟨b, H', rfl, I', q'⟩ := z
      exact ⟨b, H', rfl, I', q'⟩
  · obtain ⟨b, H', rfl, I', q'⟩ := hq
    refine ⟨rfl, PySem.F.args_object_init_2 _ _, ?_⟩
    exact object_init_meets PySem.F.called_bool.init.lookup PySem.F.called_bool.made PySem.F.newNe_bool X.prog X.w X.A.in1 _ s1 ⟨rfl, rfl, .bl b, H', I', rfl, q'⟩
end
end So

/-! rules within a comprehension's block, the written part told -/
namespace So
open PySem PySem.Spec PyProof.Rows L2
section
variable {X : Cx} {K : PySem.W.Frag} {tg l e : Expr} {tl ta : TE} {f : Str} {pos : Pos}
theorem pi_tupK (h : X.K = K) (hl : PE X l tl) : PI X tg l (iTup K tl) := by
  subst h
  exact pi_tup hl
theorem pi_listK (h : X.K = K) (hl : PE X l tl) : PI X tg l (iList K tl) := by
  subst h
  exact pi_list hl
theorem pe_fldK (h : X.K = K) (he : PE X e ta) (hb : attributeBase e f X.env (eval e X.env) = eval e X.env) : PE X (.Attribute e f pos) (tFld K ta f) := by
  subst h
  exact pe_fld he hb
theorem ix_listK (h : X.K = K) : IxR X (rIxL K) := h ▸ ix_list
theorem ix_tupK (h : X.K = K) : IxR X (rIxT K) := h ▸ ix_tup
theorem op_inK (h : X.K = K) : OpR X (compareOp .In) (rIn K false) := by
  subst h
  exact op_in_seq
theorem op_notInK (h : X.K = K) : OpR X (compareOp .NotIn) (rIn K true) := by
  subst h
  exact op_notIn_seq
theorem lenK (h : X.K = K) : CallR X (.builtin "len") (fun xs H Q => ∃ (p : Addr) (ys : List V), xs = [V.ref p] ∧ (SqL K H p ys ∨ SqT K H p ys) ∧ Q (.int (ys.length : Nat)) H) := by
  subst h
  exact call_len_seq
end
end So

namespace K30
open PySem PySem.Spec PyProof.Rows L2 So
abbrev sListed : Stmt := inClass (topS 24) 2
abbrev sBeg : Stmt := inClass (topS 24) 3
abbrev sLife : Stmt := inClass (topS 24) 4
abbrev sCont : Stmt := inClass (topS 24) 6
abbrev sLen : Stmt := inClass (topS 24) 7
theorem scListed : FnScope ["self", "tool", "moments", "moment"] ["self"] (defScope sListed) := ⟨rfl, rfl, rfl, by decide +kernel, rfl, by decide +kernel, by decide +kernel⟩
theorem scBeg : FnScope ["self", "tool"] ["self", "tool"] (defScope sBeg) := ⟨rfl, rfl, rfl, by decide +kernel, rfl, by decide +kernel, by decide +kernel⟩
theorem scLife : FnScope ["self", "tool", "moment", "beginnings", "beginning"] ["self", "tool", "moment"] (defScope sLife) := ⟨rfl, rfl, rfl, by decide +kernel, rfl, by decide +kernel, by decide +kernel⟩
theorem scCont : FnScope ["self", "life", "tool", "beginning"] ["self", "life"] (defScope sCont) := ⟨rfl, rfl, rfl, by decide +kernel, rfl, by decide +kernel, by decide +kernel⟩
theorem scLen : FnScope ["self"] ["self"] (defScope sLen) := ⟨rfl, rfl, rfl, by decide +kernel, rfl, by decide +kernel, by decide +kernel⟩
theorem inV_ints (i : Int) : ∀ l : List Int, inV (.int i) (l.map V.int) = decide (i ∈ l)
  | [] => rfl
  | x :: r => by
    have h := inV_ints i r
    show (eqV (.int x) (.int i) || inV (.int i) (r.map V.int)) = _
    rw [h, show eqV (.int x) (.int i) = decide (i = x) by show (x == i) = _; rw [Bool.beq_eq_decide_eq]; exact decide_eq_decide.mpr ⟨Eq.symm, Eq.symm⟩, ← Bool.decide_or]
    exact decide_eq_decide.mpr List.mem_cons.symm
theorem flat_ints (l : List Int) : (l.map V.int).all flatV = true := by
  rw [List.all_map]
  exact List.all_eq_true.mpr fun _ _ => rfl
/-- a life, as it is kept -/
def LfAt (H : Hp) (j : Addr) (e : Str × Int) : Prop := H j = some (.tup [.str e.1, .int e.2])
/-- the lives one by one -/
def lvs (L : List (Str × List Int)) : List (Str × Int) := L.flatMap fun p => p.2.map fun n => (p.1, n)
theorem lvs_len : ∀ {L : List (Str × List Int)} {m : Nat}, (∀ p ∈ L, p.2.length ≤ m) → (lvs L).length ≤ L.length * m
  | [], _, _ => by simp [lvs]
  | p :: r, m, h => by
    have h1 := lvs_len (L := r) (m := m) fun q hq => h q (List.mem_cons_of_mem _ hq)
    have h2 := h p List.mem_cons_self
    show ((p.2.map fun n => (p.1, n)) ++ lvs r).length ≤ _
    rw [List.length_append, List.length_map, List.length_cons, Nat.succ_mul]
    omega
theorem LOk.small {L : List (Str × List Int)} (h : LOk L) : (lvs L).length ≤ 64 * 64 := by
  refine Nat.le_trans (lvs_len (m := 64) fun p hp => ?_) (Nat.mul_le_mul (Nat.le_of_lt h.few) (Nat.le_refl _))
  obtain ⟨_, _, l, e, h1, _⟩ := h.ns p.1 p.2 hp
  rw [e, List.length_cons]
  omega
theorem lvs_mem {L : List (Str × List Int)} {z : Str} {n : Int} : (z, n) ∈ lvs L ↔ ∃ ns, (z, ns) ∈ L ∧ n ∈ ns := by
  unfold lvs
  rw [List.mem_flatMap]
  constructor
  · rintro ⟨⟨z', ns⟩, h1, h2⟩
    obtain ⟨m, h3, h4⟩ := List.mem_map.mp h2
    cases h4
    exact ⟨ns, h1, h3⟩
  · rintro ⟨ns, h1, h2⟩
    exact ⟨_, h1, List.mem_map.mpr ⟨n, h2, rfl⟩⟩
theorem unlock_same {H H' : Hp} {d : Addr} {u o : HO} (h : H d = some u) (s : Same (upd H d o) H') : Same H (upd H' d u) := fun b x e => by
  by_cases c : b = d
  · subst c
    rw [upd_same]
    exact h.symm.trans e
  · rw [upd_ne c]
    exact s _ _ ((upd_ne c).trans e)
theorem over3 {H H1 : Hp} {D : Addr} {o : HO} (s : Same H H1) (h : H D = none) : Same H (upd H1 D o) := Same.over s h
section
variable {P : Program} {w : World} {K : PySem.W.Frag} {mg : Str → Option Value} {base : Heap}
/-- beginnings of a tool that is there -/
def spBeg (C : Addr) : Sp := fun vs H Q _ => ∃ (a : Addr) (z : Str) (ns : List Int) (L : List (Str × List Int)), vs = [.ref a, .str z] ∧ z.length ≤ 2000 ∧ LsAt C H a L ∧ L.lookup z = some ns ∧ ∀ t, H t = some (.tup (ns.map V.int)) → Q (.ref t) H
theorem ok_beg {C f : Addr} {fd : FuncData} (F : Fun K "beginnings" "Lives.beginnings" sBeg f fd) (T : Lvs K mg C) (W : Words K mg) : FnOk P w K mg base CX0 1 f fd ["self", "tool"] (spBeg C) := by
  refine F.ok scBeg (fun vs H Q E h => ?_) (fun cdv A outer s H vs Q E hr h => ?_)
  · obtain ⟨a, v, T, F, rfl, _⟩ := h
    rfl
  · obtain ⟨a, z, ns, L, rfl, hz, hL, hlk, q⟩ := h
    obtain ⟨dx, d, kvs, h1, h2, h3⟩ := id hL
    refine ⟨_, pss_cons (ps_if (PW.pt (pw_or (pt_not (pt_val (pe_callB call_isi (by rfl) W.isi (by decide +kernel) (pa_cons (pv 1) (pa_cons (pe_bltn (v := .ty "str") (by rfl) W.str (by decide +kernel) rfl) pa_nil)))))
        (pw_or1 (pt_cmp (pc_dnotin (hu_of hr) (pv 1) (pe_fld (pv 0) rfl)))))) pss_dead pss_nil)
      (pss_one (ps_ret (pe_dget (hu_of hr) (pe_fld (pv 0) rfl) (pv 1) (fun _ _ => rfl)))), ?_⟩
    obtain ⟨t, e1, e2⟩ := (ls_get z h3).2 ns hlk
    refine ⟨_, rfl, _, _, _, _, _, rfl, .ty "str", (Gv.str (H := H) z hz).ty, (Gv.str (H := H) z hz).kit "str" (.inr (.inr rfl)), _, rfl, ?_⟩
    refine iteF ?_
    refine ⟨_, rfl, _, rfl, a, C, dx, _, _, rfl, h1, T.cl, T.nB, rfl, d, _, rfl, DGet.k (k := .inr z) h2, ?_⟩
    rw [e1]
    refine ⟨_, rfl, iteF ?_⟩
    exact ⟨_, rfl, a, C, dx, _, _, rfl, h1, T.cl, T.nB, rfl, _, rfl, d, _, rfl, .inl ⟨kvs, .inr z, .inl h2, rfl, e1.symm⟩, q t e2⟩
/-- life in lives, of a life that is there -/
def spCont (C : Addr) : Sp := fun vs H Q _ => ∃ (a j : Addr) (z : Str) (n : Int) (ns : List Int) (L : List (Str × List Int)), vs = [.ref a, .ref j] ∧ z.length ≤ 2000 ∧ LsAt C H a L ∧ LfAt H j (z, n) ∧ L.lookup z = some ns ∧ n ∈ ns ∧ Q (.bl true) H
theorem ok_cont {C f fW : Addr} {fd fdW : FuncData} (F : Fun K "__contains__" "Lives.__contains__" sCont f fd) (T : Lvs K mg C) (W : Words K mg) (L : WordsL mg) (FW : Fun K "is_whole" "is_whole" sWhole fW fdW) (bW : Binds K fdW ["value"] []) (gW : mg "is_whole" = some (.ref fW)) :
    FnOk P w K mg base CX0 2 f fd ["self", "life"] (spCont C) := by
  have GW : FnOk P w K mg base CX0 1 fW fdW ["value"] spWhole := ok_whole FW W
  refine F.ok scCont (fun vs H Q E h => ?_) (fun cdv A outer s H vs Q E hr h => ?_)
  · obtain ⟨a, y, o, F, _, _, rfl, _⟩ := h
    rfl
  · obtain ⟨a, p, z, n, ns, L0, rfl, hz, hL, hp, hlk, hn, q⟩ := h
    obtain ⟨dx, d, kvs, h1, h2, h3⟩ := id hL
    refine ⟨_, pss_cons (ps_if (PW.pt (pw_or (pt_not (pt_val (pe_callB call_isi (by rfl) W.isi (by decide +kernel) (pa_cons (pv 1) (pa_cons (pe_bltn (v := .ty "tuple") (by rfl) L.tuple (by decide +kernel) rfl) pa_nil)))))
        (pw_or1 (pt_cmpR op_ne (pe_callB call_len_seq (by rfl) W.len PySem.boot_len (pa_cons (pv 1) pa_nil)) pe_int (nomark _))))) pss_dead pss_nil)
      (pss_cons (ps_asg (pv 1) (pg_tup rfl (pgs_cons (pg_name (i := 2) scCont.nd rfl (Or.inl rfl)) (pgs_cons (pg_name (i := 3) scCont.nd rfl (Or.inl rfl)) pgs_nil))))
      (pss_cons (ps_if (PW.pt (pw_or (pt_not (pt_val (pe_callB call_isi (by rfl) W.isi (by decide +kernel) (pa_cons (pv 2) (pa_cons (pe_bltn (v := .ty "str") (by rfl) W.str (by decide +kernel) rfl) pa_nil)))))
        (pw_or1 (pt_cmp (pc_dnotin (hu_of hr) (pv 2) (pe_fld (pv 0) rfl)))))) pss_dead pss_nil)
      (pss_one (ps_ret (pe_and (pe_call GW hr (by rfl) gW FW.kp bW .nil pass0 (pa_cons (pv 3) pa_nil)) (pe_one (pe_cmpR op_in_seq (pv 3) (pe_dget (hu_of hr) (pe_fld (pv 0) rfl) (pv 2) (fun _ _ => rfl)) (by rfl)))))))), ?_⟩
    obtain ⟨t, e1, e2⟩ := (ls_get z h3).2 ns hlk
    refine ⟨_, rfl, _, _, _, _, _, rfl, .ty "tuple", .base (.tup hp), (show PySem.W.kitOne K (.type "tuple") (.type "tuple") = some true from kit_ty (by decide +kernel)), _, rfl, iteF ?_⟩
    refine ⟨_, rfl, p, _, rfl, .inr (SqT.of hp), rfl, _, rfl, ite2 (fun e => by cases e) (fun _ => ?_)⟩
    refine ⟨_, rfl, p, _, rfl, SqT.of hp, rfl, _, _, rfl, _, _, rfl, rfl, ?_⟩
    refine ⟨_, rfl, _, _, _, _, _, rfl, .ty "str", (Gv.str (H := H) z hz).ty, (Gv.str (H := H) z hz).kit "str" (.inr (.inr rfl)), _, rfl, iteF ?_⟩
    refine ⟨_, rfl, _, rfl, a, C, dx, _, _, rfl, h1, T.cl, T.nB, rfl, d, _, rfl, DGet.k (k := .inr z) h2, ?_⟩
    rw [e1]
    refine ⟨_, rfl, iteF ?_⟩
    refine ⟨_, rfl, _, "int", rfl, .int n, _, rfl, iteT ?_⟩
    refine ⟨_, rfl, _, rfl, a, C, dx, _, _, rfl, h1, T.cl, T.nB, rfl, _, rfl, d, _, rfl, .inl ⟨kvs, .inr z, .inl h2, rfl, e1.symm⟩, t, _, rfl, .inr (SqT.of e2), rfl, flat_ints _, ?_⟩
    rw [inV_ints, decide_eq_true hn]
    exact q
/-- all lives, one by one -/
def spListed (C : Addr) : Sp := fun vs H Q _ => ∃ (a : Addr) (L : List (Str × List Int)), vs = [.ref a] ∧ LsAt C H a L ∧ LOk L ∧ ∀ (H' : Hp) (t : Addr) (js : List Addr), Same H H' → H' t = some (.tup (js.map V.ref)) → Paired (LfAt H') js (lvs L) → Q (.ref t) H'
theorem ok_listed {C f : Addr} {fd : FuncData} (F : Fun K "listed" "Lives.listed" sListed f fd) (T : Lvs K mg C) (L : WordsL mg) : FnOk P w K mg base CX0 1 f fd ["self"] (spListed C) := by
  refine F.ok scListed (fun vs H Q E h => ?_) (fun cdv A outer s H vs Q E hr h => ?_)
  · obtain ⟨a, L, rfl, _⟩ := h
    rfl
  · obtain ⟨a, L0, rfl, hL, hO, q⟩ := h
    obtain ⟨dx, d, kvs, h1, h2, h3⟩ := id hL
    refine ⟨_, pss_one (ps_ret (pe_callTy call_tuple_of (by rfl) L.tuple (by decide +kernel) (pa_cons (pe_lock (pe_lc2 (own := [("tool", 1), ("moments", 2), ("moment", 3)]) (vs1 := [3]) (g := gTup K 2 (gCons (gName 1) (gCons (gName 2) gNil))) (g1 := gName 3) (tt := tYes) (tt1 := tYes) rfl scListed.nd (pi_items (pe_fld (pv 0) rfl)) (blkOk_by (N := ["self", "tool", "moments", "moment"]) (sc := defScope sListed) (by decide +kernel)) (by decide)
        (fun _ _ _ _ _ => pg_tup rfl (pgs_cons (pg_name (i := 1) scListed.nd rfl (Or.inl rfl)) (pgs_cons (pg_name (i := 2) scListed.nd rfl (Or.inl rfl)) pgs_nil))) (fun _ _ _ _ _ => pts_nil)
        (fun _ _ _ _ _ => pi_tupK (K := K) rfl (pv 2)) (fun _ _ _ _ _ => pg_name (i := 3) scListed.nd rfl (Or.inl rfl)) (fun _ _ _ _ _ => pts_nil)
        (fun _ _ _ _ _ => pe_tup (pa_cons (pv 1) (pa_cons (pv 3) pa_nil))))) pa_nil))), ?_⟩
    refine ⟨d, _, h2, True.intro, fun od => ?_⟩
    have na : a ≠ d := fun z => by rw [z, h2] at h1; cases h1
    refine ⟨_, rfl, a, C, dx, _, _, rfl, (upd_ne na).trans h1, T.cl, T.nB, rfl, d, od, kvs, rfl, upd_same, fun D hD => ?_⟩
    have hDd : D ≠ d := fun z => by rw [z, upd_same] at hD; cases hD
    have hDH : H D = none := (upd_ne hDd).symm.trans hD
    have h3' : Paired (EntL (upd H d (.frz od (.dK kvs)))) kvs L0 := L2.Paired.mapP h3 fun kv p e => by
      obtain ⟨e0, t, e1, e2⟩ := e
      exact ⟨e0, t, e1, (upd_ne (fun z => by rw [z, h2] at e2; cases e2)).trans e2⟩
    have hlen := Paired.length h3
    have hsm := hO.small
    have hss := sizeLine_eq
    have hd1 : upd H d (.frz od (.dK kvs)) d = some (.frz od (.dK kvs)) := upd_same
    generalize hH1 : upd H d (.frz od (.dK kvs)) = H1 at hD h3' hd1 ⊢
    refine lc2_it walk_items (fun k H' => Same H1 H' ∧ ∃ rs : List Addr, H' D = some (.lst (rs.map V.ref)) ∧ Paired (LfAt H') rs (lvs (L0.take k))) ⟨same_upd0 hD, [], upd_same, .nil⟩ (fun _ _ _ y => y.1 _ _ hd1) ?_ ?_
    · rintro k x H2 H3 hk ⟨s2, rs, hD2, hpr⟩ ⟨Tt, x1, x2, rfl, hT, rfl, hx1, hx2⟩
      obtain ⟨kv, hkv⟩ : ∃ kv, kvs[k]? = some kv := ⟨_, List.getElem?_eq_getElem hk⟩
      obtain ⟨⟨z, ns⟩, hp, ez, t, et, ht⟩ := L2.paired_get h3' hkv
      have hx1 : kvs[k]?.map (fun kv => kV kv.1) = some x1 := hx1
      have hx2 : kvs[k]?.map Prod.snd = some x2 := hx2
      rw [hkv] at hx1 hx2
      obtain ⟨kk, kv2⟩ := kv
      have ez : kk = Sum.inr z := ez
      have et : kv2 = .ref t := et
      subst ez et
      obtain rfl : V.str z = x1 := Option.some.inj hx1
      obtain rfl : V.ref t = x2 := Option.some.inj hx2
      have hmem := List.mem_of_getElem? hp
      obtain ⟨_, _, l, el, hl64, _⟩ := hO.ns z ns hmem
      have hnl : ns.length ≤ 64 := by rw [el, List.length_cons]; omega
      have etk : lvs (L0.take (k + 1)) = lvs (L0.take k) ++ ns.map fun n => (z, n) := by
        rw [List.take_add_one, hp]
        unfold lvs
        rw [List.flatMap_append]
        simp
      have hle : (lvs (L0.take k)).length + ns.length ≤ 64 * 64 := by
        have e1 : lvs L0 = lvs (L0.take (k + 1)) ++ lvs (L0.drop (k + 1)) := by
          unfold lvs
          rw [← List.flatMap_append, List.take_append_drop]
        rw [e1, List.length_append, etk, List.length_append, List.length_map] at hsm
        omega
      have s3 : Same H2 (upd H2 Tt (.tup [.str z, .ref t])) := same_upd0 hT
      refine ⟨Tt, _, rfl, SqT.of upd_same, rfl, _, _, rfl, _, _, rfl, rfl, rfl, ?_⟩
      have s13 := s2.trans s3
      refine ⟨_, rfl, t, rfl, ⟨_, SqT.of (s13 _ _ ht)⟩, ?_⟩
      have hpr3 : Paired (LfAt (upd H2 Tt (.tup [.str z, .ref t]))) rs (lvs (L0.take k)) := L2.Paired.mapP hpr fun _ _ e => s3 _ _ e
      have hD3 := s3 _ _ hD2
      generalize upd H2 Tt (.tup [.str z, .ref t]) = H3 at s3 s13 hpr3 hD3
      refine inn_it walk_tup (fun j H' => Same H1 H' ∧ ∃ rs : List Addr, H' D = some (.lst (rs.map V.ref)) ∧ Paired (LfAt H') rs (lvs (L0.take k) ++ (ns.take j).map fun n => (z, n))) ⟨s13, rs, hD3, by rw [List.take_zero, List.map_nil, List.append_nil]; exact hpr3⟩ (fun _ _ _ y => SqT.of (y.1 _ _ ht)) ?_ ?_
      · rintro j x H4 H5 hj ⟨s4, rs4, hD4, hpr4⟩ ⟨rfl, hx⟩
        rw [List.length_map] at hj
        rw [List.getElem?_map] at hx
        obtain ⟨n, hn, rfl⟩ : ∃ n, ns[j]? = some n ∧ x = .int n := by
          cases e : ns[j]? with
          | none => rw [e] at hx; cases hx
          | some n => rw [e] at hx; exact ⟨n, rfl, (Option.some.inj hx).symm⟩
        refine ⟨rfl, _, rfl, _, rfl, by show 2 ≤ sizeLine; decide, fun tn htn => ?_⟩
        have s5 := same_upd0 (o := .tup [.str z, .int n]) htn
        have htn5 : (upd H5 tn (.tup [.str z, .int n])) tn = some (.tup [.str z, .int n]) := upd_same
        have hD5 := s5 _ _ hD4
        have eq2 : (ns.take (j + 1)).map (fun n => (z, n)) = (ns.take j).map (fun n => (z, n)) ++ [(z, n)] := by
          rw [List.take_add_one, hn, List.map_append]
          rfl
        have hrl := Paired.length hpr4
        refine ⟨_, hD5, ?_, over3 (s4.trans s5) hD, rs4 ++ [tn], ?_, ?_⟩
        · rw [List.length_append, List.length_map, List.length_take] at hrl
          rw [List.length_map]
          omega
        · rw [upd_same, List.map_append]
          rfl
        · rw [eq2, ← List.append_assoc]
          refine Paired.snoc (L2.Paired.mapP hpr4 fun r q e => ?_) ((upd_ne (ne_of htn5 hD5 (fun z => nomatch z))).trans htn5)
          have e' := s5 _ _ e
          exact (upd_ne (ne_of e' hD5 (fun z => nomatch z))).trans e'
      · rintro H4 ⟨s4, rs4, hD4, hpr4⟩
        rw [List.length_map, List.take_length] at hpr4
        exact ⟨s4, rs4, hD4, by rw [etk]; exact hpr4⟩
    rintro H2 ⟨s2, rs, hD2, hpr⟩
    rw [hlen, List.take_length] at hpr
    subst hH1
    refine ⟨s2 _ _ hd1, D, _, rfl, .inl ⟨SqL.of ((upd_ne hDd).trans hD2), fun t ht => ?_⟩⟩
    have sU := unlock_same h2 s2
    have sV := same_upd0 (o := .tup (rs.map V.ref)) ht
    refine q _ t rs (sU.trans sV) upd_same (L2.Paired.mapP hpr fun r e h => ?_)
    have hr : LfAt H2 r e := h
    have nd : r ≠ d := fun z => by have h5 := s2 _ _ hd1; rw [← z] at h5; exact nomatch (Option.some.inj (hr.symm.trans h5))
    exact sV _ _ ((upd_ne nd).trans hr)
/-- how many lives there are -/
def spLen (C : Addr) : Sp := fun vs H Q _ => ∃ (a : Addr) (L : List (Str × List Int)), vs = [.ref a] ∧ LsAt C H a L ∧ LOk L ∧ ∀ H' : Hp, Same H H' → Q (.int ((lvs L).length : Nat)) H'
theorem ok_len {C f fL : Addr} {fd fdL : FuncData} (F : Fun K "__len__" "Lives.__len__" sLen f fd) (T : Lvs K mg C) (W : Words K mg) (pL : Addr) (PL : PropOf K C "listed" pL fL) (bL : Binds K fdL ["self"] []) (GL : FnOk P w K mg base CX0 1 fL fdL ["self"] (spListed C)) : FnOk P w K mg base CX0 3 f fd ["self"] (spLen C) := by
  refine F.ok scLen (fun vs H Q E h => ?_) (fun cdv A outer s H vs Q E hr h => ?_)
  · obtain ⟨a, L, rfl, _⟩ := h
    rfl
  · obtain ⟨a, L0, rfl, hL, hO, q⟩ := h
    obtain ⟨dx, d, kvs, h1, h2, h3⟩ := id hL
    refine ⟨_, pss_one (ps_ret (pe_callB call_len_seq (by rfl) W.len PySem.boot_len (pa_cons (pe_prop (pv 0) T.cl PL GL hr bL .nil pass0 rfl) pa_nil))), ?_⟩
    refine ⟨_, rfl, a, dx, _, rfl, h1, a, L0, rfl, hL, hO, fun H' t js s ht hp => ⟨t, _, rfl, .inr (SqT.of ht), ?_⟩⟩
    rw [List.length_map, Paired.length hp]
    exact q H' s
/-- the life of a moment -/
def spLife (C : Addr) : Sp := fun vs H Q _ => ∃ (a : Addr) (z : Str) (i b : Int) (ns : List Int) (L : List (Str × List Int)), vs = [.ref a, .str z, .int i] ∧ LsAt C H a L ∧ LOk L ∧ (z, ns) ∈ L ∧ gMom (.int i) = true ∧ b ∈ ns ∧ b ≤ i ∧ (∀ n ∈ ns, n ≤ i → n ≤ b) ∧
  ∀ t H', Same H H' → H' t = some (.tup [.str z, .int b]) → Q (.ref t) H'
theorem ok_life {C f fB' fC : Addr} {fd fdB fdC : FuncData} (F : Fun K "life_of" "Lives.life_of" sLife f fd) (L : WordsL mg) (mB : Meth K C "beginnings" fB') (T : Lvs K mg C) (bB : Binds K fdB ["self", "tool"] []) (GB : FnOk P w K mg base CX0 1 fB' fdB ["self", "tool"] (spBeg C))
    (FC : Fun K "check_form" "check_form" sCheck fC fdC) (bC : Binds K fdC ["value", "form"] []) (gC : mg "check_form" = some (.ref fC)) (GC : FnOk P w K mg base CX0 3 fC fdC ["value", "form"] spCheck) :
    FnOk P w K mg base CX0 4 f fd ["self", "tool", "moment"] (spLife C) := by
  refine F.ok scLife (fun vs H Q E h => ?_) (fun cdv A outer s H vs Q E hr h => ?_)
  · obtain ⟨a, v, m, T1, T2, F, rfl, _⟩ := h
    rfl
  · obtain ⟨a, z, i, b, ns, L0, rfl, hL, hO, hmem, hg, hb1, hb2, hb3, q⟩ := h
    have hr1 : Room 1 _ := hr.mono (by decide)
    refine ⟨_, pss_cons (ps_set (i := 3) scLife.nd rfl (.inl rfl) (pe_meth (pv 0) T.cl mB GB hr1 bB .nil pass0 (pa_cons (pv 1) pa_nil)))
      (pss_cons (ps_expr (pe_call GC hr (by rfl) gC FC.kp bC .nil pass0 (pa_cons (pv 2) (pa_cons pe_str pa_nil))))
      (pss_one (ps_ret (pe_tup (pa_cons (pv 1) (pa_cons (pe_callB (cr_max rfl) (by rfl) L.max (by decide +kernel) (pa_cons (pe_lc (own := [("beginning", 4)]) (g := gName 4) rfl scLife.nd (pi_tup (pv 3)) (blkOk_by (N := ["self", "tool", "moment", "beginnings", "beginning"]) (sc := defScope sLife) (by decide +kernel))
          (fun _ _ _ _ _ => pg_name (i := 4) scLife.nd rfl (Or.inl rfl)) (fun _ _ _ _ _ => pts_one (pt_cmpR op_le (pv 4) (pv 2) (nomark _)))
          (fun _ _ _ _ _ => pv 4)) pa_nil)) pa_nil)))))), ?_⟩
    obtain ⟨dx, d, kvs, h1, h2, h3⟩ := id hL
    obtain ⟨hn1, hn2, l, rfl, hl64, hlb, hlp⟩ := hO.ns z ns hmem
    refine ⟨_, rfl, a, dx, _, rfl, h1, rfl, _, rfl, a, z, _, L0, rfl, hn2, hL, lookup_mem hO.nd hmem, fun t ht => ?_⟩
    refine ⟨_, rfl, _, "int", _, rfl, .int i, .inr (.inl ⟨rfl, hg⟩), fun H1 s1 => ?_⟩
    have hi0 : 0 ≤ i := (of_decide_eq_true hg).1
    have ht1 := s1 _ _ ht
    have hlen : ∀ k, ((((0 :: l).take k).filter fun n => decide (n ≤ i)).map V.int).length < sizeLine := fun k => by
      rw [List.length_map]
      have h1 := List.length_filter_le (fun n => decide (n ≤ i)) ((0 :: l).take k)
      have h2 : ((0 :: l).take k).length ≤ (0 :: l).length := List.length_take_le' _ _
      have h3 : (0 :: l).length = l.length + 1 := rfl
      have := sizeLine_eq
      omega
    refine ⟨_, rfl, _, rfl, t, rfl, ⟨_, SqT.of ht1⟩, fun D hD => ?_⟩
    refine lc_it walk_tup (fun k H' => Same H1 H' ∧ H' D = some (.lst ((((0 :: l).take k).filter fun n => decide (n ≤ i)).map V.int))) ⟨Same.over (Same.refl H1) hD, upd_same⟩ (fun _ _ _ y => SqT.of (y.1 _ _ ht1)) ?_ ?_
    · rintro k x H2 H3 hk ⟨s2, hDk⟩ ⟨rfl, hx⟩
      obtain ⟨n, hn, rfl⟩ : ∃ n, (0 :: l)[k]? = some n ∧ x = .int n := by
        rw [List.getElem?_map] at hx
        cases e : (0 :: l)[k]? with
        | none => rw [e] at hx; cases hx
        | some n => rw [e] at hx; exact ⟨n, rfl, (Option.some.inj hx).symm⟩
      refine ⟨rfl, _, rfl, _, rfl, _, _, rfl, rfl, _, rfl, ?_⟩
      have et : (0 :: l).take (k + 1) = (0 :: l).take k ++ [n] := by rw [List.take_add_one, hn]; rfl
      rw [et, List.filter_append]
      by_cases c : n ≤ i
      · rw [decide_eq_true c]
        refine iteT ⟨_, rfl, _, hDk, hlen k, Same.over s2 hD, ?_⟩
        rw [upd_same, List.map_append]
        simp [c]
      · rw [decide_eq_false c]
        refine iteF ⟨s2, ?_⟩
        rw [hDk]
        simp [c]
    · rintro H2 ⟨s2, hDk⟩
      rw [List.length_map, List.take_length] at hDk
      refine ⟨D, _, rfl, SqL.of hDk, ?_, fun b' hb1' hb2' => ⟨by show 2 ≤ sizeLine; decide, fun t' ht' => ?_⟩⟩
      · exact List.length_pos_of_mem (List.mem_filter.mpr ⟨List.mem_cons_self, decide_eq_true hi0⟩)
      · have e1 : b' ≤ b := hb3 b' (List.mem_filter.mp hb1').1 (of_decide_eq_true (List.mem_filter.mp hb1').2)
        have e2 : b ≤ b' := hb2' b (List.mem_filter.mpr ⟨hb1, decide_eq_true hb2⟩)
        obtain rfl : b' = b := by omega
        exact q t' _ ((s1.trans s2).trans (same_upd0 ht')) upd_same
end
end K30

namespace So
open PySem PySem.Spec PyProof.Rows L2
/-! {k: v for target in iter if ..}, the keys tuples of ints and texts (HandS.DictComp's own road, the dict a table of such keys) -/
section
variable {X : Cx}
/-- one more entry, its key a tracked tuple -/
theorem dt_put {pins : List (Addr × Obj)} {σ : L2.St} {H : Hp} {s : Shared} {E : Value → Shared → Prop} {D b : Addr} {kvs : List (List Key × V)} {k : List Key} {v : V} {r : Value} {Q : Unit → Shared → Prop} (hu : X.A.units < cLine) (I : Inv X pins σ H s) (hD : H D = some (.dT kvs)) (hz : kvs.length < sizeLine)
    (hb : H b = some (.tup (k.map kV))) (rv : RelV v r) (h : ∀ s', Inv X pins σ (upd H D (.dT (putK kvs k v))) s' → Q () s') : wpAny (model X.prog X.w) X.A (dictSet D (.ref b) r) Q E s := by
  obtain ⟨z, hd, xs, rel, dd⟩ := dt_of I.hok hD
  refine wpAny_dictSet_heap (hsz := by rw [← Paired.length rel]; exact z) hu (key_of I.hok hb) dd fun h' dd' hs => h _ ?_
  obtain ⟨q, es, ep, hq, q2, q3, q4, _, q5⟩ := dd'
  have hl : (putK kvs k v).length ≤ sizeLine := Nat.le_trans (length_putK kvs k v) hz
  exact d_write I (by rw [hD]; exact True.intro) hs ⟨q, hq⟩ ⟨hl, hd, _, (rel.put k hb rv).keeps fun c ys ec => (upd_ne (ne_of ec hD (fun z => nomatch z))).trans ec, q, es, ep, hq, q2, q3, q4, q5⟩
def tDcT (wi : TI) (g : TG) (tt : TT) (tk tv : TE) (vs : List Nat) : TE := fun σ H Q => wi σ H fun J H1 => ∀ D, H1 D = none → ∃ W : Nat → Nat → Hp → Prop, (∃ m, W 0 m (upd H1 D (.dT []))) ∧ ∀ i m H, W i m H →
  (J.stop i H ∧ Q (.ref D) H) ∨ (J.go i H ∧ ∃ Nx : Hp → Prop, (∀ H', Nx H' → ∃ m', m' < m ∧ W (i + 1) m' H') ∧ ∀ x H', J.yld i H x H' → g x (wipe σ vs) H' fun σ2 H2 => wipe σ2 vs = wipe σ vs ∧ tt σ2 H2 fun b H3 =>
    if b = true then tk σ2 H3 fun y H4 => tv σ2 H4 fun z H5 => ∃ kvs k c, y = .ref c ∧ H5 c = some (.tup (k.map kV)) ∧ H5 D = some (.dT kvs) ∧ kvs.length < sizeLine ∧ Nx (upd H5 D (.dT (putK kvs k z))) else Nx H3)
theorem pe_dcT {kx vx tg iter : Expr} {ifs : List Expr} {scope : Scope} {own : List (Str × Nat)} {pos : Pos} {wi : TI} {g : TG} {tt : TT} {tk tv : TE} (hc : X.calm = true) (hN : X.N.Nodup) (hu : X.A.units < cLine) (hi : PI X tg iter wi) (ok : BlkOk X.N X.env.scope scope own)
    (hg : ∀ (s : Shared) (H : Hp) (C : Addr) (cl : List (Str × Addr)) (fp : List Addr), PG (X.blk s H scope (compEnvC scope cl C X.env) fp) tg g) (ht : ∀ (s : Shared) (H : Hp) (C : Addr) (cl : List (Str × Addr)) (fp : List Addr), PTs (X.blk s H scope (compEnvC scope cl C X.env) fp) ifs tt)
    (hk : ∀ (s : Shared) (H : Hp) (C : Addr) (cl : List (Str × Addr)) (fp : List Addr), PE (X.blk s H scope (compEnvC scope cl C X.env) fp) kx tk)
    (he : ∀ (s : Shared) (H : Hp) (C : Addr) (cl : List (Str × Addr)) (fp : List Addr), PE (X.blk s H scope (compEnvC scope cl C X.env) fp) vx tv) (hs : ∀ x, foldedSetIterable iter X.env x = pure x := by intro _; rfl) :
    PE X (.DictComp kx vx [⟨tg, iter, ifs, 0⟩] scope pos) (tDcT wi g tt tk tv (own.map (·.2))) := by
  refine ⟨fun pins s σ H Q I h => ?_⟩
  rw [arm_eval_DictComp]
  have frees : ∀ y ∈ scope.names, y.2 = .free → ∃ c, X.env.cells.lookup y.1 = some c := fun y hy e => (ok.free y hy e).elim (fun k => I.ok.has _ (.inl k)) fun k => I.ok.has _ (.inr k)
  refine wpAny_comprehension_free (use := none) rfl hs (closure_ok frees) ok.kind (fun y hy e => by rw [ok.uniq y hy, e]) (thn (hi.run pins s σ H _ I h) fun xv sa ha => thn ha fun iv sb hb => ?_)
  obtain ⟨it, fp, tn, J, Hb, rfl, Ib, T, stb, fb, turn⟩ := hb
  refine wpAny_newObj_type (newEnv_comp ?_)
  -- the dict, new
  obtain ⟨D, hD⟩ : ∃ D, D = sb.heap.objs.size := ⟨_, rfl⟩
  obtain ⟨W, ⟨m0, w0⟩, turn⟩ := turn D (Ib.hok.fresh (Nat.le_of_eq hD.symm))
  obtain ⟨sc, hsc⟩ : ∃ sc : Shared, sc = { sb with heap := sb.heap.push { cls := .type "dict", data := .dict #[] } } := ⟨_, rfl⟩
  have hsch : sc.heap = sb.heap.push { cls := .type "dict", data := .dict #[] } := by rw [hsc]
  have Ic : Inv X pins σ (upd Hb D (.dT [])) sc := by
    rw [hsc]
    refine Ib.laid (t' := sb.toks) (fun b o e => Heap.get?_push_of_some _ e) (Nat.le_of_eq hD.symm) ?_
    rw [hD]
    exact dt_empty sb.heap Ib.big
  have fc : ∀ b ∈ fp, FpOk X pins (upd Hb D (.dT [])) b ∧ b < sc.heap.objs.size := fun b hb => by
    obtain ⟨o, e, _⟩ := T.obj _ _ stb b hb
    have hlt := Heap.lt_size e
    exact ⟨⟨(upd_ne (by rw [hD]; exact Nat.ne_of_lt hlt)).trans (fb b hb).1, (fb b hb).2⟩, by rw [hsch, Heap.size_push]; exact Nat.lt_succ_of_lt hlt⟩
  have stc : tn 0 sc.heap := T.keep _ _ _ stb fun b _ o e => by rw [hsch]; exact Heap.get?_push_of_some _ e
  have Id := block_start Ic ok hN fc
  obtain ⟨ce, hce⟩ : ∃ ce, ce = compEnvC scope (cellsFrom (sc.heap.objs.size + 1) scope.names (cloFrom X.env.cells scope.names [])) sc.heap.objs.size X.env := ⟨_, rfl⟩
  have pg := hg sc (upd Hb D (.dT [])) sc.heap.objs.size (cellsFrom (sc.heap.objs.size + 1) scope.names (cloFrom X.env.cells scope.names [])) fp
  have pt := ht sc (upd Hb D (.dT [])) sc.heap.objs.size (cellsFrom (sc.heap.objs.size + 1) scope.names (cloFrom X.env.cells scope.names [])) fp
  have pk := hk sc (upd Hb D (.dT [])) sc.heap.objs.size (cellsFrom (sc.heap.objs.size + 1) scope.names (cloFrom X.env.cells scope.names [])) fp
  have pe := he sc (upd Hb D (.dT [])) sc.heap.objs.size (cellsFrom (sc.heap.objs.size + 1) scope.names (cloFrom X.env.cells scope.names [])) fp
  rw [← hsc, ← hD]
  obtain ⟨sd, hsd⟩ : ∃ sd : Shared, sd = { sc with heap := pushCells (sc.heap.push { cls := .type "dict", data := .dict #[] }) scope.names } := ⟨_, rfl⟩
  show codeAny _ _ (.compStart (.DictComp kx vx [⟨tg, iter, ifs, 0⟩] scope pos) 0 (.ref it) (.ref D) (compEnvC scope (cellsFrom (sc.heap.objs.size + 1) scope.names (cloFrom X.env.cells scope.names [])) sc.heap.objs.size X.env)) (compPost (model X.prog X.w) X.A X.xe none _ (.ref D) sc.heap.objs.size) { sc with heap := pushCells (sc.heap.push { cls := .type "dict", data := .dict #[] }) scope.names }
  rw [← hce] at pg pt pk pe Id ⊢
  rw [← hsd] at Id ⊢
  have cL : ce.locals = sc.heap.objs.size := by rw [hce]; rfl
  obtain ⟨Hc, hHc⟩ : ∃ Hc, Hc = upd Hb D (.dT []) := ⟨_, rfl⟩
  rw [← hHc] at Ic Id pg pt pk pe w0 fc
  have nfp : ∀ b ∈ fp, Hc b = none := fun b hb => (fc b hb).1.1
  have std : tn 0 sd.heap := T.keep _ _ _ stc fun b _ o e => by rw [hsd]; exact pushCells_keeps _ _ _ _ (Heap.get?_push_of_some _ e)
  have stat : ∀ {σ' : L2.St} {H' : Hp} {s' : Shared}, Inv (X.blk sc Hc scope ce fp) [] σ' H' s' → (∀ b ∈ fp, H' b = none) → ∀ b ∈ fp, FpOk (X.blk sc Hc scope ce fp) [] H' b := fun I' hn b hb =>
    ⟨hn b hb, (I'.ok.exf b hb).1, I'.ok.exfs b hb, .inl hb, fun x c e => (I'.ok.exf b hb).2 x c e, fun p hp => absurd (show p ∈ ([] : List (Addr × Obj)) ++ [] from hp) (by simp)⟩
  have loop : codeAny (model X.prog X.w) X.A (.compLoop (.DictComp kx vx [⟨tg, iter, ifs, 0⟩] scope pos) 0 (.ref it) (.ref D) ce) (compPost (model X.prog X.w) X.A X.xe none (EP X pins σ Q) (.ref D) sc.heap.objs.size) sd := by
    refine compLoop_anyD (fun n s' => ∃ i H', Inv (X.blk sc Hc scope ce fp) [] (wipe σ (own.map (·.2))) H' s' ∧ tn i s'.heap ∧ (∀ b ∈ fp, H' b = none) ∧ W i n H') ?_ m0 ⟨0, Hc, Id, std, nfp, w0⟩
    rintro n se ⟨i, He, Ie, ste, ne, we⟩
    rcases turn i n He we with ⟨stop, fin⟩ | ⟨go, Nx, hNx, step⟩
    · refine thnF (T.done (X.blk sc Hc scope ce fp) rfl rfl rfl hc i [] se _ He (fun _ _ => False) Ie (stat Ie ne) ste stop) fun r sf ⟨hr, If⟩ => ?_
      subst hr
      have Ig : Inv X pins σ He sf := Ic.call' (ch := fp) If.os If.base If.hok If.bare fun b hb => ⟨(fc b hb).1.2.2.2.1, (fc b hb).1.2.1, (fc b hb).1.2.2.2.2.1, (fc b hb).1.2.2.2.2.2⟩
      have nC : He sc.heap.objs.size = none := by
        have z : He ce.locals = none := If.free
        rw [cL] at z
        exact z
      obtain ⟨m, hn, _⟩ := If.loc
      have hn : sf.heap.Ns ce.locals m := hn
      rw [cL] at hn
      obtain ⟨g0, g1, g2, g3, g4, g5⟩ := Ic.fpOk (H' := He) (Nat.le_refl _) nC
      exact ⟨m, hn, fun h'' same => ⟨.ref D, He, Ig.turned (t' := sf.toks) (fun b o hb e => (same.2 b hb).trans e) g0 g1 g3 g4 g5, rfl, fin⟩⟩
    · refine thnF (T.item (X.blk sc Hc scope ce fp) rfl rfl rfl hc i [] se _ He (fun _ _ => False) Ie (stat Ie ne) ste go) fun r sf ⟨u, hr, h6⟩ => ?_
      subst hr
      refine thnF h6 fun _ sg ⟨x, Hg, Ig, rg, yg, stg, ng⟩ => ?_
      have Ip := Ig.pinned (stat Ig ng) (T.obj _ _ stg)
      refine thnF (pg.run _ sg _ Hg x u _ Ip rg (step x Hg yg)) fun _ sh ⟨σh, Hh, Ih, hw, qh⟩ => ?_
      refine thnF (pt.run _ sh σh Hh _ Ih qh) fun b si ⟨Hi, Ii, qi⟩ => ?_
      have next : ∀ {s' : Shared} {H' : Hp}, Inv (X.blk sc Hc scope ce fp) ([] ++ pinsAt fp sg.heap) σh H' s' → Nx H' → ∃ m, m < n ∧ ∃ i H', Inv (X.blk sc Hc scope ce fp) [] (wipe σ (own.map (·.2))) H' s' ∧ tn i s'.heap ∧ (∀ b ∈ fp, H' b = none) ∧ W i m H' := fun {s' H'} I' nx => by
        obtain ⟨m', hm, w'⟩ := hNx H' nx
        have kept : ∀ b ∈ fp, ∀ o, sg.heap.get? b = some o → s'.heap.get? b = some o ∧ H' b = none := fun b hb o e => by
          have z := I'.pin (b, o) (List.mem_append_right _ (List.mem_append_right _ (mem_pinsAt hb e)))
          exact ⟨z.1, z.2.1⟩
        refine ⟨m', hm, i + 1, H', (I'.unpinned (pins := [])).weak (by rw [← hw, wipe_length]) (fun j v e => ?_), T.keep _ _ _ stg fun b hb o e => (kept b hb o e).1, fun b hb => ?_, w'⟩
        · rw [← hw] at e
          exact (wipe_some e).1
        · obtain ⟨o, e, _⟩ := T.obj _ _ stg b hb
          exact (kept b hb o e).2
      cases b with
      | false =>
        simp only [Bool.false_eq_true, if_false] at qi ⊢
        exact next Ii qi
      | true =>
        simp only [if_true] at qi ⊢
        refine thnF (pk.run _ si σh Hi _ Ii qi) fun z sj ⟨yk, Hj, Ij, rj, qj⟩ => ?_
        refine thnF (pe.run _ sj σh Hj _ Ij qj) fun z2 sk ⟨yv, Hk, Ik, rk, kvs, k, c, ek, hck, hDk, hzk, nx⟩ => ?_
        subst ek
        obtain rfl : z = Value.ref c := rj
        exact dt_put (X := X.blk sc Hc scope ce fp) hu Ik hDk hzk hck rk fun sl Il => next Il nx
  exact codeAny_compStart_dict loop (T.self X.A 0 _ _ _ std loop)
end
end So

namespace So
open PySem PySem.Spec PyProof.Rows L2
/-! for k, v in d.items(), the keys tuples of ints and texts -/
def ItiT (d : Addr) (o : Obj) (kvs : List (List Key × V)) : It :=
  ⟨fun i H => H d = some (.frz o (.dT kvs)) ∧ i < kvs.length, fun i H x H' => ∃ (T : Addr) (k : List Key) (v : V) (q : Addr), kvs[i]? = some (k, v) ∧ H q = some (.tup (k.map kV)) ∧ x = .ref T ∧ H T = none ∧ H' = L2.upd H T (.tup [.ref q, v]), fun i H => H d = some (.frz o (.dT kvs)) ∧ kvs.length ≤ i⟩
section
variable {X : Cx} {pins : List (Addr × Obj)} {σ : L2.St} {H : Hp} {s : Shared} {d : Addr} {o : Obj}
theorem frz_ents {kvs : List (List Key × V)} (I : Inv X pins σ H s) (h : H d = some (.frz o (.dT kvs))) : ∃ (es : Array DictEntry) (ep : Nat), (d == sysModules) = false ∧ DT.Raw s.heap d es ep ∧ o.data = .dict es ep ∧ es.size = kvs.length ∧
    ∀ (i : Nat) (k : List Key) (v : V), kvs[i]? = some (k, v) → ∃ (en : DictEntry) (q : Addr), es[i]? = some en ∧ en.key = .ref q ∧ H q = some (.tup (k.map kV)) ∧ L2.RelV v en.val := by
  obtain ⟨hd, z, hs, xs, pr, o', es, ep, ho, hx, hdt, he, _⟩ := I.hok d _ h
  rw [hd] at ho
  cases ho
  refine ⟨es, ep, hs, ⟨_, hd, hx, hdt⟩, hdt, ?_, fun i k v e => ?_⟩
  · rw [size_of_entries he, ← Paired.length pr]
  · obtain ⟨b, hb, e1, e2, e3⟩ := paired_get pr e
    have q := entry_at he i
    rw [hb] at q
    exact ⟨_, b.2.1, q, rfl, e2, e3⟩
end
section
variable {P : Program} {w : World} {K : PySem.W.Frag} {d : Addr} {o : Obj} {es : Array DictEntry} {ep : Nat}
theorem turn_itemsT {kvs : List (List Key × V)} {elts : List Expr} {kk : Nat} {tpos : Pos} (it : Addr) (hod : o.data = .dict es ep) :
    Turn P w K (.Tuple elts kk tpos) (ItiT d o kvs) [it] it (fun i h => ∃ ok ov, IsItemIter h it d i kvs.length ep ok ov) where
  mem := List.mem_singleton.mpr rfl
  obj := fun i h ⟨ok, ov, e⟩ b hb => by
    obtain rfl := List.mem_singleton.mp hb
    exact ⟨_, e, fun v z => nomatch z⟩
  keep := fun i h h' ⟨ok, ov, e⟩ k => ⟨ok, ov, k it (List.mem_singleton.mpr rfl) _ e⟩
  item := by
    rintro X rfl rfl rfl hc i pins s σ H E I hf ⟨ok, ov, he⟩ ⟨hd, hi⟩
    obtain ⟨es', ep', hs, raw, hdt, hsz, ent⟩ := frz_ents I hd
    obtain ⟨rfl, rfl⟩ := dict_ep hod hdt
    obtain ⟨⟨k, v⟩, hkv⟩ : ∃ p, kvs[i]? = some p := ⟨kvs[i], List.getElem?_eq_getElem hi⟩
    obtain ⟨en, q, hen, hkey, hq, rv⟩ := ent i k v hkv
    have hi' : i < es'.size := by rw [hsz]; exact hi
    obtain rfl : es'[i] = en := by
      rw [Array.getElem?_eq_getElem hi'] at hen
      exact Option.some.inj hen
    rw [← hsz] at he
    have hlt : it < s.heap.objs.size := Heap.lt_size he
    refine DT.nextI he raw hi' fun h' ho hT hz hk => ⟨_, rfl, wpAny_letOwnedTupleGo_items (s := { s with heap := h' }) ho fun h'' he' sb => ?_⟩
    have hT2 := (sb.2 _ (Nat.ne_of_gt hlt)).trans hT
    have new : ObjOk X.prog X.w (L2.upd H s.heap.objs.size (.tup [.ref q, v])) h'' s.heap.objs.size (.tup [.ref q, v]) :=
      ⟨by show 2 ≤ sizeLine; decide, [es'[i].key, es'[i].val], .cons hkey (.cons rv .nil), ⟨_, hT2, rfl, _, rfl⟩⟩
    refine ⟨.ref s.heap.objs.size, _, I.turnedNew (t' := s.toks) (ch := [it]) (fun b ob hb e => (sb.2 b (fun z => hb (List.mem_singleton.mpr z))).trans (hk b ob (fun z => hb (List.mem_singleton.mpr z)) e)) hf (Nat.le_refl _) new, rfl, ⟨_, k, v, q, hkv, hq, rfl, I.hok.fresh (Nat.le_refl _), rfl⟩, ⟨es'[i].key, es'[i].val, ?_⟩, fun b hb => ?_⟩
    · rw [← hsz]
      exact he'
    · obtain rfl := List.mem_singleton.mp hb
      exact (upd_ne (Nat.ne_of_lt hlt)).trans (hf b (List.mem_singleton.mpr rfl)).1
  done := by
    rintro X rfl rfl rfl hc i pins s σ H E I hf ⟨ok, ov, he⟩ ⟨hd, hi⟩
    obtain ⟨f0, f1, f2, f3, f4, f5⟩ := hf it (List.mem_singleton.mpr rfl)
    obtain ⟨es', ep', hs, raw, hdt, hsz, ent⟩ := frz_ents I hd
    obtain ⟨rfl, rfl⟩ := dict_ep hod hdt
    rw [← hsz] at he
    exact DT.endI (I.ok.hd hc) he raw (by rw [hsz]; exact hi) fun h' eb => ⟨rfl, I.turned (t' := s.toks) (fun b ob hb e => eb b ob hb e) f0 f1 f3 f4 f5⟩
  self := fun A i s Q E ⟨_, _, e⟩ h => PySem.W.kcp_self e h
end
def iItemsT (td : TE) : TI := fun σ H R => td σ H fun x H1 => ∃ d o kvs, x = .ref d ∧ H1 d = some (.frz o (.dT kvs)) ∧ R (ItiT d o kvs) H1
section
variable {X : Cx} {e : Expr} {td : TE} {apos cpos : Pos}
theorem pi_itemsT {elts : List Expr} {kk : Nat} {tpos : Pos} (he : PE X e td) (hbase : attributeBase e "items" X.env (eval e X.env) = eval e X.env := by rfl) (hline : (apos.endLine == cpos.line) = true := by rfl) :
    PI X (.Tuple elts kk tpos) (.Call (.Attribute e "items" apos) [] [] cpos) (iItemsT td) := by
  refine ⟨fun pins s σ H R I h => ?_⟩
  refine wpAny_Call_method (T := "dict") (id := "dict.items") hbase rfl hline F.plainAttrs_dict F.slot_dict_items F.type_dict_items (thn (he.run pins s σ H _ I h) fun u s1 ⟨x, H1, I1, rx, d, o, kvs, ex, hd, q⟩ => ?_)
  subst ex
  obtain rfl : u = Value.ref d := rx
  obtain ⟨es, ep, hs, raw, hdt, hsz, ent⟩ := frz_ents I1 hd
  refine ⟨raw.typeIs, fun b hb => ?_, ?_⟩
  · cases hb
    obtain ⟨ob, g1, g2, _⟩ := raw
    exact ⟨ob, g1, g2.2.1⟩
  have I2 : Inv X pins σ H1 { s1 with heap := s1.heap.push { cls := .type "dict_items", data := .fields #[.ref d] } } := I1.kept (t' := s1.toks) fun b ob q => Heap.get?_push_of_some _ q
  have fin : wpAny (model X.prog X.w) X.A (pyIter (.ref s1.heap.objs.size)) (PIE X pins σ (.Tuple elts kk tpos) R) X.xe { s1 with heap := s1.heap.push { cls := .type "dict_items", data := .fields #[.ref d] } } := by
    refine DT.iterI (d := d) ⟨_, Heap.get?_push_size _ rfl, rfl, rfl⟩ (raw.push _) (pi_one (tk := s1.toks) I2 _ (turn_itemsT _ hdt) ⟨.none, .none, ?_⟩ q)
    rw [← hsz]
    exact Heap.get?_push_size _ rfl
  exact method_meetsIn F.slot_dict_items F.entry_dict_items rfl (PySem.evalArgs_none ⟨rfl, raw.typeIs, F.args_dict_items_1 _, _, DT.meetsItems (es := es) (ep := ep) hs, raw, fin⟩)
end
theorem walk_itemsT {d : Addr} {o : Obj} {kvs : List (List Key × V)} : Walk (ItiT d o kvs) kvs.length (fun H => H d = some (.frz o (.dT kvs)))
    (fun i H x H' => ∃ (T : Addr) (k : List Key) (v : V) (q : Addr), kvs[i]? = some (k, v) ∧ H q = some (.tup (k.map kV)) ∧ x = .ref T ∧ H T = none ∧ H' = L2.upd H T (.tup [.ref q, v])) :=
  ⟨fun _ _ hi q => ⟨q, hi⟩, fun _ q => ⟨q, Nat.le_refl _⟩, fun _ _ _ _ _ _ y => y⟩
end So

namespace So
open PySem PySem.Spec PyProof.Rows L2
/-! whether a dict with tuple keys is empty -/
section
variable {prog : Program} {w : World} {κ : Type} [DecidableEq κ] {knd : HeapKind prog w κ} {A : Around} {E : Value → Shared → Prop} {s : Shared}
theorem truth_dictH {d : Addr} {xs : List (κ × Addr × Value)} {Q : Bool → Shared → Prop} (hd : (d == sysModules) = false) (hm : s.heap.DictOfH knd d xs) (fit : (xs.length : Int) < 2 ^ 63) (h : Q (!xs.isEmpty) { s with toks := s.toks + 1 + 1 }) : wpAny (model prog w) A (truthy (.ref d)) Q E s := by
  have len : wpAny (model prog w) A (runValue (.builtin "len" ⟨[.ref d], []⟩)) (fun r s' => r = .int xs.length (s.toks + 1) ∧ Q (!xs.isEmpty) s') E s := by
    refine wpAny_runValue (codeAny_builtin entry_len ?_)
    rw [Around.under_plainId plain_len _]
    exact wpAny_mono (wpAny_len_body_dictH (Q := fun r s' => r = .int xs.length (s.toks + 1) ∧ Q (!xs.isEmpty) s') hd hm fit ⟨rfl, h⟩) (fun fin s' ⟨r, e, hq⟩ => by subst e; exact hq) fun _ _ e => e
  have back : ((xs.length : Int) != 0) = !xs.isEmpty := by
    cases xs with
    | nil => rfl
    | cons x r =>
      simp
      omega
  unfold truthy
  refine wpAny_bind (wpAny_callSpecial?_none (name := Str.ofString "__bool__") hm.typeIs noBool_dict ?_)
  refine wpAny_bind (wpAny_specialOf (name := Str.ofString "__len__") hm.typeIs PySem.F.slot_dict_len.lookup ?_)
  refine wpAny_bind (wpAny_mono len (fun r s' ⟨e, hq⟩ => ?_) fun _ _ e => e)
  subst e
  exact wpAny_pure (back ▸ hq)
end
section
variable {X : Cx} {a : Expr} {ta : TE}
theorem pt_dT (ha : PE X a ta) (he : ∀ whole, isTrue a X.env whole = (do let v ← whole; standAt a.pos; holding [v] (truthy v)) := by intro _; rfl) :
    PT X a (fun σ H Q => ta σ H fun x H' => ∃ (p : Addr) (kvs : List (List Key × V)), x = .ref p ∧ H' p = some (.dT kvs) ∧ Q (!kvs.isEmpty) H') := by
  refine ⟨fun pins s σ H Q I h => ?_⟩
  refine isTrue_plain (thn (ha.run pins s σ H _ I h) fun v s1 ⟨x, H1, I1, r1, p, kvs, ex, hp, q1⟩ => ?_) (he _)
  subst ex
  obtain rfl : v = Value.ref p := r1
  obtain ⟨z, hd, xs, rel, dd⟩ := dt_of I1.hok hp
  have hs : sizeLine = 16777216 := sizeLine_eq
  have hl := Paired.length rel
  refine truth_dictH hd dd (by omega) ⟨H1, I1.tok _, ?_⟩
  rw [show xs.isEmpty = kvs.isEmpty by cases rel <;> rfl]
  exact q1
end
end So

namespace K30
open PySem PySem.Spec PyProof.Rows L2 So
abbrev sIsTurn : Stmt := topS 19
abbrev sTWord : Stmt := topS 20
abbrev sHInit : Stmt := inClass (topS 21) 0
abbrev sHStr : Stmt := inClass (topS 21) 17
theorem scIsTurn : FnScope ["lives", "life", "turn"] ["lives", "life", "turn"] (defScope sIsTurn) := ⟨rfl, rfl, rfl, by decide +kernel, rfl, by decide +kernel, by decide +kernel⟩
theorem scTWord : FnScope ["turn"] ["turn"] (defScope sTWord) := ⟨rfl, rfl, rfl, by decide +kernel, rfl, by decide +kernel, by decide +kernel⟩
theorem scHInit : FnScope ["self", "lives", "turns", "life"] ["self", "lives", "turns"] (defScope sHInit) := ⟨rfl, rfl, rfl, by decide +kernel, rfl, by decide +kernel, by decide +kernel⟩
theorem scHStr : FnScope ["self", "tool", "beginning", "turn"] ["self"] (defScope sHStr) := ⟨rfl, rfl, rfl, by decide +kernel, rfl, by decide +kernel, by decide +kernel⟩
/-- a turn of a life of these lives -/
def TurnOk (L : List (Str × List Int)) (e : Str × Int) (v : V) : Prop := v = .non ∨ ∃ (i : Int) (ns : List Int), v = .int i ∧ gMom (.int i) = true ∧ (e.1, ns) ∈ L ∧ e.2 ∈ ns ∧ e.2 ≤ i ∧ ∀ n ∈ ns, n ≤ i → n ≤ e.2
/-- the key of a life -/
def keyOf (e : Str × Int) : List Key := [.inr e.1, .inl e.2]
theorem LfAt.key {H : Hp} {j : Addr} {e : Str × Int} (h : LfAt H j e) : H j = some (.tup ((keyOf e).map kV)) := h
theorem keyOf_inj {a b : Str × Int} (h : keyOf a = keyOf b) : a = b := by
  obtain ⟨a1, a2⟩ := a
  obtain ⟨b1, b2⟩ := b
  unfold keyOf at h
  injection h with h1 h2
  injection h2 with h3 _
  cases h1
  cases h3
  rfl
theorem mom_log {m : Int} (h : 0 ≤ m ∧ m ≤ 1000000000000000000000000000000) : m.natAbs.log2 < 1920 := by
  have : m.natAbs < 2 ^ 100 := by omega
  exact Nat.lt_of_lt_of_le (PySem.Flt.log2_lt_of (by decide) this) (by decide)
theorem txt_len {i : Int} (h : i.natAbs.log2 < 1920) : (Str.ofString (toString i)).length ≤ 1921 := by
  rw [PyProof.Rows.ofString_length]
  exact int_text_length_le (k := 1920) (by decide) h
theorem app_len (a b : Str) : (a ++ b).length = a.length + b.length := PyProof.Rows.len_cat a b
theorem aln_small : ∀ c ∈ (letters ++ digits).cps.toList, c < 128 := by decide +kernel
theorem name_small {z : Str} (h : isName z = true) : ∀ c ∈ z.cps.toList, c < 128 := by
  unfold isName at h
  simp only [Bool.and_eq_true] at h
  intro c hc
  exact aln_small c (of_decide_eq_true (List.all_eq_true.mp h.2 c hc))
theorem name_len {z : Str} (h : isName z = true) : z.length ≤ 8 := by
  unfold isName at h
  simp only [Bool.and_eq_true] at h
  exact of_decide_eq_true h.1.1.1.2
theorem name_strOk {z : Str} (h : isName z = true) : PyData.strOk z = true := by
  unfold PyData.strOk
  rw [← Array.all_toList]
  exact List.all_eq_true.mpr fun c hc => decide_eq_true (Nat.lt_trans (name_small h c hc) (by decide))
/-- the word of a turn -/
def wd : V → Str
  | .int i => Str.ofString (toString i)
  | _ => "none"
def VOk (v : V) : Prop := v = .non ∨ ∃ i, v = .int i ∧ 0 ≤ i ∧ i ≤ 1000000000000000000000000000000
/-- the text of a life and its turn -/
def entW (e : (Str × Int) × V) : Str := Str.empty ++ e.1.1 ++ (" " : Str) ++ Str.ofString (toString e.1.2) ++ (" " : Str) ++ wd e.2
def txtH (es : List ((Str × Int) × V)) : Str := if es.isEmpty then "nothing" else Txt.join ", " (es.map entW)
theorem wd_len {v : V} (h : VOk v) : (wd v).length ≤ 1921 := by
  rcases h with rfl | ⟨i, rfl, h1, h2⟩
  · decide +kernel
  · exact txt_len (mom_log ⟨h1, h2⟩)
section
variable {P : Program} {w : World} {K : PySem.W.Frag} {mg : Str → Option Value} {base : Heap}
def spIsTurn (C : Addr) : Sp := fun vs H Q _ => ∃ (a j : Addr) (e : Str × Int) (v : V) (L : List (Str × List Int)), vs = [.ref a, .ref j, v] ∧ LsAt C H a L ∧ LOk L ∧ LfAt H j e ∧ TurnOk L e v ∧ ∀ H', Same H H' → Q (.bl true) H'
theorem ok_isTurn {C f fM fL : Addr} {fd fdM fdL : FuncData} (F : Fun K "is_turn" "is_turn" sIsTurn f fd) (T : Lvs K mg C) (FM : Fun K "is_moment" "is_moment" sMoment fM fdM) (bM : Binds K fdM ["value"] []) (gM : mg "is_moment" = some (.ref fM))
    (GM : FnOk P w K mg base CX0 2 fM fdM ["value"] spMoment) (mL : Meth K C "life_of" fL) (bL : Binds K fdL ["self", "tool", "moment"] []) (GL : FnOk P w K mg base CX0 4 fL fdL ["self", "tool", "moment"] (spLife C)) :
    FnOk P w K mg base CX0 5 f fd ["lives", "life", "turn"] (spIsTurn C) := by
  refine F.ok scIsTurn (fun vs H Q E h => ?_) (fun cdv A outer s H vs Q E hr h => ?_)
  · obtain ⟨_, _, _, _, _, rfl, _⟩ := h
    rfl
  · obtain ⟨a, j, ⟨z, b⟩, v, L, rfl, hL, hO, hj, ht, q⟩ := h
    have hr2 : Room 2 _ := hr.mono (by decide)
    refine ⟨_, pss_one (ps_ret (pe_or (pe_cmpR op_isN (pv 2) pe_non (nomark _)) (pe_one (pe_and (pe_call GM hr2 (by rfl) gM FM.kp bM .nil pass0 (pa_cons (pv 2) pa_nil))
      (pe_one (pe_cmpR (op_eqD hr.units) (pe_meth (pv 0) T.cl mL GL hr bL .nil pass0 (pa_cons (pe_ix ix_tup (pv 1) pe_int (fun _ _ => rfl)) (pa_cons (pv 2) pa_nil))) (pv 1) (nomark _))))))), ?_⟩
    rcases ht with rfl | ⟨i, ns, rfl, hg, hm, hb1, hb2, hb3⟩
    · exact ⟨_, rfl, rfl, _, rfl, iteT (q H (Same.refl H))⟩
    · obtain ⟨dx, d, kvs, h1, h2, h3⟩ := id hL
      refine ⟨_, rfl, rfl, _, rfl, iteF ?_⟩
      refine ⟨_, rfl, _, "int", rfl, .int i, _, rfl, ?_⟩
      rw [hg]
      refine iteT ?_
      refine ⟨_, rfl, a, dx, _, rfl, h1, rfl, _, rfl, j, _, 0, _, rfl, rfl, SqT.of hj, rfl, _, rfl, a, z, i, b, ns, L, rfl, hL, hO, hm, hg, hb1, hb2, hb3, fun t H1 s1 ht => ?_⟩
      have hsh : SeqAt.shaped (.tuple [.str z, .int b]) = true := by simp [SeqAt.shaped, PyData.canLay0, PyData.canLayAll0, PyData.depth, PyData.depthAll, name_strOk (hO.ns z ns hm).1]
      refine ⟨_, rfl, .tuple [.str z, .int b], .tuple [.str z, .int b], .tup (SqT.of ht) (.cons (.str _) (.cons (.int _) .nil)), .tup (SqT.of (s1 _ _ hj)) (.cons (.str _) (.cons (.int _) .nil)), hsh, hsh, ?_⟩
      rw [show PyData.eqv (.tuple [.str z, .int b]) (.tuple [.str z, .int b]) = true from by simp [PyData.eqv, PyData.eqvAll]]
      exact q H1 s1
def spTWord : Sp := fun vs H Q _ => ∃ v : V, vs = [v] ∧ VOk v ∧ Q (.str (wd v)) H
theorem ok_tword {f : Addr} {fd : FuncData} (F : Fun K "turn_word" "turn_word" sTWord f fd) (W : Words K mg) : FnOk P w K mg base CX0 1 f fd ["turn"] spTWord := by
  refine F.ok scTWord (fun vs H Q E h => ?_) (fun cdv A outer s H vs Q E hr h => ?_)
  · obtain ⟨_, rfl, _⟩ := h
    rfl
  · obtain ⟨v, rfl, hv, q⟩ := h
    refine ⟨_, pss_one (ps_ret (pe_ifExp (pt_cmpR op_isN (pv 0) pe_non (nomark _)) pe_str (pe_callTy call_str_int (by rfl) W.str (by decide +kernel) (pa_cons (pv 0) pa_nil)))), ?_⟩
    rcases hv with rfl | ⟨i, rfl, h1, h2⟩
    · exact ⟨_, rfl, rfl, _, rfl, iteT q⟩
    · exact ⟨_, rfl, rfl, _, rfl, iteF ⟨_, rfl, i, rfl, mom_log ⟨h1, h2⟩, q⟩⟩
end
end K30

namespace K30
open PySem PySem.Spec PyProof.Rows L2 So
theorem dcT_it {J : It} {n : Nat} {G : Hp → Prop} {Y : Nat → Hp → V → Hp → Prop} (w : Walk J n G Y) {g : TG} {tt : TT} {tk tv : TE} {vs : List Nat} {σ : L2.St} {H1 : Hp} {D : Addr} {Qd : Hp → Prop} (Pv : Nat → Hp → Prop) (h0 : Pv 0 (upd H1 D (.dT []))) (hG : ∀ i H, i ≤ n → Pv i H → G H)
    (hs : ∀ i x H H', i < n → Pv i H → Y i H x H' → g x (wipe σ vs) H' fun σ2 H2 => wipe σ2 vs = wipe σ vs ∧ tt σ2 H2 fun b H3 =>
      if b = true then tk σ2 H3 fun y H4 => tv σ2 H4 fun z H5 => ∃ kvs k c, y = .ref c ∧ H5 c = some (.tup (k.map kV)) ∧ H5 D = some (.dT kvs) ∧ kvs.length < sizeLine ∧ Pv (i + 1) (upd H5 D (.dT (putK kvs k z))) else Pv (i + 1) H3) (hd : ∀ H, Pv n H → Qd H) :
    ∃ W : Nat → Nat → Hp → Prop, (∃ m, W 0 m (upd H1 D (.dT []))) ∧ ∀ i m H, W i m H →
      (J.stop i H ∧ Qd H) ∨ (J.go i H ∧ ∃ Nx : Hp → Prop, (∀ H', Nx H' → ∃ m', m' < m ∧ W (i + 1) m' H') ∧ ∀ x H', J.yld i H x H' → g x (wipe σ vs) H' fun σ2 H2 => wipe σ2 vs = wipe σ vs ∧ tt σ2 H2 fun b H3 =>
        if b = true then tk σ2 H3 fun y H4 => tv σ2 H4 fun z H5 => ∃ kvs k c, y = .ref c ∧ H5 c = some (.tup (k.map kV)) ∧ H5 D = some (.dT kvs) ∧ kvs.length < sizeLine ∧ Nx (upd H5 D (.dT (putK kvs k z))) else Nx H3) := by
  refine ⟨fun i m H => m = n - i ∧ i ≤ n ∧ Pv i H, ⟨n, by simp, Nat.zero_le _, h0⟩, ?_⟩
  rintro i m H ⟨rfl, hi, p⟩
  have q := hG i H hi p
  by_cases hlt : i < n
  · exact .inr ⟨w.goes i H hlt q, Pv (i + 1), fun H' p' => ⟨n - (i + 1), by omega, rfl, hlt, p'⟩, fun x H' y => hs i x H H' hlt p (w.yields i H x H' hlt q y)⟩
  · have e : i = n := by omega
    subst e
    exact .inl ⟨w.stops H q, hd H p⟩
theorem lvs_nodup {L : List (Str × List Int)} (nd : (L.map (·.1)).Nodup) (hp : ∀ z ns, (z, ns) ∈ L → ns.Nodup) : (lvs L).Nodup := by
  induction L with
  | nil => exact List.nodup_nil
  | cons p r ih =>
    obtain ⟨z, ns⟩ := p
    rw [List.map_cons, List.nodup_cons] at nd
    show ((ns.map fun n => (z, n)) ++ lvs r).Nodup
    rw [List.nodup_append]
    refine ⟨?_, ih nd.2 fun z' ns' h => hp z' ns' (List.mem_cons_of_mem _ h), fun a ha b hb e => ?_⟩
    · exact List.Pairwise.map _ (fun a b h e => h (Prod.mk.inj e).2) (hp z ns List.mem_cons_self)
    · subst e
      obtain ⟨n, _, rfl⟩ := List.mem_map.mp ha
      obtain ⟨ns', h1, _⟩ := lvs_mem.mp hb
      exact nd.1 (List.mem_map_of_mem (f := (·.1)) h1)
theorem LOk.lnd {L : List (Str × List Int)} (h : LOk L) : (lvs L).Nodup := by
  refine lvs_nodup h.nd fun z ns hm => ?_
  obtain ⟨_, _, l, rfl, _, hb, hp⟩ := h.ns z ns hm
  rw [List.nodup_cons]
  refine ⟨fun h0 => ?_, hp.imp fun h e => absurd h (by omega)⟩
  have : (1 : Int) ≤ 0 ∧ (0 : Int) ≤ 1000000000000000000000000000000 := of_decide_eq_true (hb 0 h0)
  omega
theorem sum_small {m : Nat} : ∀ {l : List Nat}, (∀ x ∈ l, x ≤ m) → l.sum ≤ l.length * m
  | [], _ => by simp
  | x :: r, h => by
    have h1 := sum_small (l := r) fun y hy => h y (List.mem_cons_of_mem _ hy)
    have h2 := h x List.mem_cons_self
    rw [List.sum_cons, List.length_cons, Nat.succ_mul]
    omega
/-- what the top says of the class History, at C -/
structure Hsts (K : PySem.W.Frag) (mg : Str → Option Value) (C : Addr) : Prop where
  cl : Cls K C
  nL : NoAttr K C "_lives"
  nT : NoAttr K C "_turns"
  mgC : mg "History" = some (.ref C)
/-- a history at x, of the lives at lv: its turns es -/
def HsAt (C : Addr) (H : Hp) (x : Addr) (es : List ((Str × Int) × V)) : Prop := ∃ (dx d : Addr) (lv : V), H x = some (.ins C dx [("_lives", lv), ("_turns", .ref d)]) ∧ H d = some (.dT (es.map fun e => (keyOf e.1, e.2)))
theorem HsAt.same {C : Addr} {H H' : Hp} {x : Addr} {es : List ((Str × Int) × V)} (h : HsAt C H x es) (s : Same H H') : HsAt C H' x es := by
  obtain ⟨dx, d, lv, h1, h2⟩ := h
  exact ⟨dx, d, lv, s _ _ h1, s _ _ h2⟩
theorem LsAt.updT {C : Addr} {H : Hp} {a d : Addr} {L : List (Str × List Int)} {kvs : List (List Key × V)} {o : HO} (h : LsAt C H a L) (hd : H d = some (.dT kvs)) : LsAt C (upd H d o) a L := by
  obtain ⟨dx, b, kvb, h1, h2, h3⟩ := h
  refine ⟨dx, b, kvb, (upd_ne (ne_of h1 hd (fun z => nomatch z))).trans h1, (upd_ne (ne_of h2 hd (fun z => nomatch z))).trans h2, L2.Paired.mapP h3 fun kv p e => ?_⟩
  obtain ⟨e0, t, e1, e2⟩ := e
  exact ⟨e0, t, e1, (upd_ne (ne_of e2 hd (fun z => nomatch z))).trans e2⟩
theorem LsAt.offI {C C' dx' x : Addr} {H H' : Hp} {a : Addr} {L : List (Str × List Int)} (h : LsAt C H a L) (hx : H x = some (.ins C' dx' [])) (s : Off x H H') : LsAt C H' a L := by
  obtain ⟨dx, b, kvb, h1, h2, h3⟩ := h
  refine ⟨dx, b, kvb, s _ _ (ne_of h1 hx (fun z => by cases z)) h1, s _ _ (ne_of h2 hx (fun z => nomatch z)) h2, L2.Paired.mapP h3 fun kv p e => ?_⟩
  obtain ⟨e0, t, e1, e2⟩ := e
  exact ⟨e0, t, e1, s _ _ (ne_of e2 hx (fun z => nomatch z)) e2⟩
section
variable {P : Program} {w : World} {K : PySem.W.Frag} {mg : Str → Option Value} {base : Heap}
/-- History.__init__ of lives and of a dict that gives each life a turn -/
def spHInit (CL CH : Addr) : Sp := fun vs H Q _ => ∃ (x dx lv d : Addr) (L : List (Str × List Int)) (kvs : List (List Key × V)), vs = [.ref x, .ref lv, .ref d] ∧ H x = some (.ins CH dx []) ∧ LsAt CL H lv L ∧ LOk L ∧ H d = some (.dT kvs) ∧
  kvs.length = (lvs L).length ∧ (∀ kv ∈ kvs, ∃ e ∈ lvs L, kv.1 = keyOf e) ∧ (∀ e ∈ lvs L, ∃ v, valV kvs (keyOf e) = some v ∧ TurnOk L e v) ∧
  ∀ H', Off x H H' → HsAt CH H' x ((lvs L).map fun e => (e, (valV kvs (keyOf e)).getD .non)) → Q .non H'
theorem ok_hinit {CL CH f fT fLn fC fL : Addr} {fd fdT fdLn fdC fdL : FuncData} (F : Fun K "__init__" "History.__init__" sHInit f fd) (T : Lvs K mg CL) (TH : Hsts K mg CH) (W : Words K mg) (L : WordsL mg)
    (FT : Fun K "is_turn" "is_turn" sIsTurn fT fdT) (bT : Binds K fdT ["lives", "life", "turn"] []) (gT : mg "is_turn" = some (.ref fT)) (GT : FnOk P w K mg base CX0 5 fT fdT ["lives", "life", "turn"] (spIsTurn CL))
    (sN : PySem.W.findIn K (.ref CL) "__len__" = some (some (.ref fLn))) (iN : PySem.W.isFn K (.ref fLn) = true) (bN : Binds K fdLn ["self"] []) (GN : FnOk P w K mg base CX0 3 fLn fdLn ["self"] (spLen CL))
    (sC : PySem.W.findIn K (.ref CL) "__contains__" = some (some (.ref fC))) (iC : PySem.W.isFn K (.ref fC) = true) (bC : Binds K fdC ["self", "life"] []) (GC : FnOk P w K mg base CX0 2 fC fdC ["self", "life"] (spCont CL))
    (pL : Addr) (PL : PropOf K CL "listed" pL fL) (bL : Binds K fdL ["self"] []) (GL : FnOk P w K mg base CX0 1 fL fdL ["self"] (spListed CL)) :
    FnOk P w K mg base CX0 6 f fd ["self", "lives", "turns"] (spHInit CL CH) := by
  refine F.ok scHInit (fun vs H Q E h => ?_) (fun cdv A outer s H vs Q E hr h => ?_)
  · obtain ⟨_, _, _, _, _, _, rfl, _⟩ := h
    rfl
  · obtain ⟨x, dx, lv, d, L0, kvs, rfl, hx, hL, hO, hd, hlen, hin, hall, q⟩ := h
    have hr2 : Room 2 _ := hr.mono (by decide)
    have hr4 : Room 4 _ := hr.mono (by decide)
    refine ⟨_, pss_cons (ps_if (PW.pt (pw_or (pt_not (pt_val (pe_callB call_isi (by rfl) W.isi (by decide +kernel) (pa_cons (pv 2) (pa_cons (pe_bltn (v := .ty "dict") (by rfl) L.dict (by decide +kernel) rfl) pa_nil)))))
        (pw_or (pt_cmpR op_ne (pe_callB call_len_dT (by rfl) W.len PySem.boot_len (pa_cons (pv 2) pa_nil)) (pe_callB (call_lenO GN sN iN bN pass0 hr4) (by rfl) W.len PySem.boot_len (pa_cons (pv 1) pa_nil)) (nomark _))
          (pw_or1 (pt_not (pt_val (pe_callB (cr_all rfl) (by rfl) W.all (by decide +kernel) (pa_cons (pe_lock (pe_lc (own := [("life", 3)]) (g := gName 3) (tt := tYes) rfl scHInit.nd (pi_keys (pv 2)) (blkOk_by (N := ["self", "lives", "turns", "life"]) (sc := defScope sHInit) (by decide +kernel))
            (fun _ _ _ _ _ => pg_name (i := 3) scHInit.nd rfl (Or.inl rfl)) (fun _ _ _ _ _ => pts_nil) (fun _ _ _ _ _ => pe_cmpR (op_inO GC sC iC bC pass0 hr2) (pv 3) (pv 1) (by rfl)))) pa_nil)))))))) pss_dead pss_nil)
      (pss_cons (ps_for PassesOwn.never rfl (pi_tup (pe_prop (pv 1) T.cl PL GL hr2 bL .nil pass0 rfl)) (pg_name (i := 3) scHInit.nd rfl (Or.inl rfl))
        (pss_one (ps_if (pt_not (pt_val (pe_call GT hr (by rfl) gT FT.kp bT .nil pass0 (pa_cons (pv 1) (pa_cons (pv 3) (pa_cons (pe_dget (hu_of hr) (pv 2) (pv 3) (fun _ _ => rfl)) pa_nil)))))) pss_dead pss_nil)))
      (pss_cons (ps_fld (pv 0) (pv 1) rfl)
      (pss_one (ps_fld (pv 0) (pe_dcT (own := [("life", 3)]) (g := gName 3) (tt := tYes) rfl scHInit.nd hr.units0 (pi_tup (pe_prop (pv 1) T.cl PL GL hr2 bL .nil pass0 rfl)) (blkOk_by (N := ["self", "lives", "turns", "life"]) (sc := defScope sHInit) (by decide +kernel))
        (fun _ _ _ _ _ => pg_name (i := 3) scHInit.nd rfl (Or.inl rfl)) (fun _ _ _ _ _ => pts_nil) (fun _ _ _ _ _ => pv 3) (fun _ _ _ _ _ => pe_dget (hu_of hr) (pv 2) (pv 3) (fun _ _ => rfl))) rfl)))), ?_⟩
    obtain ⟨dx0, db, kvb, g1, g2, g3⟩ := id hL
    have hsm := hO.small
    have hss := sizeLine_eq
    have hlk : ∀ e ∈ lvs L0, ∃ ns, e.1.length ≤ 2000 ∧ L0.lookup e.1 = some ns ∧ e.2 ∈ ns := fun e he => by
      obtain ⟨ns, h1, h2⟩ := lvs_mem.mp (show (e.1, e.2) ∈ lvs L0 from he)
      exact ⟨ns, (hO.ns _ _ h1).2.1, lookup_mem hO.nd h1, h2⟩
    refine ⟨_, rfl, _, _, _, _, _, rfl, .ty "dict", .base (.dT hd), (show PySem.W.kitOne K (.type "dict") (.type "dict") = some true from kit_ty (by decide +kernel)), _, rfl, iteF ?_⟩
    refine ⟨_, rfl, d, kvs, rfl, hd, _, rfl, lv, dx0, _, rfl, g1, lv, L0, rfl, hL, hO, fun H1 s1 => ⟨_, rfl, by omega, rfl, _, rfl, ite2 (fun e => by rw [hlen, decide_eq_true rfl] at e; cases e) (fun _ => ?_)⟩⟩
    have hd1 := s1 _ _ hd
    refine ⟨d, _, hd1, True.intro, fun od => ⟨_, rfl, d, od, rfl, .inr ⟨kvs, upd_same, fun D hD => ?_⟩⟩⟩
    have hDd : D ≠ d := fun z => by rw [z, upd_same] at hD; cases hD
    have hLf : LsAt CL (upd H1 d (.frz od (.dT kvs))) lv L0 := (hL.same s1).updT hd1
    have hdf : upd H1 d (.frz od (.dT kvs)) d = some (.frz od (.dT kvs)) := upd_same
    generalize hHf : upd H1 d (.frz od (.dT kvs)) = Hf at hD hLf hdf ⊢
    refine lc_it walk_keysT (fun k H' => Same Hf H' ∧ H' D = some (.lst ((List.replicate k true).map V.bl))) ⟨same_upd0 hD, upd_same⟩ (fun _ _ _ y => y.1 _ _ hdf) ?_ ?_
    · rintro k y H2 H3 hk ⟨s2, hDk⟩ ⟨rfl, kk, v, qa, hkv, rfl, hq⟩
      obtain ⟨e, he, ek⟩ := hin (kk, v) (List.mem_of_getElem? hkv)
      have ek : kk = keyOf e := ek
      subst ek
      obtain ⟨ns, hz, hlo, hn⟩ := hlk e he
      obtain ⟨dx1, db1, kvb1, f1, f2, f3⟩ := id (hLf.same s2)
      refine ⟨rfl, _, rfl, _, rfl, lv, dx1, _, rfl, f1, lv, qa, e.1, e.2, ns, L0, rfl, hz, hLf.same s2, hq, hlo, hn, true, rfl, _, hDk, ?_, over3 s2 hD, ?_⟩
      · rw [List.length_map, List.length_replicate]
        omega
      · rw [upd_same, List.replicate_succ', List.map_append]
        rfl
    rintro H2 ⟨s2, hD2⟩
    refine ⟨s2 _ _ hdf, D, List.replicate kvs.length true, rfl, SqL.of ((upd_ne hDd).trans hD2), _, rfl, ?_⟩
    rw [show (List.replicate kvs.length true).all id = true by simp]
    refine iteF ?_
    subst hHf
    have sA : Same H (upd H2 d (.dT kvs)) := s1.trans (unlock_same hd1 s2)
    generalize upd H2 d (.dT kvs) = Ha at sA
    have hLa := hL.same sA
    obtain ⟨dx2, db2, kvb2, f1, _⟩ := id hLa
    refine ⟨_, rfl, lv, dx2, _, rfl, f1, lv, L0, rfl, hLa, hO, fun H3 t js s3 ht hjs => ⟨t, rfl, ⟨_, SqT.of ht⟩, ?_⟩⟩
    have hjl := Paired.length hjs
    refine for_it walk_tup (fun i σ H' => (∃ v3, σ = [some (.ref x), some (.ref lv), some (.ref d), v3]) ∧ Same H3 H') ⟨⟨_, rfl⟩, Same.refl H3⟩ (fun _ _ _ _ y => SqT.of (y.2 _ _ ht)) ?_ ?_
    · rintro i y σ H4 H5 hi ⟨⟨v3, rfl⟩, s4⟩ ⟨rfl, hy⟩
      rw [List.getElem?_map] at hy
      obtain ⟨j, hj, rfl⟩ : ∃ j, js[i]? = some j ∧ y = .ref j := by
        cases e : js[i]? with
        | none => rw [e] at hy; cases hy
        | some t => rw [e] at hy; exact ⟨t, rfl, (Option.some.inj hy).symm⟩
      obtain ⟨e, he, hje⟩ := L2.paired_get hjs hj
      have hje4 : LfAt H5 j e := s4 _ _ hje
      obtain ⟨v, hv, htk⟩ := hall e (List.mem_of_getElem? he)
      have sB := sA.trans (s3.trans s4)
      refine ⟨_, rfl, _, rfl, _, rfl, _, rfl, d, _, rfl, .inr ⟨kvs, keyOf e, j, .inl (sB _ _ hd), rfl, hje4.key, hv.symm⟩, lv, j, e, v, L0, rfl, hL.same sB, hO, hje4, htk, fun H6 s6 => ⟨_, rfl, iteF ⟨⟨_, rfl⟩, s4.trans s6⟩⟩⟩
    rintro σ H4 ⟨⟨v3, rfl⟩, s4⟩
    have sB := sA.trans (s3.trans s4)
    refine ⟨_, rfl, _, rfl, x, CH, dx, [], rfl, sB _ _ hx, TH.cl, TH.nL, by show 0 < 1000; decide, ?_⟩
    have ox : Off x H (upd H4 x (.ins CH dx [("_lives", .ref lv)])) := fun b o n e => (upd_ne n).trans (sB _ _ e)
    have hx5 : upd H4 x (.ins CH dx [("_lives", .ref lv)]) x = some (.ins CH dx [("_lives", .ref lv)]) := upd_same
    have ep : putF "_lives" (.ref lv) [] = [(("_lives" : Str), V.ref lv)] := rfl
    rw [ep]
    generalize upd H4 x (.ins CH dx [("_lives", .ref lv)]) = H5 at ox hx5
    have hL5 := hL.offI hx ox
    obtain ⟨dx3, db3, kvb3, f3, _⟩ := id hL5
    refine ⟨_, rfl, lv, dx3, _, rfl, f3, lv, L0, rfl, hL5, hO, fun H6 t2 js2 s6 ht2 hjs2 => ⟨t2, rfl, ⟨_, SqT.of ht2⟩, fun D2 hD2 => ?_⟩⟩
    have hjl2 := Paired.length hjs2
    have hd6 : H6 d = some (.dT kvs) := s6 _ _ (ox _ _ (ne_of hd hx (fun z => nomatch z)) hd)
    refine dcT_it walk_tup (fun i H' => Same H6 H' ∧ H' D2 = some (.dT (((lvs L0).take i).map fun e => (keyOf e, (valV kvs (keyOf e)).getD .non)))) ⟨same_upd0 hD2, upd_same⟩ (fun _ _ _ y => SqT.of (y.1 _ _ ht2)) ?_ ?_
    · rintro i y H7 H8 hi ⟨s7, hDk⟩ ⟨rfl, hy⟩
      rw [List.getElem?_map] at hy
      obtain ⟨j, hj, rfl⟩ : ∃ j, js2[i]? = some j ∧ y = .ref j := by
        cases e : js2[i]? with
        | none => rw [e] at hy; cases hy
        | some t => rw [e] at hy; exact ⟨t, rfl, (Option.some.inj hy).symm⟩
      obtain ⟨e, he, hje⟩ := L2.paired_get hjs2 hj
      have hje7 : LfAt H8 j e := s7 _ _ hje
      obtain ⟨v, hv, htk⟩ := hall e (List.mem_of_getElem? he)
      have et : (lvs L0).take (i + 1) = (lvs L0).take i ++ [e] := by rw [List.take_add_one, he]; rfl
      have hfresh : valV (((lvs L0).take i).map fun e => (keyOf e, (valV kvs (keyOf e)).getD .non)) (keyOf e) = none := by
        cases hc : valV (((lvs L0).take i).map fun e => (keyOf e, (valV kvs (keyOf e)).getD .non)) (keyOf e) with
        | none => rfl
        | some u =>
          have hm := valV_in hc
          rw [List.map_map] at hm
          obtain ⟨e2, h2, h3⟩ := List.mem_map.mp hm
          have e2e : e2 = e := keyOf_inj h3
          subst e2e
          have nd := hO.lnd
          rw [← List.take_append_drop i (lvs L0), List.nodup_append] at nd
          exact absurd rfl (nd.2.2 e2 h2 e2 (List.mem_of_getElem? (i := 0) (by rw [List.getElem?_drop, Nat.add_zero]; exact he)))
      refine ⟨rfl, _, rfl, _, rfl, _, rfl, d, _, rfl, .inr ⟨kvs, keyOf e, j, .inl (s7 _ _ hd6), rfl, hje7.key, hv.symm⟩, _, keyOf e, j, rfl, hje7.key, hDk, ?_, over3 s7 hD2, ?_⟩
      · rw [List.length_map, List.length_take]
        omega
      · rw [upd_same, putK_new _ hfresh, et, List.map_append]
        show some (HO.dT _) = some (HO.dT _)
        rw [List.map_cons, hv]
        rfl
    rintro H7 ⟨s7, hDk⟩
    rw [List.length_map, hjl2, List.take_length] at hDk
    have hx7 : H7 x = some (.ins CH dx [("_lives", .ref lv)]) := s7 _ _ (s6 _ _ hx5)
    refine ⟨_, rfl, x, CH, dx, _, rfl, hx7, TH.cl, TH.nT, by show 1 < 1000; decide, ?_⟩
    have nDx : D2 ≠ x := fun z => by rw [z, hx7] at hDk; cases hDk
    refine q _ (fun b o n e => (upd_ne n).trans (s7 _ _ (s6 _ _ (ox _ _ n e)))) ⟨dx, D2, .ref lv, upd_same, ?_⟩
    rw [upd_ne nDx, hDk, List.map_map]
    rfl
/-- str of a history -/
def spHStr (CH : Addr) : Sp := fun vs H Q _ => ∃ (x : Addr) (es : List ((Str × Int) × V)), vs = [.ref x] ∧ HsAt CH H x es ∧ es.length ≤ 1000 ∧ (∀ e ∈ es, e.1.1.length ≤ 2000 ∧ 0 ≤ e.1.2 ∧ e.1.2 ≤ 1000000000000000000000000000000 ∧ VOk e.2) ∧ ∀ H', Same H H' → Q (.str (txtH es)) H'
theorem ok_hstr {CH f fW : Addr} {fd fdW : FuncData} (F : Fun K "__str__" "History.__str__" sHStr f fd) (TH : Hsts K mg CH) (FW : Fun K "turn_word" "turn_word" sTWord fW fdW) (bW : Binds K fdW ["turn"] []) (gW : mg "turn_word" = some (.ref fW)) (GW : FnOk P w K mg base CX0 1 fW fdW ["turn"] spTWord) :
    FnOk P w K mg base CX0 2 f fd ["self"] (spHStr CH) := by
  refine F.ok scHStr (fun vs H Q E h => ?_) (fun cdv A outer s H vs Q E hr h => ?_)
  · obtain ⟨_, _, rfl, _⟩ := h
    rfl
  · obtain ⟨x, es, rfl, hH, hes, hok, q⟩ := h
    obtain ⟨dx, d, lv, h1, h2⟩ := hH
    refine ⟨_, pss_cons (ps_if (pt_not (pt_dT (pe_fld (pv 0) rfl))) (pss_one (ps_ret pe_str)) pss_nil)
      (pss_one (ps_ret (pe_join pe_str (pe_lock (pe_lc (own := [("tool", 1), ("beginning", 2), ("turn", 3)]) (g := gTup K 2 (gCons (gTup K 2 (gCons (gName 1) (gCons (gName 2) gNil))) (gCons (gName 3) gNil))) (tt := tYes) rfl scHStr.nd (pi_itemsT (pe_fld (pv 0) rfl)) (blkOk_by (N := ["self", "tool", "beginning", "turn"]) (sc := defScope sHStr) (by decide +kernel))
        (fun _ _ _ _ _ => pg_tup rfl (pgs_cons (pg_tup rfl (pgs_cons (pg_name (i := 1) scHStr.nd rfl (Or.inl rfl)) (pgs_cons (pg_name (i := 2) scHStr.nd rfl (Or.inl rfl)) pgs_nil))) (pgs_cons (pg_name (i := 3) scHStr.nd rfl (Or.inl rfl)) pgs_nil))) (fun _ _ _ _ _ => pts_nil)
        (fun _ _ _ _ _ => pe_joined (.cons (pe_fmt (pv 1)) (.cons pe_str (.cons (pe_fmt (pv 2)) (.cons pe_str (.cons (pe_fmt (pe_call GW hr (by rfl) gW FW.kp bW .nil pass0 (pa_cons (pv 3) pa_nil))) .nil))))))))))), ?_⟩
    have hss := sizeLine_eq
    refine ⟨_, rfl, x, CH, dx, _, _, rfl, h1, TH.cl, TH.nT, rfl, d, _, rfl, h2, ?_⟩
    have em : (es.map fun e => (keyOf e.1, e.2)).isEmpty = es.isEmpty := by cases es <;> rfl
    rw [em]
    unfold txtH at q
    cases hE : es.isEmpty with
    | true =>
      rw [hE] at q
      exact iteT (q H (Same.refl H))
    | false =>
    rw [hE] at q
    refine iteF ?_
    have nx : x ≠ d := fun z => by rw [z, h2] at h1; cases h1
    refine ⟨⟨_, rfl⟩, d, _, h2, True.intro, fun od => ⟨_, rfl, x, CH, dx, _, _, rfl, (upd_ne nx).trans h1, TH.cl, TH.nT, rfl, d, od, _, rfl, upd_same, fun D hD => ?_⟩⟩
    have hDd : D ≠ d := fun z => by rw [z, upd_same] at hD; cases hD
    have hdf : upd H d (.frz od (.dT (es.map fun e => (keyOf e.1, e.2)))) d = some (.frz od (.dT (es.map fun e => (keyOf e.1, e.2)))) := upd_same
    generalize hHf : upd H d (.frz od (.dT (es.map fun e => (keyOf e.1, e.2)))) = Hf at hD hdf ⊢
    have e1 : ((" " : String) : Str).length = 1 := by decide
    have e0 : Str.empty.length = 0 := by decide
    have hel : ∀ e ∈ es, (entW e).length ≤ 6000 := fun e he => by
      obtain ⟨a1, a2, a3, a4⟩ := hok e he
      have b1 := txt_len (mom_log ⟨a2, a3⟩)
      have b2 := wd_len a4
      unfold entW
      rw [app_len, app_len, app_len, app_len, app_len]
      omega
    refine lc_it (te := fun σ H Q => tJs [tFmt (tVar 1), tC (V.str " "), tFmt (tVar 2), tC (V.str " "), tFmt (tCall spTWord [] E0 (tCons (tVar 3) tNil))] Str.empty σ H fun out H1 => Q (.str out) H1) walk_itemsT (fun k H' => Same Hf H' ∧ H' D = some (.lst (((es.take k).map entW).map V.str))) ⟨same_upd0 hD, upd_same⟩ (fun _ _ _ y => y.1 _ _ hdf) ?_ ?_
    · rintro k y H2 H3 hk ⟨s2, hDk⟩ ⟨Tt, kk, v, qa, hkv, hq, rfl, hT, rfl⟩
      rw [List.getElem?_map] at hkv
      obtain ⟨e, he, ek, ev⟩ : ∃ e, es[k]? = some e ∧ keyOf e.1 = kk ∧ e.2 = v := by
        cases e : es[k]? with
        | none => rw [e] at hkv; cases hkv
        | some t => rw [e] at hkv; cases hkv; exact ⟨t, rfl, rfl, rfl⟩
      subst ek ev
      obtain ⟨a1, a2, a3, a4⟩ := hok e (List.mem_of_getElem? he)
      have b0 := hel e (List.mem_of_getElem? he)
      have b1 := txt_len (mom_log ⟨a2, a3⟩)
      have b2 := wd_len a4
      have et : es.take (k + 1) = es.take k ++ [e] := by rw [List.take_add_one, he]; rfl
      have s3 : Same H2 (upd H2 Tt (.tup [.ref qa, e.2])) := same_upd0 hT
      have hq3 : upd H2 Tt (.tup [.ref qa, e.2]) qa = some (.tup [.str e.1.1, .int e.1.2]) := s3 _ _ hq
      refine ⟨Tt, _, rfl, SqT.of upd_same, rfl, _, _, rfl, qa, _, rfl, SqT.of hq3, rfl, _, _, rfl, _, _, rfl, rfl, _, _, rfl, rfl, rfl, ?_⟩
      have hD3 := s3 _ _ hDk
      have hlen : (List.map V.str (List.map entW (es.take k))).length < sizeLine := by
        rw [List.length_map, List.length_map, List.length_take]
        omega
      refine ⟨_, rfl, .inl ⟨e.1.1, rfl, by omega, _, rfl, ?_, _, rfl, ?_, _, rfl, .inr ⟨e.1.2, rfl, mom_log ⟨a2, a3⟩, _, rfl, ?_, _, rfl, ?_, _, rfl, e.2, rfl, a4, .inl ⟨wd e.2, rfl, by omega, _, rfl, ?_, _, hD3, hlen, over3 (s2.trans s3) hD, ?_⟩⟩⟩⟩
      · show (_ ++ _ : Str).length ≤ _
        rw [app_len]
        omega
      · show (_ ++ _ : Str).length ≤ _
        rw [app_len, app_len]
        omega
      · show (_ ++ _ : Str).length ≤ _
        rw [app_len, app_len, app_len]
        omega
      · show (_ ++ _ : Str).length ≤ _
        rw [app_len, app_len, app_len, app_len]
        omega
      · show (_ ++ _ : Str).length ≤ _
        rw [app_len, app_len, app_len, app_len, app_len]
        omega
      · rw [upd_same, et, List.map_append, List.map_append]
        rfl
    rintro H2 ⟨s2, hD2⟩
    rw [List.length_map, List.take_length] at hD2
    subst hHf
    refine ⟨s2 _ _ hdf, _, D, es.map entW, rfl, rfl, .inl (SqL.of ((upd_ne hDd).trans hD2)), ?_, q _ (unlock_same h2 s2)⟩
    have e2 : ((", " : String) : Str).length = 2 := by decide
    have hsum := sum_small (l := (es.map entW).map (·.length)) (m := 6000) fun x hx => by
      obtain ⟨y, hy, rfl⟩ := List.mem_map.mp hx
      obtain ⟨e, he, rfl⟩ := List.mem_map.mp hy
      exact hel e he
    rw [List.length_map, List.length_map] at hsum
    show _ + _ * ((", " : String) : Str).length ≤ 16777216
    rw [e2, List.length_map]
    omega
end
end K30

namespace So
open PySem PySem.Spec PyProof.Rows L2
/-! dict(list of pairs), the keys tuples of ints and texts -/
def mergeT (kvs more : List (List Key × V)) : List (List Key × V) := more.foldl (fun acc kv => putK acc kv.1 kv.2) kvs
theorem kt_merge {H : Hp} : ∀ {more : List (List Key × V)} {prs : List (List Key × Addr × Value)} {acc : List (List Key × V)} {xs : List (List Key × Addr × Value)}, KT H acc xs → KT H more prs → KT H (mergeT acc more) (storedAllH xs prs)
  | _, _, _, _, a, .nil => a
  | _, _, _, _, a, .cons (a := p) (b := q) h t => by
    obtain ⟨e, h1, h2⟩ := h
    have := kt_merge (a.put p.1 (b := q.2.1) h1 h2) t
    rw [show storedH _ p.1 q.2.1 q.2.2 = storedH _ q.1 q.2.1 q.2.2 by rw [e]] at this
    exact this
theorem mergeT_len : ∀ (more kvs : List (List Key × V)), (mergeT kvs more).length ≤ kvs.length + more.length
  | [], kvs => by simp [mergeT]
  | p :: r, kvs => by
    have h1 := mergeT_len r (putK kvs p.1 p.2)
    have h2 := length_putK kvs p.1 p.2
    show (mergeT (putK kvs p.1 p.2) r).length ≤ _
    rw [List.length_cons]
    omega
section
variable {X : Cx}
/-- what stands in the list: a pair of the key's place and the value -/
def EntT (H : Hp) (p : Addr) (e : Addr × List Key × V) : Prop := H p = some (.tup [.ref e.1, e.2.2]) ∧ H e.1 = some (.tup (e.2.1.map kV))
theorem pairs_ofT {pins : List (Addr × Obj)} {σ : L2.St} {H : Hp} {s : Shared} (I : Inv X pins σ H s) : ∀ {ps : List Addr} {es : List (Addr × List Key × V)}, Paired (EntT H) ps es →
    ∃ prs : List (List Key × Addr × Value), KT H (es.map (·.2)) prs ∧ prs.length = ps.length ∧ ∀ (j : Nat) (q : List Key × Addr × Value), prs[j]? = some q → ∃ b : Addr, ps[j]? = some b ∧ s.heap.IsTuple b #[.ref q.2.1, q.2.2]
  | _, _, .nil => ⟨[], .nil, rfl, fun j q e => by simp at e⟩
  | _, _, .cons (a := p) (b := e) h t => by
    obtain ⟨prs, r, hl, hp⟩ := pairs_ofT I t
    obtain ⟨h1, h2⟩ := h
    obtain ⟨its, rv, ht, _⟩ := I.tuple (SqT.of h1)
    obtain ⟨u, y, ei, ru, ry⟩ := vals2 rv
    subst ei
    cases (show u = Value.ref e.1 from ru)
    refine ⟨(e.2.1, e.1, y) :: prs, .cons ⟨rfl, h2, ry⟩ r, by rw [List.length_cons, List.length_cons, hl], fun j q e' => ?_⟩
    cases j with
    | zero =>
      obtain rfl : (e.2.1, e.1, y) = q := Option.some.inj e'
      obtain ⟨o, g1, g2, n, g3⟩ := ht
      exact ⟨p, rfl, o, g1, g2, n, g3⟩
    | succ j =>
      obtain ⟨b, e1, e2⟩ := hp j q (by simpa using e')
      exact ⟨b, by simpa using e1, e2⟩
theorem call_dictPT (hcalm : X.calm = true) (hu : X.A.units + 64 < cLine) : CallR X (.type "dict") (fun xs H Q => ∃ (a : Addr) (ps : List Addr) (es : List (Addr × List Key × V)), xs = [.ref a] ∧ SqL X.K H a (ps.map V.ref) ∧ Paired (EntT H) ps es ∧
    ∀ p, H p = none → Q (.ref p) (upd H p (.dT (mergeT [] (es.map (·.2)))))) := by
  intro pins s σ H xs us Q I r q
  obtain ⟨a, ps, es, ex, hq, hp, q⟩ := q
  subst ex
  obtain ⟨u, eu, rx⟩ := vals1 r
  subst eu
  cases rx
  obtain ⟨its, rv, pl, hz⟩ := I.list hq
  obtain rfl := refs_at rv
  rw [List.length_map] at hz
  obtain ⟨prs, rel, hl, hpr⟩ := pairs_ofT I hp
  obtain ⟨o, n, ho, hc, hd, hdat⟩ := pl
  have hlen : (prs.map fun q => (Value.ref q.2.1, q.2.2)).length = ps.length := by rw [List.length_map, hl]
  have keyIn : ∀ x ∈ prs, H x.2.1 = some (.tup (x.1.map kV)) := by
    have all : ∀ {l : List (List Key × V)} {m : List (List Key × Addr × Value)}, KT H l m → ∀ x ∈ m, H x.2.1 = some (.tup (x.1.map kV)) := by
      intro l m z
      induction z with
      | nil => intro x hx; exact nomatch hx
      | cons hz t ih =>
        intro x hx
        rcases List.mem_cons.mp hx with e | hx
        · rw [e, ← hz.1]; exact hz.2.1
        · exact ih x hx
    exact all rel
  refine call_dict_pairsH (knd := tupleKind (mixKind X.prog X.w)) (ps := prs) (PairArg.list a (ps.map Value.ref).toArray (fun j => ps.getD j 0) (prs.map fun q => (Value.ref q.2.1, q.2.2))) (I.ok.hd hcalm) (tupleKind_room_in1 (A := X.A.in1) (by show X.A.units + 1 + 1 < cLine; omega)) ⟨⟨o, n, ho, hc, hd, hdat⟩, ?_⟩ ?_ ?_ (by rw [hlen]; exact hz) fun h' tk dd' k => ?_
  · refine ⟨by rw [hlen]; simp, fun j k v hj => ?_⟩
    rw [List.getElem?_map] at hj
    cases e : prs[j]? with
    | none => rw [e] at hj; cases hj
    | some x =>
      rw [e] at hj
      cases hj
      obtain ⟨b, e1, e2⟩ := hpr j x e
      have eb : ps.getD j 0 = b := by rw [List.getD_eq_getElem?_getD, e1]; rfl
      refine ⟨?_, .inl ?_⟩
      · show (ps.map Value.ref).toArray[j]? = _
        rw [List.getElem?_toArray, List.getElem?_map, e1]
        show some (Value.ref b) = some (Value.ref (ps.getD j 0))
        rw [eb]
      · show s.heap.IsTuple (ps.getD j 0) _
        rw [eb]
        exact e2
  · refine ⟨by rw [hlen, hl], fun i key v hi => ?_⟩
    have hi : (prs.map fun q => (Value.ref q.2.1, q.2.2))[i]? = some (key, v) := hi
    rw [List.getElem?_map] at hi
    cases e : prs[i]? with
    | none => rw [e] at hi; cases hi
    | some x =>
      rw [e] at hi
      cases hi
      exact ⟨x.1, x.2.1, rfl, rfl⟩
  · intro h' keep x hx
    have hxk := keyIn x hx
    obtain ⟨o2, its2, n2, g1, g2, g3, g4⟩ := key_of (P := X.prog) (w := X.w) I.hok hxk
    exact ⟨o2, its2, n2, keep _ _ (Nat.ne_of_lt (Heap.lt_size g1)) (by simp) g1, g2, g3, g4⟩
  · obtain ⟨q2, es2, ep2, hq2, a2, a3, a4, _, a5⟩ := dd'
    have hm : (s.heap.objs.size == sysModules) = false := beq_eq_false_iff_ne.mpr (Nat.ne_of_gt I.big)
    have hN := I.hok.fresh (Nat.le_refl s.heap.objs.size)
    have hle : (mergeT [] (es.map (·.2))).length ≤ sizeLine := by
      refine Nat.le_trans (mergeT_len _ []) ?_
      rw [List.length_nil, Nat.zero_add, Paired.length rel, hl]
      exact hz
    refine ⟨.ref s.heap.objs.size, upd H s.heap.objs.size (.dT (mergeT [] (es.map (·.2)))), I.laid (t' := tk) (fun b o e => k b o (by simp) e) (Nat.le_refl _) (show ObjOk X.prog X.w _ _ _ (.dT (mergeT [] (es.map (·.2)))) from ⟨hle, hm, _, (kt_merge .nil rel).keeps fun c ys ec => ?_, q2, es2, ep2, hq2, a2, a3, a4, a5⟩), rfl, q _ hN⟩
    exact (upd_ne (ne_of_none ec hN)).trans ec
end
end So

namespace So
open PySem PySem.Spec PyProof.Rows L2
section
variable {X : Cx} {CX : CXT} {k : Nat} {C f : Addr} {fd : FuncData} {ps : List Str} {sp : Sp} {E : XK}
/-- str(o) of an instance whose class has an own __str__ -/
theorem call_strOwn (F : FnOk X.prog X.w X.K X.mg X.base CX k f fd ps sp) (hs : PySem.W.findIn X.K (.ref C) "__str__" = some (some (.ref f))) (hf : PySem.W.isFn X.K (.ref f) = true) (hb : Binds X.K fd ps []) (hx : Passes CX X E) (hr : Room (k + 2) X.A) :
    CallR X (.type "str") (fun xs H Q => ∃ a dx fs, xs = [.ref a] ∧ H a = some (.ins C dx fs) ∧ sp [.ref a] H (fun v H' => ∃ t : Str, v = .str t ∧ Q (.str t) H') E) := by
  intro pins s σ H xs us Q I r h
  obtain ⟨a, dx, fs, rfl, ha, q⟩ := h
  obtain ⟨u, rfl, ru⟩ := vals1 r
  cases ru
  obtain ⟨mA, J, _⟩ := ins_get I.hok ha
  obtain ⟨od, J, _⟩ := J.look
  have hr2 : Room k X.A.in1.in1 := hr.in1.in1
  refine PySem.W.kso_call hr2.units0 I.kIn J hs hf ?_
  have e0 : Env0 X.prog X.w X.K X.mg X.base X.A.in1.in1 X.stack s H := I.env0.in1.in1
  have hl : ([Value.ref a] ++ ([] : List Value)).length = ps.length := (F.len _ _ _ _ q : [V.ref a].length = ps.length)
  refine wpAny_call (codeAny_mono (F.run X.A.in1.in1 X.stack s H ⟨[.ref a], []⟩ ([Value.ref a] ++ []) [.ref a] _ E hr2 e0 (hb s [Value.ref a] I.kIn hl) (show Vals [V.ref a] [Value.ref a] from .cons rfl .nil) q) fun r s' hq => ?_)
  match r, hq with
  | .error e, hq => exact hx pins σ H s e s' I hq
  | .ok (.ret u), hq =>
    obtain ⟨v, H', I', rv, t, ev, q'⟩ := I.after hq
    subst ev
    obtain ⟨tk, rfl⟩ := rv
    exact ⟨.str t, H', I', ⟨tk, rfl⟩, q'⟩
  | .ok .next, hq => exact hq.elim
  | .ok .brk, hq => exact hq.elim
  | .ok .cont, hq => exact hq.elim
end
end So

/-! a list of anything == [], != [] -/
namespace So
open PySem PySem.Spec PyProof.Rows L2
section
variable {X : Cx}
theorem isL {hp : Heap} {a : Addr} {its : Array Value} (h : PlainL hp a its) : hp.IsList a its := by
  obtain ⟨o, n, e, c, d, dt⟩ := h
  exact ⟨o, e, c, n, dt⟩
def rNil (K : PySem.W.Frag) (neg : Bool) : R2 := fun x y H Q => ∃ (a b : Addr) (xs : List V), x = .ref a ∧ y = .ref b ∧ SqL K H a xs ∧ SqL K H b [] ∧ Q (.bl (if neg then !xs.isEmpty else xs.isEmpty)) H
theorem op_neNil (hu : X.A.units < cLine) : OpR X (compareOp .NotEq) (rNil X.K true) := by
  intro pins s σ H x y v u Q I rx ry h
  obtain ⟨a, b, xs, rfl, rfl, ha, hb, q⟩ := h
  cases rx
  cases ry
  obtain ⟨its, rv, hl, hz⟩ := I.list ha
  obtain ⟨its2, rv2, hl2, hz2⟩ := I.list hb
  cases rv2
  cases xs with
  | nil =>
    cases rv
    exact PySem.SeqAt.RcNeAt.lists (e := fun _ => true) (isL hl) (isL hl2) rfl hu (fun j h1 _ => absurd h1 (Nat.not_lt_zero j)) X.prog X.w _ _ ⟨.bl false, H, I, rfl, q⟩
  | cons x r =>
    cases rv with
    | cons r1 r2 => exact PySem.SeqAt.RcNeAt.lists_lengths (isL hl) (isL hl2) (by simp) hu X.prog X.w _ _ ⟨.bl true, H, I, rfl, q⟩
theorem op_eqNil (hu : X.A.units < cLine) : OpR X (compareOp .Eq) (rNil X.K false) := by
  intro pins s σ H x y v u Q I rx ry h
  obtain ⟨a, b, xs, rfl, rfl, ha, hb, q⟩ := h
  cases rx
  cases ry
  obtain ⟨its, rv, hl, hz⟩ := I.list ha
  obtain ⟨its2, rv2, hl2, hz2⟩ := I.list hb
  cases rv2
  cases xs with
  | nil =>
    cases rv
    exact PySem.SeqAt.RcAt.lists (e := fun _ => true) (isL hl) (isL hl2) rfl hu (fun j h1 _ => absurd h1 (Nat.not_lt_zero j)) X.prog X.w _ _ ⟨.bl true, H, I, rfl, q⟩
  | cons x r =>
    cases rv with
    | cons r1 r2 => exact PySem.SeqAt.RcAt.lists_lengths (isL hl) (isL hl2) (by simp) hu X.prog X.w _ _ ⟨.bl false, H, I, rfl, q⟩
end
end So

/-! enumerate(a tuple) as what a for goes through -/
namespace So
open PySem PySem.Spec PyProof.Rows L2
/-- enumerate(v): what pyIter of v makes, in an enumerate's cell -/
theorem enum_new1 {v : Value} {o : Obj} {Hp0 : Heap → Prop} (B : Begins v o Hp0) : Meets (Builtin.«enumerate.__new__» ⟨[.type "enumerate", v], []⟩) (fun _ R s => Hp0 s.heap ∧
    R (.ok (.ret (.ref (s.heap.push o).objs.size))) { s with heap := (s.heap.push o).push { cls := .type "enumerate", data := .fields #[.none, .bool false, .ref s.heap.objs.size, rawInt 0, .none, .none] } }) :=
  .of_wp fun prog w A R s h => by
    obtain ⟨hp, g, d, tk, os⟩ := s
    obtain ⟨h1, h⟩ := h
    have hsub := sub_enumerate
    have q1 : ∀ {A' : Around} {E : Value → Shared → Prop} {Q : Value → Shared → Prop}, Q (.ref hp.objs.size) ⟨hp.push o, g, d, tk, os⟩ → wpAny (model prog w) A' (pyIter v) Q E ⟨hp, g, d, tk, os⟩ :=
      fun q => B.iter prog w _ _ ⟨hp, g, d, tk, os⟩ _ h1 q
    wp_walk using q1
    refine wpAny_stack_any fun st => wpAny_pure ?_
    split
    · rename_i c _ _ _ _ _
      cases (c == Value.type "enumerate") <;> (wp_walk using q1; exact ⟨_, rfl, h⟩)
    · wp_walk using q1
      exact ⟨_, rfl, h⟩
/-- behind the last item -/
theorem enum_endT {prog : Program} {w : World} {A : Around} {E : Value → Shared → Prop} {s : Shared} {e it a : Addr} {i : Int} {j : Nat} {items : Array Value} {old : Value} {Q : Option Value → Shared → Prop} (hh : A.handled = none) (he : IsEnum s.heap e it i old)
    (hit : s.heap.IsTupleIter it a j) (ht : s.heap.IsTuple a items) (hx : items[j]? = none) (hQ : ∀ h', Heap.ExtBut it s.heap h' → Q none { s with heap := h' }) : wpAny (model prog w) A (pyNext (.ref e)) Q E s := by
  have hT : s.TypeIs (.ref e) "enumerate" := ⟨_, he, rfl⟩
  unfold pyNext
  refine wpAny_bind (wpAny_attempt (wpAny_callSpecial?_slot (name := Str.ofString "__next__") hT PySem.F.slot_enumerate_next (wpAny_call_entry PySem.F.slot_enumerate_next hT PySem.F.entry_enumerate_next ?_ (PySem.F.args_enumerate_next_1 _))))
  show wpAny _ _ (field (.ref e) 2 >>= _) _ _ _
  refine wpAny_bind (wpAny_field he rfl (x := .ref it) rfl (wpAny_bind (wpAny_nextOf_tuple_end (A := A.in1) hh hit ht hx fun h' x he' hx' => ?_)))
  obtain ⟨o, ho, hc⟩ := hx'
  exact wpAny_bind (wpAny_isInstance (T := "StopIteration") (b := true) ⟨o, ho, hc⟩ isSubtype_stop (wpAny_pure (hQ _ he')))
/-- the tuple at a, each item in a new pair with its index -/
def IteT (K : PySem.W.Frag) (a : Addr) : It :=
  ⟨fun i H => ∃ (xs : List V) (x : V), SqT K H a xs ∧ xs[i]? = some x, fun i H v H' => ∃ T x, v = .ref T ∧ H T = none ∧ H' = upd H T (.tup [.int (i : Nat), x]) ∧ ∀ xs, SqT K H a xs → xs[i]? = some x, fun i H => ∃ xs : List V, SqT K H a xs ∧ xs.length ≤ i⟩
theorem walk_enumT {K : PySem.W.Frag} {a : Addr} {xs : List V} : Walk (IteT K a) xs.length (fun H => SqT K H a xs) (YPair (fun i => some (.int (i : Nat))) (fun i => xs[i]?)) := by
  refine ⟨fun i _ hi q => ⟨xs, xs[i], q, by simp [hi]⟩, fun _ q => ⟨xs, q, Nat.le_refl _⟩, fun i H v H' _ q y => ?_⟩
  obtain ⟨T, x, h1, h2, h3, h4⟩ := y
  exact ⟨T, .int (i : Nat), x, h1, h2, h3, rfl, h4 xs q⟩
theorem turn_enumT {P : Program} {w : World} {K : PySem.W.Frag} {elts : List Expr} {kk : Nat} {tpos : Pos} (a e it : Addr) :
    Turn P w K (.Tuple elts kk tpos) (IteT K a) [e, it] e (fun i h => (∃ old, IsEnum h e it ((i : Nat) : Int) old) ∧ h.IsTupleIter it a i ∧ e ≠ it ∧ a ≠ it ∧ a ≠ e) where
  mem := by simp
  obj := fun i h st b hb => by
    obtain ⟨⟨old, he⟩, ⟨o, ho, hc, hd⟩, _⟩ := st
    have e' : b = e ∨ b = it := by simpa using hb
    rcases e' with z | z
    · rw [z]
      exact ⟨_, he, fun v q => nomatch q⟩
    · rw [z]
      exact ⟨o, ho, fun v q => by rw [hd] at q; cases q⟩
  keep := fun i h h' st k => by
    obtain ⟨⟨old, he⟩, hi, ne⟩ := st
    exact ⟨⟨old, k e (by simp) _ he⟩, hi.at fun o q => k it (by simp) o q, ne⟩
  item := by
    intro X hP hw hK hc i pins s σ H E I hf st hg
    subst hP hw hK
    obtain ⟨⟨old, he⟩, hit, ne, nai, nae⟩ := st
    obtain ⟨xs, x, hq, hx⟩ := hg
    obtain ⟨its, rv, p, hz⟩ := I.tuple hq
    obtain ⟨u, hu, ru⟩ := rv.get hx
    have hel : e < s.heap.objs.size := Heap.lt_size he
    have hil : it < s.heap.objs.size := by
      obtain ⟨_, q, _⟩ := hit
      exact Heap.lt_size q
    have hT0 : s.heap.IsTuple a its.toArray := p
    have hi : i < its.toArray.size := by
      have := (List.getElem?_eq_some_iff.mp hu).1
      simpa using this
    refine wpAny_pyNext_enum_itemD (Draws.tuple (A := X.A.in1) (show X.A.in1.handled = none from I.ok.hd hc) it a nai its.toArray) he ⟨hit, hT0⟩ hi ne (by simp [ne, Ne.symm nae]) fun x' h' tk hp ho hst hT hsz hk => ?_
    have ex : x' = u := by
      have h1 : its.toArray[i]? = some x' := hp
      have h2 : its.toArray[i]? = some u := by simpa using hu
      exact Option.some.inj (h1.symm.trans h2)
    subst ex
    refine ⟨_, rfl, wpAny_letOwnedTupleGo_enum (s := { s with heap := h', toks := tk + 1 }) ho fun h'' he' sb => ?_⟩
    have hT2 : h''.get? s.heap.objs.size = some { cls := .type "tuple", data := .seq #[.int i tk, x'] } := (sb.2 _ (Nat.ne_of_gt hel)).trans hT
    have new : ObjOk X.prog X.w (upd H s.heap.objs.size (.tup [.int (i : Nat), x])) h'' s.heap.objs.size (.tup [.int (i : Nat), x]) :=
      ⟨by show 2 ≤ sizeLine; decide, [.int i tk, x'], .cons ⟨_, rfl⟩ (.cons ru .nil), ⟨_, hT2, rfl, _, rfl⟩⟩
    have I1 : Inv X pins σ (upd H s.heap.objs.size (.tup [.int (i : Nat), x])) { s with heap := h'', toks := tk + 1 } :=
      I.turnedNew (ch := [e, it]) (fun b ob hb q => (sb.2 b (fun z => hb (by simp [z]))).trans (hk b ob (fun z => hb (by simp [z])) (fun z => hb (by simp [z])) q)) hf (Nat.le_refl _) new
    refine ⟨.ref s.heap.objs.size, _, I1, rfl, ⟨_, x, rfl, I.hok.fresh (Nat.le_refl _), rfl, fun ys hy => by rw [I.tuple_inj hy hq]; exact hx⟩, ⟨⟨x', ?_⟩, hst.1.at fun o q => (sb.2 it (Ne.symm ne)).trans q, ne, nai, nae⟩, fun b hb => ?_⟩
    · have e1 : ((i + 1 : Nat) : Int) = (i : Int) + 1 := by omega
      rw [e1]
      exact he'
    · have hb' : b < s.heap.objs.size := by
        have e' : b = e ∨ b = it := by simpa using hb
        rcases e' with z | z
        · rw [z]
          exact hel
        · rw [z]
          exact hil
      rw [upd_ne (Nat.ne_of_lt hb')]
      exact (hf b hb).1
  done := by
    intro X hP hw hK hc i pins s σ H E I hf st hg
    subst hP hw hK
    obtain ⟨⟨old, he⟩, hit, ne, nai, nae⟩ := st
    obtain ⟨xs, hq, hx⟩ := hg
    obtain ⟨its, rv, p, hz⟩ := I.tuple hq
    obtain ⟨f0, f1, f2, f3, f4, f5⟩ := hf it (by simp)
    have hl := rv.length
    exact enum_endT (I.ok.hd hc) he hit (show s.heap.IsTuple a its.toArray from p) (by simp; omega) fun h' eb => ⟨rfl, I.turned (t' := s.toks) (fun b o hb q => eb b o hb q) f0 f1 f3 f4 f5⟩
  self := fun A i s Q E st h => by
    obtain ⟨⟨_, he⟩, _⟩ := st
    exact wpAny_pyIter_enum he h
def iEnumT (K : PySem.W.Frag) (ta : TA) : TI := fun σ H R => ta σ H fun vs H1 => ∃ a xs, vs = [.ref a] ∧ SqT K H1 a xs ∧ R (IteT K a) H1
theorem pi_enumT {X : Cx} {e : Expr} {ta : TA} {p pos tpos : Pos} {elts : List Expr} {kk : Nat} (hg : Gl X "enumerate") (hm : X.mg "enumerate" = none) (ha : PA X [e] ta) (hs : starEach [e] X.env = [(false, eval e X.env)] := by rfl) :
    PI X (.Tuple elts kk tpos) (.Call (.Name "enumerate" p) [e] [] pos) (iEnumT X.K ta) := by
  refine ⟨fun pins s σ H R I h => ?_⟩
  refine Call_ (ld_blt I hg hm boot_enumerate (PyProof.Rows.callWith_type1 (thn (ha.run pos pins s σ H _ I h) fun us s1 ⟨vs, H1, I1, r1, q1⟩ => ?_) hs rfl))
  obtain ⟨a, xs, rfl, hq, q⟩ := q1
  obtain ⟨u, rfl, ru⟩ := vals1 r1
  obtain rfl : u = Value.ref a := ru
  obtain ⟨its, rv, p', hz⟩ := I1.tuple hq
  have ht : s1.heap.IsTuple a its.toArray := p'
  have al : a < s1.heap.objs.size := by
    obtain ⟨o, ho, _⟩ := ht
    exact Heap.lt_size ho
  have sz : (s1.heap.push { cls := .type "tuple_iterator", data := .fields #[.ref a, .int 0 0] }).objs.size = s1.heap.objs.size + 1 := Heap.size_push ..
  refine callType_new PySem.F.called_enumerate (by decide) (PySem.F.typeCall_enumerate_1 _) (PySem.F.newCall_enumerate_1 _) (fun obj => PySem.F.args_object_init_2 obj _) PySem.F.entry_enumerate_new (enum_new1 (begins_tuple a its.toArray)) ⟨ht, ?_⟩
  show _ ∧ _
  rw [sz]
  have he : IsEnum ((s1.heap.push { cls := .type "tuple_iterator", data := .fields #[.ref a, .int 0 0] }).push { cls := .type "enumerate", data := .fields #[.none, .bool false, .ref s1.heap.objs.size, rawInt 0, .none, .none] }) (s1.heap.objs.size + 1) s1.heap.objs.size 0 .none := by
    have := Heap.get?_push_size (s1.heap.push { cls := .type "tuple_iterator", data := .fields #[.ref a, .int 0 0] }) (o := { cls := .type "enumerate", data := .fields #[.none, .bool false, .ref s1.heap.objs.size, rawInt 0, .none, .none] }) rfl
    rw [sz] at this
    exact this
  refine ⟨⟨_, he, rfl⟩, wpAny_pyIter_enum he ?_⟩
  have I2 : Inv X pins σ H1 { s1 with heap := (s1.heap.push { cls := .type "tuple_iterator", data := .fields #[.ref a, .int 0 0] }).push { cls := .type "enumerate", data := .fields #[.none, .bool false, .ref s1.heap.objs.size, rawInt 0, .none, .none] } } :=
    I1.kept (t' := s1.toks) fun b o x => Heap.get?_push_of_some _ (Heap.get?_push_of_some _ x)
  refine ⟨s1.heap.objs.size + 1, [s1.heap.objs.size + 1, s1.heap.objs.size], _, _, H1, rfl, I2, turn_enumT a (s1.heap.objs.size + 1) s1.heap.objs.size, ⟨⟨.none, he⟩, ⟨_, Heap.get?_push_of_some _ (Heap.get?_push_size _ rfl), rfl, rfl⟩, Nat.succ_ne_self _, Nat.ne_of_lt al, Nat.ne_of_lt (Nat.lt_succ_of_lt al)⟩, fun b hb => ?_, q⟩
  have e' : b = s1.heap.objs.size + 1 ∨ b = s1.heap.objs.size := by simpa using hb
  have hle : s1.heap.objs.size ≤ b := by
    rcases e' with z | z
    · rw [z]
      exact Nat.le_add_right _ _
    · rw [z]
      exact Nat.le_refl _
  exact I1.fpOk hle (I1.hok.fresh hle)
end So

namespace K30
open PySem PySem.Spec PyProof.Rows L2 So StX TL
/-! ### the text of a history shows -/
def asc (z : Str) : Prop := ∀ c ∈ z.cps.toList, c < 128
theorem of_joinL {S : List Nat} {c : Nat} : ∀ {ps : List (List Nat)}, c ∈ joinL S ps → c ∈ S ∨ ∃ p ∈ ps, c ∈ p
  | [], h => nomatch h
  | [p], h => .inr ⟨p, List.mem_singleton.mpr rfl, h⟩
  | p :: q :: r, h => by
    have h : c ∈ p ++ (S ++ joinL S (q :: r)) := h
    rcases List.mem_append.mp h with e | e
    · exact .inr ⟨p, List.mem_cons_self, e⟩
    · rcases List.mem_append.mp e with e | e
      · exact .inl e
      · rcases of_joinL e with e | ⟨w, hw, e⟩
        · exact .inl e
        · exact .inr ⟨w, List.mem_cons_of_mem _ hw, e⟩
theorem join_asc {ws : List Str} (h : ∀ w ∈ ws, asc w) : asc (Txt.join ", " ws) := by
  intro c hc
  have hc : c ∈ tl (Txt.join ", " ws) := hc
  rw [join_eq, tl_join] at hc
  rcases of_joinL hc with e | ⟨p, hp, e⟩
  · have : tl (", " : Str) = [44, 32] := by decide +kernel
    rw [this] at e
    rcases List.mem_cons.mp e with e | e
    · rw [e]; decide
    · rw [List.mem_singleton.mp e]; decide
  · obtain ⟨w, hw, rfl⟩ := List.mem_map.mp hp
    exact h w hw c e
theorem join_len (ws : List Str) : (Txt.join ", " ws).length ≤ (ws.map (·.length)).sum + ws.length * 2 := by
  rw [join_eq]
  cases ws with
  | nil => decide
  | cons a l =>
    rw [len_join_cons, show (", " : Str).length = 2 by decide, List.length_cons]
    omega
theorem app_asc {a b : Str} (ha : asc a) (hb : asc b) : asc (a ++ b) := fun c hc => by
  have hc : c ∈ (a.cps ++ b.cps).toList := hc
  rw [Array.toList_append] at hc
  rcases List.mem_append.mp hc with h | h
  · exact ha c h
  · exact hb c h
theorem num_asc {i : Int} (h : 0 ≤ i) : asc (Str.ofString (toString i)) := by
  intro c hc
  obtain ⟨k, rfl⟩ : ∃ k : Nat, i = k := ⟨i.toNat, by omega⟩
  have e : (Str.ofString (toString ((k : Nat) : Int))).cps.toList = numL k := tl_num k
  rw [e] at hc
  have := numL_digits k _ hc
  omega
/-- a life and its turn, as they are told -/
structure EOk (e : (Str × Int) × V) : Prop where
  nm : isName e.1.1 = true
  lo : 0 ≤ e.1.2 ∧ e.1.2 ≤ 1000000000000000000000000000000
  v : VOk e.2
theorem ent_asc {e : (Str × Int) × V} (h : EOk e) : asc (entW e) := by
  have hs : asc (" " : Str) := by unfold asc; decide +kernel
  have hw : asc (wd e.2) := by
    rcases h.v with hv | ⟨i, hv, h1, _⟩
    · rw [hv]
      unfold asc wd
      decide +kernel
    · rw [hv]
      exact num_asc h1
  exact app_asc (app_asc (app_asc (app_asc (app_asc (fun c hc => nomatch hc) (name_small h.nm)) hs) (num_asc h.lo.1)) hs) hw
theorem ent_len {e : (Str × Int) × V} (h : EOk e) : (entW e).length ≤ 6000 := by
  have e1 : ((" " : String) : Str).length = 1 := by decide
  have e0 : Str.empty.length = 0 := by decide
  have b0 := name_len h.nm
  have b1 := txt_len (mom_log h.lo)
  have b2 := wd_len h.v
  unfold entW
  rw [app_len, app_len, app_len, app_len, app_len]
  omega
theorem txt_ok {es : List ((Str × Int) × V)} (h : ∀ e ∈ es, EOk e) (hl : es.length ≤ 20) : (PyData.str (txtH es)).showable = true ∧ (PyData.str (txtH es)).depth ≤ 60 ∧ (PyData.str (txtH es)).shown.length ≤ sizeLine := by
  have ha : asc (txtH es) := by
    unfold txtH
    split
    · unfold asc; decide +kernel
    · exact join_asc fun w hw => by
        obtain ⟨e, he, rfl⟩ := List.mem_map.mp hw
        exact ent_asc (h e he)
  have hlen : (txtH es).length ≤ 200000 := by
    unfold txtH
    split
    · decide
    · have h1 := join_len (es.map entW)
      have h2 := sum_small (l := (es.map entW).map (·.length)) (m := 6000) fun x hx => by
        obtain ⟨y, hy, rfl⟩ := List.mem_map.mp hx
        obtain ⟨e, he, rfl⟩ := List.mem_map.mp hy
        exact ent_len (h e he)
      rw [List.length_map, List.length_map] at h2
      rw [List.length_map] at h1
      omega
  have h5 := PySem.StrLaws.reprText_len (txtH es) (fun c hc => Nat.lt_trans (ha c hc) (by decide))
  exact ⟨rfl, Nat.zero_le _, by
    have := sizeLine_eq
    show (reprText _).length ≤ _
    omega⟩
/-! ### the law's own lists -/
theorem valV_mem {κ : Type} [DecidableEq κ] {k : κ} {v : V} : ∀ {kvs : List (κ × V)}, (kvs.map (·.1)).Nodup → (k, v) ∈ kvs → valV kvs k = some v
  | [], _, h => nomatch h
  | p :: r, nd, h => by
    rw [List.map_cons, List.nodup_cons] at nd
    rcases List.mem_cons.mp h with e | e
    · subst e
      exact valV_pos rfl
    · have : ¬ p.1 = k := fun q => nd.1 (q ▸ List.mem_map_of_mem (f := (·.1)) e)
      rw [valV_neg this]
      exact valV_mem nd.2 e
theorem valV_out {κ : Type} [DecidableEq κ] {k : κ} {kvs : List (κ × V)} (h : k ∉ kvs.map (·.1)) : valV kvs k = none := by
  cases hc : valV kvs k with
  | none => rfl
  | some v => exact absurd (valV_in hc) h
theorem mergeT_nodup : ∀ (more acc : List (List Key × V)), ((acc ++ more).map (·.1)).Nodup → mergeT acc more = acc ++ more
  | [], acc, _ => by simp [mergeT]
  | p :: r, acc, nd => by
    have hf : valV acc p.1 = none := valV_out fun hin => by
      rw [List.map_append, List.map_cons, List.nodup_append] at nd
      exact nd.2.2 p.1 hin p.1 List.mem_cons_self rfl
    show mergeT (putK acc p.1 p.2) r = _
    rw [putK_new _ hf, mergeT_nodup r _ (by rw [List.append_assoc]; exact nd), List.append_assoc]
    rfl
/-- the law's pairs of a life and its turn -/
def ChAt (H : Hp) (c : Addr) (es : List ((Str × Int) × V)) : Prop := ∃ (ps : List Addr) (zs : List (Addr × List Key × V)), H c = some (.lst (ps.map V.ref)) ∧ Paired (EntT H) ps zs ∧ zs.map (·.2) = es.map fun e => (keyOf e.1, e.2)
/-- the law's dict of beginnings -/
def EntB (H : Hp) (kv : Key × V) (p : Str × List Int) : Prop := kv.1 = Sum.inr p.1 ∧ ∃ (l : Addr) (ms : List Int), kv.2 = .ref l ∧ H l = some (.lst (ms.map V.int)) ∧ p.2 = 0 :: ms
def BdAt (H : Hp) (b : Addr) (L : List (Str × List Int)) : Prop := ∃ kvs : List (Key × V), H b = some (.dK kvs) ∧ Paired (EntB H) kvs L
theorem back_es {es : List ((Str × Int) × V)} {lv : List (Str × Int)} {kvs : List (List Key × V)} (h : es.map (·.1) = lv) (hv : ∀ e ∈ es, valV kvs (keyOf e.1) = some e.2) : (lv.map fun e => (e, (valV kvs (keyOf e)).getD .non)) = es := by
  subst h
  rw [List.map_map]
  refine (List.map_congr_left (g := id) fun e he => ?_).trans (List.map_id es)
  show (e.1, (valV kvs (keyOf e.1)).getD .non) = e
  rw [hv e he]
  rfl
/-- what is drawn for a turn is one -/
theorem ends_ok {ms : List Int} {at' : Nat} {low e : Int} (hp : ms.Pairwise (· < ·)) (hb : ∀ n ∈ ms, 1 ≤ n ∧ n ≤ 1000000000000000000000000000000) (h1 : (0 :: ms)[at']? = some low) (h2 : (ms.map (fun n => n - 1) ++ [1000000000000000000000000000000])[at']? = some e) :
    0 ≤ low ∧ low ≤ e ∧ e ≤ 1000000000000000000000000000000 ∧ ∀ n ∈ 0 :: ms, n ≤ e → n ≤ low := by
  have hp0 : (0 :: ms).Pairwise (· < ·) := List.pairwise_cons.mpr ⟨fun n hn => by have := (hb n hn).1; omega, hp⟩
  have hr : ∀ n ∈ 0 :: ms, 0 ≤ n ∧ n ≤ 1000000000000000000000000000000 := fun n hn => by
    rcases List.mem_cons.mp hn with h | h
    · omega
    · have := hb n h
      omega
  obtain ⟨hlt, hget⟩ := List.getElem?_eq_some_iff.mp h1
  have hlow := hr low (List.mem_of_getElem? h1)
  rw [List.pairwise_iff_getElem] at hp0
  by_cases c : at' < ms.length
  · rw [List.getElem?_append_left (by rw [List.length_map]; exact c), List.getElem?_map] at h2
    obtain ⟨m, hm, rfl⟩ : ∃ m, ms[at']? = some m ∧ m - 1 = e := by
      cases q : ms[at']? with
      | none => rw [q] at h2; cases h2
      | some m => rw [q] at h2; exact ⟨m, rfl, Option.some.inj h2⟩
    have hm' : (0 :: ms)[at' + 1]? = some m := hm
    obtain ⟨hlt2, hget2⟩ := List.getElem?_eq_some_iff.mp hm'
    have h3 := hp0 at' (at' + 1) hlt hlt2 (by omega)
    have h4 := hr m (List.mem_of_getElem? hm')
    refine ⟨hlow.1, by omega, by omega, fun n hn hne => ?_⟩
    obtain ⟨j, hj⟩ := List.mem_iff_getElem?.mp hn
    obtain ⟨hj1, hj2⟩ := List.getElem?_eq_some_iff.mp hj
    rcases Nat.lt_trichotomy j at' with q | q | q
    · have := hp0 j at' hj1 hlt q
      omega
    · subst q
      omega
    · rcases Nat.lt_or_ge (at' + 1) j with q2 | q2
      · have := hp0 (at' + 1) j hlt2 hj1 q2
        omega
      · obtain rfl : j = at' + 1 := by omega
        omega
  · have hl : at' = ms.length := by
      rw [List.length_cons] at hlt
      omega
    rw [List.getElem?_append_right (by rw [List.length_map]; omega), List.length_map, show at' - ms.length = 0 by omega] at h2
    obtain rfl : (1000000000000000000000000000000 : Int) = e := Option.some.inj h2
    refine ⟨hlow.1, hlow.2, Int.le_refl _, fun n hn _ => ?_⟩
    obtain ⟨j, hj⟩ := List.mem_iff_getElem?.mp hn
    obtain ⟨hj1, hj2⟩ := List.getElem?_eq_some_iff.mp hj
    rcases Nat.lt_or_ge j at' with q | q
    · have := hp0 j at' hj1 hlt q
      omega
    · rw [List.length_cons] at hj1
      obtain rfl : j = at' := by omega
      omega
end K30

namespace K30
open PySem PySem.Spec PyProof.Rows L2 So StX TL
theorem Pen.nw {H : Hp} {p l : Addr} {ns : List Int} {n : Nat} {g : Int} (h : Pen H p l ns n g) {d : Addr} (hd : H d = none) : d ≠ p := fun z => by rw [z, h.pen] at hd; cases hd
theorem Pen.sm {H H' : Hp} {p l : Addr} {ns : List Int} {n : Nat} {g : Int} (h : Pen H p l ns n g) (s : Same H H') : Pen H' p l ns n g := ⟨s _ _ h.pen, s _ _ h.cells, h.left⟩
theorem Pen.up {H : Hp} {p l c : Addr} {ns : List Int} {n : Nat} {g : Int} {o : HO} (h : Pen H p l ns n g) (h1 : c ≠ p) (h2 : c ≠ l) : Pen (upd H c o) p l ns n g := ⟨(upd_ne (Ne.symm h1)).trans h.pen, (upd_ne (Ne.symm h2)).trans h.cells, h.left⟩
theorem off_same {p : Addr} {H H' : Hp} (s : Same H H') : Off p H H' := fun b o _ e => s b o e
theorem EntT.same {H H' : Hp} {p : Addr} {z : Addr × List Key × V} (h : EntT H p z) (s : Same H H') : EntT H' p z := ⟨s _ _ h.1, s _ _ h.2⟩
theorem ChAt.same {H H' : Hp} {c : Addr} {es : List ((Str × Int) × V)} (h : ChAt H c es) (s : Same H H') : ChAt H' c es := by
  obtain ⟨ps, zs, h1, h2, h3⟩ := h
  exact ⟨ps, zs, s _ _ h1, L2.Paired.mapP h2 fun _ _ e => EntT.same e s, h3⟩
theorem ChAt.off {H H' : Hp} {c p : Addr} {xs : List V} {es : List ((Str × Int) × V)} (h : ChAt H c es) (hp : H p = some (.lst xs)) (hc : c ≠ p) (s : Off p H H') : ChAt H' c es := by
  obtain ⟨ps, zs, h1, h2, h3⟩ := h
  exact ⟨ps, zs, s _ _ hc h1, L2.Paired.mapP h2 fun _ _ e => ⟨s _ _ (ne_of e.1 hp (fun y => nomatch y)) e.1, s _ _ (ne_of e.2 hp (fun y => nomatch y)) e.2⟩, h3⟩
theorem off_upd {H : Hp} {c : Addr} {o : HO} : Off c H (upd H c o) := fun b u n e => (upd_ne n).trans e
/-- the dict of beginnings; its lists are none of av -/
def EntA (av : List Addr) (H : Hp) (kv : Key × V) (p : Str × List Int) : Prop := kv.1 = Sum.inr p.1 ∧ ∃ (l : Addr) (ms : List Int), kv.2 = .ref l ∧ l ∉ av ∧ H l = some (.lst (ms.map V.int)) ∧ p.2 = 0 :: ms
def BdA (av : List Addr) (H : Hp) (b : Addr) (L : List (Str × List Int)) : Prop := ∃ kvs : List (Key × V), H b = some (.dK kvs) ∧ Paired (EntA av H) kvs L
theorem BdA.same {av : List Addr} {H H' : Hp} {b : Addr} {L : List (Str × List Int)} (h : BdA av H b L) (s : Same H H') : BdA av H' b L := by
  obtain ⟨kvs, h1, h2⟩ := h
  refine ⟨kvs, s _ _ h1, L2.Paired.mapP h2 fun kv p e => ?_⟩
  obtain ⟨e0, l, ms, e1, e2, e3, e4⟩ := e
  exact ⟨e0, l, ms, e1, e2, s _ _ e3, e4⟩
theorem BdA.off {av : List Addr} {H H' : Hp} {b c : Addr} {xs : List V} {L : List (Str × List Int)} (h : BdA av H b L) (hc : c ∈ av) (hp : H c = some (.lst xs)) (s : Off c H H') : BdA av H' b L := by
  obtain ⟨kvs, h1, h2⟩ := h
  refine ⟨kvs, s _ _ (ne_of h1 hp (fun y => nomatch y)) h1, L2.Paired.mapP h2 fun kv p e => ?_⟩
  obtain ⟨e0, l, ms, e1, e2, e3, e4⟩ := e
  exact ⟨e0, l, ms, e1, e2, s _ _ (fun z => e2 (z ▸ hc)) e3, e4⟩
/-- what stands: the pen, the beginnings, the pairs, the words -/
structure LSt (p l : Addr) (cc : List Int) (bg ch du : Addr) (H : Hp) (n : Nat) (L : List (Str × List Int)) (es : List ((Str × Int) × V)) : Prop where
  pen : ∃ g, Pen H p l cc n g
  bd : BdA [p, ch, du] H bg L
  chs : ChAt H ch es
  dus : H du = some (.lst ((es.map entW).map V.str))
  ne : ch ≠ p ∧ du ≠ p ∧ ch ≠ du ∧ ch ≠ l ∧ du ≠ l
section
variable {p l bg ch du : Addr} {cc : List Int} {H H' : Hp} {n : Nat} {L : List (Str × List Int)} {es : List ((Str × Int) × V)}
theorem LSt.same (h : LSt p l cc bg ch du H n L es) (s : Same H H') : LSt p l cc bg ch du H' n L es := by
  obtain ⟨⟨g, a⟩, b, c, d, e⟩ := h
  exact ⟨⟨g, a.sm s⟩, b.same s, c.same s, s _ _ d, e⟩
theorem LSt.off (h : LSt p l cc bg ch du H n L es) {n' : Nat} {g' : Int} (s : Off p H H') (a' : Pen H' p l cc n' g') : LSt p l cc bg ch du H' n' L es := by
  obtain ⟨⟨g, a⟩, b, c, d, e⟩ := h
  exact ⟨⟨g', a'⟩, b.off (by simp) a.pen s, c.off a.pen e.1 s, s _ _ e.2.1 d, e⟩
/-- what else is kept: a list that is none of the three -/
def Kl (p ch du : Addr) (H : Hp) (c : Addr) (xs : List V) : Prop := H c = some (.lst xs) ∧ c ∉ [p, ch, du]
theorem Kl.same {c : Addr} {xs : List V} (h : Kl p ch du H c xs) (s : Same H H') : Kl p ch du H' c xs := ⟨s _ _ h.1, h.2⟩
theorem Kl.off {c : Addr} {xs : List V} (h : Kl p ch du H c xs) (s : Off p H H') : Kl p ch du H' c xs := ⟨s _ _ (fun z => h.2 (by simp [z])) h.1, h.2⟩
theorem Kl.offC {c : Addr} {xs : List V} (h : Kl p ch du H c xs) (s : Off ch H H') : Kl p ch du H' c xs := ⟨s _ _ (fun z => h.2 (by simp [z])) h.1, h.2⟩
theorem Kl.offD {c : Addr} {xs : List V} (h : Kl p ch du H c xs) (s : Off du H H') : Kl p ch du H' c xs := ⟨s _ _ (fun z => h.2 (by simp [z])) h.1, h.2⟩
theorem Kl.new {c : Addr} {xs : List V} (h : LSt p l cc bg ch du H n L es) (hc : H c = none) : Kl p ch du (upd H c (.lst xs)) c xs := by
  obtain ⟨⟨g, a⟩, b, ⟨ps, zs, c1, _⟩, d, e⟩ := h
  refine ⟨upd_same, fun hm => ?_⟩
  rcases List.mem_cons.mp hm with z | hm
  · rw [z, a.pen] at hc; cases hc
  rcases List.mem_cons.mp hm with z | hm
  · rw [z, c1] at hc; cases hc
  rw [List.mem_singleton.mp hm, d] at hc
  cases hc
/-- one more pair, one more word -/
theorem LSt.pair (h : LSt p l cc bg ch du H n L es) {k1 k2 : Addr} {e : (Str × Int) × V} {ps : List Addr} {zs : List (Addr × List Key × V)} (h1 : H ch = some (.lst (ps.map V.ref))) (h2 : Paired (EntT H) ps zs) (h3 : zs.map (·.2) = es.map fun e => (keyOf e.1, e.2))
    (q1 : H k1 = some (.tup [.str e.1.1, .int e.1.2])) (q2 : H k2 = some (.tup [.ref k1, e.2])) :
    LSt p l cc bg ch du (upd (upd H ch (.lst (ps.map V.ref ++ [.ref k2]))) du (.lst ((es.map entW).map V.str ++ [.str (entW e)]))) n L (es ++ [e]) := by
  obtain ⟨⟨g, a⟩, b, c, d, e1, e2, e3, e4, e5⟩ := h
  have d1 : upd H ch (.lst (ps.map V.ref ++ [.ref k2])) du = some (.lst ((es.map entW).map V.str)) := (upd_ne (Ne.symm e3)).trans d
  have tp : ∀ {t : Addr} {xs : List V}, H t = some (.tup xs) → upd (upd H ch (.lst (ps.map V.ref ++ [.ref k2]))) du (.lst ((es.map entW).map V.str ++ [.str (entW e)])) t = some (.tup xs) := fun ht =>
    (upd_ne (ne_of ht d (fun y => nomatch y))).trans ((upd_ne (ne_of ht h1 (fun y => nomatch y))).trans ht)
  refine ⟨⟨g, (a.up e1 e4).up e2 e5⟩, (b.off (by simp) h1 off_upd).off (by simp) d1 off_upd, ⟨ps ++ [k2], zs ++ [(k1, keyOf e.1, e.2)], ?_, ?_, ?_⟩, ?_, e1, e2, e3, e4, e5⟩
  · rw [upd_ne e3, upd_same, List.map_append]
    rfl
  · exact Paired.snoc (L2.Paired.mapP h2 fun _ _ y => ⟨tp y.1, tp y.2⟩) ⟨tp q2, tp q1⟩
  · rw [List.map_append, List.map_append, h3]
    rfl
  · rw [upd_same, List.map_append, List.map_append]
    rfl
end
/-- the beginnings drawn for a tool -/
def MsOk (ms : List Int) : Prop := ms.length ≤ 2 ∧ (∀ n ∈ ms, gBeg (.int n) = true) ∧ ms.Pairwise (· < ·)
theorem MsOk.b {ms : List Int} (h : MsOk ms) : ∀ n ∈ ms, 1 ≤ n ∧ n ≤ 1000000000000000000000000000000 := fun n hn => of_decide_eq_true (h.2.1 n hn)
/-- the drawn lives, the drawn turns -/
structure Drawn (L : List (Str × List Int)) (es : List ((Str × Int) × V)) : Prop where
  lok : ∀ z ns, (z, ns) ∈ L → ∃ ms, ns = 0 :: ms ∧ MsOk ms
  k : es.map (·.1) = lvs L
  e : ∀ e ∈ es, EOk e ∧ TurnOk L e.1 e.2
theorem TurnOk.more {L L' : List (Str × List Int)} {e : Str × Int} {v : V} (h : TurnOk L e v) (hs : ∀ q ∈ L, q ∈ L') : TurnOk L' e v := by
  rcases h with h | ⟨i, ns, h1, h2, h3, h4⟩
  · exact .inl h
  · exact .inr ⟨i, ns, h1, h2, hs _ h3, h4⟩
def titles : List Str := ["a", "aa", "b7"]
theorem titles_ok : (∀ z ∈ titles, isName z = true ∧ z.length ≤ 2000) ∧ titles.Nodup ∧ ∀ k, sortedS (titles.take k) = true := by
  refine ⟨by decide +kernel, by decide +kernel, fun k => ?_⟩
  match k with
  | 0 => decide +kernel
  | 1 => decide +kernel
  | 2 => decide +kernel
  | k + 3 =>
    rw [List.take_of_length_le (by show 3 ≤ k + 3; omega)]
    decide +kernel
theorem Drawn.ok {L : List (Str × List Int)} {es : List ((Str × Int) × V)} (h : Drawn L es) {k : Nat} (hk : L.map (·.1) = titles.take k) : LOk L where
  srt := by rw [hk]; exact titles_ok.2.2 k
  nd := by rw [hk]; exact titles_ok.2.1.sublist (List.take_sublist _ _)
  few := by
    have : L.length = (titles.take k).length := by rw [← hk, List.length_map]
    rw [this, List.length_take]
    exact Nat.lt_of_le_of_lt (Nat.min_le_right _ _) (by decide)
  ns := fun z ns hm => by
    obtain ⟨ms, rfl, h1, h2, h3⟩ := h.lok z ns hm
    have hz : z ∈ titles := by
      have : z ∈ L.map (·.1) := List.mem_map_of_mem (f := (·.1)) hm
      rw [hk] at this
      exact List.mem_of_mem_take this
    exact ⟨(titles_ok.1 z hz).1, (titles_ok.1 z hz).2, ms, rfl, by omega, h2, h3⟩
theorem Drawn.few {L : List (Str × List Int)} {es : List ((Str × Int) × V)} (h : Drawn L es) {k : Nat} (hk : L.map (·.1) = titles.take k) : es.length ≤ 9 := by
  have e1 : es.length = (lvs L).length := by rw [← h.k, List.length_map]
  have e2 := lvs_len (L := L) (m := 3) fun q hq => by
    obtain ⟨ms, e, h1, _⟩ := h.lok q.1 q.2 hq
    rw [e, List.length_cons]
    omega
  have e3 : L.length ≤ 3 := by
    have : L.length = (titles.take k).length := by rw [← hk, List.length_map]
    rw [this, List.length_take]
    exact Nat.min_le_right _ _
  omega
theorem keys_ent {av : List Addr} {H : Hp} : ∀ {kvs : List (Key × V)} {L : List (Str × List Int)}, Paired (EntA av H) kvs L → kvs.map (·.1) = (L.map (·.1)).map Sum.inr
  | _, _, .nil => rfl
  | _, _, .cons h t => by
    rw [List.map_cons, List.map_cons, List.map_cons, keys_ent t, h.1]
theorem inr_mem {z : Str} {l : List Str} (h : (Sum.inr z : Key) ∈ l.map Sum.inr) : z ∈ l := by
  obtain ⟨y, hy, e⟩ := List.mem_map.mp h
  exact Sum.inr.inj e ▸ hy
section
variable {p l bg ch du : Addr} {cc : List Int} {H H' : Hp} {n : Nat} {L : List (Str × List Int)} {es : List ((Str × Int) × V)}
theorem LSt.begin (h : LSt p l cc bg ch du H n L es) {z : Str} {tk : Addr} {ms : List Int} {kvs : List (Key × V)} (hb : H bg = some (.dK kvs)) (hp : Paired (EntA [p, ch, du] H) kvs L) (hz : z ∉ L.map (·.1)) (hk : Kl p ch du H tk (ms.map V.int)) :
    LSt p l cc bg ch du (upd H bg (.dK (putK kvs (.inr z) (.ref tk)))) n (L ++ [(z, 0 :: ms)]) es := by
  obtain ⟨⟨g, a⟩, b, ⟨ps, zs, c1, c2, c3⟩, d, e⟩ := h
  have hf : valV kvs (.inr z) = none := valV_out fun hin => by
    rw [keys_ent hp] at hin
    exact hz (inr_mem hin)
  rw [putK_new _ hf]
  have nl : ∀ {c : Addr} {xs : List V}, H c = some (.lst xs) → upd H bg (.dK (kvs ++ [(.inr z, .ref tk)])) c = some (.lst xs) := fun hc => (upd_ne (ne_of hc hb (fun y => nomatch y))).trans hc
  have nt : ∀ {c : Addr} {xs : List V}, H c = some (.tup xs) → upd H bg (.dK (kvs ++ [(.inr z, .ref tk)])) c = some (.tup xs) := fun hc => (upd_ne (ne_of hc hb (fun y => nomatch y))).trans hc
  refine ⟨⟨g, nl a.pen, nl a.cells, a.left⟩, ⟨_, upd_same, ?_⟩, ⟨ps, zs, nl c1, L2.Paired.mapP c2 fun _ _ y => ⟨nt y.1, nt y.2⟩, c3⟩, nl d, e⟩
  refine Paired.snoc (L2.Paired.mapP hp fun kv p e => ?_) ⟨rfl, tk, ms, rfl, hk.2, nl hk.1, rfl⟩
  obtain ⟨e0, l, ms, e1, e2, e3, e4⟩ := e
  exact ⟨e0, l, ms, e1, e2, nl e3, e4⟩
theorem Kl.begin {c : Addr} {xs : List V} (h : Kl p ch du H c xs) {kvs kvs' : List (Key × V)} (hb : H bg = some (.dK kvs)) : Kl p ch du (upd H bg (.dK kvs')) c xs := ⟨(upd_ne (ne_of h.1 hb (fun y => nomatch y))).trans h.1, h.2⟩
end
theorem empty_app (x : Str) : Str.empty ++ x = x := by
  show (⟨#[] ++ x.cps⟩ : Str) = x
  simp
theorem lvs_snoc (L : List (Str × List Int)) (z : Str) (ns : List Int) : lvs (L ++ [(z, ns)]) = lvs L ++ ns.map fun n => (z, n) := by
  unfold lvs
  rw [List.flatMap_append]
  simp
theorem keys_nodup {L : List (Str × List Int)} {es : List ((Str × Int) × V)} (dr : Drawn L es) (ok : LOk L) : ((es.map fun e => (keyOf e.1, e.2)).map (·.1)).Nodup := by
  have e : (es.map fun e => (keyOf e.1, e.2)).map (·.1) = (lvs L).map keyOf := by
    rw [← dr.k, List.map_map, List.map_map]
    rfl
  rw [e]
  exact List.Pairwise.map _ (fun a b h e => h (keyOf_inj e)) ok.lnd
theorem hist_pre {L : List (Str × List Int)} {es : List ((Str × Int) × V)} {kvs : List (List Key × V)} (dr : Drawn L es) (ok : LOk L) (hp : kvs.Perm (es.map fun e => (keyOf e.1, e.2))) :
    mergeT [] kvs = kvs ∧ kvs.length = (lvs L).length ∧ (∀ kv ∈ kvs, ∃ e ∈ lvs L, kv.1 = keyOf e) ∧ (∀ e ∈ lvs L, ∃ v, valV kvs (keyOf e) = some v ∧ TurnOk L e v) ∧ ((lvs L).map fun e => (e, (valV kvs (keyOf e)).getD .non)) = es := by
  have nd : (kvs.map (·.1)).Nodup := ((hp.map (·.1)).nodup_iff).mpr (keys_nodup dr ok)
  have hv : ∀ e ∈ es, valV kvs (keyOf e.1) = some e.2 := fun e he => valV_mem nd (hp.mem_iff.mpr (List.mem_map.mpr ⟨e, he, rfl⟩))
  refine ⟨by rw [mergeT_nodup _ _ (by rw [List.nil_append]; exact nd), List.nil_append], by rw [hp.length_eq, List.length_map, ← dr.k, List.length_map], fun kv hk => ?_, fun e he => ?_, back_es dr.k hv⟩
  · obtain ⟨e, he, rfl⟩ := List.mem_map.mp (hp.mem_iff.mp hk)
    exact ⟨e.1, by rw [← dr.k]; exact List.mem_map_of_mem (f := (·.1)) he, rfl⟩
  · rw [← dr.k] at he
    obtain ⟨e', he', rfl⟩ := List.mem_map.mp he
    exact ⟨e'.2, hv e' he', (dr.e e' he').2⟩
theorem paired_r {α β : Type} {F : α → β → Prop} : ∀ {l₁ : List α} {l₂ : List β}, Paired F l₁ l₂ → ∀ b ∈ l₂, ∃ a ∈ l₁, F a b
  | _, _, .nil, b, h => nomatch h
  | _, _, .cons (a := a) h t, b, hb => by
    rcases List.mem_cons.mp hb with e | e
    · subst e
      exact ⟨a, List.mem_cons_self, h⟩
    · obtain ⟨a', h1, h2⟩ := paired_r t b e
      exact ⟨a', List.mem_cons_of_mem _ h1, h2⟩
theorem srt_self {ms : List Int} (h : ms.Pairwise (· < ·)) : srt ms = ms := (srt_one h fun _ => Iff.rfl).symm
theorem ka_nodup {av : List Addr} {H : Hp} {kvs : List (Key × V)} {L : List (Str × List Int)} (hp : Paired (EntA av H) kvs L) (nd : (L.map (·.1)).Nodup) : (kvs.map (·.1)).Nodup := by
  rw [keys_ent hp]
  exact List.Pairwise.map _ (fun _ _ h e => h (Sum.inr.inj e)) nd
theorem BdA.bg {K : PySem.W.Frag} {av : List Addr} {H : Hp} {b : Addr} {L : List (Str × List Int)} {es : List ((Str × Int) × V)} (h : BdA av H b L) (dr : Drawn L es) (ok : LOk L) : BgAt K H b L := by
  obtain ⟨kvs, h1, h2⟩ := h
  refine ⟨kvs, L.map (·.1), h1, keys_ent h2, .refl _, fun z ns hm => ?_⟩
  obtain ⟨kv, hk, e0, l, ms, e1, e2, e3, e4⟩ := paired_r h2 (z, ns) hm
  obtain ⟨ms', e5, m1, m2, m3⟩ := dr.lok z ns hm
  have e4 : ns = 0 :: ms := e4
  rw [e4] at e5
  injection e5 with _ e6
  subst e6
  obtain ⟨k1, k2⟩ := kv
  have e0 : k1 = Sum.inr z := e0
  have e1 : k2 = .ref l := e1
  subst e0 e1
  exact ⟨l, ms, valV_mem (ka_nodup h2 ok.nd) hk, SqL.of e3, by omega, m2, by rw [srt_self m3]; exact e4⟩
theorem newS {H : Hp} {x dx C : Addr} (h1 : H x = none) (h2 : H dx = none) : Same H (upd (upd H dx (.own x)) x (.ins C dx [])) := fun c o e => by
  rw [upd_ne (ne_of_none e h1), upd_ne (ne_of_none e h2)]
  exact e
theorem paired_rev {α β : Type} {F : α → β → Prop} : ∀ {l₁ : List α} {l₂ : List β}, Paired F l₁ l₂ → Paired F l₁.reverse l₂.reverse
  | _, _, .nil => .nil
  | _, _, .cons h t => by
    rw [List.reverse_cons, List.reverse_cons]
    exact Paired.snoc (paired_rev t) h
theorem mergeK_nodup : ∀ (more acc : List (Key × V)), ((acc ++ more).map (·.1)).Nodup → mergeK acc more = acc ++ more
  | [], acc, _ => by simp [mergeK]
  | p :: r, acc, nd => by
    have hf : valV acc p.1 = none := valV_out fun hin => by
      rw [List.map_append, List.map_cons, List.nodup_append] at nd
      exact nd.2.2 p.1 hin p.1 List.mem_cons_self rfl
    show mergeK (putK acc p.1 p.2) r = _
    rw [putK_new _ hf, mergeK_nodup r _ (by rw [List.append_assoc]; exact nd), List.append_assoc]
    rfl
/-- a pair of a tool and its ticks turned about -/
def PairR (D : Addr) (H : Hp) (q : Addr) (p : Str × List Int) : Prop := ∃ (r : Addr) (ms : List Int), r ≠ D ∧ H q = some (.tup [.str p.1, .ref r]) ∧ H r = some (.lst (ms.map V.int).reverse) ∧ ms.length < 64 ∧ (∀ n ∈ ms, gBeg (.int n) = true) ∧ p.2 = 0 :: srt ms
def EntR (H : Hp) (kv : Key × V) (p : Str × List Int) : Prop := kv.1 = Sum.inr p.1 ∧ ∃ (r : Addr) (ms : List Int), kv.2 = .ref r ∧ H r = some (.lst (ms.map V.int).reverse) ∧ ms.length < 64 ∧ (∀ n ∈ ms, gBeg (.int n) = true) ∧ p.2 = 0 :: srt ms
theorem PairR.same {D : Addr} {H H' : Hp} {q : Addr} {p : Str × List Int} (h : PairR D H q p) (s : Same H H') : PairR D H' q p := by
  obtain ⟨r, ms, h0, h1, h2, h3⟩ := h
  exact ⟨r, ms, h0, s _ _ h1, s _ _ h2, h3⟩
theorem PairR.up {D : Addr} {H : Hp} {q : Addr} {p : Str × List Int} {xs : List V} {o : HO} (h : PairR D H q p) (hD : H D = some (.lst xs)) : PairR D (upd H D o) q p := by
  obtain ⟨r, ms, h0, h1, h2, h3⟩ := h
  exact ⟨r, ms, h0, (upd_ne (ne_of h1 hD (fun y => nomatch y))).trans h1, (upd_ne h0).trans h2, h3⟩
theorem pairR_ent {K : PySem.W.Frag} {D : Addr} {H : Hp} : ∀ {qs : List Addr} {L : List (Str × List Int)}, Paired (PairR D H) qs L → ∃ kvl : List (Key × V), Paired (fun p kv => SqT K H p [kV kv.1, kv.2]) qs kvl ∧ Paired (EntR H) kvl L ∧ kvl.map (·.1) = (L.map (·.1)).map Sum.inr
  | _, _, .nil => ⟨[], .nil, .nil, rfl⟩
  | _, _, .cons (b := p) h t => by
    obtain ⟨kvl, h1, h2, h3⟩ := pairR_ent (K := K) t
    obtain ⟨r, ms, _, e1, e2, e3⟩ := h
    exact ⟨(Sum.inr p.1, .ref r) :: kvl, .cons (SqT.of e1) h1, .cons ⟨rfl, r, ms, rfl, e2, e3⟩ h2, by rw [List.map_cons, List.map_cons, List.map_cons, h3]⟩
theorem back_bg {K : PySem.W.Frag} {H : Hp} {bk : Addr} {kvl : List (Key × V)} {L : List (Str × List Int)} (ok : LOk L) (hb : H bk = some (.dK kvl)) (hp : Paired (EntR H) kvl L.reverse) (hk : kvl.map (·.1) = (L.reverse.map (·.1)).map Sum.inr) (nd : (kvl.map (·.1)).Nodup) : BgAt K H bk L := by
  refine ⟨kvl, L.reverse.map (·.1), hb, hk, ?_, fun z ns hm => ?_⟩
  · rw [List.map_reverse]
    exact List.reverse_perm _
  · obtain ⟨kv, hkv, e0, r, ms, e1, e2, e3, e4, e5⟩ := paired_r hp (z, ns) (List.mem_reverse.mpr hm)
    obtain ⟨k1, k2⟩ := kv
    have e0 : k1 = Sum.inr z := e0
    have e1 : k2 = .ref r := e1
    subst e0 e1
    refine ⟨r, ms.reverse, valV_mem nd hkv, ?_, by rw [List.length_reverse]; exact e3, fun n hn => e4 n (List.mem_reverse.mp hn), ?_⟩
    · rw [List.map_reverse]
      exact SqL.of e2
    · rw [show srt ms.reverse = srt ms from (srt_one (srt_asc ms) fun k => srt_mem.trans List.mem_reverse.symm).symm]
      exact e5
end K30

/-! a part of an expression walked by itself: what follows it is said once -/
namespace So
open PySem PySem.Spec PyProof.Rows L2
theorem pe_cut {X : Cx} {e : Expr} {t : TE} (h : PE X e t) : PE X e (fun σ H Q => ∃ Q0 : VK, t σ H Q0 ∧ ∀ v H', Q0 v H' → Q v H') :=
  ⟨fun pins s σ H Q I ⟨Q0, h1, h2⟩ => thn (h.run pins s σ H Q0 I h1) fun u s' ⟨v, H', I', r, q⟩ => ⟨v, H', I', r, h2 v H' q⟩⟩
end So

namespace So
open PySem PySem.Spec PyProof.Rows L2
/-! a list turned about, inside a block -/
theorem pe_revLK {X : Cx} {K : PySem.W.Frag} {e : Expr} {te : TE} {k : Nat} {p1 p2 p3 pos : Pos} (h : X.K = K) (he : PE X e te) : PE X (.Subscript e (.Slice none none (some (.UnaryOp .USub (.Constant (.int 1) k p1) p2)) p3) pos) (tRevL K te) := by
  subst h
  exact pe_revL he
end So

namespace K30
open PySem PySem.Spec PyProof.Rows L2 So StX TL
/-- a row walked by itself: what follows it is said once -/
theorem ps_cut {X : Cx} {st : Stmt} {t : TS} (h : PS X st t) : PS X st (fun D σ H => ∃ N : L2.St → Hp → Prop, t { D with nx := N } σ H ∧ ∀ σ' H', N σ' H' → D.nx σ' H') :=
  ⟨fun pins s σ H D I ⟨N, h1, h2⟩ => wpAny_mono (h.run pins s σ H { D with nx := N } I h1) (fun fl s' z => by
    cases fl with
    | next =>
      obtain ⟨σ', H', I', q⟩ := z
      exact ⟨σ', H', I', h2 _ _ q⟩
    | ret v => exact z
    | brk => exact z
    | cont => exact z) fun _ _ z => z⟩
theorem cut63 (xs : List V) : cutV xs none (some 63) = xs.take 63 := by
  unfold cutV
  rw [HT.sIx_none, show HT.sIx xs.length xs.length (some 63) = min 63 xs.length from HT.sIx_nat xs.length xs.length 63]
  simp
abbrev sLaw : Stmt := topS 29
abbrev lawN : List Str := ["_law_script", "_law_pen_here", "_law_turn", "_law_begun", "_law_chosen", "_law_due", "_law_title", "_law_ticks", "_law_ends", "_law_at", "_law_low", "_law_turned", "_law_text", "_law_back", "_law_again", "_law_tick", "_law_key"]
theorem scLaw : FnScope lawN ["_law_script"] (defScope sLaw) := ⟨rfl, rfl, rfl, by decide +kernel, rfl, by decide +kernel, by decide +kernel⟩
structure LivM (P : Program) (w : World) (K : PySem.W.Frag) (mg : Str → Option Value) (base : Heap) (C f : Addr) (fd : FuncData) : Prop where
  T : Lvs K mg C
  M : Mk K C f
  b : Binds K fd ["self", "begun"] []
  G : FnOk P w K mg base CX0 5 f fd ["self", "begun"] (spLInit K C)
structure HisM (P : Program) (w : World) (K : PySem.W.Frag) (mg : Str → Option Value) (base : Heap) (CL C f : Addr) (fd : FuncData) (fS : Addr) (fdS : FuncData) : Prop where
  T : Hsts K mg C
  M : Mk K C f
  b : Binds K fd ["self", "lives", "turns"] []
  G : FnOk P w K mg base CX0 6 f fd ["self", "lives", "turns"] (spHInit CL C)
  s : PySem.W.findIn K (.ref C) "__str__" = some (some (.ref fS))
  i : PySem.W.isFn K (.ref fS) = true
  bS : Binds K fdS ["self"] []
  GS : FnOk P w K mg base CX0 2 fS fdS ["self"] (spHStr C)
structure WordsW (mg : Str → Option Value) : Prop where
  rng : mg "range" = none
  rpr : mg "repr" = none
  enm : mg "enumerate" = none
  str : mg "str" = none
section
variable {P : Program} {w : World} {K : PySem.W.Frag} {mg : Str → Option Value} {base : Heap}
def spPen (K : PySem.W.Frag) : Sp := fun vs H Q _ => ∃ (a : Addr) (ns : List Int), vs = [.ref a] ∧ SqL K H a (ns.map V.int) ∧ ∀ (H' : Hp) (p l : Addr) (ns' : List Int), Same H H' → Pen H' p l ns' 0 0 → Q (.ref p) H'
theorem ok_pen {f : Addr} {fd : FuncData} (F : Fun K "_law_pen" "_law_pen" sPen f fd) (ml : mg "list" = none) : FnOk P w K mg base CX0 1 f fd ["_law_script"] (spPen K) := by
  refine F.ok scPen (fun vs H Q E h => ?_) (fun cdv A outer s H vs Q E hr h => ?_)
  · obtain ⟨a, ns, rfl, _⟩ := h
    rfl
  · obtain ⟨a, ns, rfl, hS, q⟩ := h
    refine ⟨_, pss_one (ps_ret (pe_lst (pa_cons (pe_callTy call_list_of (by rfl) ml (by decide +kernel) (pa_cons (pe_slice sl_list (pv 0) po_none (po_some pe_int)) pa_nil)) (pa_cons pe_int (pa_cons pe_int pa_nil))))), ?_⟩
    refine ⟨_, rfl, 63, rfl, a, ns.map V.int, rfl, hS, fun c hc => ?_⟩
    rw [cut63, ← List.map_take]
    refine ⟨c, _, rfl, .inl (SqL.of upd_same), fun l hl => ?_⟩
    refine ⟨by show 3 ≤ sizeLine; decide, fun p hp => ?_⟩
    have s1 : Same H (upd (upd (upd H c (.lst ((ns.take 63).map V.int))) l (.lst ((ns.take 63).map V.int))) p (.lst [.ref l, .int 0, .int 0])) := by
      refine ((same_upd0 hc).trans (same_upd0 hl)).trans (same_upd0 hp)
    have nlp : l ≠ p := fun e => by
      rw [e, upd_same] at hp
      cases hp
    exact q _ p l (ns.take 63) s1 ⟨upd_same, (upd_ne nlp).trans upd_same, Int.le_refl 0⟩
def spLaw (K : PySem.W.Frag) : Sp := fun vs H Q _ => ∃ (a : Addr) (ns : List Int), vs = [.ref a] ∧ SqL K H a (ns.map V.int) ∧ ∀ H', Q (.bl true) H'
theorem ok_law {CL CH f fV fH fS fPen fD fPk : Addr} {fd fdV fdH fdS fdPen fdD fdPk : FuncData} (F : Fun K "law" "law" sLaw f fd) (LV : LivM P w K mg base CL fV fdV) (HV : HisM P w K mg base CL CH fH fdH fS fdS) (L : WordsL mg) (N : WordsW mg)
    (FPen : Fun K "_law_pen" "_law_pen" sPen fPen fdPen) (bPen : Binds K fdPen ["_law_script"] []) (gPen : mg "_law_pen" = some (.ref fPen)) (GPen : FnOk P w K mg base CX0 1 fPen fdPen ["_law_script"] (spPen K))
    (FD : Fun K "_law_draw" "_law_draw" sDraw fD fdD) (bD : Binds K fdD ["_law_pen_here", "_law_many"] []) (gD : mg "_law_draw" = some (.ref fD)) (GD : FnOk P w K mg base CX0 1 fD fdD ["_law_pen_here", "_law_many"] spDraw)
    (FPk : Fun K "_law_pick" "_law_pick" sPick fPk fdPk) (bPk : Binds K fdPk ["_law_pen_here", "_law_some"] []) (gPk : mg "_law_pick" = some (.ref fPk)) (GPk : FnOk P w K mg base CX0 2 fPk fdPk ["_law_pen_here", "_law_some"] (spPick K)) :
    FnG P w K mg base CX0 10 f fd ["_law_script"] (spLaw K) := by
  refine fnG_of F scLaw (fun vs H Q E h => ?_) (fun cdv A outer s H vs Q E hg hr h => ?_)
  · obtain ⟨_, _, rfl, _⟩ := h
    rfl
  · obtain ⟨a0, sns, rfl, hS, q⟩ := h
    have hr1 : Room 1 _ := hr.mono (by decide)
    have hr2 : Room 2 _ := hr.mono (by decide)
    have hr4 : Room 4 _ := hr.mono (by decide)
    have hr6 : Room 6 _ := hr.mono (by decide)
    have hr7 : Room 7 _ := hr.mono (by decide)
    refine ⟨_, (pss_cons (ps_set (i := 1) scLaw.nd rfl (.inr rfl) (pe_call GPen hr1 (by rfl) gPen FPen.kp bPen .nil pass0 (pa_cons (pv 0) pa_nil)))
      (pss_cons (ps_for PassesOwn.never rfl (pi_range1 (by rfl) N.rng (pa_cons pe_int pa_nil)) (pg_name (i := 2) scLaw.nd rfl (Or.inl rfl))
        (pss_cons (ps_asg (pe_tup (pa_cons pe_dnewK (pa_cons (pe_lst pa_nil) (pa_cons (pe_lst pa_nil) pa_nil)))) (pg_tup rfl (pgs_cons (pg_name (i := 3) scLaw.nd rfl (Or.inr rfl)) (pgs_cons (pg_name (i := 4) scLaw.nd rfl (Or.inl rfl)) (pgs_cons (pg_name (i := 5) scLaw.nd rfl (Or.inl rfl)) pgs_nil)))))
        (pss_cons (ps_for PassesOwn.never rfl (pi_list (pe_slice sl_list (pe_lst (pa_cons pe_str (pa_cons pe_str (pa_cons pe_str pa_nil)))) po_none (po_some (pe_call GD hr1 (by rfl) gD FD.kp bD .nil pass0 (pa_cons (pv 1) (pa_cons pe_int pa_nil)))))) (pg_name (i := 6) scLaw.nd rfl (Or.inl rfl))
          (pss_cons (ps_cut (ps_set (i := 7) scLaw.nd rfl (.inl rfl) (pe_callB (cr_sortedSet rfl) (by rfl) L.sorted (by decide +kernel) (pa_cons (pe_callTy (cr_setI rfl) (by rfl) L.set (by decide +kernel) (pa_cons (pe_lc (own := [("_law_again", 14)]) (g := gName 14) (tt := tYes) rfl scLaw.nd (pi_range1 (by rfl) N.rng (pa_cons (pe_call GD hr1 (by rfl) gD FD.kp bD .nil pass0 (pa_cons (pv 1) (pa_cons pe_int pa_nil))) pa_nil)) (blkOk_by (N := lawN) (sc := defScope sLaw) (by decide +kernel)) (fun _ _ _ _ _ => pg_name (i := 14) scLaw.nd rfl (Or.inl rfl)) (fun _ _ _ _ _ => pts_nil)
              (fun _ _ _ _ _ => pe_call GPk hr2 (by rfl) gPk FPk.kp bPk .nil pass0 (pa_cons (pv 1) (pa_cons (pe_lst (pa_cons pe_int (pa_cons pe_int (pa_cons pe_int (pa_cons pe_int (pa_cons (pe_op op_pow pe_int pe_int) pa_nil)))))) pa_nil)))) pa_nil)) pa_nil))))
          (pss_cons (ps_dput (hu_of hr) (pv 3) (pv 6) (pv 7) rfl)
          (pss_cons (ps_cut (ps_set (i := 8) scLaw.nd rfl (.inl rfl) (pe_op op_cat (pe_lc (own := [("_law_tick", 15)]) (g := gName 15) (tt := tYes) rfl scLaw.nd (pi_list (pv 7)) (blkOk_by (N := lawN) (sc := defScope sLaw) (by decide +kernel)) (fun _ _ _ _ _ => pg_name (i := 15) scLaw.nd rfl (Or.inl rfl)) (fun _ _ _ _ _ => pts_nil) (fun _ _ _ _ _ => pe_op op_sub (pv 15) pe_int)) (pe_lst (pa_cons (pe_op op_pow pe_int pe_int) pa_nil)))))
          (pss_one (ps_for PassesOwn.never rfl (pi_enum (by rfl) N.enm (pa_cons (pe_op op_cat (pe_lst (pa_cons pe_int pa_nil)) (pv 7)) pa_nil)) (pg_tup rfl (pgs_cons (pg_name (i := 9) scLaw.nd rfl (Or.inl rfl)) (pgs_cons (pg_name (i := 10) scLaw.nd rfl (Or.inl rfl)) pgs_nil)))
            (pss_cons (ps_set (i := 11) scLaw.nd rfl (.inl rfl) (pe_call GPk hr2 (by rfl) gPk FPk.kp bPk .nil pass0 (pa_cons (pv 1) (pa_cons (pe_lst (pa_cons pe_non (pa_cons (pv 10) (pa_cons (pe_ix ix_list (pv 8) (pv 9) (fun _ _ => rfl)) (pa_cons (pe_op op_add (pv 10) (pe_call GD hr1 (by rfl) gD FD.kp bD .nil pass0 (pa_cons (pv 1) (pa_cons (pe_op op_add (pe_op op_sub (pe_ix ix_list (pv 8) (pv 9) (fun _ _ => rfl)) (pv 10)) pe_int) pa_nil)))) pa_nil))))) pa_nil))))
            (pss_cons (ps_expr (pe_bm PySem.F.plainAttrs_list PySem.F.slot_list_append PySem.F.type_list_append mt_append (pv 4) (pa_cons (pe_tup (pa_cons (pe_tup (pa_cons (pv 6) (pa_cons (pv 10) pa_nil))) (pa_cons (pv 11) pa_nil))) pa_nil)))
            (pss_one (ps_expr (pe_bm PySem.F.plainAttrs_list PySem.F.slot_list_append PySem.F.type_list_append mt_append (pv 5) (pa_cons (pe_op op_add_str (pe_op op_add_str (pe_op op_add_str (pe_op op_add_str (pv 6) pe_str) (pe_callTy call_str_int (by rfl) N.str (by decide +kernel) (pa_cons (pv 10) pa_nil))) pe_str) (pe_ifExp (pt_cmpR op_isN (pv 11) pe_non (nomark _)) pe_str (pe_callTy call_str_int (by rfl) N.str (by decide +kernel) (pa_cons (pv 11) pa_nil)))) pa_nil))))))))))))
        (pss_cons (ps_cut (ps_set (i := 12) scLaw.nd rfl (.inl rfl) (pe_ifExp (pt_cmpR (op_neNil hr.units0) (pv 5) (pe_lst pa_nil) (nomark _)) (pe_join pe_str (pv 5)) pe_str)))
        (pss_cons (ps_cut (ps_if (pt_cmpR op_ne (pe_callB (call_reprD hg hr.units) (by rfl) N.rpr (by decide +kernel) (pa_cons (pe_callTy (call_strOwn HV.GS HV.s HV.i HV.bS pass0 hr4) (by rfl) N.str (by decide +kernel) (pa_cons (pe_make HV.M HV.G hr7 (by rfl) HV.T.mgC HV.b .nil pass0 (pa_cons (pe_make LV.M LV.G hr6 (by rfl) LV.T.mgC LV.b .nil pass0 (pa_cons (pv 3) pa_nil)) (pa_cons (pe_callTy (call_dictPT rfl hr.units) (by rfl) L.dict (by decide +kernel) (pa_cons (pv 4) pa_nil)) pa_nil))) pa_nil)) pa_nil)) (pe_callB (call_reprD hg hr.units) (by rfl) N.rpr (by decide +kernel) (pa_cons (pv 12) pa_nil)) (nomark _)) pss_dead pss_nil))
        (pss_cons (ps_cut (ps_set (i := 13) scLaw.nd rfl (.inl rfl) (pe_callTy (call_dictP rfl) (by rfl) L.dict (by decide +kernel) (pa_cons (pe_lc (own := [("_law_title", 6)]) (g := gName 6) (tt := tYes) rfl scLaw.nd (pi_list (pe_revL (pe_callB cr_sortedS (by rfl) L.sorted (by decide +kernel) (pa_cons (pe_lock (pe_lc (own := [("_law_key", 16)]) (g := gName 16) (tt := tYes) rfl scLaw.nd (pi_keys (pv 3)) (blkOk_by (N := lawN) (sc := defScope sLaw) (by decide +kernel)) (fun _ _ _ _ _ => pg_name (i := 16) scLaw.nd rfl (Or.inl rfl)) (fun _ _ _ _ _ => pts_nil) (fun _ _ _ _ _ => pe_callTy SkE.call_str_str (by rfl) N.str (by decide +kernel) (pa_cons (pv 16) pa_nil)))) pa_nil))))
            (blkOk_by (N := lawN) (sc := defScope sLaw) (by decide +kernel)) (fun _ _ _ _ _ => pg_name (i := 6) scLaw.nd rfl (Or.inl rfl)) (fun _ _ _ _ _ => pts_nil) (fun _ _ _ _ _ => pe_tup (pa_cons (pv 6) (pa_cons (pe_revLK (K := K) rfl (pe_dget (hu_of hr) (pv 3) (pv 6) (fun _ _ => rfl))) pa_nil)))) pa_nil))))
        (pss_one (ps_cut (ps_if (pt_cmpR op_ne (pe_callB (call_reprD hg hr.units) (by rfl) N.rpr (by decide +kernel) (pa_cons (pe_callTy (call_strOwn HV.GS HV.s HV.i HV.bS pass0 hr4) (by rfl) N.str (by decide +kernel) (pa_cons (pe_make HV.M HV.G hr7 (by rfl) HV.T.mgC HV.b .nil pass0 (pa_cons (pe_make LV.M LV.G hr6 (by rfl) LV.T.mgC LV.b .nil pass0 (pa_cons (pv 13) pa_nil)) (pa_cons (pe_callTy (call_dictPT rfl hr.units) (by rfl) L.dict (by decide +kernel) (pa_cons (pe_revL (pv 4)) pa_nil)) pa_nil))) pa_nil)) pa_nil)) (pe_callB (call_reprD hg hr.units) (by rfl) N.rpr (by decide +kernel) (pa_cons (pv 12) pa_nil)) (nomark _)) pss_dead pss_nil)))))))))
      (pss_one (ps_ret pe_bl)))), ?_⟩
    have hss := sizeLine_eq
    refine ⟨_, rfl, a0, sns, rfl, hS, fun H1 p l cc s1 pen1 => ?_⟩
    refine ⟨5, rfl, by decide, by decide, for_range (lo := 0) (n := 5) (fun i σ H' => ∃ x2 x3 x4 x5 x6 x7 x8 x9 x10 x11 x12 x13 n' g', σ = [some (.ref a0), some (.ref p), x2, x3, x4, x5, x6, x7, x8, x9, x10, x11, x12, x13, none, none, none] ∧ Pen H' p l cc n' g' ∧ n' ≤ 60 * i)
      ⟨none, none, none, none, none, none, none, none, none, none, none, none, 0, 0, rfl, pen1, Nat.zero_le _⟩ ?_ ?_⟩
    case refine_2 =>
      rintro σ H2 ⟨x2, x3, x4, x5, x6, x7, x8, x9, x10, x11, x12, x13, n', g', rfl, _⟩
      exact q _
    rintro i σ H2 hi ⟨x2, x3, x4, x5, x6, x7, x8, x9, x10, x11, x12, x13, n2, g2, rfl, pen2, hn2⟩
    -- the empty dict and lists
    refine fun bg hbg => ⟨by show 0 ≤ sizeLine; omega, fun ch hch => ⟨by show 0 ≤ sizeLine; omega, fun du hdu => ⟨by show 3 ≤ sizeLine; omega, fun tt htt => ?_⟩⟩⟩
    refine ⟨tt, _, rfl, SqT.of upd_same, rfl, _, _, rfl, _, _, rfl, _, _, rfl, rfl, ?_⟩
    have sa : Same H2 (upd H2 bg (.dK [])) := same_upd0 hbg
    have sb : Same (upd H2 bg (.dK [])) (upd (upd H2 bg (.dK [])) ch (.lst [])) := same_upd0 hch
    have sc : Same (upd (upd H2 bg (.dK [])) ch (.lst [])) (upd (upd (upd H2 bg (.dK [])) ch (.lst [])) du (.lst [])) := same_upd0 hdu
    have sd := same_upd0 (o := .tup [.ref bg, .ref ch, .ref du]) htt
    have st3 : LSt p l cc bg ch du (upd (upd (upd (upd H2 bg (.dK [])) ch (.lst [])) du (.lst [])) tt (.tup [.ref bg, .ref ch, .ref du])) n2 [] [] := by
      refine ⟨⟨g2, pen2.sm (((sa.trans sb).trans sc).trans sd)⟩, ⟨[], sd _ _ (sc _ _ (sb _ _ upd_same)), .nil⟩, ⟨[], [], sd _ _ (sc _ _ upd_same), .nil, rfl⟩, sd _ _ upd_same, (pen2.sm sa).nw hch, (pen2.sm (sa.trans sb)).nw hdu, fun z => ?_, fun z => ?_, fun z => ?_⟩
      · rw [← z, upd_same] at hdu; cases hdu
      · rw [z, (pen2.sm sa).cells] at hch; cases hch
      · rw [z, (pen2.sm (sa.trans sb)).cells] at hdu; cases hdu
    revert st3
    generalize upd (upd (upd (upd H2 bg (.dK [])) ch (.lst [])) du (.lst [])) tt (.tup [.ref bg, .ref ch, .ref du]) = H3
    intro st3
    clear sa sb sc sd htt hdu hch hbg pen2
    -- the titles
    refine ⟨by show 3 ≤ sizeLine; omega, fun t3 ht3 => ?_⟩
    have st4 := st3.same (same_upd0 (o := .lst [V.str "a", .str "aa", .str "b7"]) ht3)
    have kt := Kl.new (xs := [V.str "a", .str "aa", .str "b7"]) st3 ht3
    revert st4 kt
    generalize upd H3 t3 (.lst [V.str "a", .str "aa", .str "b7"]) = H4
    intro st4 kt
    obtain ⟨⟨g4, pen4⟩, _⟩ := id st4
    refine ⟨_, rfl, p, l, cc, n2, g4, 4, rfl, pen4, by omega, by decide, by decide, fun d n5 g5 H5 hd0 hd4 hn5 off5 pen5 => ?_⟩
    have st5 := st4.off off5 pen5
    have kt5 := kt.off off5
    refine ⟨d, rfl, t3, _, rfl, SqL.of kt5.1, fun tl htl => ?_⟩
    have st6 := st5.same (same_upd0 (o := .lst (cutV [V.str "a", .str "aa", .str "b7"] none (some d))) htl)
    have kl6 := Kl.new (xs := cutV [V.str "a", .str "aa", .str "b7"] none (some d)) st5 htl
    obtain ⟨dn, rfl⟩ : ∃ dn : Nat, d = dn := ⟨d.toNat, by omega⟩
    have ecut : cutV [V.str "a", .str "aa", .str "b7"] none (some (dn : Int)) = (titles.take dn).map V.str := by
      unfold cutV
      rw [HT.sIx_none, HT.sIx_nat, Nat.sub_zero, List.drop_zero]
      match dn, hd4 with
      | 0, _ => rfl
      | 1, _ => rfl
      | 2, _ => rfl
      | 3, _ => rfl
      | k + 4, h => omega
    rw [ecut] at st6 kl6 ⊢
    revert st6 kl6
    generalize upd H5 tl (.lst ((titles.take dn).map V.str)) = H6
    intro st6 kl6
    clear st5 kt5 pen5 off5 st4 kt pen4 st3 ht3 htl
    refine ⟨tl, rfl, ⟨_, SqL.of kl6.1⟩, ?_⟩
    refine for_it walk_list (fun k σ G => ∃ (y6 y7 y8 y9 y10 y11 : Option V) (n' : Nat) (L : List (Str × List Int)) (es : List ((Str × Int) × V)), σ = [some (.ref a0), some (.ref p), some (.int (0 + (i : Nat))), some (.ref bg), some (.ref ch), some (.ref du), y6, y7, y8, y9, y10, y11, x12, x13, none, none, none] ∧
        LSt p l cc bg ch du G n' L es ∧ n' ≤ n2 + 1 + 10 * k ∧ Kl p ch du G tl ((titles.take dn).map V.str) ∧ Drawn L es ∧ L.map (·.1) = (titles.take dn).take k)
      ⟨x6, x7, x8, x9, x10, x11, n5, [], [], rfl, st6, hn5, kl6, ⟨(fun _ _ h => nomatch h), rfl, (fun _ h => nomatch h)⟩, rfl⟩ (fun _ _ _ _ ⟨_, _, _, _, _, _, _, _, _, _, _, _, kl, _⟩ => SqL.of kl.1) ?_ ?_
    · rintro k x σ G G' hk ⟨y6, y7, y8, y9, y10, y11, n7, L7, es7, rfl, st7, hn7, kl7, dr7, hL7⟩ ⟨rfl, hx⟩
      clear st6 kl6
      rw [List.length_map] at hk
      obtain ⟨z, hz, rfl⟩ : ∃ z, (titles.take dn)[k]? = some z ∧ x = .str z := by
        rw [List.getElem?_map] at hx
        cases e : (titles.take dn)[k]? with
        | none => rw [e] at hx; cases hx
        | some z => rw [e] at hx; exact ⟨z, rfl, (Option.some.inj hx).symm⟩
      have hk3 : k < 3 := by
        rw [List.length_take] at hk
        have : titles.length = 3 := rfl
        omega
      have hzt : z ∈ titles := List.mem_of_mem_take (List.mem_of_getElem? hz)
      obtain ⟨hznm, hzl⟩ := titles_ok.1 z hzt
      -- the ticks
      refine ⟨fun σ' H' => ∃ (tk : Addr) (ms : List Int) (n' : Nat), σ' = [some (.ref a0), some (.ref p), some (.int (0 + (i : Nat))), some (.ref bg), some (.ref ch), some (.ref du), some (.str z), some (.ref tk), y8, y9, y10, y11, x12, x13, none, none, none] ∧
        LSt p l cc bg ch du H' n' L7 es7 ∧ n' ≤ n7 + 3 ∧ Kl p ch du H' tl ((titles.take dn).map V.str) ∧ Kl p ch du H' tk (ms.map V.int) ∧ MsOk ms, ?_, ?_⟩
      · obtain ⟨⟨g7, pen7⟩, _⟩ := id st7
        refine ⟨_, rfl, p, l, cc, n7, g7, 3, rfl, pen7, by omega, by decide, by decide, fun m n8 g8 H8 hm0 hm3 hn8 off8 pen8 => ⟨_, rfl, by omega, by omega, fun D hD => ?_⟩⟩
        have nD := pen8.nw hD
        have nDl : D ≠ l := fun z => by rw [z, pen8.cells] at hD; cases hD
        have hm3' : m.toNat ≤ 2 := by omega
        refine lc_it (walk_range (lo := 0) (n := m.toNat)) (fun j H' => ∃ (vals : List Int) (n' : Nat) (g' : Int), Pen H' p l cc n' g' ∧ n' ≤ n8 + j ∧ Off p H8 H' ∧ H' D = some (.lst (vals.map V.int)) ∧ vals.length = j ∧ ∀ y ∈ vals, gBeg (.int y) = true)
          ⟨[], n8, g8, pen8.sm (same_upd0 hD), by omega, off_same (same_upd0 hD), upd_same, rfl, (fun _ h => nomatch h)⟩ (fun _ _ _ _ => trivial) ?_ ?_
        · rintro j x H9 H10 hj ⟨vals, n9, g9, pen9, hn9, off9, hD9, hvl, hvb⟩ ⟨rfl, rfl⟩
          refine ⟨rfl, _, rfl, _, _, rfl, rfl, ⟨by decide, by decide, by decide⟩, by show 5 ≤ sizeLine; omega, fun qa hqa => ?_⟩
          have s10 := same_upd0 (o := .lst [V.int 1, .int 2, .int 10, .int 9, .int (10 ^ (30 : Int).toNat)]) hqa
          refine ⟨p, l, cc, n9, g9, .ref qa, rfl, pen9.sm s10, by omega, .inl ⟨qa, _, rfl, pen9.nw hqa, upd_same, by decide, by decide, fun v n11 g11 H11 hv hn11 off11 pen11 => ?_⟩⟩
          obtain ⟨y, rfl, hy⟩ : ∃ y, v = .int y ∧ gBeg (.int y) = true := by
            simp only [List.mem_cons, List.not_mem_nil, or_false] at hv
            rcases hv with rfl | rfl | rfl | rfl | rfl <;> exact ⟨_, rfl, by decide +kernel⟩
          have o10 := (off9.trans (off_same s10)).trans off11
          have hD11 := off11 _ _ nD (s10 _ _ hD9)
          refine ⟨_, hD11, ?_, vals ++ [y], n11, g11, pen11.up nD nDl, by omega, fun c' o hc' e' => ?_, ?_, ?_, ?_⟩
          · rw [List.length_map, hvl]
            omega
          · rw [upd_ne (fun y => by rw [y, hD] at e'; cases e')]
            exact o10 _ _ hc' e'
          · rw [upd_same, List.map_append]
            rfl
          · rw [List.length_append, hvl]
            rfl
          · intro y' hy'
            rcases List.mem_append.mp hy' with h | h
            · exact hvb y' h
            · rw [List.mem_singleton.mp h]
              exact hy
        · rintro H9 ⟨vals, n9, g9, pen9, hn9, off9, hD9, hvl, hvb⟩
          refine ⟨D, vals, rfl, .inl (SqL.of hD9), by omega, fun ps c hps hc => ⟨ps, _, c, rfl, upd_same, by omega, fun later p2 hw hm hlen hp2 => ?_⟩⟩
          have st9 := (st7.off off8 pen8).off off9 pen9
          have kl9 := (kl7.off off8).off off9
          have s11 := same_upd0 (o := SetO w ps (fun k => decide (k ∈ vals)) c) hps
          refine ⟨p2, later, n9, rfl, (st9.same s11).same (same_upd0 hp2), by omega, (kl9.same s11).same (same_upd0 hp2), Kl.new (st9.same s11) hp2, by omega, fun n hn => hvb n (of_decide_eq_true ((hm n).mp hn)), hw⟩
      rintro σ' H' ⟨tk, ms, n8, rfl, st8, hn8, kl8, kk8, hms⟩
      have hznot : z ∉ L7.map (·.1) := by
        rw [hL7]
        intro hin
        have nd : (titles.take dn).Nodup := titles_ok.2.1.sublist (List.take_sublist _ _)
        rw [← List.take_append_drop k (titles.take dn), List.nodup_append] at nd
        exact nd.2.2 z hin z (List.mem_of_getElem? (i := 0) (by rw [List.getElem?_drop, Nat.add_zero]; exact hz)) rfl
      obtain ⟨kvs8, hbg8, hpr8⟩ := id st8.bd
      have hkl8 : kvs8.length < sizeLine := by
        have e1 := Paired.length hpr8
        have e2 : L7.length = ((titles.take dn).take k).length := by rw [← hL7, List.length_map]
        rw [List.length_take] at e2
        omega
      refine ⟨_, rfl, _, rfl, _, rfl, bg, _, rfl, DPut.k (k := .inr z) hbg8 hkl8, ?_⟩
      have st9 := st8.begin hbg8 hpr8 hznot kk8
      have kl9 := kl8.begin (kvs' := putK kvs8 (.inr z) (.ref tk)) hbg8
      have kk9 := kk8.begin (kvs' := putK kvs8 (.inr z) (.ref tk)) hbg8
      revert st9 kl9 kk9
      generalize upd H' bg (.dK (putK kvs8 (.inr z) (.ref tk))) = H9
      intro st9 kl9 kk9
      clear hbg8 hpr8 st8 kl8 kk8
      -- the ends
      refine ⟨fun σ' H' => ∃ en : Addr, σ' = [some (.ref a0), some (.ref p), some (.int (0 + (i : Nat))), some (.ref bg), some (.ref ch), some (.ref du), some (.str z), some (.ref tk), some (.ref en), y9, y10, y11, x12, x13, none, none, none] ∧
        LSt p l cc bg ch du H' n8 (L7 ++ [(z, 0 :: ms)]) es7 ∧ Kl p ch du H' tl ((titles.take dn).map V.str) ∧ Kl p ch du H' tk (ms.map V.int) ∧ Kl p ch du H' en ((ms.map (fun n => n - 1) ++ [1000000000000000000000000000000]).map V.int), ?_, ?_⟩
      · refine ⟨_, rfl, tk, rfl, ⟨_, SqL.of kk9.1⟩, fun D hD => ?_⟩
        have h2 := hms.1
        refine lc_it walk_list (fun j H' => Same H9 H' ∧ H' D = some (.lst (((ms.take j).map (fun n => n - 1)).map V.int))) ⟨same_upd0 hD, upd_same⟩ (fun _ _ _ y => SqL.of (y.1 _ _ kk9.1)) ?_ ?_
        · rintro j x H10 H11 hj ⟨s10, hD10⟩ ⟨rfl, hx⟩
          obtain ⟨n, hn, rfl⟩ : ∃ n, ms[j]? = some n ∧ x = .int n := by
            rw [List.getElem?_map] at hx
            cases e : ms[j]? with
            | none => rw [e] at hx; cases hx
            | some n => rw [e] at hx; exact ⟨n, rfl, (Option.some.inj hx).symm⟩
          refine ⟨rfl, _, rfl, _, _, rfl, rfl, _, hD10, ?_, over3 s10 hD, ?_⟩
          · rw [List.length_map, List.length_map, List.length_take]
            omega
          · rw [upd_same, List.take_add_one, hn]
            simp
        · rintro H10 ⟨s10, hD10⟩
          rw [List.length_map, List.take_length] at hD10
          refine ⟨_, _, rfl, rfl, ⟨by decide, by decide, by decide⟩, by show 1 ≤ sizeLine; omega, fun qa hqa => ?_⟩
          refine ⟨D, qa, _, _, rfl, rfl, same_upd0 hqa _ _ hD10, upd_same, ?_, fun en hen => ?_⟩
          · rw [List.length_map, List.length_map]
            show ms.length + 1 ≤ _
            omega
          have s12 := s10.trans (same_upd0 (o := .lst [V.int (10 ^ (30 : Int).toNat)]) hqa)
          have e30 : (List.map V.int (ms.map (fun n => n - 1)) ++ [V.int (10 ^ (30 : Int).toNat)]) = (ms.map (fun n => n - 1) ++ [1000000000000000000000000000000]).map V.int := by
            rw [List.map_append]
            rfl
          rw [e30]
          exact ⟨en, rfl, (st9.same s12).same (same_upd0 hen), (kl9.same s12).same (same_upd0 hen), (kk9.same s12).same (same_upd0 hen), Kl.new (st9.same s12) hen⟩
      rintro σ' H10 ⟨en, rfl, st10, kl10, kk10, ke10⟩
      clear st9 kl9 kk9
      -- the lows
      refine ⟨by show 1 ≤ sizeLine; omega, fun z0 hz0 => ⟨_, rfl, z0, tk, _, _, rfl, rfl, upd_same, same_upd0 hz0 _ _ kk10.1, ?_, fun lo hlo => ⟨lo, _, rfl, SqL.of upd_same, ?_⟩⟩⟩
      · rw [List.length_map]
        have h2 := hms.1
        show 1 + ms.length ≤ _
        omega
      have s11 := same_upd0 (o := .lst [V.int 0]) hz0
      have st12 := (st10.same s11).same (same_upd0 (o := .lst ((0 :: ms).map V.int)) hlo)
      have kl12 := (kl10.same s11).same (same_upd0 (o := .lst ((0 :: ms).map V.int)) hlo)
      have ke12 := (ke10.same s11).same (same_upd0 (o := .lst ((0 :: ms).map V.int)) hlo)
      have ko12 := Kl.new (xs := (0 :: ms).map V.int) (st10.same s11) hlo
      have elo : [V.int 0] ++ ms.map V.int = (0 :: ms).map V.int := rfl
      rw [elo]
      revert st12 kl12 ke12 ko12
      generalize upd (upd H10 z0 (.lst [V.int 0])) lo (.lst ((0 :: ms).map V.int)) = H12
      intro st12 kl12 ke12 ko12
      clear s11 hlo hz0 st10 kl10 kk10 ke10
      refine for_it walk_enum (fun j σ G => ∃ (w9 w10 w11 : Option V) (n' : Nat) (es : List ((Str × Int) × V)), σ = [some (.ref a0), some (.ref p), some (.int (0 + (i : Nat))), some (.ref bg), some (.ref ch), some (.ref du), some (.str z), some (.ref tk), some (.ref en), w9, w10, w11, x12, x13, none, none, none] ∧
          LSt p l cc bg ch du G n' (L7 ++ [(z, 0 :: ms)]) es ∧ n' ≤ n8 + 2 * j ∧ Kl p ch du G tl ((titles.take dn).map V.str) ∧ Kl p ch du G en ((ms.map (fun n => n - 1) ++ [1000000000000000000000000000000]).map V.int) ∧ Kl p ch du G lo ((0 :: ms).map V.int) ∧
          es.map (·.1) = lvs L7 ++ ((0 :: ms).take j).map (fun n => (z, n)) ∧ ∀ e ∈ es, EOk e ∧ TurnOk (L7 ++ [(z, 0 :: ms)]) e.1 e.2)
        ⟨y9, y10, y11, n8, es7, rfl, st12, Nat.le_refl _, kl12, ke12, ko12, by rw [dr7.k]; simp, fun e he => ⟨(dr7.e e he).1, (dr7.e e he).2.more fun q hq => List.mem_append_left _ hq⟩⟩ (fun _ _ _ _ ⟨_, _, _, _, _, _, _, _, _, _, ko, _⟩ => SqL.of ko.1) ?_ ?_
      · rintro j x σ G G' hj ⟨w9, w10, w11, n13, es13, rfl, st13, hn13, kl13, ke13, ko13, hk13, he13⟩ ⟨T, x1, x2, rfl, hT, rfl, hx1, hx2⟩
        obtain ⟨g13, pen13⟩ := st13.pen
        obtain rfl : V.int (j : Nat) = x1 := Option.some.inj hx1
        have hx2 : ((0 :: ms).map V.int)[j]? = some x2 := hx2
        obtain ⟨low, hlow, rfl⟩ : ∃ low, (0 :: ms)[j]? = some low ∧ x2 = .int low := by
          rw [List.getElem?_map] at hx2
          cases e : (0 :: ms)[j]? with
          | none => rw [e] at hx2; cases hx2
          | some n => rw [e] at hx2; exact ⟨n, rfl, (Option.some.inj hx2).symm⟩
        have hmsl := hms.1
        have hjl : j < ms.length + 1 := by
          rw [List.length_map, List.length_cons] at hj
          exact hj
        obtain ⟨e, he⟩ : ∃ e, (ms.map (fun n => n - 1) ++ [(1000000000000000000000000000000 : Int)])[j]? = some e := ⟨_, List.getElem?_eq_getElem (by rw [List.length_append, List.length_map]; exact hjl)⟩
        obtain ⟨b1, b2, b3, b4⟩ := ends_ok hms.2.2 hms.b hlow he
        have hea : ((ms.map (fun n => n - 1) ++ [(1000000000000000000000000000000 : Int)]).map V.int)[j]? = some (.int e) := by rw [List.getElem?_map, he]; rfl
        have s14 := same_upd0 (o := .tup [.int (j : Nat), .int low]) hT
        refine ⟨T, _, rfl, SqT.of upd_same, rfl, _, _, rfl, _, _, rfl, rfl, ?_⟩
        have st14 := st13.same s14
        have pen14 := pen13.sm s14
        have kl14 := kl13.same s14
        have ke14 := ke13.same s14
        have ko14 := ko13.same s14
        generalize upd G T (.tup [.int (j : Nat), .int low]) = H14 at st14 pen14 kl14 ke14 ko14 ⊢
        clear s14 hT st13 pen13 kl13 ke13 ko13
        refine ⟨_, rfl, _, rfl, _, rfl, _, rfl, en, _, (j : Int), _, rfl, rfl, SqL.of ke14.1, atI_nat hea, _, rfl, _, rfl, _, rfl, _, rfl, en, _, (j : Int), _, rfl, rfl, SqL.of ke14.1, atI_nat hea, _, rfl, _, _, rfl, rfl, _, _, rfl, rfl, p, l, cc, n13, g13, _, rfl, pen14, by omega, by omega, Nat.lt_of_le_of_lt (show _ ≤ 1000000000000000000000000000001 by omega) (by decide), fun d n15 g15 H15 hd0 hd1 hn15 off15 pen15 => ?_⟩
        refine ⟨_, _, rfl, rfl, by show 4 ≤ sizeLine; omega, fun qa hqa => ?_⟩
        have s16 := same_upd0 (o := .lst [V.non, .int low, .int e, .int (low + d)]) hqa
        refine ⟨p, l, cc, n15, g15, .ref qa, rfl, pen15.sm s16, by omega, .inl ⟨qa, _, rfl, pen15.nw hqa, upd_same, by show 0 < 4; decide, by show 4 ≤ 1000; decide, fun v n17 g17 H17 hv hn17 off17 pen17 => ?_⟩⟩
        obtain ⟨hv1, hv2⟩ : VOk v ∧ TurnOk (L7 ++ [(z, 0 :: ms)]) (z, low) v := by
          have mk : ∀ i, low ≤ i → i ≤ e → VOk (.int i) ∧ TurnOk (L7 ++ [(z, 0 :: ms)]) (z, low) (.int i) := fun i h1 h2 =>
            ⟨.inr ⟨i, rfl, by omega, by omega⟩, .inr ⟨i, 0 :: ms, rfl, decide_eq_true ⟨by omega, by omega⟩, List.mem_append_right _ (List.mem_singleton.mpr rfl), List.mem_of_getElem? hlow, h1, fun n hn hni => b4 n hn (by omega)⟩⟩
          simp only [List.mem_cons, List.not_mem_nil, or_false] at hv
          rcases hv with rfl | rfl | rfl | rfl
          · exact ⟨.inl rfl, .inl rfl⟩
          · exact mk _ (Int.le_refl _) b2
          · exact mk _ b2 (Int.le_refl _)
          · exact mk _ (by omega) (by omega)
        have st17 := ((st14.off off15 pen15).same s16).off off17 pen17
        have kl17 := ((kl14.off off15).same s16).off off17
        have ke17 := ((ke14.off off15).same s16).off off17
        have ko17 := ((ko14.off off15).same s16).off off17
        clear st14 kl14 ke14 ko14 pen14 pen15 off15 off17 s16 hqa
        -- the pair
        obtain ⟨ps, zs, c1, c2, c3⟩ := id st17.chs
        have hes13 : es13.length ≤ 400 := by
          have e1 : (es13.map (·.1)).length = es13.length := List.length_map _
          rw [hk13, List.length_append, List.length_map, List.length_take, ← dr7.k, List.length_map] at e1
          have e2 := dr7.few (k := min k dn) (by rw [hL7, List.take_take])
          omega
        have hpl : ps.length = es13.length := by
          have e1 := Paired.length c2
          have e2 : (zs.map (·.2)).length = zs.length := List.length_map _
          rw [c3, List.length_map] at e2
          omega
        refine ⟨_, rfl, .inl ⟨rfl, _, SqL.of c1⟩, _, rfl, _, rfl, by show 2 ≤ sizeLine; omega, fun k1 hk1 => ⟨_, rfl, by show 2 ≤ sizeLine; omega, fun k2 hk2 => ⟨ch, _, _, rfl, rfl, same_upd0 hk2 _ _ (same_upd0 hk1 _ _ c1), by rw [List.length_map]; omega, ?_⟩⟩⟩
        have sk := (same_upd0 (o := .tup [V.str z, .int low]) hk1).trans (same_upd0 (o := .tup [.ref k1, v]) hk2)
        have st19 := st17.same sk
        have kl19 := kl17.same sk
        have ke19 := ke17.same sk
        have ko19 := ko17.same sk
        have d1 := sk _ _ c1
        have d2 : Paired (EntT (upd (upd H17 k1 (.tup [V.str z, .int low])) k2 (.tup [.ref k1, v]))) ps zs := L2.Paired.mapP c2 fun _ _ y => EntT.same y sk
        have q1 : upd (upd H17 k1 (.tup [V.str z, .int low])) k2 (.tup [.ref k1, v]) k1 = some (.tup [.str z, .int low]) := same_upd0 hk2 _ _ upd_same
        have q2 : upd (upd H17 k1 (.tup [V.str z, .int low])) k2 (.tup [.ref k1, v]) k2 = some (.tup [.ref k1, v]) := upd_same
        generalize upd (upd H17 k1 (.tup [V.str z, .int low])) k2 (.tup [.ref k1, v]) = H19 at st19 kl19 ke19 ko19 d1 d2 q1 q2 ⊢
        clear sk st17 kl17 ke17 ko17 c1 c2 hk1 hk2
        have hdu : upd H19 ch (.lst (ps.map V.ref ++ [.ref k2])) du = some (.lst ((es13.map entW).map V.str)) := (upd_ne (Ne.symm st19.ne.2.2.1)).trans st19.dus
        have stF := st19.pair (e := ((z, low), v)) d1 d2 c3 q1 q2
        have klF := (kl19.offC (H' := upd H19 ch (.lst (ps.map V.ref ++ [.ref k2]))) off_upd).offD (H' := upd (upd H19 ch (.lst (ps.map V.ref ++ [.ref k2]))) du (.lst ((es13.map entW).map V.str ++ [.str (entW ((z, low), v))]))) off_upd
        have keF := (ke19.offC (H' := upd H19 ch (.lst (ps.map V.ref ++ [.ref k2]))) off_upd).offD (H' := upd (upd H19 ch (.lst (ps.map V.ref ++ [.ref k2]))) du (.lst ((es13.map entW).map V.str ++ [.str (entW ((z, low), v))]))) off_upd
        have koF := (ko19.offC (H' := upd H19 ch (.lst (ps.map V.ref ++ [.ref k2]))) off_upd).offD (H' := upd (upd H19 ch (.lst (ps.map V.ref ++ [.ref k2]))) du (.lst ((es13.map entW).map V.str ++ [.str (entW ((z, low), v))]))) off_upd
        have allF : ∀ e' ∈ es13 ++ [((z, low), v)], EOk e' ∧ TurnOk (L7 ++ [(z, 0 :: ms)]) e'.1 e'.2 := fun e' h' => by
          rcases List.mem_append.mp h' with h | h
          · exact he13 e' h
          · rw [List.mem_singleton.mp h]
            exact ⟨⟨hznm, ⟨b1, by show low ≤ _; omega⟩, hv1⟩, hv2⟩
        have keyF : (es13 ++ [((z, low), v)]).map (·.1) = lvs L7 ++ ((0 :: ms).take (j + 1)).map (fun n => (z, n)) := by
          rw [List.map_append, hk13, List.take_add_one, hlow]
          simp
        have e1 : ((" " : String) : Str).length = 1 := by decide
        have bz := name_len hznm
        have bl := txt_len (mom_log ⟨b1, (by omega : low ≤ 1000000000000000000000000000000)⟩)
        have bw := wd_len hv1
        -- the word
        refine ⟨_, rfl, .inl ⟨rfl, _, SqL.of hdu⟩, _, rfl, _, _, rfl, rfl, ?_, _, rfl, low, rfl, mom_log ⟨b1, by omega⟩, _, _, rfl, rfl, ?_, _, _, rfl, rfl, ?_, _, rfl, rfl, _, rfl, ?_⟩
        · rw [e1]
          omega
        · rw [app_len, e1]
          show _ + (Str.ofString (toString low)).length ≤ _
          omega
        · rw [app_len, app_len, e1]
          show _ + (Str.ofString (toString low)).length + _ ≤ _
          omega
        have eW : entW ((z, low), v) = z ++ (" " : Str) ++ Str.ofString (toString low) ++ (" " : Str) ++ wd v := by
          show Str.empty ++ z ++ _ ++ _ ++ _ ++ _ = _
          rw [empty_app]
        have fit : ((es13.map entW).map V.str).length < sizeLine := by
          rw [List.length_map, List.length_map]
          omega
        rw [eW] at stF klF keF koF
        rcases hv1 with rfl | ⟨iv, rfl, iv1, iv2⟩
        · refine iteT ⟨_, _, rfl, rfl, ?_, du, _, _, rfl, rfl, hdu, fit, _, _, _, n17, es13 ++ [((z, low), V.non)], rfl, stF, by omega, klF, keF, koF, keyF, allF⟩
          rw [app_len, app_len, app_len, e1]
          show _ + (Str.ofString (toString low)).length + _ + (wd .non).length ≤ _
          omega
        · refine iteF ⟨_, rfl, iv, rfl, mom_log ⟨iv1, iv2⟩, _, _, rfl, rfl, ?_, du, _, _, rfl, rfl, hdu, fit, _, _, _, n17, es13 ++ [((z, low), V.int iv)], rfl, stF, by omega, klF, keF, koF, keyF, allF⟩
          rw [app_len, app_len, app_len, e1]
          show _ + (Str.ofString (toString low)).length + _ + (wd (.int iv)).length ≤ _
          omega
      rintro σ G ⟨w9, w10, w11, n13, es13, rfl, st13, hn13, kl13, ke13, ko13, hk13, he13⟩
      rw [List.length_map, List.take_length] at hk13
      have h2 := hms.1
      have hln : (List.map V.int (0 :: ms)).length ≤ 3 := by rw [List.length_map, List.length_cons]; omega
      refine ⟨_, _, _, _, _, _, n13, L7 ++ [(z, 0 :: ms)], es13, rfl, st13, by omega, kl13, ⟨fun z' ns' hm => ?_, by rw [hk13, lvs_snoc], he13⟩, ?_⟩
      · rcases List.mem_append.mp hm with h | h
        · exact dr7.lok z' ns' h
        · cases List.mem_singleton.mp h
          exact ⟨ms, rfl, hms⟩
      · rw [List.map_append, hL7, List.take_add_one, hz]
        rfl
    rintro σ G ⟨y6, y7, y8, y9, y10, y11, n7, L7, es7, rfl, st7, hn7, kl7, dr7, hL7⟩
    rw [List.length_map, List.take_length] at hL7
    have ok7 := dr7.ok hL7
    have few7 := dr7.few hL7
    have hn60 : n7 ≤ 60 * (i + 1) := by
      have : (List.map V.str (titles.take dn)).length ≤ 3 := by
        rw [List.length_map, List.length_take]
        exact Nat.min_le_right _ _
      omega
    have eok : ∀ e ∈ es7, EOk e := fun e he => (dr7.e e he).1
    obtain ⟨tx1, tx2, tx3⟩ := txt_ok eok (by omega)
    clear st6 kl6
    -- the text
    refine ⟨fun σ' H' => σ' = [some (.ref a0), some (.ref p), some (.int (0 + (i : Nat))), some (.ref bg), some (.ref ch), some (.ref du), y6, y7, y8, y9, y10, y11, some (.str (txtH es7)), x13, none, none, none] ∧ LSt p l cc bg ch du H' n7 L7 es7, ?_, ?_⟩
    · refine ⟨_, rfl, by show 0 ≤ sizeLine; omega, fun q0 hq0 => ⟨du, q0, _, rfl, rfl, SqL.of (same_upd0 hq0 _ _ st7.dus), SqL.of upd_same, _, rfl, ?_⟩⟩
      have em : ((es7.map entW).map V.str).isEmpty = es7.isEmpty := by cases es7 <;> rfl
      have s8 := same_upd0 (o := .lst []) hq0
      rw [em]
      cases hE : es7.isEmpty with
      | true =>
        refine iteF ⟨?_, st7.same s8⟩
        unfold txtH
        rw [hE]
        rfl
      | false =>
        refine iteT ⟨⟨_, rfl⟩, _, rfl, _, du, es7.map entW, rfl, rfl, .inl (SqL.of (s8 _ _ st7.dus)), ?_, ?_, st7.same s8⟩
        · have e2 : ((", " : String) : Str).length = 2 := by decide
          have hsum := sum_small (l := (es7.map entW).map (·.length)) (m := 6000) fun x hx => by
            obtain ⟨y, hy, rfl⟩ := List.mem_map.mp hx
            obtain ⟨e, he, rfl⟩ := List.mem_map.mp hy
            exact ent_len (eok e he)
          rw [List.length_map, List.length_map] at hsum
          show _ + _ * ((", " : String) : Str).length ≤ 16777216
          rw [e2, List.length_map]
          omega
        · unfold txtH
          rw [hE]
          rfl
    rintro σ' H8 ⟨rfl, st8⟩
    clear st7 kl7
    -- the first history
    refine ⟨fun σ' H' => σ' = [some (.ref a0), some (.ref p), some (.int (0 + (i : Nat))), some (.ref bg), some (.ref ch), some (.ref du), y6, y7, y8, y9, y10, y11, some (.str (txtH es7)), x13, none, none, none] ∧ LSt p l cc bg ch du H' n7 L7 es7, ?_, ?_⟩
    · obtain ⟨ps, zs, c1, c2, c3⟩ := id st8.chs
      obtain ⟨m1, m2, m3, m4, m5⟩ := hist_pre (kvs := es7.map fun e => (keyOf e.1, e.2)) dr7 ok7 (.refl _)
      refine ⟨_, rfl, fun x dx e1 e2 e3 => ?_⟩
      have s0 := newS (C := CL) e1 e2
      refine ⟨x, dx, bg, L7, rfl, upd_same, (st8.bd.bg dr7 ok7).same s0, ok7, fun H9 o9 ls9 => ⟨rfl, ?_⟩⟩
      have s9 : Same H8 H9 := fun c u g => o9 c u (ne_of_none g e1) (s0 c u g)
      refine ⟨_, rfl, ch, ps, zs, rfl, SqL.of (s9 _ _ c1), L2.Paired.mapP c2 fun _ _ y => EntT.same y s9, fun d hd x2 dx2 f1 f2 f3 => ?_⟩
      rw [c3, m1] at f1 f2 ⊢
      have sd := same_upd0 (o := .dT (es7.map fun e => (keyOf e.1, e.2))) hd
      have s10 := newS (C := CH) f1 f2
      refine ⟨x2, dx2, x, d, L7, _, rfl, upd_same, (ls9.same sd).same s10, ok7, s10 _ _ upd_same, m2, m3, m4, fun H11 o11 hs11 => ⟨rfl, ?_⟩⟩
      rw [m5] at hs11
      have s11 : Same H8 H11 := (s9.trans sd).trans fun c u g => o11 c u (ne_of_none g f1) (s10 c u g)
      obtain ⟨dx3, dd, lv, h1, h2⟩ := id hs11
      refine ⟨x2, dx3, _, rfl, h1, x2, es7, rfl, hs11, by omega, fun e he => ⟨Nat.le_trans (name_len (eok e he).nm) (by decide), (eok e he).lo.1, (eok e he).lo.2, (eok e he).v⟩, fun H12 s12 => ⟨_, rfl, ?_⟩⟩
      exact ⟨_, .str (txtH es7), rfl, .str _, tx1, tx2, tx3, _, rfl, _, .str (txtH es7), rfl, .str _, tx1, tx2, tx3, rfl, _, rfl, ite2 (fun e => by rw [decide_eq_true rfl] at e; cases e) (fun _ => ⟨rfl, st8.same (s11.trans s12)⟩)⟩
    rintro σ' H13 ⟨rfl, st13⟩
    clear st8
    -- the dict turned about
    refine ⟨fun σ' H' => ∃ bk : Addr, σ' = [some (.ref a0), some (.ref p), some (.int (0 + (i : Nat))), some (.ref bg), some (.ref ch), some (.ref du), y6, y7, y8, y9, y10, y11, some (.str (txtH es7)), some (.ref bk), none, none, none] ∧ LSt p l cc bg ch du H' n7 L7 es7 ∧ BgAt K H' bk L7, ?_, ?_⟩
    · obtain ⟨kvs, ks, hbg, hks, hpm, hvs⟩ := st13.bd.bg (K := K) dr7 ok7
      have hkl : ks.length = L7.length := by rw [hpm.length_eq, List.length_map]
      have hL3 := ok7.few
      refine ⟨bg, _, hbg, True.intro, fun od => ⟨_, rfl, bg, od, rfl, .inl ⟨kvs, upd_same, fun D hD => ?_⟩⟩⟩
      have hDd : D ≠ bg := fun z => by rw [z, upd_same] at hD; cases hD
      have hdf : upd H13 bg (.frz od (.dK kvs)) bg = some (.frz od (.dK kvs)) := upd_same
      generalize hHf : upd H13 bg (.frz od (.dK kvs)) = Hf at hD hdf ⊢
      refine lc_it walk_keys (fun j H' => Same Hf H' ∧ H' D = some (.lst ((ks.take j).map V.str))) ⟨same_upd0 hD, upd_same⟩ (fun _ _ _ y => y.1 _ _ hdf) ?_ ?_
      · rintro j y H14 H15 hj ⟨s14, hD14⟩ ⟨rfl, kk, v, hkv, rfl⟩
        obtain ⟨z, hz, rfl⟩ : ∃ z, ks[j]? = some z ∧ kk = Sum.inr z := by
          have e : (kvs.map (·.1))[j]? = some kk := by rw [List.getElem?_map, hkv]; rfl
          rw [hks, List.getElem?_map] at e
          cases q : ks[j]? with
          | none => rw [q] at e; cases e
          | some z => rw [q] at e; exact ⟨z, rfl, (Option.some.inj e).symm⟩
        refine ⟨rfl, _, rfl, z, rfl, _, hD14, ?_, over3 s14 hD, ?_⟩
        · rw [List.length_map, List.length_take]
          omega
        · rw [upd_same, List.take_add_one, hz, List.map_append]
          rfl
      rintro H14 ⟨s14, hD14⟩
      have ekl : kvs.length = ks.length := by
        have : (kvs.map (·.1)).length = kvs.length := List.length_map _
        rw [hks, List.length_map] at this
        omega
      rw [ekl, List.take_length] at hD14
      subst hHf
      have sU := unlock_same hbg s14
      refine ⟨s14 _ _ hdf, D, ks, rfl, SqL.of ((upd_ne hDd).trans hD14), by omega, fun ys qa hperm hsort hqa => ?_⟩
      obtain rfl : ys = L7.map (·.1) := sortedS_one hsort ok7.srt (((hperm.trans hpm).nodup_iff).mpr ok7.nd) ok7.nd fun k => (hperm.trans hpm).mem_iff
      refine ⟨qa, _, rfl, SqL.of upd_same, fun ra hra => ⟨ra, rfl, ⟨_, SqL.of upd_same⟩, fun D2 hD2 => ?_⟩⟩
      have s16 := (sU.trans (same_upd0 (o := .lst ((L7.map (·.1)).map V.str)) hqa)).trans (same_upd0 (o := .lst ((L7.map (·.1)).map V.str).reverse) hra)
      have hra16 : upd (upd (upd H14 bg (.dK kvs)) qa (.lst ((L7.map (·.1)).map V.str))) ra (.lst ((L7.map (·.1)).map V.str).reverse) ra = some (.lst ((L7.map (·.1)).map V.str).reverse) := upd_same
      generalize upd (upd (upd H14 bg (.dK kvs)) qa (.lst ((L7.map (·.1)).map V.str))) ra (.lst ((L7.map (·.1)).map V.str).reverse) = H16 at s16 hra16 hD2 ⊢
      have erev : ((L7.map (·.1)).map V.str).reverse = (L7.reverse.map (·.1)).map V.str := by rw [List.map_reverse, List.map_reverse]
      rw [erev] at hra16
      refine lc_it walk_list (fun j H' => Same H16 H' ∧ ∃ qs : List Addr, H' D2 = some (.lst (qs.map V.ref)) ∧ Paired (PairR D2 H') qs (L7.reverse.take j)) ⟨same_upd0 hD2, [], upd_same, .nil⟩ (fun _ _ _ y => SqL.of (y.1 _ _ hra16)) ?_ ?_
      · rintro j y H17 H18 hj ⟨s17, qs, hD17, hpr17⟩ ⟨rfl, hy⟩
        obtain ⟨⟨z, ns⟩, hz, rfl⟩ : ∃ e, L7.reverse[j]? = some e ∧ y = .str e.1 := by
          rw [List.getElem?_map, List.getElem?_map] at hy
          cases e : L7.reverse[j]? with
          | none => rw [e] at hy; cases hy
          | some z => rw [e] at hy; exact ⟨z, rfl, (Option.some.inj hy).symm⟩
        obtain ⟨la, ms, hv1, hv2, hv3, hv4, hv5⟩ := hvs z ns (List.mem_reverse.mp (List.mem_of_getElem? hz))
        have s13' := s16.trans s17
        refine ⟨rfl, _, rfl, _, rfl, _, rfl, bg, _, rfl, .inl ⟨kvs, .inr z, .inl (s13' _ _ hbg), rfl, hv1.symm⟩, la, _, rfl, hv2.ext s13', fun r hr => ⟨by show 2 ≤ sizeLine; omega, fun t ht => ?_⟩⟩
        have s18 := (same_upd0 (o := .lst (ms.map V.int).reverse) hr).trans (same_upd0 (o := .tup [.str z, .ref r]) ht)
        have hq1 : upd (upd H18 r (.lst (ms.map V.int).reverse)) t (.tup [.str z, .ref r]) t = some (.tup [.str z, .ref r]) := upd_same
        have hq2 : upd (upd H18 r (.lst (ms.map V.int).reverse)) t (.tup [.str z, .ref r]) r = some (.lst (ms.map V.int).reverse) := same_upd0 ht _ _ upd_same
        have hD18 := s18 _ _ hD17
        have nrD : r ≠ D2 := fun y => by rw [y, hD17] at hr; cases hr
        generalize upd (upd H18 r (.lst (ms.map V.int).reverse)) t (.tup [.str z, .ref r]) = H19 at s18 hq1 hq2 hD18 ⊢
        have hql := Paired.length hpr17
        rw [List.length_take] at hql
        have hrl : L7.reverse.length = L7.length := List.length_reverse
        refine ⟨_, hD18, by rw [List.length_map]; omega, over3 (s17.trans s18) hD2, qs ++ [t], by rw [upd_same, List.map_append]; rfl, ?_⟩
        rw [List.take_add_one, hz]
        exact Paired.snoc (L2.Paired.mapP hpr17 fun _ _ e => (PairR.same e s18).up hD18) (PairR.up ⟨r, ms, nrD, hq1, hq2, hv3, hv4, hv5⟩ hD18)
      rintro H17 ⟨s17, qs, hD17, hpr17⟩
      rw [List.length_map, List.length_map, List.take_length] at hpr17
      obtain ⟨kvl, k1, k2, k3⟩ := pairR_ent (K := K) hpr17
      have knd : (kvl.map (·.1)).Nodup := by
        rw [k3, List.map_reverse, List.map_reverse]
        refine ((List.reverse_perm _).nodup_iff).mpr ?_
        exact List.Pairwise.map _ (fun _ _ h e => h (Sum.inr.inj e)) ok7.nd
      refine ⟨D2, qs, kvl, rfl, SqL.of hD17, k1, fun bk hbk => ?_⟩
      rw [mergeK_nodup kvl [] (by rw [List.nil_append]; exact knd), List.nil_append]
      have s20 := same_upd0 (o := .dK kvl) hbk
      exact ⟨bk, rfl, st13.same ((s16.trans s17).trans s20), back_bg ok7 upd_same (L2.Paired.mapP k2 fun kv p e => by
        obtain ⟨e0, r, ms, e1, e2, e3⟩ := e
        exact ⟨e0, r, ms, e1, s20 _ _ e2, e3⟩) k3 knd⟩
    rintro σ' H21 ⟨bk, rfl, st21, bb21⟩
    clear st13
    -- the second history
    refine ⟨fun σ' H' => σ' = [some (.ref a0), some (.ref p), some (.int (0 + (i : Nat))), some (.ref bg), some (.ref ch), some (.ref du), y6, y7, y8, y9, y10, y11, some (.str (txtH es7)), some (.ref bk), none, none, none] ∧ LSt p l cc bg ch du H' n7 L7 es7, ?_, ?_⟩
    · obtain ⟨ps, zs, c1, c2, c3⟩ := id st21.chs
      obtain ⟨m1, m2, m3, m4, m5⟩ := hist_pre (kvs := (es7.map fun e => (keyOf e.1, e.2)).reverse) dr7 ok7 (List.reverse_perm _)
      refine ⟨_, rfl, fun x dx e1 e2 e3 => ?_⟩
      have s0 := newS (C := CL) e1 e2
      refine ⟨x, dx, bk, L7, rfl, upd_same, bb21.same s0, ok7, fun H9 o9 ls9 => ⟨rfl, ?_⟩⟩
      have s9 : Same H21 H9 := fun c u g => o9 c u (ne_of_none g e1) (s0 c u g)
      refine ⟨_, rfl, ch, _, rfl, SqL.of (s9 _ _ c1), fun rv hrv => ?_⟩
      have sv := same_upd0 (o := .lst (ps.map V.ref).reverse) hrv
      refine ⟨rv, ps.reverse, zs.reverse, rfl, SqL.of (by rw [upd_same, List.map_reverse]), paired_rev (L2.Paired.mapP c2 fun _ _ y => EntT.same y (s9.trans sv)), fun d hd x2 dx2 f1 f2 f3 => ?_⟩
      rw [List.map_reverse, c3, m1] at f1 f2 ⊢
      have sd := same_upd0 (o := .dT (es7.map fun e => (keyOf e.1, e.2)).reverse) hd
      have s10 := newS (C := CH) f1 f2
      refine ⟨x2, dx2, x, d, L7, _, rfl, upd_same, ((ls9.same sv).same sd).same s10, ok7, s10 _ _ upd_same, m2, m3, m4, fun H11 o11 hs11 => ⟨rfl, ?_⟩⟩
      rw [m5] at hs11
      have s11 : Same H21 H11 := ((s9.trans sv).trans sd).trans fun c u g => o11 c u (ne_of_none g f1) (s10 c u g)
      obtain ⟨dx3, dd, lv, h1, h2⟩ := id hs11
      refine ⟨x2, dx3, _, rfl, h1, x2, es7, rfl, hs11, by omega, fun e he => ⟨Nat.le_trans (name_len (eok e he).nm) (by decide), (eok e he).lo.1, (eok e he).lo.2, (eok e he).v⟩, fun H12 s12 => ⟨_, rfl, ?_⟩⟩
      exact ⟨_, .str (txtH es7), rfl, .str _, tx1, tx2, tx3, _, rfl, _, .str (txtH es7), rfl, .str _, tx1, tx2, tx3, rfl, _, rfl, ite2 (fun e => by rw [decide_eq_true rfl] at e; cases e) (fun _ => ⟨rfl, st21.same (s11.trans s12)⟩)⟩
    rintro σ' H22 ⟨rfl, st22⟩
    obtain ⟨⟨g22, pen22⟩, _⟩ := st22
    exact ⟨_, _, _, _, _, _, _, _, _, _, _, _, n7, g22, rfl, pen22, hn60⟩
end
end K30

namespace K30
open PySem PySem.Spec PyProof.Rows L2 So LamX
def strOf? : Value → Option Str
  | .str x _ => some x
  | _ => none
theorem vals_strs : ∀ {ss : List Str} {us : List Value}, us.map strOf? = ss.map some → Vals (ss.map V.str) us
  | [], [], _ => .nil
  | [], _ :: _, h => by simp at h
  | _ :: _, [], h => by simp at h
  | x :: ss, u :: us, h => by
    simp only [List.map_cons, List.cons.injEq] at h
    refine .cons ?_ (vals_strs h.2)
    cases u <;> simp [strOf?] at h
    rename_i y t
    exact ⟨t, by rw [h.1]⟩
section
variable {K : PySem.W.Frag}
theorem exm_own {D S : Addr} (h2 : PySem.W.isClsIn K S = true) (h3 : PySem.W.typeIn K (.ref S) = some (.type "type")) (h1 : PySem.W.subIn K (.ref S) (.type "BaseException") = some true) (h4 : PySem.W.subIn K (.ref D) (.ref S) = some true) (_ : PySem.W.subIn K (.ref S) (.ref S) = some true) : PySem.W.exmOne K (.ref D) (.ref S) = some true := by
  unfold PySem.W.exmOne PySem.W.kitCls
  unfold PySem.W.isClsIn at h2
  simp [h1, h2, h3, h4]
theorem tab_by {x : Str} {f c P : Addr} {o1 u1 : Value} {o2 u2 : Option Addr} {o3 u3 : Array (Option Value)} {fd : FuncData} {vs : Array Value} (a : PySem.W.nsIn K mainGlobals x = some (some (.ref f))) (l : K.lookup f = some ⟨o1, o2, .func fd, o3⟩) (hc : fd.code = .ref c)
    (lc : K.lookup c = some ⟨u1, u2, .fields vs, u3⟩) (hv : (vs[11]? : Option Value) = some (.ref P)) : PySem.W.tabIn K x = some (c, P) := by
  unfold PySem.W.tabIn
  rw [a]
  simp only [l, hc, lc, hv]
theorem kit_VE {D : Addr} (h : PySem.W.subIn K (.ref D) (.type "ValueError") = some true) : PySem.W.kitOne K (.ref D) (.type "ValueError") = some true := by
  unfold PySem.W.kitOne PySem.W.kitCls
  have e : PySem.W.kitMeta "ValueError" = true := by decide +kernel
  simp [h, e]
theorem kit_own {D C : Addr} {b : Bool} (hc : PySem.W.isClsIn K C = true) (ht : PySem.W.typeIn K (.ref C) = some (.type "type")) (hs : PySem.W.subIn K (.ref D) (.ref C) = some b) (self : PySem.W.subIn K (.ref C) (.ref C) = some true) : PySem.W.kitOne K (.ref D) (.ref C) = some b := by
  by_cases e : D = C
  · subst e
    rw [self] at hs
    rw [kit_self, hs]
  · unfold PySem.W.kitOne PySem.W.kitCls
    unfold PySem.W.isClsIn at hc
    simp [hc, ht, hs, e]
end
theorem all_mk {l : PySem.W.OpenLaw} {w : World} {K : PySem.W.Frag} {h : Heap} {mg : Str → Option Value} {fa fpen fdraw fpick flaw fwhole fmoment fisname fcheck fwithf fisturn ftword CV fvinit fvbeg fvlife fvcont fvlen pvli fvli CH fhinit fhstr aNo : Addr} (X : K.In h) (G : h.Ns mainGlobals mg) (hfa : mg "law" = some (.ref fa))
    {odpen anpen oddraw andraw odpick anpick odlaw anlaw odwhole anwhole odmoment anmoment odisname anisname odcheck ancheck odwithf anwithf odisturn anisturn odtword antword odvinit anvinit odvbeg anvbeg odvlife anvlife odvcont anvcont odvlen anvlen odvli anvli odhinit anhinit odhstr anhstr odN : Option Addr} {slpen sldraw slpick sllaw slwhole slmoment slisname slcheck slwithf slisturn sltword slvinit slvbeg slvlife slvcont slvlen slvli slhinit slhstr slN : Array (Option Value)} {ocpen kVpen dcpen pmpen ctpen cdpen ocdraw kVdraw dcdraw pmdraw ctdraw cddraw ocpick kVpick dcpick pmpick ctpick cdpick oclaw kVlaw dclaw pmlaw ctlaw cdlaw ocwhole kVwhole dcwhole pmwhole ctwhole cdwhole ocmoment kVmoment dcmoment pmmoment ctmoment cdmoment ocisname kVisname dcisname pmisname ctisname cdisname occheck kVcheck dccheck pmcheck ctcheck cdcheck ocwithf kVwithf dcwithf pmwithf ctwithf cdwithf ocisturn kVisturn dcisturn pmisturn ctisturn cdisturn octword kVtword dctword pmtword cttword cdtword ocvinit kVvinit dcvinit pmvinit ctvinit cdvinit ocvbeg kVvbeg dcvbeg pmvbeg ctvbeg cdvbeg ocvlife kVvlife dcvlife pmvlife ctvlife cdvlife ocvcont kVvcont dcvcont pmvcont ctvcont cdvcont ocvlen kVvlen dcvlen pmvlen ctvlen cdvlen ocvli kVvli dcvli pmvli ctvli cdvli ochinit kVhinit dchinit pmhinit cthinit cdhinit ochstr kVhstr dchstr pmhstr cthstr cdhstr : Value} {restvli : List Value}  {tG tL tA tD : Tok} {itsN : Array Value} {nN : Nat} 
    (apen : PySem.W.nsIn K mainGlobals "_law_pen" = some (some (.ref fpen)))
    (lpen : K.lookup fpen = some ⟨ocpen, odpen, .func (PySem.W.fnOf "_law_pen" "_law_pen" (defArgs sPen) (defBody sPen) (defScope sPen) .none kVpen dcpen pmpen anpen cdpen ctpen), slpen⟩)
    (cpen : PySem.W.codeIn K cdpen "_law_pen" = true)
    (kpen : PySem.W.keepIn K (.ref fpen) = true)
    (adraw : PySem.W.nsIn K mainGlobals "_law_draw" = some (some (.ref fdraw)))
    (ldraw : K.lookup fdraw = some ⟨ocdraw, oddraw, .func (PySem.W.fnOf "_law_draw" "_law_draw" (defArgs sDraw) (defBody sDraw) (defScope sDraw) .none kVdraw dcdraw pmdraw andraw cddraw ctdraw), sldraw⟩)
    (cdraw : PySem.W.codeIn K cddraw "_law_draw" = true)
    (kdraw : PySem.W.keepIn K (.ref fdraw) = true)
    (apick : PySem.W.nsIn K mainGlobals "_law_pick" = some (some (.ref fpick)))
    (lpick : K.lookup fpick = some ⟨ocpick, odpick, .func (PySem.W.fnOf "_law_pick" "_law_pick" (defArgs sPick) (defBody sPick) (defScope sPick) .none kVpick dcpick pmpick anpick cdpick ctpick), slpick⟩)
    (cpick : PySem.W.codeIn K cdpick "_law_pick" = true)
    (kpick : PySem.W.keepIn K (.ref fpick) = true)
    (alaw : PySem.W.nsIn K mainGlobals "law" = some (some (.ref flaw)))
    (llaw : K.lookup flaw = some ⟨oclaw, odlaw, .func (PySem.W.fnOf "law" "law" (defArgs sLaw) (defBody sLaw) (defScope sLaw) .none kVlaw dclaw pmlaw anlaw cdlaw ctlaw), sllaw⟩)
    (claw : PySem.W.codeIn K cdlaw "law" = true)
    (klaw : PySem.W.keepIn K (.ref flaw) = true)
    (awhole : PySem.W.nsIn K mainGlobals "is_whole" = some (some (.ref fwhole)))
    (lwhole : K.lookup fwhole = some ⟨ocwhole, odwhole, .func (PySem.W.fnOf "is_whole" "is_whole" (defArgs sWhole) (defBody sWhole) (defScope sWhole) .none kVwhole dcwhole pmwhole anwhole cdwhole ctwhole), slwhole⟩)
    (cwhole : PySem.W.codeIn K cdwhole "is_whole" = true)
    (kwhole : PySem.W.keepIn K (.ref fwhole) = true)
    (amoment : PySem.W.nsIn K mainGlobals "is_moment" = some (some (.ref fmoment)))
    (lmoment : K.lookup fmoment = some ⟨ocmoment, odmoment, .func (PySem.W.fnOf "is_moment" "is_moment" (defArgs sMoment) (defBody sMoment) (defScope sMoment) .none kVmoment dcmoment pmmoment anmoment cdmoment ctmoment), slmoment⟩)
    (cmoment : PySem.W.codeIn K cdmoment "is_moment" = true)
    (kmoment : PySem.W.keepIn K (.ref fmoment) = true)
    (aisname : PySem.W.nsIn K mainGlobals "is_name" = some (some (.ref fisname)))
    (lisname : K.lookup fisname = some ⟨ocisname, odisname, .func (PySem.W.fnOf "is_name" "is_name" (defArgs sName) (defBody sName) (defScope sName) .none kVisname dcisname pmisname anisname cdisname ctisname), slisname⟩)
    (cisname : PySem.W.codeIn K cdisname "is_name" = true)
    (kisname : PySem.W.keepIn K (.ref fisname) = true)
    (acheck : PySem.W.nsIn K mainGlobals "check_form" = some (some (.ref fcheck)))
    (lcheck : K.lookup fcheck = some ⟨occheck, odcheck, .func (PySem.W.fnOf "check_form" "check_form" (defArgs sCheck) (defBody sCheck) (defScope sCheck) .none kVcheck dccheck pmcheck ancheck cdcheck ctcheck), slcheck⟩)
    (ccheck : PySem.W.codeIn K cdcheck "check_form" = true)
    (kcheck : PySem.W.keepIn K (.ref fcheck) = true)
    (awithf : PySem.W.nsIn K mainGlobals "with_first" = some (some (.ref fwithf)))
    (lwithf : K.lookup fwithf = some ⟨ocwithf, odwithf, .func (PySem.W.fnOf "with_first" "with_first" (defArgs sWith) (defBody sWith) (defScope sWith) .none kVwithf dcwithf pmwithf anwithf cdwithf ctwithf), slwithf⟩)
    (cwithf : PySem.W.codeIn K cdwithf "with_first" = true)
    (kwithf : PySem.W.keepIn K (.ref fwithf) = true)
    (aisturn : PySem.W.nsIn K mainGlobals "is_turn" = some (some (.ref fisturn)))
    (listurn : K.lookup fisturn = some ⟨ocisturn, odisturn, .func (PySem.W.fnOf "is_turn" "is_turn" (defArgs sIsTurn) (defBody sIsTurn) (defScope sIsTurn) .none kVisturn dcisturn pmisturn anisturn cdisturn ctisturn), slisturn⟩)
    (cisturn : PySem.W.codeIn K cdisturn "is_turn" = true)
    (kisturn : PySem.W.keepIn K (.ref fisturn) = true)
    (atword : PySem.W.nsIn K mainGlobals "turn_word" = some (some (.ref ftword)))
    (ltword : K.lookup ftword = some ⟨octword, odtword, .func (PySem.W.fnOf "turn_word" "turn_word" (defArgs sTWord) (defBody sTWord) (defScope sTWord) .none kVtword dctword pmtword antword cdtword cttword), sltword⟩)
    (ctword : PySem.W.codeIn K cdtword "turn_word" = true)
    (ktword : PySem.W.keepIn K (.ref ftword) = true)
    (aCV : PySem.W.nsIn K mainGlobals "Lives" = some (some (.ref CV)))
    (pgCV : PySem.W.plainGet K CV Str.empty = true)
    (hdCV : PySem.W.hasDictIn K CV = true)
    (poCV : PySem.W.plainOver K CV = true)
    (saCV : PySem.W.findIn K (.ref CV) "__setattr__" = some (some (.builtin "object.__setattr__")))
    (mkCV : PySem.W.makesIn K CV = true)
    (kcCV : PySem.W.keepIn K (.ref CV) = true)
    (nCV__begun : PySem.W.findIn K (.ref CV) "_begun" = some none)
    (avinit : PySem.W.findIn K (.ref CV) "__init__" = some (some (.ref fvinit)))
    (ivinit : PySem.W.isFn K (.ref fvinit) = true)
    (lvinit : K.lookup fvinit = some ⟨ocvinit, odvinit, .func (PySem.W.fnOf "__init__" "Lives.__init__" (defArgs sLInit) (defBody sLInit) (defScope sLInit) .none kVvinit dcvinit pmvinit anvinit cdvinit ctvinit), slvinit⟩)
    (cvinit : PySem.W.codeIn K cdvinit "Lives.__init__" = true)
    (kvinit : PySem.W.keepIn K (.ref fvinit) = true)
    (avbeg : PySem.W.findIn K (.ref CV) "beginnings" = some (some (.ref fvbeg)))
    (ivbeg : PySem.W.isFn K (.ref fvbeg) = true)
    (lvbeg : K.lookup fvbeg = some ⟨ocvbeg, odvbeg, .func (PySem.W.fnOf "beginnings" "Lives.beginnings" (defArgs sBeg) (defBody sBeg) (defScope sBeg) .none kVvbeg dcvbeg pmvbeg anvbeg cdvbeg ctvbeg), slvbeg⟩)
    (cvbeg : PySem.W.codeIn K cdvbeg "Lives.beginnings" = true)
    (kvbeg : PySem.W.keepIn K (.ref fvbeg) = true)
    (avlife : PySem.W.findIn K (.ref CV) "life_of" = some (some (.ref fvlife)))
    (ivlife : PySem.W.isFn K (.ref fvlife) = true)
    (lvlife : K.lookup fvlife = some ⟨ocvlife, odvlife, .func (PySem.W.fnOf "life_of" "Lives.life_of" (defArgs sLife) (defBody sLife) (defScope sLife) .none kVvlife dcvlife pmvlife anvlife cdvlife ctvlife), slvlife⟩)
    (cvlife : PySem.W.codeIn K cdvlife "Lives.life_of" = true)
    (kvlife : PySem.W.keepIn K (.ref fvlife) = true)
    (avcont : PySem.W.findIn K (.ref CV) "__contains__" = some (some (.ref fvcont)))
    (ivcont : PySem.W.isFn K (.ref fvcont) = true)
    (lvcont : K.lookup fvcont = some ⟨ocvcont, odvcont, .func (PySem.W.fnOf "__contains__" "Lives.__contains__" (defArgs sCont) (defBody sCont) (defScope sCont) .none kVvcont dcvcont pmvcont anvcont cdvcont ctvcont), slvcont⟩)
    (cvcont : PySem.W.codeIn K cdvcont "Lives.__contains__" = true)
    (kvcont : PySem.W.keepIn K (.ref fvcont) = true)
    (avlen : PySem.W.findIn K (.ref CV) "__len__" = some (some (.ref fvlen)))
    (ivlen : PySem.W.isFn K (.ref fvlen) = true)
    (lvlen : K.lookup fvlen = some ⟨ocvlen, odvlen, .func (PySem.W.fnOf "__len__" "Lives.__len__" (defArgs sLen) (defBody sLen) (defScope sLen) .none kVvlen dcvlen pmvlen anvlen cdvlen ctvlen), slvlen⟩)
    (cvlen : PySem.W.codeIn K cdvlen "Lives.__len__" = true)
    (kvlen : PySem.W.keepIn K (.ref fvlen) = true)
    (avli : PySem.W.findIn K (.ref CV) "listed" = some (some (.ref pvli)))
    (gvli : PySem.W.specialIn K (.ref pvli) "__get__" = some (some (.builtin "property.__get__")))
    (tvli : PySem.W.takesIn K (.ref pvli) = some true)
    (rvli : PySem.W.recIn K pvli "property" = some (.ref fvli :: restvli))
    (lvli : K.lookup fvli = some ⟨ocvli, odvli, .func (PySem.W.fnOf "listed" "Lives.listed" (defArgs sListed) (defBody sListed) (defScope sListed) .none kVvli dcvli pmvli anvli cdvli ctvli), slvli⟩)
    (cvli : PySem.W.codeIn K cdvli "Lives.listed" = true)
    (kvli : PySem.W.keepIn K (.ref fvli) = true)
    (aCH : PySem.W.nsIn K mainGlobals "History" = some (some (.ref CH)))
    (pgCH : PySem.W.plainGet K CH Str.empty = true)
    (hdCH : PySem.W.hasDictIn K CH = true)
    (poCH : PySem.W.plainOver K CH = true)
    (saCH : PySem.W.findIn K (.ref CH) "__setattr__" = some (some (.builtin "object.__setattr__")))
    (mkCH : PySem.W.makesIn K CH = true)
    (kcCH : PySem.W.keepIn K (.ref CH) = true)
    (nCH__lives : PySem.W.findIn K (.ref CH) "_lives" = some none)
    (nCH__turns : PySem.W.findIn K (.ref CH) "_turns" = some none)
    (ahinit : PySem.W.findIn K (.ref CH) "__init__" = some (some (.ref fhinit)))
    (ihinit : PySem.W.isFn K (.ref fhinit) = true)
    (lhinit : K.lookup fhinit = some ⟨ochinit, odhinit, .func (PySem.W.fnOf "__init__" "History.__init__" (defArgs sHInit) (defBody sHInit) (defScope sHInit) .none kVhinit dchinit pmhinit anhinit cdhinit cthinit), slhinit⟩)
    (chinit : PySem.W.codeIn K cdhinit "History.__init__" = true)
    (khinit : PySem.W.keepIn K (.ref fhinit) = true)
    (ahstr : PySem.W.findIn K (.ref CH) "__str__" = some (some (.ref fhstr)))
    (ihstr : PySem.W.isFn K (.ref fhstr) = true)
    (lhstr : K.lookup fhstr = some ⟨ochstr, odhstr, .func (PySem.W.fnOf "__str__" "History.__str__" (defArgs sHStr) (defBody sHStr) (defScope sHStr) .none kVhstr dchstr pmhstr anhstr cdhstr cthstr), slhstr⟩)
    (chstr : PySem.W.codeIn K cdhstr "History.__str__" = true)
    (khstr : PySem.W.keepIn K (.ref fhstr) = true)
    (gG : PySem.W.nsIn K mainGlobals "GREATEST" = some (some (.int 1000000000000000000000000000000 tG)))
    (gL : PySem.W.nsIn K mainGlobals "LONGEST_NAME" = some (some (.int 8 tL)))
    (gA : PySem.W.nsIn K mainGlobals "LETTERS" = some (some (.str letters tA)))
    (gD : PySem.W.nsIn K mainGlobals "DIGITS" = some (some (.str digits tD)))
    (gN : PySem.W.nsIn K mainGlobals "NO_NAMES" = some (some (.ref aNo)))
    (lN : K.lookup aNo = some ⟨.type "tuple", odN, .seq itsN nN, slN⟩)
    (vN : itsN.toList.map strOf? = noNames.map some)
    (b_isinstance : PySem.W.nsIn K mainGlobals "isinstance" = some none)
    (b_int : PySem.W.nsIn K mainGlobals "int" = some none)
    (b_bool : PySem.W.nsIn K mainGlobals "bool" = some none)
    (b_str : PySem.W.nsIn K mainGlobals "str" = some none)
    (b_len : PySem.W.nsIn K mainGlobals "len" = some none)
    (b_all : PySem.W.nsIn K mainGlobals "all" = some none)
    (b_list : PySem.W.nsIn K mainGlobals "list" = some none)
    (b_tuple : PySem.W.nsIn K mainGlobals "tuple" = some none)
    (b_dict : PySem.W.nsIn K mainGlobals "dict" = some none)
    (b_abs : PySem.W.nsIn K mainGlobals "abs" = some none)
    (b_repr : PySem.W.nsIn K mainGlobals "repr" = some none)
    (b_range : PySem.W.nsIn K mainGlobals "range" = some none)
    (b_sorted : PySem.W.nsIn K mainGlobals "sorted" = some none)
    (b_set : PySem.W.nsIn K mainGlobals "set" = some none)
    (b_max : PySem.W.nsIn K mainGlobals "max" = some none)
    (b_enumerate : PySem.W.nsIn K mainGlobals "enumerate" = some none)
    : ∃ (fd : FuncData), (∀ (s : Shared) (v : Value), BindsTo s fd ⟨[v], []⟩ [("_law_script", v)]) ∧
      ∀ base : Heap, K.In base → base.Ns mainGlobals mg → FnG l.prog w K mg base CX0 10 fa fd ["_law_script"] (spLaw K) := by
  have e := hfa.symm.trans (PySem.W.mg_of X G alaw)
  cases e
  have g1 := fun {n : Str} {v : Value} (e : PySem.W.nsIn K mainGlobals n = some (some v)) => PySem.W.mg_of X G e
  have g0 := fun {n : Str} (e : PySem.W.nsIn K mainGlobals n = some none) => PySem.W.mg_none_of X G e
  have F_pen := fun_mk (st := sPen) lpen cpen kpen
  have F_draw := fun_mk (st := sDraw) ldraw cdraw kdraw
  have F_pick := fun_mk (st := sPick) lpick cpick kpick
  have F_law := fun_mk (st := sLaw) llaw claw klaw
  have F_whole := fun_mk (st := sWhole) lwhole cwhole kwhole
  have F_moment := fun_mk (st := sMoment) lmoment cmoment kmoment
  have F_isname := fun_mk (st := sName) lisname cisname kisname
  have F_check := fun_mk (st := sCheck) lcheck ccheck kcheck
  have F_withf := fun_mk (st := sWith) lwithf cwithf kwithf
  have F_isturn := fun_mk (st := sIsTurn) listurn cisturn kisturn
  have F_tword := fun_mk (st := sTWord) ltword ctword ktword
  have F_vinit := fun_mk (st := sLInit) lvinit cvinit kvinit
  have F_vbeg := fun_mk (st := sBeg) lvbeg cvbeg kvbeg
  have F_vlife := fun_mk (st := sLife) lvlife cvlife kvlife
  have F_vcont := fun_mk (st := sCont) lvcont cvcont kvcont
  have F_vlen := fun_mk (st := sLen) lvlen cvlen kvlen
  have F_vli := fun_mk (st := sListed) lvli cvli kvli
  have F_hinit := fun_mk (st := sHInit) lhinit chinit khinit
  have F_hstr := fun_mk (st := sHStr) lhstr chstr khstr
  have b_pen_ := F_pen.binds (ps := ["_law_script"]) fun _ _ _ _ _ _ us hl => match us, hl with | [_], _ => rfl
  have b_draw_ := F_draw.binds (ps := ["_law_pen_here", "_law_many"]) fun _ _ _ _ _ _ us hl => match us, hl with | [_, _], _ => rfl
  have b_pick_ := F_pick.binds (ps := ["_law_pen_here", "_law_some"]) fun _ _ _ _ _ _ us hl => match us, hl with | [_, _], _ => rfl
  have b_law_ := F_law.binds (ps := ["_law_script"]) fun _ _ _ _ _ _ us hl => match us, hl with | [_], _ => rfl
  have b_whole_ := F_whole.binds (ps := ["value"]) fun _ _ _ _ _ _ us hl => match us, hl with | [_], _ => rfl
  have b_moment_ := F_moment.binds (ps := ["value"]) fun _ _ _ _ _ _ us hl => match us, hl with | [_], _ => rfl
  have b_isname_ := F_isname.binds (ps := ["value"]) fun _ _ _ _ _ _ us hl => match us, hl with | [_], _ => rfl
  have b_check_ := F_check.binds (ps := ["value", "form"]) fun _ _ _ _ _ _ us hl => match us, hl with | [_, _], _ => rfl
  have b_withf_ := F_withf.binds (ps := ["tool", "moments"]) fun _ _ _ _ _ _ us hl => match us, hl with | [_, _], _ => rfl
  have b_isturn_ := F_isturn.binds (ps := ["lives", "life", "turn"]) fun _ _ _ _ _ _ us hl => match us, hl with | [_, _, _], _ => rfl
  have b_tword_ := F_tword.binds (ps := ["turn"]) fun _ _ _ _ _ _ us hl => match us, hl with | [_], _ => rfl
  have b_vinit_ := F_vinit.binds (ps := ["self", "begun"]) fun _ _ _ _ _ _ us hl => match us, hl with | [_, _], _ => rfl
  have b_vbeg_ := F_vbeg.binds (ps := ["self", "tool"]) fun _ _ _ _ _ _ us hl => match us, hl with | [_, _], _ => rfl
  have b_vlife_ := F_vlife.binds (ps := ["self", "tool", "moment"]) fun _ _ _ _ _ _ us hl => match us, hl with | [_, _, _], _ => rfl
  have b_vcont_ := F_vcont.binds (ps := ["self", "life"]) fun _ _ _ _ _ _ us hl => match us, hl with | [_, _], _ => rfl
  have b_vlen_ := F_vlen.binds (ps := ["self"]) fun _ _ _ _ _ _ us hl => match us, hl with | [_], _ => rfl
  have b_vli_ := F_vli.binds (ps := ["self"]) fun _ _ _ _ _ _ us hl => match us, hl with | [_], _ => rfl
  have b_hinit_ := F_hinit.binds (ps := ["self", "lives", "turns"]) fun _ _ _ _ _ _ us hl => match us, hl with | [_, _, _], _ => rfl
  have b_hstr_ := F_hstr.binds (ps := ["self"]) fun _ _ _ _ _ _ us hl => match us, hl with | [_], _ => rfl
  have L_CV : Cls K CV := ⟨pgCV, hdCV, poCV, saCV⟩
  have P_vli : PropOf K CV "listed" pvli fvli := ⟨avli, gvli, tvli, ⟨_, rvli⟩⟩
  have L_CH : Cls K CH := ⟨pgCH, hdCH, poCH, saCH⟩
  have hv := vals_strs vN
  have W : Words K mg := ⟨⟨_, g1 gG⟩, ⟨_, g1 gL⟩, ⟨_, g1 gA⟩, ⟨_, g1 gD⟩, ⟨aNo, g1 gN, fun H => .inr ⟨_, itsN, nN, lN, rfl, rfl, by
    have := hv.length
    rw [List.length_map] at this
    rw [← Array.length_toList, ← this]
    decide, hv⟩⟩, g0 b_isinstance, g0 b_int, g0 b_bool, g0 b_str, g0 b_len, g0 b_all⟩
  have WL : WordsL mg := ⟨g0 b_sorted, g0 b_set, g0 b_max, g0 b_tuple, g0 b_dict⟩
  have NW : WordsW mg := ⟨g0 b_range, g0 b_repr, g0 b_enumerate, g0 b_str⟩
  have TV : Lvs K mg CV := ⟨L_CV, nCV__begun, g1 aCV⟩
  have TH : Hsts K mg CH := ⟨L_CH, nCH__lives, nCH__turns, g1 aCH⟩
  refine ⟨PySem.W.fnOf "law" "law" (defArgs sLaw) (defBody sLaw) (defScope sLaw) .none kVlaw dclaw pmlaw anlaw cdlaw ctlaw, fun s v => .of_eq rfl, fun base _ _ => ?_⟩
  have GD := ok_draw (P := l.prog) (w := w) (base := base) F_draw (g0 b_len) (g0 b_int) (g0 b_abs)
  have GPk := ok_pick (P := l.prog) (w := w) (base := base) F_pick (g0 b_len) F_draw b_draw_ (g1 adraw) GD
  have GPen := ok_pen (P := l.prog) (w := w) (base := base) F_pen (g0 b_list)
  have GM := ok_moment (P := l.prog) (w := w) (base := base) F_moment W F_whole b_whole_ (g1 awhole)
  have GNm := ok_name (P := l.prog) (w := w) (base := base) F_isname W
  have GC := ok_check (P := l.prog) (w := w) (base := base) F_check W F_moment b_moment_ (g1 amoment) GM F_isname b_isname_ (g1 aisname) GNm
  have GW := ok_with (P := l.prog) (w := w) (base := base) F_withf WL F_check b_check_ (g1 acheck) GC
  have GVi := ok_linit (P := l.prog) (w := w) (base := base) F_vinit TV WL F_withf b_withf_ (g1 awithf) GW
  have GLd := ok_listed (P := l.prog) (w := w) (base := base) F_vli TV WL
  have GBg := ok_beg (P := l.prog) (w := w) (base := base) F_vbeg TV W
  have GCt := ok_cont (P := l.prog) (w := w) (base := base) F_vcont TV W WL F_whole b_whole_ (g1 awhole)
  have GLn := ok_len (P := l.prog) (w := w) (base := base) F_vlen TV W pvli P_vli b_vli_ GLd
  have GLf := ok_life (P := l.prog) (w := w) (base := base) F_vlife WL ⟨avbeg, ivbeg, kvbeg⟩ TV b_vbeg_ GBg F_check b_check_ (g1 acheck) GC
  have GTn := ok_isTurn (P := l.prog) (w := w) (base := base) F_isturn TV F_moment b_moment_ (g1 amoment) GM ⟨avlife, ivlife, kvlife⟩ b_vlife_ GLf
  have GTw := ok_tword (P := l.prog) (w := w) (base := base) F_tword W
  have GHi := ok_hinit (P := l.prog) (w := w) (base := base) F_hinit TV TH W WL F_isturn b_isturn_ (g1 aisturn) GTn avlen ivlen b_vlen_ GLn avcont ivcont b_vcont_ GCt pvli P_vli b_vli_ GLd
  have GHs := ok_hstr (P := l.prog) (w := w) (base := base) F_hstr TH F_tword b_tword_ (g1 atword) GTw
  have LM : LivM l.prog w K mg base CV fvinit _ := ⟨TV, ⟨mkCV, avinit, ivinit, kcCV⟩, b_vinit_, GVi⟩
  have HM : HisM l.prog w K mg base CV CH fhinit _ fhstr _ := ⟨TH, ⟨mkCH, ahinit, ihinit, kcCH⟩, b_hinit_, GHi, ahstr, ihstr, b_hstr_, GHs⟩
  exact ok_law F_law LM HM WL NW F_pen b_pen_ (g1 apen) GPen F_draw b_draw_ (g1 adraw) GD F_pick b_pick_ (g1 apick) GPk
theorem walk {l : PySem.W.OpenLaw} {q : Program} {loose : List Str} {XP : (Str → Option Value) → Heap → Prop} {YP : World → Heap → Prop} {d : DefRec} {K : Params → PySem.W.Frag} (hn : l.most = some 63) (hdf : d.params.defaults = []) (hnm : d.name = "law")
    (hY : ∀ (w : World) (h : Heap), YP w h → (K w.params).In h)
    (F : ∀ (w : World) (mg : Str → Option Value) (fa : Addr) (h : Heap), (K w.params).In h → h.Ns mainGlobals mg → mg "law" = some (.ref fa) →
      ∃ (fd : FuncData), (∀ (s : Shared) (u : Value), BindsTo s fd ⟨[u], []⟩ [("_law_script", u)]) ∧ ∀ base : Heap, (K w.params).In base → base.Ns mainGlobals mg → FnG l.prog w (K w.params) mg base CX0 10 fa fd ["_law_script"] (spLaw (K w.params))) :
    PySem.W.WalkO q loose XP YP l.row.toRowW d [] (fun f vs => PySem.call f vs) := by
  refine walk_ofG (CX := fun _ => CX0) (sp := fun w => spLaw (K w.params)) (k := 10) hn (by decide) hdf ⟨rfl, by decide, by decide⟩ hY (fun w mg fa h KX G hmg => F w mg fa h KX G (by rw [hnm] at hmg; exact hmg)) (fun w H a ns hl hb hO hS => ⟨a, ns, rfl, hS, fun _ => rfl⟩) fun _ _ _ _ _ z => z
end K30

open PySem PySem.W PyProof.Rows in
set_option maxRecDepth 100000 in
set_option maxHeartbeats 0 in
theorem PySem.Challenge.cw_soundtill_k30_histories_written_holds : PySem.Challenge.rw_soundtill_k30_histories_written.Holds := by
  w_on; o_law; k_head; (case hw => w_witness2)
  k_fill
  refine K30.walk (l := PySem.Challenge.rw_soundtill_k30_histories_written) rfl rfl rfl (fun w h Y => PySem.W.kIn_of Y) ?F
  case F =>
    intro w mg fa h KX G hmg
    refine' K30.all_mk KX G hmg ?apen ?lpen ?cpen ?kpen ?adraw ?ldraw ?cdraw ?kdraw ?apick ?lpick ?cpick ?kpick ?alaw ?llaw ?claw ?klaw ?awhole ?lwhole ?cwhole ?kwhole ?amoment ?lmoment ?cmoment ?kmoment ?aisname ?lisname ?cisname ?kisname ?acheck ?lcheck ?ccheck ?kcheck ?awithf ?lwithf ?cwithf ?kwithf ?aisturn ?listurn ?cisturn ?kisturn ?atword ?ltword ?ctword ?ktword ?aCV ?pgCV ?hdCV ?poCV ?saCV ?mkCV ?kcCV ?nCV__begun ?avinit ?ivinit ?lvinit ?cvinit ?kvinit ?avbeg ?ivbeg ?lvbeg ?cvbeg ?kvbeg ?avlife ?ivlife ?lvlife ?cvlife ?kvlife ?avcont ?ivcont ?lvcont ?cvcont ?kvcont ?avlen ?ivlen ?lvlen ?cvlen ?kvlen ?avli ?gvli ?tvli ?rvli ?lvli ?cvli ?kvli ?aCH ?pgCH ?hdCH ?poCH ?saCH ?mkCH ?kcCH ?nCH__lives ?nCH__turns ?ahinit ?ihinit ?lhinit ?chinit ?khinit ?ahstr ?ihstr ?lhstr ?chstr ?khstr ?gG ?gL ?gA ?gD ?gN ?lN ?vN ?b_isinstance ?b_int ?b_bool ?b_str ?b_len ?b_all ?b_list ?b_tuple ?b_dict ?b_abs ?b_repr ?b_range ?b_sorted ?b_set ?b_max ?b_enumerate
    (case apen => k_is)
    (case lpen => k_is)
    (case cpen => k_is)
    (case kpen => k_is)
    (case adraw => k_is)
    (case ldraw => k_is)
    (case cdraw => k_is)
    (case kdraw => k_is)
    (case apick => k_is)
    (case lpick => k_is)
    (case cpick => k_is)
    (case kpick => k_is)
    (case alaw => k_is)
    (case llaw => k_is)
    (case claw => k_is)
    (case klaw => k_is)
    (case awhole => k_is)
    (case lwhole => k_is)
    (case cwhole => k_is)
    (case kwhole => k_is)
    (case amoment => k_is)
    (case lmoment => k_is)
    (case cmoment => k_is)
    (case kmoment => k_is)
    (case aisname => k_is)
    (case lisname => k_is)
    (case cisname => k_is)
    (case kisname => k_is)
    (case acheck => k_is)
    (case lcheck => k_is)
    (case ccheck => k_is)
    (case kcheck => k_is)
    (case awithf => k_is)
    (case lwithf => k_is)
    (case cwithf => k_is)
    (case kwithf => k_is)
    (case aisturn => k_is)
    (case listurn => k_is)
    (case cisturn => k_is)
    (case kisturn => k_is)
    (case atword => k_is)
    (case ltword => k_is)
    (case ctword => k_is)
    (case ktword => k_is)
    (case aCV => k_is)
    (case pgCV => k_is)
    (case hdCV => k_is)
    (case poCV => k_is)
    (case saCV => k_is)
    (case mkCV => k_is)
    (case kcCV => k_is)
    (case nCV__begun => k_is)
    (case avinit => k_is)
    (case ivinit => k_is)
    (case lvinit => k_is)
    (case cvinit => k_is)
    (case kvinit => k_is)
    (case avbeg => k_is)
    (case ivbeg => k_is)
    (case lvbeg => k_is)
    (case cvbeg => k_is)
    (case kvbeg => k_is)
    (case avlife => k_is)
    (case ivlife => k_is)
    (case lvlife => k_is)
    (case cvlife => k_is)
    (case kvlife => k_is)
    (case avcont => k_is)
    (case ivcont => k_is)
    (case lvcont => k_is)
    (case cvcont => k_is)
    (case kvcont => k_is)
    (case avlen => k_is)
    (case ivlen => k_is)
    (case lvlen => k_is)
    (case cvlen => k_is)
    (case kvlen => k_is)
    (case avli => k_is)
    (case gvli => k_is)
    (case tvli => k_is)
    (case rvli => k_is)
    (case lvli => k_is)
    (case cvli => k_is)
    (case kvli => k_is)
    (case aCH => k_is)
    (case pgCH => k_is)
    (case hdCH => k_is)
    (case poCH => k_is)
    (case saCH => k_is)
    (case mkCH => k_is)
    (case kcCH => k_is)
    (case nCH__lives => k_is)
    (case nCH__turns => k_is)
    (case ahinit => k_is)
    (case ihinit => k_is)
    (case lhinit => k_is)
    (case chinit => k_is)
    (case khinit => k_is)
    (case ahstr => k_is)
    (case ihstr => k_is)
    (case lhstr => k_is)
    (case chstr => k_is)
    (case khstr => k_is)
    (case gG => k_is)
    (case gL => k_is)
    (case gA => k_is)
    (case gD => k_is)
    (case gN => k_is)
    (case lN => k_is)
    (case vN => rfl)
    (case b_isinstance => k_is)
    (case b_int => k_is)
    (case b_bool => k_is)
    (case b_str => k_is)
    (case b_len => k_is)
    (case b_all => k_is)
    (case b_list => k_is)
    (case b_tuple => k_is)
    (case b_dict => k_is)
    (case b_abs => k_is)
    (case b_repr => k_is)
    (case b_range => k_is)
    (case b_sorted => k_is)
    (case b_set => k_is)
    (case b_max => k_is)
    (case b_enumerate => k_is)
