import PyProof.Rows.All
import Wide.All
import OpenK.AllK
import Wide.FinOn
import HandS.ForMost
import HandS.OwnEq
import HandS.IsInst
import HandS.Wide
import HandS.EndBits
import HandS.Property
import KE.LtData
import HandS.NamedTupSort
import HandS.Exc
import HandS.ExcInit
import HandS.ExcIs
import HandS.ExcField
import HandS.TryOnly
import HandS.Lambda
import HandS.ClsMeth
import HandS.MakeKwOnly
import KE.KOpsOwn
import HandS.WordsExc
import HandS.WordsDict
import HandS.Codes
import HandS.Walk
import HandS.SetFor
import HandS.Strs
import HandS.Defaults
import HandS.Small
import HandS.LawCells
import OpenK.KMeth
import KE.DataMinMax
import HandS.Star
import HandS.DictComp
import HandS.More
import HandS.Set
import PyProof.Rows.SortShellAny
import PyProof.Rows.StrMeet
import HandS.Comp
import PyProof.ListNew
import PyProof.Conv_bool
import OpenK.KOps
import HandS.EndTab
import HandS.Conv
import KE.KDictSum
import HandS.Deep
import KE.KEqDict
import KE.DataEq
import HandS.DictEq
import PyProof.EqKinds
import PyProof.Rows.TupMore
import PyProof.DictTruth
import PyProof.Rows.SortStr
import HandS.List
import PyProof.ReprRoads
import HandS.Words
import PyProof.StrLawsRepr
import PyProof.StrLawsTight
import PyProof.StrLawsChain
import PyProof.Rows.StrSplitJoin
import PyProof.Rows.StrItems
import PyProof.Rows.StrSplitAre
import PyProof.NeKinds
import PyProof.EqAt
import PyProof.StrBlock2
import HandS.DictTup
import HandS.Style
import HandS.Call
import PyProof.ListRange
import PyProof.LongRange
import PySem.Challenge.RW_soundtill_k08_lives_made
set_option Elab.async false
set_option linter.all false
set_option maxRecDepth 100000
set_option maxHeartbeats 8000000
/-! So: rules of our own over the hand layer. Runs whose guards are known (for repr), repr of data, == and != by an own __eq__ with both answers, < of data, a method's call with keywords. -/
namespace So
open PySem PySem.Spec PyProof.Rows L2

/-! ### repr of data -/
mutual
theorem dp_noDict {K : PySem.W.Frag} {H : Hp} : ∀ (d : PyData) (v : V), Dp K H v d → d.hasDict = false
  | .none, _, _ => rfl
  | .bool _, _, _ => rfl
  | .int _, _, _ => rfl
  | .str _, _, _ => rfl
  | .list ds, _, h => by
    cases h with
    | lst _ ha => simpa [PyData.hasDict] using dp_noDictAll ds _ ha
  | .tuple ds, _, h => by
    cases h with
    | tup _ ha => simpa [PyData.hasDict] using dp_noDictAll ds _ ha
  | .dict _, _, h => by cases h
theorem dp_noDictAll {K : PySem.W.Frag} {H : Hp} : ∀ (ds : List PyData) (vs : List V), DpAll K H vs ds → PyData.hasDictAll ds = false
  | [], _, _ => rfl
  | d :: ds, _, h => by
    cases h with
    | cons h1 h2 => simp [PyData.hasDictAll, dp_noDict d _ h1, dp_noDictAll ds _ h2]
end

/-- repr(x): what it asks -/
def rRepr (K : PySem.W.Frag) : List V → Hp → VK → Prop := fun xs H Q => ∃ v d, xs = [v] ∧ Dp K H v d ∧ d.showable = true ∧ d.depth ≤ 60 ∧ d.shown.length ≤ sizeLine ∧ Q (.str d.shown) H
section
variable {X : Cx}
theorem call_reprD (hg : X.A.guards = some []) (hu : X.A.units + 64 < cLine) : CallR X (.builtin "repr") (rRepr X.K) := by
  intro pins s σ H xs us Q I r h
  obtain ⟨v, d, rfl, hd, hs, hdep, hz, q⟩ := h
  obtain ⟨u, rfl, rv⟩ := vals1 r
  obtain ⟨as, rd⟩ := Dp.reads I d v u hd rv
  have nd : d.hasDict = false := dp_noDict d v hd
  cases v with
  | ref a =>
    cases rv
    refine repr_of_reads' rd hs (fun z => by rw [nd] at z; cases z) hg (by omega) (fun _ _ e => e) (fun h' t tk k => ?_) hz
    exact ⟨.str d.shown, H, I.kept k, ⟨t, rfl⟩, q⟩
  | non =>
    cases hd
    cases rv
    exact PySem.P.repr_of_none ⟨.str _, H, I.tok _, ⟨_, rfl⟩, q⟩
  | bl b =>
    cases hd
    cases rv
    refine PySem.P.repr_of_bool ⟨.str (PyData.shown (.bool b)), H, I.tok _, ⟨s.toks, ?_⟩, q⟩
    cases b <;> rfl
  | int i =>
    cases hd
    obtain ⟨t, rfl⟩ := rv
    exact PySem.P.repr_of_int (by simpa [PyData.showable] using hs) ⟨.str _, H, I.tok _, ⟨_, rfl⟩, q⟩
  | str x =>
    cases hd
    obtain ⟨t, rfl⟩ := rv
    exact PySem.P.repr_of_str ⟨.str _, H, I.tok _, ⟨_, rfl⟩, q⟩ hz
  | byt b => cases hd
  | flt b => cases hd
  | ty n => cases hd

/-! ### < of data -/
def rLtD (K : PySem.W.Frag) : R2 := fun x y H Q => ∃ d e, Dp K H x d ∧ Dp K H y e ∧ PySem.W.alike d e = true ∧ d ≠ .none ∧ d.depth ≤ 60 ∧ Q (.bl (PySem.W.dataLt d e)) H
theorem op_ltD (hu : X.A.units + 64 < cLine) : OpR X (compareOp .Lt) (rLtD X.K) := by
  intro pins s σ H x y v u Q I rx ry h
  obtain ⟨d, e, hd, he, al, nn, dep, q⟩ := h
  obtain ⟨as, r1⟩ := Dp.reads I d x v hd rx
  obtain ⟨bs, r2⟩ := Dp.reads I e y u he ry
  have hm : min d.depth e.depth ≤ d.depth := Nat.min_le_left _ _
  exact PySem.W.rcLt_alike d e X.A s v u as bs r1 r2 al nn (by omega) _ _ _ _ ⟨.bl _, H, I, rfl, q⟩
end
end So

namespace So
open PySem PySem.Spec PyProof.Rows L2

/-! ### == and != by an own __eq__, both answers -/
/-- x is an instance of C, y of a type that is no class below C; the own __eq__ answers b -/
def rOwn (C : Addr) (K : PySem.W.Frag) (sp : Sp) (E : XK) (g : Bool → Bool) : R2 := fun x y H Q => ∃ a dx fs t, x = .ref a ∧ H a = some (.ins C dx fs) ∧ TyX K H y t ∧ PySem.W.notFirst K C t = true ∧
  sp [.ref a, y] H (fun v H' => ∃ b, v = .bl b ∧ Q (.bl (g b)) H') E
section
variable {X : Cx} {CX : CXT} {k : Nat} {C f : Addr} {fd : FuncData} {ps : List Str} {sp : Sp} {E : XK}
/-- what is wanted of a comparison's answer -/
def BlP (X : Cx) (pins : List (Addr × Obj)) (σ : L2.St) (g : Bool → Bool) (Q : VK) (v : Value) (s' : Shared) : Prop := ∃ b H', v = .bool b ∧ Inv X pins σ H' s' ∧ Q (.bl (g b)) H'
theorem run_eq {pins : List (Addr × Obj)} {s : Shared} {σ : L2.St} {H : Hp} {a dx : Addr} {fs : List (Str × V)} {y : V} {u : Value} {Q : VK} {g : Bool → Bool} {A : Around} (F : FnOk X.prog X.w X.K X.mg X.base CX k f fd ps sp) (hb : Binds X.K fd ps [])
    (hx : Passes CX X E) (hr : Room k A) (hf : A.frames = X.A.frames) (I : Inv X pins σ H s) (ry : RelV y u) (h : sp [.ref a, y] H (fun v H' => ∃ b, v = .bl b ∧ Q (.bl (g b)) H') E) :
    wpAny (model X.prog X.w) A (call (.ref f) [.ref a, u]) (fun v s' => BlP X pins σ g Q v s') X.xe s := by
  have e0 : Env0 X.prog X.w X.K X.mg X.base A X.stack s H := by
    have e := I.env0
    exact ⟨hf.trans e.frames, e.mod, e.bs, e.bsz, e.funs, e.frf, e.hok, e.bare⟩
  have hl : ([Value.ref a, u] ++ ([] : List Value)).length = ps.length := (F.len _ _ _ _ h : [V.ref a, y].length = ps.length)
  refine wpAny_call (codeAny_mono (F.run A X.stack s H ⟨[.ref a, u], []⟩ ([.ref a, u] ++ []) [.ref a, y] _ E hr e0 (hb s [.ref a, u] I.kIn hl) (.cons rfl (.cons ry .nil)) h) fun r s' hq => ?_)
  cases r with
  | error e => exact hx pins σ H s e s' I hq
  | ok fl =>
    cases fl with
    | ret w =>
      obtain ⟨z, H', I', rz, b, ez, q⟩ := I.after hq
      subst ez
      cases rz
      exact ⟨b, H', rfl, I', q⟩
    | next => exact False.elim hq
    | brk => exact False.elim hq
    | cont => exact False.elim hq

theorem op_eqOwn (F : FnOk X.prog X.w X.K X.mg X.base CX k f fd ps sp) (hs : PySem.W.findIn X.K (.ref C) "__eq__" = some (some (.ref f))) (hf : PySem.W.isFn X.K (.ref f) = true) (hb : Binds X.K fd ps []) (hx : Passes CX X E) (hr : Room k X.A) :
    OpR X (compareOp .Eq) (rOwn C X.K sp E id) := by
  intro pins s σ H x y v u Q I rx ry h
  obtain ⟨a, dx, fs, t, rfl, ha, ty, nf, q⟩ := h
  cases rx
  obtain ⟨mA, J, _⟩ := ins_get I.hok ha
  obtain ⟨od, J, _⟩ := J.look
  obtain ⟨P, Z, p, _⟩ := kit_of I ry ty
  obtain ⟨m, hF⟩ := I.fr
  show wpAny _ _ (richCompare .Eq (.ref a) u) _ _ s
  refine PySem.W.cmp_K (op := .Eq) (tb := t) hr.units0 hF I.ok.mod.kin J (Z.ty _ _ I.kIn p) nf hs hf ?_
  refine wpAny_mono (run_eq (dx := dx) (fs := fs) F hb hx hr rfl I ry q) (fun w s' z => ?_) fun _ _ z => z
  obtain ⟨b, H', rfl, I', q'⟩ := z
  exact ⟨.bl b, H', I', rfl, q'⟩

/-- != where the class has an own __eq__ and object's __ne__ -/
theorem op_neOwn (F : FnOk X.prog X.w X.K X.mg X.base CX k f fd ps sp) (hs : PySem.W.findIn X.K (.ref C) "__eq__" = some (some (.ref f))) (hf : PySem.W.isFn X.K (.ref f) = true) (hb : Binds X.K fd ps []) (hx : Passes CX X E) (hr : Room (k + 1) X.A)
    (hn : PySem.W.findIn X.K (.ref C) "__ne__" = some (some (.builtin "object.__ne__"))) (hm : PySem.W.mroIn X.K C (.type "object") = some true) : OpR X (compareOp .NotEq) (rOwn C X.K sp E not) := by
  intro pins s σ H x y v u Q I rx ry h
  obtain ⟨a, dx, fs, t, rfl, ha, ty, nf, q⟩ := h
  cases rx
  obtain ⟨mA, J, _⟩ := ins_get I.hok ha
  obtain ⟨od, J, _⟩ := J.look
  obtain ⟨P, Z, p, _⟩ := kit_of I ry ty
  have KI := I.kIn
  have hb' := Z.ty (model X.prog X.w) _ I.kIn p
  have hu : X.A.units < cLine := hr.units0
  show wpAny _ _ (richCompare .NotEq (.ref a) u) _ _ s
  have one : wpAny (model X.prog X.w) X.A (tryCompare (.ref a) "__ne__" u) (fun r s' => ∃ v, r = some v ∧ EP X pins σ Q v s') X.xe s := by
    unfold tryCompare
    refine wpAny_bind (NtL.csib (J.type.andThen (PySem.W.looks_findIn KI hn)) (PySem.F.cmp_object.ne.bind _) (wpAny_call (codeAny_call_builtin PySem.F.cmp_object.ne.plain PySem.F.cmpEntry_ne (PySem.W.check_slot PySem.F.cmpKind_ne PySem.F.cmpSplit_ne (J.type.andThen (PySem.W.looks_mroIn KI hm)) (PySem.F.cmpArgs_ne _ _) ?_))))
    unfold Builtin.«object.__ne__»
    refine wpAny_bind (wpAny_of_eq (a := ((Value.ref a : Value), [u])) (by first | rfl | (simp only [slotArgs]; rfl)) ?_)
    refine wpAny_bind (wpAny_cRoomFor (by show X.A.units + 1 < cLine; have := hr.units; omega) ?_)
    refine wpAny_bind (PySem.W.ifBound_K KI J hs hf (wpAny_mono (run_eq (dx := dx) (fs := fs) F hb hx hr.in1 rfl I ry q) (fun w s' z => ?_) fun _ _ z => z))
    obtain ⟨b, H', rfl, I', q'⟩ := z
    refine wpAny_bind (wpAny_truthy_bool ?_)
    refine wpAny_pure ?_
    exact wpAny_pure ⟨_, rfl, .bl (!b), H', I', rfl, q'⟩
  unfold richCompare
  simp only [oneThing_ref]
  refine wpAny_holding (wpAny_bind (wpAny_cRoomFor hu ?_))
  refine wpAny_bind (J.type.here (wpAny_bind (hb'.here ?_)))
  have fin : wpAny (model X.prog X.w) X.A (tryCompare (.ref a) "__ne__" u) (fun r s' => ∃ v, r = some v ∧ EP X pins σ Q v s') X.xe s := one
  split
  · rename_i z
    have e : PySem.W.subIn X.K t (.ref C) = some false := by
      rcases Bool.or_eq_true_iff.mp nf with e | e
      · rw [beq_iff_eq.mp e] at z; simp at z
      · exact beq_iff_eq.mp e
    refine wpAny_bind ((PySem.W.looks_subIn KI e).here ?_)
    simp only [Bool.false_eq_true, if_false]
    exact wpAny_bind (wpAny_mono fin (fun r s' z => by obtain ⟨v, rfl, hq⟩ := z; exact wpAny_pure hq) fun _ _ e => e)
  · refine wpAny_bind (wpAny_pure ?_)
    simp only [Bool.false_eq_true, if_false]
    exact wpAny_bind (wpAny_mono fin (fun r s' z => by obtain ⟨v, rfl, hq⟩ := z; exact wpAny_pure hq) fun _ _ e => e)
end
end So

namespace So
open PySem PySem.Spec PyProof.Rows L2

/-! ### runs in which no repr is under way -/
/-- as FnOk, where no repr is under way at the call -/
structure FnG (P : Program) (w : World) (K : PySem.W.Frag) (mg : Str → Option Value) (base : Heap) (CX : CXT) (k : Nat) (f : Addr) (fd : FuncData) (ps : List Str) (sp : Sp) : Prop where
  lenG : ∀ (vs : List V) (H : Hp) (Q : VK) (E : XK), sp vs H Q E → vs.length = ps.length
  runG : ∀ (A : Around) (outer : List Env) (s : Shared) (H : Hp) (args : Args) (us : List Value) (vs : List V) (Q : VK) (E : XK), A.guards = some [] → Room k A → Env0 P w K mg base A outer s H →
    BindsTo s fd args (ps.zip us) → Vals vs us → sp vs H Q E → codeAny (model P w) A (.call (.ref f) args) (CR CX outer P w H s Q E) s
section
variable {P : Program} {w : World} {K : PySem.W.Frag} {mg : Str → Option Value} {base : Heap} {CX : CXT} {sp : Sp} {fd : FuncData} {ps N : List Str} {k : Nat} {f : Addr}
theorem FnG.ofOk (F : FnOk P w K mg base CX k f fd ps sp) : FnG P w K mg base CX k f fd ps sp :=
  ⟨F.len, fun A outer s H args us vs Q E _ => F.run A outer s H args us vs Q E⟩
/-- a def by its body, as the layer's rule, the guards told -/
theorem fnG_of {x qual : Str} {st : Stmt} (F : Fun K x qual st f fd) (S : FnScope N ps (defScope st)) (len : ∀ vs H Q E, sp vs H Q E → vs.length = ps.length)
    (hbody : ∀ (cdv : Value) (A : Around) (outer : List Env) (s : Shared) (H : Hp) (vs : List V) (Q : VK) (E : XK), A.guards = some [] → Room k (A.deeper (envOfC qual (defScope st) s.heap.objs.size f cdv)) → sp vs H Q E →
      ∃ t, PSs (cxOf CX P w K mg base N qual (defScope st) f cdv A outer s H E).nox (defBody st) t ∧ t { nx := fun _ H' => Q .non H', rt := Q } (start N vs) H) : FnG P w K mg base CX (k + 1) f fd ps sp := by
  obtain ⟨oc, od, kV, doc, pm, an, cdv, ct, osl, rfl, lk, hcd⟩ := F.ex
  constructor
  · exact len
  intro A outer s H args us vs Q E hg hr e0 hb r hsp
  have old : ∀ b o, base.get? b = some o → s.heap.get? b = some o := fun b o e => (e0.bs b o e).1
  have KX := e0.mod.kin.keeps old
  have lim := e0.mod.nolimit.keeps old
  refine codeAny_call_function hr.depth (KX _ _ lk) rfl S.co S.gen rfl (PySem.W.codeRec_of KX hcd) (hb _ _ _ _ ?_)
  refine wpAny_newFunctionEnv_cells S.kind (fun y hy => ?_) fun env he s1 x => ?_
  · rcases S.par y.1 (List.of_mem_zip (show (y.1, y.2) ∈ ps.zip us from hy)).1 with q | q
    · exact Or.inl q
    · exact Or.inr (And.intro q (PySem.W.cellsFrom_some _ _ _ (Or.inl q)))
  subst he
  refine And.intro (lim.keeps x.toInCall.keep) (codeAny_func ?_)
  obtain ⟨t, ht, hq⟩ := hbody cdv A outer s H vs Q E hg (hr.deeper _) hsp
  refine wpAny_mono (ht.nox.run [] s1 (start N vs) H _ (inv_start S hr.hd e0 (len _ _ _ _ hsp) r x) hq) (fun fl s' hs => ?_) fun _ _ hs => hs
  match fl, hs with
  | .ret u, ⟨v, σ', H', J, rv, q⟩ => exact ⟨v, H', J.os, J.bare, J.base, J.hok, rv, q⟩
  | .next, ⟨σ', H', J, q⟩ => exact ⟨V.non, H', J.os, J.bare, J.base, J.hok, rfl, q⟩
  | .brk, ⟨_, _, _, q⟩ => exact q.elim
  | .cont, ⟨_, _, _, q⟩ => exact q.elim
end

/-! ### calls -/
section
variable {X : Cx} {CX : CXT} {k : Nat} {f C : Addr} {fd : FuncData} {ps ks : List Str} {sp : Sp} {E : XK} {x m : Str} {p pos apos : Pos} {e o : Expr} {es : List Expr} {kws : List Keyword} {ta : TE} {t tk : TA} {dvs : List V} {ds : List Value}
theorem run_fnG {pins : List (Addr × Obj)} {σ : L2.St} {H : Hp} {s : Shared} {Q : VK} {us : List Value} {vs : List V} (F : FnG X.prog X.w X.K X.mg X.base CX k f fd ps sp) (hg : X.A.guards = some []) (hr : Room k X.A) (hb : Binds X.K fd ps ds) (hd : Vals dvs ds)
    (hx : Passes CX X E) (I : Inv X pins σ H s) (r : Vals vs us) (h : sp (vs ++ dvs) H Q E) : wpAny (model X.prog X.w) X.A (call (.ref f) us) (EP X pins σ Q) X.xe s := by
  have r2 := r.append hd
  have hl : (us ++ ds).length = ps.length := r2.length.symm.trans (F.lenG _ _ _ _ h)
  refine wpAny_call (codeAny_mono (F.runG X.A X.stack s H ⟨us, []⟩ (us ++ ds) (vs ++ dvs) Q E hg hr I.env0 (hb s us I.kIn hl) r2 h) fun r s' hq => ?_)
  match r, hq with
  | .error e, hq => exact hx pins σ H s e s' I hq
  | .ok (.ret u), hq => exact I.after hq
  | .ok .next, hq => exact hq.elim
  | .ok .brk, hq => exact hq.elim
  | .ok .cont, hq => exact hq.elim
/-- f(e, ..), f by FnG -/
theorem pe_callG (F : FnG X.prog X.w X.K X.mg X.base CX k f fd ps sp) (hg : X.A.guards = some []) (hr : Room k X.A) (hgl : Gl X x) (hm : X.mg x = some (.ref f)) (hk : PySem.W.keepIn X.K (.ref f) = true) (hb : Binds X.K fd ps ds) (hd : Vals dvs ds) (hx : Passes CX X E)
    (ha : PA X (e :: es) t) (hdb : (x == ("__debug__" : Str)) = false := by decide) (he : starEach (e :: es) X.env = (false, eval e X.env) :: starEach es X.env := by rfl) (hpl : (backTo pos (starEach es X.env)).any (·.1) = false := by rfl) :
    PE X (.Call (.Name x p) (e :: es) [] pos) (tCall sp dvs E t) := by
  constructor
  intro pins s σ H Q I h
  refine wpAny_Call_Name_kw (ld_glob I hgl hm (PySem.W.callWith_K (h₀ := X.base) I.ok.mod.kin hk (thn (ha.run pos pins s σ H _ I h) fun us s1 q => ?_) he hpl) hdb)
  obtain ⟨vs, H1, I1, r, q⟩ := q
  exact ⟨I1.kIn, run_fnG F hg hr hb hd hx I1 r q⟩
/-- o.m(k = v, ..): keywords alone -/
theorem pe_methK {g : List Value → List Value → List Value} {gV : List V → List V → List V} {pl : Sem Bool} (he : PE X o ta) (c : Cls X.K C) (hm : Meth X.K C m f) (F : FnOk X.prog X.w X.K X.mg X.base CX k f fd ps sp) (hr : Room k X.A) (hb : KBinds X.K fd ps ks g gV)
    (hx : Passes CX X E) (hkw : PK X kws tk) (hall : (backToKw pos (keywordEach kws X.env)).all (·.1.isSome) = true := by rfl) (hks : (backToKw pos (keywordEach kws X.env)).filterMap (·.1) = ks := by rfl)
    (hpl : ((backTo pos (starEach [] X.env)).any (·.1) || (backToKw pos (keywordEach kws X.env)).any (·.1.isNone)) = false := by rfl)
    (ht : eval (.Call (.Attribute o m apos) [] kws pos) X.env = (do
      let ov ← eval o X.env
      standAt apos.atName
      let fx ← holding [ov] (getMethod ov m pl)
      callWith pos fx.1 fx.2 (backTo pos (starEach [] X.env)) (backToKw pos (keywordEach kws X.env))) := by rfl) :
    PE X (.Call (.Attribute o m apos) [] kws pos) (fun σ H Q => ta σ H fun x H1 => ∃ a dx fs, x = .ref a ∧ H1 a = some (.ins C dx fs) ∧ fs.lookup m = none ∧ tk σ H1 fun zs H2 => sp (gV [x] zs) H2 Q E) := by
  constructor
  intro pins s σ H Q I h
  refine PySem.W.methodCall_KW (pl := pl) (thn (he.run pins s σ H _ I h) fun u s1 z => ?_) ht
  obtain ⟨x, H1, I1, rx, a, dx, fs, ex, ea, l, q⟩ := z
  subst ex
  cases rx
  refine getmeth_ok I1 ea c hm l ?_
  refine PySem.W.callWith_KW0 (first := [.ref a]) (h₀ := X.base) I.ok.mod.kin hm.kp hall (thn (hkw.run pos pins s1 σ H1 _ I1 q) fun ws s2 z => ?_) hpl
  obtain ⟨zs, H2, I2, rz, q2⟩ := z
  refine ⟨I2.kIn, ?_⟩
  rw [hks]
  exact run_fnk (us := [.ref a]) (vs := [.ref a]) F hr hb hx I2 (.cons rfl .nil) rz q2
end

/-! ### the end of a law -/
theorem law_callG {P : Program} {w : World} {K : PySem.W.Frag} {mg mb : Str → Option Value} {CX : CXT} {k : Nat} {fa a : Addr} {fd : FuncData} {x : Str} {sp : Sp} {s₁ : Shared} {vs : List Value} {ns : List Int}
    (KX : K.In s₁.heap) (hns : s₁.heap.Ns mainGlobals mg) (hb : s₁.heap.Ns builtinsNs mb) (hbb : ∀ x : Str, x ≠ "__name__" → mb x = bootBuiltins x) (hlim : s₁.heap.NoLimit) (hg : s₁.gens = #[])
    (ha : s₁.heap.get? a = some { cls := .type "list", data := .seq vs.toArray }) (hi : IntsAre vs ns) (hl : ns.length ≤ sizeLine) (hr : Room k callerA)
    (F : ∀ base : Heap, K.In base → base.Ns mainGlobals mg → FnG P w K mg base CX k fa fd [x] sp) (hbind : ∀ (s : Shared) (u : Value), BindsTo s fd ⟨[u], []⟩ [(x, u)])
    (hsp : ∀ H : Hp, Only H → SqL K H a (ns.map V.int) → sp [.ref a] H (fun v _ => v = .bl true) fun _ _ _ => False)
    (hCX : ∀ H e s', CX [] H s₁ (fun _ _ _ => False) e s' → False) :
    codeAny (model P w) callerA (.call (.ref fa) ⟨[.ref a], []⟩) (fun r s' => r = .ok (.ret (.bool true)) ∧ OldK s₁.heap s'.heap ∧ s'.os = s₁.os ∧ AllBare s'.gens) s₁ := by
  -- the call itself, for a heap in which the script alone may be tracked
  have go : ∀ H : Hp, Only H → SqL K H a (ns.map V.int) → HOk P w H s₁.heap → (∀ b u, H b = some u → b = a ∧ K.lookup a = none) →
      codeAny (model P w) callerA (.call (.ref fa) ⟨[.ref a], []⟩) (fun r s' => r = .ok (.ret (.bool true)) ∧ OldK s₁.heap s'.heap ∧ s'.os = s₁.os ∧ AllBare s'.gens) s₁ := by
    intro H hO hS hok hA
    have free : ∀ b : Addr, (b ≠ a ∨ K.lookup a ≠ none) → H b = none := by
      intro b z
      cases q : H b with
      | none => rfl
      | some u => exact (z.elim (fun z => z (hA b u q).1) fun z => z (hA b u q).2).elim
    have notSeq : ∀ {b : Addr} {m : Str → Option Value}, s₁.heap.Ns b m → b ≠ a := by
      rintro b m ⟨o, es, ep, e, d, _⟩ rfl
      rw [ha] at e
      cases e
      cases d
    have inH : ∀ {b : Addr} {m : Str → Option Value}, s₁.heap.Ns b m → (hidT s₁.heap H).Ns b m := by
      intro b m n
      have nb := free b (Or.inl (notSeq n))
      obtain ⟨o, es, ep, e, r⟩ := n
      exact ⟨o, es, ep, hidT_get e nb, r⟩
    have kin : K.In (hidT s₁.heap H) := by
      intro b o e
      refine hidT_get (KX b o e) ?_
      by_cases hb : b = a
      · exact free b (Or.inr (by rw [← hb, e]; exact fun z => nomatch z))
      · exact free b (Or.inl hb)
    have lim2 : (hidT s₁.heap H).NoLimit := by
      obtain ⟨mc, h1, h2⟩ := hlim
      exact ⟨mc, inH h1, h2⟩
    have e0 : Env0 P w K mg (hidT s₁.heap H) callerA [] s₁ H := by
      refine ⟨rfl, ⟨kin, inH hns, ⟨mb, inH hb, hbb⟩, lim2⟩, fun b o e => of_hidT e, Nat.le_of_eq (hidT_size _ _), True.intro, ?_, hok, .of_eq hg⟩
      intro b hb
      cases hb
    refine codeAny_mono ((F _ kin (inH hns)).runG callerA [] s₁ H ⟨[.ref a], []⟩ [.ref a] [.ref a] _ _ rfl hr e0 (hbind s₁ (.ref a)) (.cons rfl .nil) (hsp H hO hS)) fun r s' h => ?_
    match r, h with
    | .error e, h => exact (hCX H e s' h).elim
    | .ok .next, h => exact h.elim
    | .ok .brk, h => exact h.elim
    | .ok .cont, h => exact h.elim
    | .ok (.ret u), ⟨v, H', os, bare, un, hok', rv, q⟩ =>
      have q2 : v = .bl true := q
      subst q2
      cases rv
      refine ⟨rfl, OldK.of_keep (fun b o e => ?_), os, bare⟩
      rcases hO b with z | ⟨ob, xs, z⟩
      · exact un.keep b o e z (fun z => nomatch z) (fun z => nomatch z)
      · have z1 := (hok b _ z).1
        have z2 := (hok' b _ (un.frzs b ob _ z)).1
        rw [z1] at e
        rw [z2, e]
  have rv := vals_ints hi
  have hlen : (ns.map V.int).length ≤ sizeLine := by rw [List.length_map]; exact hl
  cases hk : K.lookup a with
  | some o =>
    have e := KX a o hk
    rw [ha] at e
    cases e
    exact go (fun _ => none) (fun _ => Or.inl rfl) (Or.inr ⟨_, vs.toArray, _, hk, rfl, rfl, rfl, by rw [List.size_toArray, hi.length]; exact hl, by simpa using rv⟩) (fun b u z => nomatch z) fun b u z => nomatch z
  | none =>
    have at_ : ∀ b u, (if b = a then some (HO.frz { cls := .type "list", data := .seq vs.toArray } (.lst (ns.map V.int))) else none) = some u → b = a ∧ u = .frz { cls := .type "list", data := .seq vs.toArray } (.lst (ns.map V.int)) := by
      intro b u z
      split at z
      · rename_i hb
        exact ⟨hb, (Option.some.inj z).symm⟩
      · cases z
    refine go (fun b => if b = a then some (.frz { cls := .type "list", data := .seq vs.toArray } (.lst (ns.map V.int))) else none) (fun b => ?_) (Or.inl (Or.inr ⟨_, if_pos rfl⟩)) (fun b u z => ?_) fun b u z => ⟨(at_ b u z).1, hk⟩
    · by_cases hb : b = a
      · exact Or.inr ⟨_, _, if_pos hb⟩
      · exact Or.inl (if_neg hb)
    · obtain ⟨rfl, rfl⟩ := at_ b u z
      exact ⟨ha, hlen, vs, _, rv, ha⟩

theorem walk_ofG {l : PySem.W.OpenLaw} {n k : Nat} {q : Program} {loose : List Str} {XP : (Str → Option Value) → Heap → Prop} {YP : World → Heap → Prop} {d : DefRec} {K : Params → PySem.W.Frag} {CX : World → CXT} {sp : World → Sp} {x : Str}
    (hn : l.most = some n) (hn2 : n ≤ sizeLine) (hdf : d.params.defaults = []) (hr : Room k callerA) (hY : ∀ (w : World) (h : Heap), YP w h → (K w.params).In h)
    (F : ∀ (w : World) (mg : Str → Option Value) (fa : Addr) (h : Heap), (K w.params).In h → h.Ns mainGlobals mg → mg d.name = some (.ref fa) →
      ∃ fd : FuncData, (∀ (s : Shared) (u : Value), BindsTo s fd ⟨[u], []⟩ [(x, u)]) ∧ ∀ base : Heap, (K w.params).In base → base.Ns mainGlobals mg → FnG l.prog w (K w.params) mg base (CX w) k fa fd [x] (sp w))
    (hsp : ∀ (w : World) (H : Hp) (a : Addr) (ns : List Int), ns.length ≤ n → (∀ z ∈ ns, Builtin.Int.intBits z ≤ 1048576) → Only H → SqL (K w.params) H a (ns.map V.int) → sp w [.ref a] H (fun v _ => v = .bl true) fun _ _ _ => False)
    (hCX : ∀ (w : World) (H : Hp) (s : Shared) (e : Value) (s' : Shared), CX w [] H s (fun _ _ _ => False) e s' → False) :
    PySem.W.WalkO q loose XP YP l.row.toRowW d [] (fun f vs => PySem.call f vs) := by
  apply Att.attach_callB hn hdf
  intro w s₀ s₁ mg mb fa o pm cd doc a vs ns G Y _ _ _ hmg hobj hints hlen hbits hg
  obtain ⟨fd, hb, hF⟩ := F w mg fa _ (hY w _ Y) G.T.g hmg
  exact law_callG (hY w _ Y) G.T.g G.T.b G.T.builtins G.T.nolimit hg hobj hints (Nat.le_trans hlen hn2) hr hF hb (fun H hO hS => hsp w H a ns hlen hbits hO hS) fun H e s' => hCX w H s₁ e s'
end So

namespace So
open PySem PySem.Spec PyProof.Rows L2
section
variable {K : PySem.W.Frag} {C : Addr}
theorem kit_self : PySem.W.kitOne K (.ref C) (.ref C) = some true := by
  unfold PySem.W.kitOne
  rw [if_pos]
  simp
/-- no built-in type stands below an own class -/
theorem sub_ty {T : String} (h : (fastBuiltinMro T).map (fun l => l.all fun v => match v with | .type _ => true | _ => false) = some true) : PySem.W.subIn K (.type T) (.ref C) = some false := by
  show (fastBuiltinMro T).map (·.contains (.ref C)) = some false
  cases e : fastBuiltinMro T with
  | none => rw [e] at h; cases h
  | some l =>
    rw [e] at h
    have h2 : (l.all fun v => match v with | .type _ => true | _ => false) = true := Option.some.inj h
    show some (l.contains (.ref C)) = some false
    congr 1
    cases c : l.contains (.ref C) with
    | false => rfl
    | true =>
      have m : (Value.ref C) ∈ l := by simpa using c
      have := List.all_eq_true.mp h2 _ m
      cases this
theorem notFirst_ty {T : String} (h : (fastBuiltinMro T).map (fun l => l.all fun v => match v with | .type _ => true | _ => false) = some true) : PySem.W.notFirst K C (.type T) = true := by
  unfold PySem.W.notFirst
  rw [sub_ty h]
  simp
theorem kit_no {T : String} (hc : PySem.W.isClsIn K C = true) (ht : PySem.W.typeIn K (.ref C) = some (.type "type")) (h : (fastBuiltinMro T).map (fun l => l.all fun v => match v with | .type _ => true | _ => false) = some true) : PySem.W.kitOne K (.type T) (.ref C) = some false := by
  unfold PySem.W.kitOne PySem.W.kitCls
  unfold PySem.W.isClsIn at hc
  have hb : ((PySem.W.clsIn K C).isSome && PySem.W.typeIn K (.ref C) == some (.type "type")) = true := by
    rw [hc, ht]
    simp
  have sb := sub_ty (K := K) (C := C) h
  simp [hb, sb]
end
end So

/-! So, on: exceptions that are kept as values. -/
namespace So
open PySem PySem.Spec PyProof.Rows L2
/-- an exception object of the class cls, its dict at d, that stands at a and is nobody's news -/
def Xo (cls : Value) (d : Option Addr) (a : Addr) : HO := .ext fun h => ∃ (oe : Obj) (vs : Array Value), h.get? a = some oe ∧ Zc cls d oe ∧ oe.data = .fields vs
theorem xo_ok {P : Program} {w : World} {H : Hp} {h : Heap} {a : Addr} {cls : Value} {d : Option Addr} {oe : Obj} {vs : Array Value} (e : h.get? a = some oe) (z : Zc cls d oe) (f : oe.data = .fields vs) : ObjOk P w H h a (Xo cls d a) := by
  refine ⟨⟨oe, vs, e, z, f⟩, ⟨oe, e⟩, ?_⟩
  rintro h1 h2 ⟨o, v, q, r⟩ k
  exact ⟨o, v, k o q, r⟩
theorem xo_at {P : Program} {w : World} {H : Hp} {h : Heap} {a : Addr} {cls : Value} {d : Option Addr} (hok : HOk P w H h) (e : H a = some (Xo cls d a)) : ∃ (oe : Obj) (vs : Array Value), h.get? a = some oe ∧ Zc cls d oe ∧ oe.data = .fields vs := by
  have x : ObjOk P w H h a (.ext fun h => ∃ (oe : Obj) (vs : Array Value), h.get? a = some oe ∧ Zc cls d oe ∧ oe.data = .fields vs) := hok a _ e
  exact x.1
section
variable {X : Cx} {pins : List (Addr × Obj)} {σ : L2.St} {H : Hp} {s sI : Shared} {a : Addr} {cls : Value} {d : Option Addr} {oe : Obj} {vs : Array Value}
/-- an exception that has landed is tracked from now on -/
theorem track (J : Inv X pins σ H sI) (hex : X.ex = []) (hI : sI.heap.get? a = none) (I : Inv X pins σ H s) (he : s.heap.get? a = some oe) (hz : Zc cls d oe) (hd : oe.data = .fields vs) (na : H a = none) (nL : a ≠ X.env.locals) :
    Inv X pins σ (upd H a (Xo cls d a)) s := by
  have h0 : ∀ b o, X.s_0.heap.get? b = some o → b ≠ a := by
    rintro b o e rfl
    obtain ⟨o', e'⟩ := J.base.there b o e (by rw [hex]; exact fun z => nomatch z)
    rw [hI] at e'
    cases e'
  have hs : ∀ {b : Addr} {u : HO}, H b = some u → (upd H a (Xo cls d a)) b = some u := fun e => (upd_ne (ne_of_none e na)).trans e
  refine ⟨I.ok, I.os, I.bare, ⟨I.base.keep, I.base.slot, fun b o e n hx => (upd_ne (h0 b o e)).trans (I.base.free b o e n hx), I.base.there, fun b xs q => hs (I.base.tups b xs q), fun b o u q => hs (I.base.frzs b o u q), fun b ps q => ?_⟩,
    I.loc, I.cell, (upd_ne nL.symm).trans I.free, fun x c e => ?_, fun p hp => ?_, fun b u e => ?_, I.len⟩
  · obtain ⟨m, q'⟩ := I.base.tbls b ps q
    exact ⟨m, hs q'⟩
  · refine (upd_ne ?_).trans (I.freeC x c e)
    rintro rfl
    obtain ⟨v, o, ho, hc⟩ := I.cell x c e
    rw [he] at ho
    cases ho
    rw [hd] at hc
    cases hc
  · obtain ⟨p1, p2, p3, p4, p5⟩ := I.pin p hp
    refine ⟨p1, (upd_ne ?_).trans p2, p3, p4, p5⟩
    intro z
    have := (J.pin p hp).1
    rw [z, hI] at this
    cases this
  · by_cases hb : b = a
    · subst hb
      rw [upd_same] at e
      cases e
      exact xo_ok he hz hd
    · rw [upd_ne hb] at e
      exact (I.hok b u e).stay (fun _ _ _ q => q) (fun c q => hs q) fun c xs q => hs q
end

/-! ### try: body, except x as n: suite, the exception kept as a value -/
/-- what such a clause wishes of an exception of the body -/
def wKeep (K : PySem.W.Frag) (c : Value) (i : Nat) (ts : TS) (Wout : WX) (D : Ends) : WX := fun cls d σ H =>
  ∃ b, PySem.W.exmOne K cls c = some b ∧ (b = true → ∀ a, H a = none → ts { nx := fun σ' H' => D.nx (σ'.set i none) H', rt := D.rt, bk := fun σ' H' => D.bk (σ'.set i none) H', ct := fun σ' H' => D.ct (σ'.set i none) H' } (σ.set i (some (.ref a))) (upd H a (Xo cls d a))) ∧
    (b = false → Wout cls d σ H)
section
variable {X : Cx} {x n : Str} {c : Value} {i : Nat} {body suite : List Stmt} {b₀ : Stmt} {np pos pos' : Pos} {tb : WX → TS} {ts : TS} {Wout : WX}
theorem ps_try_keep (hs : X.stack = X.env :: X.outer) (hf : X.env.frame = some X.env.locals) (hex : X.ex = []) (hN : X.N.Nodup) (hi : X.N[i]? = some n) (hln : X.env.kindOf n = some .local) (hc : Names X x c) (tk : Takes X Wout)
    (hb : ∀ (W : WX) (pn : List (Addr × Obj)) (xe : Value → Shared → Prop), Takes (X.tr pn xe) W → PassesOwn (model X.prog X.w) X.A X.env xe → PSs (X.tr pn xe) body (tb W))
    (hsu : ∀ (a : Addr) (pn : List (Addr × Obj)), PSs (X.suite a pn) (b₀ :: suite) ts) :
    PS X (.Try body [.ExceptHandler (some (.Name x np)) (some n) (b₀ :: suite) pos'] [] [] pos) (fun D σ H => tb (wKeep X.K c i ts Wout D) D σ H) := by
  constructor
  intro pins s σ H D I h
  have ok := I.ok
  have hfr : X.A.frames = some (X.env :: X.outer) := ok.frames.trans (congrArg some hs)
  refine wpAny_Try_except (wpAny_mono ((hb (wKeep X.K c i ts Wout D) (X.pn ++ pins) (fun e s₁ => wpAny (model X.prog X.w) X.A (noteFrame e X.env) (fun _ s₂ => wpAny (model X.prog X.w) X.A (setFlight e none) (fun _ s₃ =>
    wpAny (model X.prog X.w) X.A (handleBy e X.env [.ExceptHandler (some (.Name x np)) (some n) (b₀ :: suite) pos']) (SP X pins D) X.xe s₃) X.xe s₂) X.xe s₁) (fun u s' xx => ?_) PassesOwn.looking).run [] s σ H D (I.toTry _) h) (fun f s1 hsp => ?_) fun e s1 he => he)
  · obtain ⟨a, B, sI, pins', σ', H', cls, d, rfl, J', nb, up, sky, na, os, ag, b, hb1, hyes, hno⟩ := xx
    have J : Inv X pins σ' H' sI := J'.ofTry ok
    have sky' : Sky B (X.env :: X.outer) a (Zc cls d) X.env.locals s'.heap := hs ▸ sky
    refine Sky.land Zc.steady hfr hf sky' fun h3 fl3 up3 => ?_
    have J3 : Inv X pins σ' H' { s' with heap := h3 } := J.landed nb fl3.1 (up.trans up3) os ag
    obtain ⟨oe3, vs3, he3, hz3, hd3⟩ := fl3.there
    have nfr : a ∉ frs (X.env :: X.outer) := fun hm => by
      obtain ⟨_, o', e', hnf⟩ := fl3.2.2.1.mem hm
      rw [he3] at e'
      cases e'
      exact hnf _ hd3
    have nL : a ≠ X.env.locals := fun z => nfr (by
      refine List.mem_filterMap.mpr ⟨X.env, List.mem_cons_self, ?_⟩
      rw [hf, z])
    have hBa : B.get? a = none := fl3.2.1
    have hIa : sI.heap.get? a = none := by
      cases e : sI.heap.get? a with
      | none => rfl
      | some o =>
        have := nb a o e (by rw [hs]; exact nfr)
        rw [hBa] at this
        cases this
    refine wpAny_handleBy_cons (codeAny_handlers_test ?_) (by intro q; cases q)
    have LT : PySem.W.Looks (model X.prog X.w) h3 (typeOf (.ref a)) cls := by
      intro A Q E s k q
      refine wpAny_typeOf_ref (k _ _ he3) ?_
      rw [hz3.1]
      exact q
    have LM := PySem.W.exm_one (M := model X.prog X.w) (J3.kIn) LT hb1
    have S0 : ∀ {h4 : Heap}, Inv X pins σ' H' { s' with heap := h4 } → ∀ {o : Obj} {v : Array Value}, h4.get? a = some o → Zc cls d o → o.data = .fields v → Inv (X.suite a (X.pn ++ pins)) [] σ' (upd H' a (Xo cls d a)) { s' with heap := h4 } := by
      intro h4 J4 o v e z dt
      have T := track J hex hIa J4 e z dt na nL
      exact ⟨T.ok.suite _ _, T.os, T.bare, T.base, T.loc, T.cell, T.free, T.freeC, fun p hp => T.pin p (by rwa [List.append_nil] at hp), T.hok, T.len⟩
    have S3 := S0 J3 he3 hz3 hd3
    have test : ∀ {Q : Value → Shared → Prop} {E : Value → Shared → Prop}, Q c { s' with heap := h3 } → wpAny (model X.prog X.w) (X.A.mark (some (.ref a))) (eval (.Name x np) X.env) Q E { s' with heap := h3 } := by
      intro Q E q
      rcases hc with ⟨hg, hdbg, hm | ⟨hm, hv, hnn⟩⟩
      · exact ld_glob (X := X.suite a (X.pn ++ pins)) S3 hg hm q hdbg
      · exact ld_blt (X := X.suite a (X.pn ++ pins)) S3 hg hm hv q hnn hdbg
    refine test (LM.here ?_)
    cases b with
    | true =>
      refine codeAny_handlers_suite_as (HandSPX.lands_againZ fl3 fun h4 fl4 up4 => ?_)
      have J4 : Inv X pins σ' H' { s' with heap := h4 } := J.landed nb fl4.1 ((up.trans up3).trans up4) os ag
      obtain ⟨oe4, vs4, he4, hz4, hd4⟩ := fl4.there
      have S4 := S0 J4 he4 hz4 hd4
      refine store_ok (X := X.suite a (X.pn ++ pins)) (v := .ref a) S4 hN hi (.inl hln) rfl (fun s5 S5 => ?_) (.inr hln)
      refine wpAny_mono ((hsu a (X.pn ++ pins)).run [] s5 _ _ _ S5 (hyes rfl a na)) (fun f s6 hsp => ?_) (fun _ _ z => z.elim)
      have out : ∀ {σ6 : L2.St} {H6 : Hp}, Inv (X.suite a (X.pn ++ pins)) [] σ6 H6 s6 → Inv X pins σ6 H6 s6 := fun S6 =>
        ⟨ok, S6.os, S6.bare, S6.base, S6.loc, S6.cell, S6.free, S6.freeC, fun p hp => S6.pin p (List.mem_append_left _ hp), S6.hok, S6.len⟩
      match f, hsp with
      | .next, ⟨σ6, H6, S6, q6⟩ => exact gone_ok (out S6) hN hi hln fun s7 J7 => ⟨_, _, J7, q6⟩
      | .brk, ⟨σ6, H6, S6, q6⟩ => exact gone_ok (out S6) hN hi hln fun s7 J7 => ⟨_, _, J7, q6⟩
      | .cont, ⟨σ6, H6, S6, q6⟩ => exact gone_ok (out S6) hN hi hln fun s7 J7 => ⟨_, _, J7, q6⟩
      | .ret u, ⟨v6, σ6, H6, S6, r6, q6⟩ => exact gone_ok (out S6) hN hi hln fun s7 J7 => ⟨_, _, _, J7, r6, q6⟩
    | false =>
      refine wpAny_handleBy_nil ?_
      obtain ⟨_, _, _, oe, vs, T, _, _, he, _, hd, h1, _⟩ := id fl3
      unfold PySem.passOn
      refine wpAny_bind (wpAny_field he hd h1 ?_)
      have nn : ¬ ((Value.ref T == Value.none) = true) := by simp
      rw [if_neg nn]
      have fin : wpAny (model X.prog X.w) X.A (setFlight (.ref a) X.env.frame) (fun _ s4 => wpAny (model X.prog X.w) X.A (throw (.ref a) : Sem Flow) (SP X pins D) X.xe s4) X.xe { s' with heap := h3 } := by
        rw [hf]
        refine HandSPX.setFlight_upZ fl3 fun h4 hh4 up4 => wpAny_throw (tk _ _ ⟨a, B, sI, pins, σ', H', cls, d, rfl, J, nb, (up.trans up3).trans up4, ?_, na, os, ag, hno rfl⟩)
        exact Or.inr (Or.inr (hs ▸ hh4))
      first
        | exact wpAny_bind (wpAny_pure (wpAny_bind fin))
        | exact wpAny_bind fin
  · match f, hsp with
    | .next, ⟨σ', H', J', q⟩ => exact wpAny_execs_nil ⟨σ', H', J'.ofTry ok, q⟩
    | .brk, ⟨σ', H', J', q⟩ => exact ⟨σ', H', J'.ofTry ok, q⟩
    | .cont, ⟨σ', H', J', q⟩ => exact ⟨σ', H', J'.ofTry ok, q⟩
    | .ret u, ⟨v, σ', H', J', r, q⟩ => exact ⟨v, σ', H', J'.ofTry ok, r, q⟩
end
end So

namespace So
open PySem PySem.Spec PyProof.Rows L2
/-- what an error class of the program's own says of its instances -/
structure Err (K : PySem.W.Frag) (C : Addr) : Prop where
  ga : PySem.W.findIn K (.ref C) "__getattribute__" = some (some (.builtin "BaseException.__getattribute__"))
  gg : PySem.W.findIn K (.ref C) "__getattr__" = some none
  exC : PySem.W.subIn K (.ref C) (.type "BaseException") = some true
  hdC : PySem.W.hasDictIn K C = true
  ca : PySem.W.findIn K (.ref C) "__class__" = some (some (.builtin "object.__class__"))
  cn : PySem.W.specialIn K (.builtin "object.__class__") "__get__" = some (some (.builtin "getset_descriptor.__get__"))
  ct : PySem.W.takesIn K (.builtin "object.__class__") = some true
  cm : PySem.W.mroIn K C (.type "object") = some true
section
variable {X : Cx}
/-- e.n, e an exception that is kept -/
theorem pe_xo {C : Addr} {e : Expr} {te : TE} {pos : Pos} {n : Str} (T : Err X.K C) (hno : PySem.W.findIn X.K (.ref C) n = some none) (he : PE X e te) (hb : attributeBase e n X.env (eval e X.env) = eval e X.env := by rfl) :
    PE X (.Attribute e n pos) (fun σ H Q => te σ H fun x H1 => ∃ (a dd : Addr) (fs : List (Str × V)) (v : V), x = .ref a ∧ H1 a = some (Xo (.ref C) (some dd) a) ∧ H1 dd = some (.xd fs) ∧ fs.lookup n = some v ∧ Q v H1) := by
  constructor
  intro pins s σ H Q I h
  refine attr_of hb (thn (he.run pins s σ H _ I h) fun u s1 hh => ?_)
  obtain ⟨x, H1, I1, rx, a, dd, fs, v, rfl, ha, ea, l, q⟩ := hh
  cases rx
  obtain ⟨oe, vs, hg, hz, hd⟩ := xo_at I1.hok ha
  obtain ⟨mA, hns, hr⟩ := (show ObjOk X.prog X.w H1 s1.heap dd (.xd fs) from I1.hok dd _ ea)
  obtain ⟨od, ho, hl⟩ := lookIn_ns hns
  have hrn := hr n
  rw [l] at hrn
  obtain ⟨u, hu, ru⟩ := RelO.some_of hrn
  have nc : PySem.W.notCls oe = true := by
    unfold PySem.W.notCls
    rw [hd]
  have J : PySem.W.InstAt s1.heap a oe C (some od) := by
    refine ⟨hg, hz.1, nc, ?_⟩
    rw [hz.2]
    exact ho
  have fo := PySem.W.findObj_own (K := X.K) (C := C) (od := od) (name := n) (v := u) T.hdC hno rfl (by rw [hl, hu])
  exact HandSPX.exc_get I1.kIn J T.ga T.gg T.exC fo (handed_of ru) ⟨v, H1, I1.tok _, ru, q⟩
end
/-! ### isinstance of a kept exception -/
section
open PySem.W PySem.Calls
variable {prog : Program} {w : World} {A : Around} {E : Value → Shared → Prop} {K : Frag} {x D : Addr} {ox : Obj} {od : Option Obj}
theorem err_class {Q : Option Value → Shared → Prop} (T : Err K D) (hp : Heap) (g : Array GenState) (dr : Drawn) (t : Nat) (os : OsState) (X : K.In hp) (I : InstAt hp x ox D od)
    (h : Q (some (.ref D)) ⟨hp, g, dr, t + 1, os⟩) : wpAny (model prog w) A (getAttr? (.ref x) "__class__") Q E ⟨hp, g, dr, t, os⟩ := by
  have isc : (clsIn K D).isSome = true := by
    obtain ⟨cd, hc, _⟩ := any_some T.hdC
    rw [hc]
    rfl
  have hf : findObj K D od "__class__" = some (.bind (.builtin "getset_descriptor.__get__") (.builtin "object.__class__")) := by
    cases od with
    | none => exact findObj_dataN isc T.ca T.cn T.ct
    | some o => exact findObj_data isc T.ca T.cn T.ct
  have k0 := I.type (M := model prog w)
  have k1 := looks_findIn (M := model prog w) X T.ga
  have k2 := looks_findIn (M := model prog w) X T.gg
  have k3 := looks_find (M := model prog w) X I hf
  have below : Looks (model prog w) hp (isInstance (.ref x) (.type "BaseException")) true := k0.andThen (looks_subIn X T.exC)
  have ne : (Value.builtin "BaseException.__getattribute__" == Value.builtin "object.__getattribute__") = false := by decide +kernel
  have both : (onTheHeap (Value.ref D) && Value.builtin "BaseException.__getattribute__" == Value.builtin "object.__getattribute__") = false := by
    rw [ne]
    exact Bool.and_false _
  have own : onTheHeap (Value.ref D) = true := rfl
  have noheap : (false && onTheHeap (Value.builtin "BaseException.__getattribute__")) = false := rfl
  unfold getAttr? getAttrBy? getAttrBy
  apply wpAny_bind
  apply wpAny_mkText
  apply wpAny_bind
  apply wpAny_attempt
  apply wpAny_holding
  apply wpAny_bind
  apply k0.at
  apply wpAny_bind
  apply k1.at
  show wpAny _ _ (ite ((onTheHeap (Value.ref D) && Value.builtin "BaseException.__getattribute__" == Value.builtin "object.__getattribute__") = true) _ _) _ _ _
  rw [both, if_neg (by decide)]
  unfold getAttrByItsOwn hookBefore
  apply wpAny_bind
  rw [if_pos own]
  apply k2.at
  apply wpAny_bind
  apply wpAny_attempt
  apply wpAny_holding
  unfold callGetattribute
  rw [noheap, if_neg (by decide)]
  unfold boundAndCalled
  rw [F.excAttr_ValueError.ga.bind (.ref x)]
  apply wpAny_bind
  apply wpAny_pure
  show wpAny _ _ (call (.builtin "BaseException.__getattribute__") [.ref x, .str "__class__" t]) _ _ _
  apply wpAny_call
  refine codeAny_call_builtin F.excAttr_ValueError.ga.plain F.entry_bexc_ga (@check_slot (model prog w) _ _ ⟨hp, g, dr, t + 1, os⟩ "BaseException.__getattribute__" "BaseException" "__getattribute__" (.ref x) [.str "__class__" t] [] _ (by decide +kernel) (by decide +kernel) below (F.args_bexc_ga (.ref x) (.str "__class__" t)) ?_)
  unfold Builtin.«object.__getattribute__»
  apply wpAny_bind
  refine wpAny_of_eq (a := ((Value.ref x : Value), [Value.str "__class__" t])) (by first | rfl | (simp only [slotArgs]; rfl)) ?_
  apply wpAny_bind
  apply wpAny_pure
  apply wpAny_bind
  apply k0.at
  apply wpAny_bind
  apply k3.at
  show wpAny _ _ (holding [Value.builtin "object.__class__"] (call (.builtin "getset_descriptor.__get__") [.builtin "object.__class__", .ref x, .ref D]) >>= ret) _ _ _
  apply wpAny_bind
  apply wpAny_holding
  apply wpAny_call
  refine class_get (s := ⟨hp, g, dr, t + 1, os⟩) (ox := ox) (od := od) X I T.cm (wpAny_pure ?_)
  show wpAny _ _ (handedOut (.ref D)) _ _ _
  rw [handedOut_of (v := .ref D) rfl]
  first
    | exact wpAny_pure (wpAny_pure h)
    | exact wpAny_pure h
    | exact wpAny_pure (wpAny_bind (wpAny_pure (wpAny_pure h)))
theorem kitx_err (T : Err K D) : KitX K (.ref x) (.ref D) (fun h => ∃ ox od, InstAt h x ox D od) where
  ty := fun _ _ _ ⟨_, _, I⟩ => I.type
  it := fun _ _ X _ => by
    obtain ⟨cd, hc, _⟩ := any_some T.hdC
    unfold clsIn at hc
    split at hc
    · rename_i ho
      intro A' Q' E' s' k q
      unfold isType loadHead
      exact wpAny_bind (wpAny_loadPart (k _ _ (X _ _ ho)) (wpAny_pure q))
    · cases hc
  ne := fun h tp dd its n sl X htp => by
    cases q : (Value.ref D == Value.ref tp) with
    | false => rfl
    | true =>
      have e : D = tp := Value.ref.inj (beq_iff_eq.mp q)
      subst e
      obtain ⟨cd, hc, _⟩ := any_some T.hdC
      unfold clsIn at hc
      split at hc
      · rename_i ho
        have z := (X _ _ ho).symm.trans htp
        cases z
      · cases hc
  ca := fun {prog w A E Q s} X I k => by
    obtain ⟨ox, od, I⟩ := I
    obtain ⟨hp, g, dr, t, os⟩ := s
    exact err_class T hp g dr t os X I k
end
section
variable {X : Cx}
/-- isinstance(e, c), e a kept exception, c one class -/
theorem call_isXo : CallR X (.builtin "isinstance") (fun xs H Q => ∃ (a D dd : Addr) (fs : List (Str × V)) (c : V) (u : Value) (b : Bool), xs = [.ref a, c] ∧ H a = some (Xo (.ref D) (some dd) a) ∧ H dd = some (.xd fs) ∧ Err X.K D ∧ ClsV c u ∧ PySem.W.kitOne X.K (.ref D) u = some b ∧ Q (.bl b) H) := by
  intro pins s σ H xs us Q I r h
  obtain ⟨a, D, dd, fs, c, u, b, rfl, ha, hd, T, cv, e, q⟩ := h
  obtain ⟨u1, u2, rfl, r1, r2⟩ := vals2 r
  cases r1
  have e2 := cv.eq r2
  subst e2
  obtain ⟨oe, vs, hg, hz, hdat⟩ := xo_at I.hok ha
  obtain ⟨mA, hns, _⟩ := (show ObjOk X.prog X.w H s.heap dd (.xd fs) from I.hok dd _ hd)
  obtain ⟨od, ho, _⟩ := lookIn_ns hns
  have nc : PySem.W.notCls oe = true := by
    unfold PySem.W.notCls
    rw [hdat]
  have J : PySem.W.InstAt s.heap a oe D (some od) := by
    refine ⟨hg, hz.1, nc, ?_⟩
    rw [hz.2]
    exact ho
  exact PySem.W.kia_one (kitx_err T) I.kIn ⟨oe, some od, J⟩ e (fun z => nomatch z) fun tk => ⟨.bl b, H, I.tok tk, rfl, q⟩
end
end So

namespace So
open PySem PySem.Spec PyProof.Rows L2
/-- C.m is a static method: its record at p, its def at g -/
structure Sta (K : PySem.W.Frag) (C : Addr) (mc : Value) (m : Str) (p g : Addr) : Prop where
  rd : PySem.W.readsIn K C mc = true
  ga : PySem.W.specialIn K (.ref C) "__getattribute__" = some (some (.builtin "type.__getattribute__"))
  at_ : PySem.W.findCls K (.ref C) mc m = some (.get (.builtin "staticmethod.__get__") (.ref p) .none (.ref C))
  rc : ∃ rest, PySem.W.recIn K p "staticmethod" = some (.ref g :: rest)
  kp : PySem.W.keepIn K (.ref g) = true
section
variable {X : Cx} {CX : CXT} {k : Nat} {C f p0 : Addr} {mc : Value} {fd : FuncData} {ps ks : List Str} {sp : Sp} {E : XK} {m : Str} {pos apos : Pos} {e o : Expr} {es : List Expr} {kws : List Keyword} {ta : TE} {t tk : TA}
theorem getsta_ok {pins : List (Addr × Obj)} {σ : L2.St} {H : Hp} {s : Shared} {pl : Sem Bool} {A : Around} {E' : Value → Shared → Prop} {Q : Value × List Value → Shared → Prop} (I : Inv X pins σ H s) (S : Sta X.K C mc m p0 f) (h : ∀ s', Inv X pins σ H s' → Q (.ref f, []) s') :
    wpAny (model X.prog X.w) A (getMethod (.ref C) m pl) Q E' s := by
  obtain ⟨rest, hp⟩ := S.rc
  refine PySem.W.method_cls I.kIn S.ga (PySem.W.cls_bind I.kIn S.rd S.at_ (wpAny_call (PySem.W.sm_get (s := { s with toks := s.toks + 1 }) I.kIn hp (PySem.W.handed_on rfl ?_))))
  exact h _ (I.tok _)
/-- C.m(e, ..), m static -/
theorem pe_sta {pl : Sem Bool} (he : PE X o ta) (S : Sta X.K C mc m p0 f) (F : FnOk X.prog X.w X.K X.mg X.base CX k f fd ps sp) (hr : Room k X.A) (hb : Binds X.K fd ps []) (hx : Passes CX X E) (ha : PA X (e :: es) t)
    (hst : starEach (e :: es) X.env = (false, eval e X.env) :: starEach es X.env := by rfl) (hpl : (backTo pos (starEach es X.env)).any (·.1) = false := by rfl)
    (ht : eval (.Call (.Attribute o m apos) (e :: es) [] pos) X.env = (do
      let ov ← eval o X.env
      standAt apos.atName
      let fx ← holding [ov] (getMethod ov m pl)
      callWith pos fx.1 fx.2 (backTo pos (starEach (e :: es) X.env)) (backToKw pos (keywordEach [] X.env))) := by rfl) :
    PE X (.Call (.Attribute o m apos) (e :: es) [] pos) (fun σ H Q => ta σ H fun x H1 => x = .ref C ∧ t σ H1 fun vs H2 => sp vs H2 Q E) := by
  constructor
  intro pins s σ H Q I h
  refine PySem.W.methodCall_KW (pl := pl) (thn (he.run pins s σ H _ I h) fun u s1 z => ?_) ht
  obtain ⟨x, H1, I1, rx, rfl, q⟩ := z
  cases rx
  refine getsta_ok I1 S fun s2 I2 => PySem.W.callWith_K (first := []) (h₀ := X.base) I2.ok.mod.kin S.kp (thn (ha.run pos pins s2 σ H1 _ I2 q) fun us s3 z => ?_) hst hpl
  obtain ⟨vs, H2, I3, r, q2⟩ := z
  refine ⟨I3.kIn, ?_⟩
  have q3 : sp (vs ++ []) H2 Q E := by
    rw [List.append_nil]
    exact q2
  exact run_fn F hr hb .nil hx I3 r q3
/-- C.m(k = v, ..), m static, keywords alone -/
theorem pe_staK {g : List Value → List Value → List Value} {gV : List V → List V → List V} {pl : Sem Bool} (he : PE X o ta) (S : Sta X.K C mc m p0 f) (F : FnOk X.prog X.w X.K X.mg X.base CX k f fd ps sp) (hr : Room k X.A) (hb : KBinds X.K fd ps ks g gV) (hx : Passes CX X E)
    (hkw : PK X kws tk) (hall : (backToKw pos (keywordEach kws X.env)).all (·.1.isSome) = true := by rfl) (hks : (backToKw pos (keywordEach kws X.env)).filterMap (·.1) = ks := by rfl)
    (hpl : ((backTo pos (starEach [] X.env)).any (·.1) || (backToKw pos (keywordEach kws X.env)).any (·.1.isNone)) = false := by rfl)
    (ht : eval (.Call (.Attribute o m apos) [] kws pos) X.env = (do
      let ov ← eval o X.env
      standAt apos.atName
      let fx ← holding [ov] (getMethod ov m pl)
      callWith pos fx.1 fx.2 (backTo pos (starEach [] X.env)) (backToKw pos (keywordEach kws X.env))) := by rfl) :
    PE X (.Call (.Attribute o m apos) [] kws pos) (fun σ H Q => ta σ H fun x H1 => x = .ref C ∧ tk σ H1 fun zs H2 => sp (gV [] zs) H2 Q E) := by
  constructor
  intro pins s σ H Q I h
  refine PySem.W.methodCall_KW (pl := pl) (thn (he.run pins s σ H _ I h) fun u s1 z => ?_) ht
  obtain ⟨x, H1, I1, rx, rfl, q⟩ := z
  cases rx
  refine getsta_ok I1 S fun s2 I2 => PySem.W.callWith_KW0 (first := []) (h₀ := X.base) I2.ok.mod.kin S.kp hall (thn (hkw.run pos pins s2 σ H1 _ I2 q) fun ws s3 z => ?_) hpl
  obtain ⟨zs, H2, I3, rz, q2⟩ := z
  refine ⟨I3.kIn, ?_⟩
  rw [hks]
  exact run_fnk (us := []) (vs := []) F hr hb hx I3 .nil rz q2
/-- ~o by an own __invert__ -/
theorem un_invOwn (F : FnOk X.prog X.w X.K X.mg X.base CX k f fd ps sp) (hs : PySem.W.findIn X.K (.ref C) "__invert__" = some (some (.ref f))) (hf : PySem.W.isFn X.K (.ref f) = true) (hb : Binds X.K fd ps []) (hx : Passes CX X E) (hr : Room k X.A) :
    UnR X (unaryOp .Invert) (fun x H Q => ∃ a dx fs, x = .ref a ∧ H a = some (.ins C dx fs) ∧ sp [.ref a] H Q E) := by
  intro pins s σ H x v Q I rx h
  obtain ⟨a, dx, fs, rfl, ha, q⟩ := h
  cases rx
  obtain ⟨mA, J, _⟩ := ins_get I.hok ha
  obtain ⟨od, J, _⟩ := J.look
  obtain ⟨m, hF⟩ := I.fr
  refine PySem.W.ksp_inv hF I.ok.mod.kin J hs hf ?_
  exact run_fn (us := [.ref a]) (vs := [.ref a]) F hr hb .nil hx I (.cons rfl .nil) q
end
end So

namespace So
open PySem PySem.Spec PyProof.Rows L2
/-! ### own errors with one field -/
/-- the __init__ of such an error: the field is what was passed -/
def spOneE (C : Addr) (n : Str) : Sp := fun vs H Q _ => ∃ (a : Addr) (v : V), vs = [.ref a, v] ∧ H a = some (exo a C none) ∧ ∀ dx, H dx = none → dx ≠ a → Q .non (upd (upd H dx (exd dx [(n, v)])) a (exo a C (some dx)))
/-- what the top says of such an error: its class at C, named x, its field n, its __init__ at f -/
structure OneE (K : PySem.W.Frag) (mg : Str → Option Value) (x n : Str) (C f : Addr) (fd : FuncData) : Prop where
  T : OexC K C
  iC : PySem.W.findIn K (.ref C) "__init__" = some (some (.ref f))
  tI : PySem.W.typeIn K (.ref f) = some (.type "function")
  mgC : mg x = some (.ref C)
  no : PySem.W.findIn K (.ref C) n = some none
  err : Err K C
  hb : Binds K fd ["self", n] []
/-- behind C(v) -/
theorem mkOne {C : Addr} {n : Str} {vs : List V} {v : V} {H1 : Hp} {Q : XK} (e : vs = [v]) (h : ∀ d H', Same H1 H' → H1 d = none → H' d = some (.xd [(n, v)]) → Q (.ref C) (some d) H') :
    vs.length ≤ 1000 ∧ ∀ a, H1 a = none → spOneE C n (.ref a :: (vs ++ [])) (upd H1 a (exo a C none))
      (fun v H2 => v = .non ∧ ∃ (d : Addr) (fs : List (Str × V)), H2 a = some (exo a C (some d)) ∧ H2 d = some (exd d fs) ∧ H1 d = none ∧ Q (.ref C) (some d) (upd (del H2 a) d (.xd fs))) (fun _ _ _ => False) := by
  subst e
  refine ⟨by show 1 ≤ 1000; decide, fun a ha => ⟨a, v, rfl, upd_same, fun dx hdx ne => ⟨rfl, dx, [(n, v)], upd_same, ?_, ?_, h dx _ (fun b o hb => ?_) ?_ upd_same⟩⟩⟩
  · rw [upd_ne ne, upd_same]
  · rw [upd_ne ne] at hdx
    exact hdx
  · rw [upd_ne ne] at hdx
    have hba : b ≠ a := ne_of_none hb ha
    have hbd : b ≠ dx := ne_of_none hb hdx
    rw [upd_ne hbd, del_ne hba, upd_ne hba, upd_ne hbd, upd_ne hba]
    exact hb
  · rw [upd_ne ne] at hdx
    exact hdx
section
variable {X : Cx} {x n : Str} {C f : Addr} {fd : FuncData} {ta : TA} {e : Expr} {p pos pos2 : Pos}
theorem pmk_one (O : OneE X.K X.mg x n C f fd) (F : FnOk X.prog X.w X.K X.mg X.base CX0 1 f fd ["self", n] (spOneE C n)) (hr : Room 2 X.A) (hg : Gl X x) (ha : PA X [e] ta)
    (hdb : (x == ("__debug__" : Str)) = false := by decide) (he : starEach [e] X.env = (false, eval e X.env) :: starEach [] X.env := by rfl) (hpl : (backTo pos (starEach [] X.env)).any (·.1) = false := by rfl) :
    PMk X (.Call (.Name x p) [e] [] pos) (tMkO C (spOneE C n) [] ta) :=
  pmk_oex O.T O.iC O.tI F hr O.hb .nil (fun _ _ _ _ _ _ _ h => h.elim) hg O.mgC ha hdb he hpl
/-- raise C(e) -/
theorem ps_raiseOne {W : WX} (O : OneE X.K X.mg x n C f fd) (F : FnOk X.prog X.w X.K X.mg X.base CX0 1 f fd ["self", n] (spOneE C n)) (hc : X.calm = true) (hr : Room 2 X.A) (tk : Takes X W) (hg : Gl X x) (ha : PA X [e] ta)
    (hdb : (x == ("__debug__" : Str)) = false := by decide) (he : starEach [e] X.env = (false, eval e X.env) :: starEach [] X.env := by rfl) (hpl : (backTo pos (starEach [] X.env)).any (·.1) = false := by rfl) :
    PS X (.Raise (some (.Call (.Name x p) [e] [] pos)) none pos2) (fun _ σ H => tMkO C (spOneE C n) [] ta σ H fun cls d H' => W cls d σ H') := ps_raise hc tk (pmk_one O F hr hg ha hdb he hpl)
end

/-! ### repr of data, of a tuple of a text and an empty dict -/
section
variable {X : Cx}
theorem call_reprT (hg : X.A.guards = some []) (hu : X.A.units + 64 < cLine) : CallR X (.builtin "repr") (fun xs H Q => ∃ (r a : Addr) (w : Str), xs = [.ref r] ∧ SqT X.K H r [.str w, .ref a] ∧ H a = some (.dK []) ∧ (PyData.tuple [.str w, .dict []]).shown.length ≤ sizeLine ∧ Q (.str (PyData.tuple [.str w, .dict []]).shown) H) := by
  intro pins s σ H xs us Q I r h
  obtain ⟨rr, a, w, rfl, ht, ha, hz, q⟩ := h
  obtain ⟨u, rfl, rv⟩ := vals1 r
  cases rv
  obtain ⟨its, rw', ⟨o, ho, hc, n, hd⟩, _⟩ := I.tuple ht
  obtain ⟨hz2, hsm, vs, hk, hD⟩ : ([] : List (Key × V)).length ≤ sizeLine ∧ (a == sysModules) = false ∧ ∃ vs, KV [] vs ∧ s.heap.DictOf (mixKind X.prog X.w) a vs := I.hok a _ ha
  obtain ⟨u1, u2, rfl, r1, r2⟩ := vals2 rw'
  obtain ⟨t1, rfl⟩ := r1
  cases r2
  obtain ⟨o2, es, ep, e1, e2, e3, _, e5, _⟩ := hD
  cases hk
  have es0 : es.toList = [] := by
    cases h : es.toList with
    | nil => rfl
    | cons y ys =>
      rw [h] at e5
      cases e5
  have rdD : Reads s.heap (.ref a) (.dict []) (a :: [] ++ []) := Reads.dict (kvs := []) e1 e2.1 e3 (by rw [es0]; exact ReadsAll.nil) (by rw [es0]; exact ReadsAll.nil)
  have rd : Reads s.heap (.ref rr) (.tuple [.str w, .dict []]) ([] ++ ((a :: [] ++ []) ++ [])) := Reads.tuple ho hc hd (ReadsAll.cons (Reads.str w t1) (ReadsAll.cons rdD ReadsAll.nil))
  refine repr_of_reads' rd rfl (fun _ z => ?_) hg (by show X.A.units + (2 + 1) < cLine; omega) (fun _ _ e => e) (fun h' t tk k => ?_) hz
  · have : sysModules = a := by simpa using z
    rw [this] at hsm
    simp at hsm
  · exact ⟨.str _, H, I.kept k, ⟨t, rfl⟩, q⟩
theorem CallR.or {b : Value} {r r' : List V → Hp → VK → Prop} (h : CallR X b r) (h' : CallR X b r') : CallR X b (fun xs H Q => r xs H Q ∨ r' xs H Q) := by
  intro pins s σ H xs us Q I rv q
  exact q.elim (h pins s σ H xs us Q I rv) (h' pins s σ H xs us Q I rv)
end
end So

namespace K08
open PySem PySem.Spec PyProof.Rows L2 So
/-! ### the text -/
def topS (i : Nat) : Stmt := PySem.Challenge.pw_soundtill_k08_lives_made.main.body.getD i (.Pass ⟨0, 0, 0, 0⟩)
abbrev sPen : Stmt := topS 22
abbrev sDraw : Stmt := topS 23
abbrev sPick : Stmt := topS 24
theorem scPen : FnScope ["_law_script"] ["_law_script"] (defScope sPen) := ⟨rfl, rfl, rfl, by decide +kernel, rfl, by decide +kernel, by decide +kernel⟩
theorem scDraw : FnScope ["_law_pen_here", "_law_many", "_law_digit", "_law_at", "_law_cell", "_law_great", "_law_mixed"] ["_law_pen_here", "_law_many"] (defScope sDraw) := ⟨rfl, rfl, rfl, by decide +kernel, rfl, by decide +kernel, by decide +kernel⟩
theorem scPick : FnScope ["_law_pen_here", "_law_some"] ["_law_pen_here", "_law_some"] (defScope sPick) := ⟨rfl, rfl, rfl, by decide +kernel, rfl, by decide +kernel, by decide +kernel⟩

/-! ### the pen -/
/-- the pen at p: the cells at l, how many were begun, what is left of a great one -/
structure Pen (H : Hp) (p l : Addr) (ns : List Int) (n : Nat) (g : Int) : Prop where
  pen : H p = some (.lst [.ref l, .int n, .int g])
  cells : H l = some (.lst (ns.map V.int))
  left : 0 ≤ g
/-- all that was tracked beside p is as it was -/
def Off (p : Addr) (H H' : Hp) : Prop := ∀ b o, b ≠ p → H b = some o → H' b = some o
theorem Off.refl {p : Addr} {H : Hp} : Off p H H := fun _ _ _ e => e
theorem Off.trans {p : Addr} {H H1 H2 : Hp} (a : Off p H H1) (b : Off p H1 H2) : Off p H H2 := fun c o n e => b c o n (a c o n e)
theorem Off.upd {p : Addr} {H H1 : Hp} {o : HO} (a : Off p H H1) : Off p H (upd H1 p o) := fun c u n e => by
  rw [upd_ne n]
  exact a c u n e
theorem Off.new {p q : Addr} {H H1 : Hp} {o : HO} (a : Off p H H1) (h : H1 q = none) : Off p H (L2.upd H1 q o) := fun c u n e => by
  have e1 := a c u n e
  rw [upd_ne (ne_of_none e1 h)]
  exact e1
theorem dp_ints {K : PySem.W.Frag} {H : Hp} : ∀ ns : List Int, DpAll K H (ns.map V.int) (ns.map PyData.int)
  | [] => .nil
  | n :: r => .cons (.int n) (dp_ints r)
theorem depth_ints : ∀ ns : List Int, PyData.depthAll (ns.map PyData.int) ≤ 1
  | [] => by simp [PyData.depthAll]
  | n :: r => by
    have h := depth_ints r
    simp only [List.map_cons, PyData.depthAll, PyData.depth]
    omega
theorem shaped_ints (ns : List Int) : SeqAt.shaped (.list (ns.map PyData.int)) = true := by
  unfold SeqAt.shaped
  rw [Bool.and_eq_true]
  have hd := depth_ints ns
  refine ⟨?_, decide_eq_true ?_⟩
  · show PyData.canLay0 _ = true
    simp only [PyData.canLay0]
    induction ns with
    | nil => rfl
    | cons a r ih => simpa [PyData.canLayAll0, PyData.canLay0] using ih (depth_ints r)
  · simp only [PyData.depth]
    omega
theorem Pen.apart {H : Hp} {p l : Addr} {ns : List Int} {n : Nat} {g : Int} (h : Pen H p l ns n g) : l ≠ p := by
  refine ne_of h.cells h.pen (fun z => ?_)
  injection z with z
  cases ns with
  | nil => cases z
  | cons a r => cases z
theorem eqv_nil (ds : List PyData) : PyData.eqv (.list ds) (.list []) = ds.isEmpty := by
  cases ds <;> simp [PyData.eqv, PyData.eqvAll]
section
variable {P : Program} {w : World} {K : PySem.W.Frag} {mg : Str → Option Value} {base : Heap}
def spDraw : Sp := fun vs H Q _ => ∃ (p l : Addr) (ns : List Int) (n : Nat) (g many : Int), vs = [.ref p, .int many] ∧ Pen H p l ns n g ∧ n < 1000000 ∧ 0 < many ∧ many.natAbs < 2 ^ 200 ∧
  ∀ (d : Int) (n' : Nat) (g' : Int) (H' : Hp), 0 ≤ d → d < many → n' ≤ n + 1 → Off p H H' → Pen H' p l ns n' g' → Q (.int d) H'
theorem ok_draw {f : Addr} {fd : FuncData} (F : Fun K "_law_draw" "_law_draw" sDraw f fd) (ml : mg "len" = none) (mi : mg "int" = none) (ma : mg "abs" = none) : FnOk P w K mg base CX0 1 f fd ["_law_pen_here", "_law_many"] spDraw := by
  refine F.ok scDraw (fun vs H Q E h => ?_) (fun cdv A outer s H vs Q E hr h => ?_)
  · obtain ⟨p, l, ns, n, g, many, rfl, _⟩ := h
    rfl
  · obtain ⟨p, l, ns, n, g, many, rfl, hp, hn, hm, hm2, q⟩ := h
    refine ⟨_, pss_cons (ps_if (pt_cmpR op_gt (pe_ix ix_list (pv 0) pe_int (fun _ _ => rfl)) pe_int (nomark _))
        (pss_cons (ps_set (i := 2) scDraw.nd rfl (.inl rfl) (pe_op op_mod (pe_callTy call_int1 (by rfl) mi (by decide +kernel) (pa_cons (pe_ix ix_list (pv 0) pe_int (fun _ _ => rfl)) pa_nil)) (pv 1)))
        (pss_cons (ps_asg (pe_op op_fdivW (pe_callTy call_int1 (by rfl) mi (by decide +kernel) (pa_cons (pe_ix ix_list (pv 0) pe_int (fun _ _ => rfl)) pa_nil)) (pv 1)) (pg_sub (pv 0) pe_int set_list))
        (pss_one (ps_ret (pv 2))))) pss_nil)
      (pss_cons (ps_set (i := 3) scDraw.nd rfl (.inl rfl) (pe_ix ix_list (pv 0) pe_int (fun _ _ => rfl)))
      (pss_cons (ps_asg (pe_op op_add (pv 3) pe_int) (pg_sub (pv 0) pe_int set_list))
      (pss_cons (ps_set (i := 4) scDraw.nd rfl (.inl rfl) (pe_op op_add (pe_op op_mul pe_int (pv 3)) pe_int))
      (C8.pss_cut (ps_if (pt_cmpR (op_neD (by have := hr.units; exact this)) (pe_ix ix_list (pv 0) pe_int (fun _ _ => rfl)) (pe_lst pa_nil) (nomark _))
        (pss_one (ps_set (i := 4) scDraw.nd rfl (.inl rfl) (pe_ix ix_list (pe_ix ix_list (pv 0) pe_int (fun _ _ => rfl)) (pe_op op_mod (pe_callTy call_int1 (by rfl) mi (by decide +kernel) (pa_cons (pv 3) pa_nil)) (pe_callB call_len_seq (by rfl) ml PySem.boot_len (pa_cons (pe_ix ix_list (pv 0) pe_int (fun _ _ => rfl)) pa_nil))) (fun _ _ => rfl)))) pss_nil)
      (pss_cons (ps_if (PW.pt (pw_and (pt_cmpR op_lt (pv 3) (pe_callB call_len_seq (by rfl) ml PySem.boot_len (pa_cons (pe_ix ix_list (pv 0) pe_int (fun _ _ => rfl)) pa_nil)) (nomark _))
            (pw_and1 (pt_cmpR op_ge (pe_callB call_abs (by rfl) ma (by decide +kernel) (pa_cons (pv 4) pa_nil)) (pe_op op_pow pe_int pe_int) (nomark _)))))
        (pss_cons (ps_set (i := 5) scDraw.nd rfl (.inl rfl) (pe_op op_add (pe_op op_mul pe_int (pe_op op_sub (pe_callB call_abs (by rfl) ma (by decide +kernel) (pa_cons (pv 4) pa_nil)) (pe_op op_pow pe_int pe_int)))
            (pe_callTy call_int1 (by rfl) mi (by decide +kernel) (pa_cons (pe_cmpR op_lt (pv 4) pe_int (nomark _)) pa_nil))))
        (pss_cons (ps_asg (pe_op op_fdivW (pe_callTy call_int1 (by rfl) mi (by decide +kernel) (pa_cons (pv 5) pa_nil)) (pv 1)) (pg_sub (pv 0) pe_int set_list))
        (pss_one (ps_ret (pe_op op_mod (pe_callTy call_int1 (by rfl) mi (by decide +kernel) (pa_cons (pv 5) pa_nil)) (pv 1)))))) pss_nil)
      (pss_cons (ps_set (i := 6) scDraw.nd rfl (.inl rfl) (pe_op op_mod (pe_callTy call_int1 (by rfl) mi (by decide +kernel) (pa_cons
          (pe_op op_pow (pe_op op_add (pe_op op_add (pe_op op_mod (pe_callTy call_int1 (by rfl) mi (by decide +kernel) (pa_cons (pv 4) pa_nil)) pe_int) (pe_op op_mul pe_int (pv 3))) pe_int) pe_int) pa_nil)) pe_int))
      (pss_cons (ps_set (i := 6) scDraw.nd rfl (.inl rfl) (pe_op op_mod (pe_callTy call_int1 (by rfl) mi (by decide +kernel) (pa_cons
          (pe_op op_pow (pe_op op_add (pe_op op_add (pe_op op_mul (pv 6) (pe_op op_add (pe_op op_mul pe_int (pv 3)) pe_int)) (pe_op op_mul (pe_op op_mul pe_int (pv 3)) (pv 3))) pe_int) pe_int) pa_nil)) pe_int))
      (pss_one (ps_ret (pe_op op_mod (pe_callTy call_int1 (by rfl) mi (by decide +kernel) (pa_cons (pe_op op_fdiv (pv 6) pe_int) pa_nil)) (pv 1))))))))))), ?_⟩
    have hP : SqL K H p [.ref l, .int n, .int g] := SqL.of hp.pen
    refine ⟨_, rfl, p, _, 2, _, rfl, rfl, hP, atI_nat (j := 2) rfl, _, _, rfl, rfl, _, rfl, ite2 (fun e => ?_) (fun e => ?_)⟩
    · refine ⟨_, rfl, p, _, 2, _, rfl, rfl, hP, atI_nat (j := 2) rfl, .inl ⟨_, rfl, _, rfl, _, _, rfl, rfl, hm, ?_⟩⟩
      refine ⟨_, rfl, p, _, 2, _, rfl, rfl, hP, atI_nat (j := 2) rfl, .inl ⟨_, rfl, _, rfl, _, _, rfl, rfl, wide_div hm hm2 (by decide) (by decide), _, rfl, p, _, 2, 2, rfl, rfl, hp.pen, rfl, ?_⟩⟩
      refine ⟨_, rfl, q _ n (g / many) _ (Int.emod_nonneg _ (Int.ne_of_gt hm)) (Int.emod_lt_of_pos _ hm) (by omega) Off.refl.upd ⟨upd_same, (upd_ne hp.apart).trans hp.cells, Int.ediv_nonneg hp.left (Int.le_of_lt hm)⟩⟩
    · refine ⟨_, rfl, p, _, 1, _, rfl, rfl, hP, atI_nat (j := 1) rfl, ?_⟩
      refine ⟨_, rfl, _, _, rfl, rfl, _, rfl, p, _, 1, 1, rfl, rfl, hp.pen, rfl, ?_⟩
      have hP1 : (upd H p (.lst [.ref l, .int (n + 1), .int g])) p = some (.lst [.ref l, .int (n + 1), .int g]) := upd_same
      have hL1 : (upd H p (.lst [.ref l, .int (n + 1), .int g])) l = some (.lst (ns.map V.int)) := (upd_ne hp.apart).trans hp.cells
      have hO1 : Off p H (upd H p (.lst [.ref l, .int (n + 1), .int g])) := Off.refl.upd
      refine ⟨_, rfl, _, _, rfl, rfl, .inl ⟨by decide, by decide⟩, _, _, rfl, rfl, ?_⟩
      refine ⟨fun σ' H2 => ∃ c : Int, σ' = [some (.ref p), some (.int many), none, some (.int n), some (.int c), none, none] ∧ H2 p = some (.lst [.ref l, .int (n + 1), .int g]) ∧ H2 l = some (.lst (ns.map V.int)) ∧ Off p H H2, ?_, ?_⟩
      · refine ⟨_, rfl, p, _, 0, _, rfl, rfl, SqL.of hP1, atI_nat (j := 0) rfl, Nat.zero_le _, fun z hz => ?_⟩
        have hP2 := (upd_ne (o := .lst []) (ne_of_none hP1 hz)).trans hP1
        have hL2 := (upd_ne (o := .lst []) (ne_of_none hL1 hz)).trans hL1
        refine ⟨.list (ns.map PyData.int), .list [], .lst (SqL.of hL2) (dp_ints ns), .lst (SqL.of upd_same) .nil, shaped_ints ns, by decide, _, rfl, ite2 (fun e1 => ?_) (fun e1 => ?_)⟩
        · rw [eqv_nil] at e1
          have hlen : 0 < ns.length := by
            cases ns with
            | nil => cases e1
            | cons a r => exact Nat.succ_pos _
          have hlt : n % ns.length < ns.length := Nat.mod_lt _ hlen
          refine ⟨_, rfl, p, _, 0, _, rfl, rfl, SqL.of hP2, atI_nat (j := 0) rfl, _, rfl, .inl ⟨_, rfl, _, rfl, p, _, 0, _, rfl, rfl, SqL.of hP2, atI_nat (j := 0) rfl, l, _, rfl, .inl (SqL.of hL2), _, _, rfl, rfl, (by rw [List.length_map]; omega), l, _, _, .int ns[n % ns.length], rfl, rfl, SqL.of hL2, ?_, ?_⟩⟩
          · have e2 : ((n : Int) % (((ns.map V.int).length : Nat) : Int)) = ((n % ns.length : Nat) : Int) := by
              rw [List.length_map]
              exact (Int.natCast_emod n ns.length).symm
            rw [e2]
            refine atI_nat ?_
            rw [List.getElem?_map, List.getElem?_eq_getElem hlt]
            rfl
          · exact ⟨_, rfl, hP2, hL2, hO1.new hz⟩
        · exact ⟨_, rfl, hP2, hL2, hO1.new hz⟩
      · rintro σ' H2 ⟨c, rfl, hP2, hL2, hO2⟩
        have hmix : ∀ t : Int, 0 ≤ t % many ∧ t % many < many := fun t => ⟨Int.emod_nonneg _ (Int.ne_of_gt hm), Int.emod_lt_of_pos _ hm⟩
        have bm : ∀ Y : Int, 0 ≤ Y % 2147483587 ∧ Y % 2147483587 < 2147483587 := fun Y => ⟨Int.emod_nonneg _ (by decide), Int.emod_lt_of_pos _ (by decide)⟩
        have bd : ∀ Y : Int, -(2 ^ 64) < Y % 2147483587 ∧ Y % 2147483587 < 2 ^ 64 := fun Y => by
          have := bm Y
          omega
        have key : ∀ Y : Int, ((Y % 2147483587) * (2 * (n : Int) + 43) + 53281 * (n : Int) * (n : Int) + 29).natAbs < 2 ^ 64 := by
          intro Y
          have b2 := bm Y
          revert b2
          generalize Y % 2147483587 = m1
          intro b2
          have b3 : 0 ≤ m1 * (2 * (n : Int) + 43) ∧ m1 * (2 * (n : Int) + 43) ≤ 2147483587 * 2000043 := ⟨Int.mul_nonneg b2.1 (by omega), Int.mul_le_mul (by omega) (by omega) (by omega) (by decide)⟩
          have b4 : 0 ≤ 53281 * (n : Int) * (n : Int) ∧ 53281 * (n : Int) * (n : Int) ≤ (53281 * 1000000) * 1000000 := ⟨Int.mul_nonneg (by omega) (by omega), Int.mul_le_mul (by omega) (by omega) (by omega) (by decide)⟩
          omega
        refine ⟨_, rfl, _, rfl, p, _, 0, _, rfl, rfl, SqL.of hP2, atI_nat (j := 0) rfl, l, _, rfl, .inl (SqL.of hL2), _, _, rfl, rfl, _, rfl, ite2 (fun e1 => ⟨_, rfl, _, rfl, _, _, rfl, rfl, ⟨by decide, by decide, by decide⟩, _, _, rfl, rfl, _, rfl, ite2 (fun e2 => ?great) (fun e2 => ?late)⟩) (fun e1 => ?small)⟩
        case great =>
          have e3 : (10 : Int) ^ (18 : Int).toNat ≤ (if c < 0 then -c else c) := of_decide_eq_true e2
          refine ⟨_, rfl, _, rfl, _, _, rfl, rfl, ⟨by decide, by decide, by decide⟩, _, _, rfl, rfl, _, _, rfl, rfl, .inl ⟨by decide, by decide⟩, _, rfl, _, _, rfl, rfl, .inr ⟨_, rfl, _, _, rfl, rfl, ?_⟩⟩
          have hG : ∀ k : Bool, 0 ≤ 2 * ((if c < 0 then -c else c) - (10 : Int) ^ (18 : Int).toNat) + (if k = true then (1 : Int) else 0) := by
            intro k
            have : (0 : Int) ≤ (if k = true then (1 : Int) else 0) := by cases k <;> decide
            omega
          have hG1 := hG (decide (c < 0))
          refine ⟨_, rfl, .inl ⟨_, rfl, _, rfl, _, _, rfl, rfl, wide_div hm hm2 (by decide) (by decide), _, rfl, p, _, 2, 2, rfl, rfl, hP2, rfl, ?_⟩⟩
          exact ⟨_, rfl, .inl ⟨_, rfl, _, rfl, _, _, rfl, rfl, hm, q _ (n + 1) _ _ (hmix _).1 (hmix _).2 (Nat.le_refl _) hO2.upd ⟨upd_same, (upd_ne (Pen.apart ⟨hP2, hL2, hp.left⟩)).trans hL2, Int.ediv_nonneg hG1 (Int.le_of_lt hm)⟩⟩⟩
        all_goals
          have b1 : 0 ≤ c % 2147483549 ∧ c % 2147483549 < 2147483549 := ⟨Int.emod_nonneg _ (by decide), Int.emod_lt_of_pos _ (by decide)⟩
          refine ⟨_, rfl, .inl ⟨_, rfl, _, _, rfl, rfl, (by decide : (0 : Int) < 2147483549), _, rfl, _, _, rfl, rfl, .inl ⟨by decide, by decide⟩, _, _, rfl, rfl, _, _, rfl, rfl, _, _, rfl, rfl, ⟨by decide, by decide, ?_⟩, .inl ⟨_, rfl, _, _, rfl, rfl, (by decide : (0 : Int) < 2147483587), ?_⟩⟩⟩
          · omega
          refine ⟨_, rfl, _, rfl, _, _, rfl, rfl, .inl ⟨by decide, by decide⟩, _, _, rfl, rfl, _, _, rfl, rfl, .inl (bd _), _, rfl, _, _, rfl, rfl, .inl ⟨by decide, by decide⟩, _, rfl, _, _, rfl, rfl, .inr ⟨?_, ?_⟩, _, _, rfl, rfl, _, _, rfl, rfl, _, _, rfl, rfl, ⟨by decide, by decide, key _⟩, .inl ⟨_, rfl, _, _, rfl, rfl, (by decide : (0 : Int) < 2147483629), ?_⟩⟩
          · omega
          · omega
          exact ⟨_, rfl, _, _, rfl, rfl, ⟨by decide, by decide⟩, .inl ⟨_, rfl, _, rfl, _, _, rfl, rfl, hm, q _ (n + 1) g H2 (hmix _).1 (hmix _).2 (Nat.le_refl _) hO2 ⟨hP2, hL2, hp.left⟩⟩⟩


/-- one of a list's things, one of a text's signs -/
def spPick (K : PySem.W.Frag) : Sp := fun vs H Q _ => ∃ (p l : Addr) (ns : List Int) (n : Nat) (g : Int) (y : V), vs = [.ref p, y] ∧ Pen H p l ns n g ∧ n < 1000000 ∧
  ((∃ (q : Addr) (xs : List V), y = .ref q ∧ q ≠ p ∧ H q = some (.lst xs) ∧ 0 < xs.length ∧ xs.length ≤ 1000 ∧
    ∀ (v : V) (n' : Nat) (g' : Int) (H' : Hp), v ∈ xs → n' ≤ n + 1 → Off p H H' → Pen H' p l ns n' g' → Q v H') ∨
   (∃ z : Str, y = .str z ∧ 0 < z.length ∧ z.length ≤ 1000 ∧
    ∀ (c : Nat) (n' : Nat) (g' : Int) (H' : Hp), c ∈ z.cps.toList → n' ≤ n + 1 → Off p H H' → Pen H' p l ns n' g' → Q (.str (⟨#[c]⟩)) H'))
theorem ok_pick {f fD : Addr} {fd fdD : FuncData} (F : Fun K "_law_pick" "_law_pick" sPick f fd) (ml : mg "len" = none) (FD : Fun K "_law_draw" "_law_draw" sDraw fD fdD) (bD : Binds K fdD ["_law_pen_here", "_law_many"] []) (gD : mg "_law_draw" = some (.ref fD))
    (GD : FnOk P w K mg base CX0 1 fD fdD ["_law_pen_here", "_law_many"] spDraw) : FnOk P w K mg base CX0 2 f fd ["_law_pen_here", "_law_some"] (spPick K) := by
  refine F.ok scPick (fun vs H Q E h => ?_) (fun cdv A outer s H vs Q E hr h => ?_)
  · obtain ⟨p, l, ns, n, g, y, rfl, _⟩ := h
    rfl
  · obtain ⟨p, l, ns, n, g, y, rfl, hp, hn, k⟩ := h
    refine ⟨_, pss_one (ps_ret (pe_ix (ix_list.or ix_str) (pv 1) (pe_call GD hr (by rfl) gD FD.kp bD .nil pass0 (pa_cons (pv 0) (pa_cons (pe_callB (So.CallR.or call_len_seq call_len_str) (by rfl) ml PySem.boot_len (pa_cons (pv 1) pa_nil)) pa_nil))) (fun _ _ => rfl))), ?_⟩
    rcases k with ⟨q, xs, rfl, hne, hq, h0, h1, k⟩ | ⟨z, rfl, h0, h1, k⟩
    · refine ⟨_, rfl, _, rfl, _, rfl, .inl ⟨q, _, rfl, .inl (SqL.of hq), p, l, ns, n, g, _, rfl, hp, hn, by omega, ?_, ?_⟩⟩
      · have : ((xs.length : Nat) : Int).natAbs = xs.length := Int.natAbs_natCast _
        rw [this]
        exact Nat.lt_of_le_of_lt h1 (by decide)
      · intro d n' g' H' d0 d1 hn' off pen
        obtain ⟨j, rfl⟩ : ∃ j : Nat, d = j := ⟨d.toNat, by omega⟩
        have hlt : j < xs.length := by omega
        exact .inl ⟨q, xs, j, xs[j], rfl, rfl, SqL.of (off q _ hne hq), atI_nat (List.getElem?_eq_getElem hlt), k _ n' g' H' (List.getElem_mem hlt) hn' off pen⟩
    · refine ⟨_, rfl, _, rfl, _, rfl, .inr ⟨z, rfl, Nat.le_trans h1 (by decide), p, l, ns, n, g, _, rfl, hp, hn, by omega, ?_, ?_⟩⟩
      · have : ((z.length : Nat) : Int).natAbs = z.length := Int.natAbs_natCast _
        rw [this]
        exact Nat.lt_of_le_of_lt h1 (by decide)
      · intro d n' g' H' d0 d1 hn' off pen
        obtain ⟨j, rfl⟩ : ∃ j : Nat, d = j := ⟨d.toNat, by omega⟩
        have hz : z.length = z.cps.toList.length := Array.length_toList.symm
        have hlt : j < z.cps.toList.length := by omega
        exact .inr ⟨z, j, z.cps.toList[j], rfl, rfl, Nat.le_trans h1 (by decide), atI_nat (List.getElem?_eq_getElem hlt), k _ n' g' H' (List.getElem_mem hlt) hn' off pen⟩
theorem Pen.new {H : Hp} {p l q : Addr} {ns : List Int} {n : Nat} {g : Int} {o : HO} (h : Pen H p l ns n g) (hq : H q = none) : Pen (upd H q o) p l ns n g :=
  ⟨(upd_ne (ne_of_none h.pen hq)).trans h.pen, (upd_ne (ne_of_none h.cells hq)).trans h.cells, h.left⟩
end
end K08

namespace K08
open PySem PySem.Spec PyProof.Rows L2 So
abbrev sWhole : Stmt := topS 14
abbrev sMoment : Stmt := topS 15
abbrev sName : Stmt := topS 16
abbrev sCheck : Stmt := topS 17
theorem scWhole : FnScope ["value"] ["value"] (defScope sWhole) := ⟨rfl, rfl, rfl, by decide +kernel, rfl, by decide +kernel, by decide +kernel⟩
theorem scMoment : FnScope ["value"] ["value"] (defScope sMoment) := ⟨rfl, rfl, rfl, by decide +kernel, rfl, by decide +kernel, by decide +kernel⟩
theorem scName : FnScope ["value", "sign"] ["value"] (defScope sName) := ⟨rfl, rfl, rfl, by decide +kernel, rfl, by decide +kernel, by decide +kernel⟩
theorem scCheck : FnScope ["value", "form"] ["value", "form"] (defScope sCheck) := ⟨rfl, rfl, rfl, by decide +kernel, rfl, by decide +kernel, by decide +kernel⟩
/-! ### what a name is -/
def letters : Str := "abcdefghijklmnopqrstuvwxyz"
def digits : Str := "0123456789"
def noNames : List Str := ["begun", "setby", "found", "trusted", "passed", "failed", "agreed", "differed", "served", "backed", "sound", "unsound", "sure", "never", "open", "none", "record", "lot", "menu", "wanted"]
def isAln (c : Nat) : Bool := decide (c ∈ (letters ++ digits).cps.toList)
def isName (z : Str) : Bool := decide (1 ≤ z.length) && decide (z.length ≤ 8) && !(noNames.contains z) && decide (z.cps.toList.headD 0 ∈ letters.cps.toList) && z.cps.toList.all isAln
/-- the module's names that the words of the package read -/
structure Words (K : PySem.W.Frag) (mg : Str → Option Value) : Prop where
  greatest : ∃ t, mg "GREATEST" = some (.int 1000000000000000000000000000000 t)
  longest : ∃ t, mg "LONGEST_NAME" = some (.int 8 t)
  letters : ∃ t, mg "LETTERS" = some (.str letters t)
  digits : ∃ t, mg "DIGITS" = some (.str digits t)
  noNames : ∃ a, mg "NO_NAMES" = some (.ref a) ∧ ∀ H : Hp, SqT K H a (noNames.map V.str)
  isi : mg "isinstance" = none
  int : mg "int" = none
  bool : mg "bool" = none
  str : mg "str" = none
  len : mg "len" = none
  all : mg "all" = none
section
variable {P : Program} {w : World} {K : PySem.W.Frag} {mg : Str → Option Value} {base : Heap}
theorem kit_int_int : PySem.W.kitOne K (.type "int") (.type "int") = some true := kit_ty (by decide +kernel)
theorem kit_int_bool : PySem.W.kitOne K (.type "int") (.type "bool") = some false := kit_ty (by decide +kernel)
theorem kit_str_str : PySem.W.kitOne K (.type "str") (.type "str") = some true := kit_ty (by decide +kernel)
theorem kit_bool_bool : PySem.W.kitOne K (.type "bool") (.type "bool") = some true := kit_ty (by decide +kernel)

/-- the values that the law draws: what each is, by its type's name -/
inductive Gv (H : Hp) : V → String → Prop where
  | non : Gv H .non "NoneType"
  | bl (b : Bool) : Gv H (.bl b) "bool"
  | int (i : Int) : Gv H (.int i) "int"
  | str (z : Str) (h : z.length ≤ 2000) : Gv H (.str z) "str"
  | lst {a : Addr} {xs : List V} (e : H a = some (.lst xs)) : Gv H (.ref a) "list"
  | tup {a : Addr} {xs : List V} (e : H a = some (.tup xs)) : Gv H (.ref a) "tuple"
  | dK {a : Addr} {kvs : List (Key × V)} (e : H a = some (.dK kvs)) : Gv H (.ref a) "dict"
theorem Gv.ty {H : Hp} {v : V} {T : String} (h : Gv H v T) : TyX K H v (.type T) := by
  cases h with
  | non => exact .base .non
  | bl b => exact .base (.bl b)
  | int i => exact .base (.int i)
  | str z h => exact .base (.str z)
  | lst e => exact .base (.lst e)
  | tup e => exact .base (.tup e)
  | dK e => exact .base (.dK e)
theorem Gv.same {H H' : Hp} {v : V} {T : String} (h : Gv H v T) (s : Same H H') : Gv H' v T := by
  cases h with
  | non => exact .non
  | bl b => exact .bl b
  | int i => exact .int i
  | str z h => exact .str z h
  | lst e => exact .lst (s _ _ e)
  | tup e => exact .tup (s _ _ e)
  | dK e => exact .dK (s _ _ e)
theorem Gv.off {H H' : Hp} {v : V} {T : String} {p : Addr} (h : Gv H v T) (n : v ≠ .ref p) (s : Off p H H') : Gv H' v T := by
  cases h with
  | non => exact .non
  | bl b => exact .bl b
  | int i => exact .int i
  | str z h => exact .str z h
  | lst e => exact .lst (s _ _ (fun z => n (by rw [z])) e)
  | tup e => exact .tup (s _ _ (fun z => n (by rw [z])) e)
  | dK e => exact .dK (s _ _ (fun z => n (by rw [z])) e)
def gInt : V → Bool
  | .int _ => true
  | _ => false
def gMom : V → Bool
  | .int i => decide (0 ≤ i ∧ i ≤ 1000000000000000000000000000000)
  | _ => false
def gNam : V → Bool
  | .str z => isName z
  | _ => false
def gTru : V → Bool
  | .bl _ => true
  | _ => false
/-- what isinstance says of such a value and a built-in type -/
theorem Gv.kit {H : Hp} {v : V} {T : String} (h : Gv H v T) (c : String) (hc : c = "int" ∨ c = "bool" ∨ c = "str") : PySem.W.kitOne K (.type T) (.type c) = some (decide (T = c ∨ (T = "bool" ∧ c = "int"))) := by
  rcases hc with rfl | rfl | rfl <;> cases h <;> exact kit_ty (by decide +kernel)
/-- is_whole -/
def spWhole : Sp := fun vs H Q _ => ∃ (v : V) (T : String), vs = [v] ∧ Gv H v T ∧ Q (.bl (gInt v)) H
theorem ok_whole {f : Addr} {fd : FuncData} (F : Fun K "is_whole" "is_whole" sWhole f fd) (W : Words K mg) : FnOk P w K mg base CX0 1 f fd ["value"] spWhole := by
  refine F.ok scWhole (fun vs H Q E h => ?_) (fun cdv A outer s H vs Q E hr h => ?_)
  · obtain ⟨v, T, rfl, _⟩ := h
    rfl
  · obtain ⟨v, T, rfl, hv, q⟩ := h
    refine ⟨_, pss_one (ps_ret (pe_and (pe_callB call_isi (by rfl) W.isi (by decide +kernel) (pa_cons (pv 0) (pa_cons (pe_bltn (v := .ty "int") (by rfl) W.int (by decide +kernel) rfl) pa_nil)))
      (pe_one (pe_not (pe_callB call_isi (by rfl) W.isi (by decide +kernel) (pa_cons (pv 0) (pa_cons (pe_bltn (v := .ty "bool") (by rfl) W.bool (by decide +kernel) rfl) pa_nil))))))), ?_⟩
    refine ⟨_, rfl, _, _, _, _, _, rfl, .ty "int", hv.ty, hv.kit "int" (.inl rfl), _, rfl, ?_⟩
    cases hv with
    | int i =>
      refine iteT ?_
      exact ⟨_, rfl, _, _, _, _, false, rfl, .ty "bool", .base (.int i), kit_int_bool, _, rfl, q⟩
    | bl b =>
      refine iteT ?_
      exact ⟨_, rfl, _, _, _, _, true, rfl, .ty "bool", .base (.bl b), kit_bool_bool, _, rfl, q⟩
    | non => exact iteF q
    | str z h => exact iteF q
    | lst e => exact iteF q
    | tup e => exact iteF q
    | dK e => exact iteF q
/-- is_moment -/
def spMoment : Sp := fun vs H Q _ => ∃ (v : V) (T : String), vs = [v] ∧ Gv H v T ∧ Q (.bl (gMom v)) H
theorem ok_moment {f fW : Addr} {fd fdW : FuncData} (F : Fun K "is_moment" "is_moment" sMoment f fd) (W : Words K mg) (FW : Fun K "is_whole" "is_whole" sWhole fW fdW) (bW : Binds K fdW ["value"] []) (gW : mg "is_whole" = some (.ref fW)) :
    FnOk P w K mg base CX0 2 f fd ["value"] spMoment := by
  have GW : FnOk P w K mg base CX0 1 fW fdW ["value"] spWhole := ok_whole FW W
  refine F.ok scMoment (fun vs H Q E h => ?_) (fun cdv A outer s H vs Q E hr h => ?_)
  · obtain ⟨v, T, rfl, _⟩ := h
    rfl
  · obtain ⟨v, T, rfl, hv, q⟩ := h
    obtain ⟨tG, hG⟩ := W.greatest
    refine ⟨_, pss_one (ps_ret (pe_and (pe_call GW hr (by rfl) gW FW.kp bW .nil pass0 (pa_cons (pv 0) pa_nil)) (pe_one (pe_chain op_le op_le pe_int (pv 0) (pe_glob (v := .int 1000000000000000000000000000000) rfl hG ⟨_, rfl⟩))))), ?_⟩
    refine ⟨_, rfl, v, T, rfl, hv, gInt v, rfl, ?_⟩
    cases hv with
    | int i =>
      refine iteT ?_
      refine ⟨_, rfl, _, _, rfl, rfl, _, rfl, ite2 (fun e => ?_) (fun e => ?_)⟩
      · have e' : 0 ≤ i := of_decide_eq_true e
        refine ⟨_, _, rfl, rfl, ?_⟩
        have : gMom (.int i) = decide (i ≤ 1000000000000000000000000000000) := by simp [gMom, e']
        rw [this] at q
        exact q
      · have e' : ¬ 0 ≤ i := fun z => e (decide_eq_true z)
        have : gMom (.int i) = false := by simp [gMom, e']
        rw [this] at q
        exact q
    | bl b => exact iteF q
    | non => exact iteF q
    | str z h => exact iteF q
    | lst e => exact iteF q
    | tup e => exact iteF q
    | dK e => exact iteF q

theorem inV_strs (z : Str) : ∀ l : List Str, inV (.str z) (l.map V.str) = l.contains z
  | [] => rfl
  | x :: r => by
    have h := inV_strs z r
    have e : eqV (.str x) (.str z) = (z == x) := Bool.beq_comm (a := x) (b := z)
    show (eqV (.str x) (.str z) || inV (.str z) (r.map V.str)) = _
    rw [h, e, List.contains_cons]
theorem flat_strs (l : List Str) : (l.map V.str).all flatV = true := by
  rw [List.all_map]
  exact List.all_eq_true.mpr fun _ _ => rfl
theorem Same.over {H H1 : Hp} {D : Addr} {o : HO} (s : Same H H1) (h : H D = none) : Same H (upd H1 D o) := fun b u e => by
  rw [upd_ne (ne_of_none e h)]
  exact s b u e
/-- is_name -/
def spName : Sp := fun vs H Q _ => ∃ (v : V) (T : String), vs = [v] ∧ Gv H v T ∧ ∀ H', Same H H' → Q (.bl (gNam v)) H'
theorem ok_name {f : Addr} {fd : FuncData} (F : Fun K "is_name" "is_name" sName f fd) (W : Words K mg) : FnOk P w K mg base CX0 1 f fd ["value"] spName := by
  refine F.ok scName (fun vs H Q E h => ?_) (fun cdv A outer s H vs Q E hr h => ?_)
  · obtain ⟨v, T, rfl, _⟩ := h
    rfl
  · obtain ⟨v, T, rfl, hv, q⟩ := h
    obtain ⟨tL, hL⟩ := W.longest
    obtain ⟨tA, hA⟩ := W.letters
    obtain ⟨tD, hD⟩ := W.digits
    obtain ⟨aN, gN, hN⟩ := W.noNames
    have gA : ∀ {X : Cx}, X.mg = mg → True := fun _ => trivial
    refine ⟨_, pss_cons (ps_if (PW.pt (pw_or (pt_not (pt_val (pe_callB call_isi (by rfl) W.isi (by decide +kernel) (pa_cons (pv 0) (pa_cons (pe_bltn (v := .ty "str") (by rfl) W.str (by decide +kernel) rfl) pa_nil)))))
        (pw_or (pt_not (pt_chain op_le op_le pe_int (pe_callB call_len_str (by rfl) W.len PySem.boot_len (pa_cons (pv 0) pa_nil)) (pe_glob (v := .int 8) rfl hL ⟨_, rfl⟩)))
          (pw_or1 (pt_cmpR op_in_seq (pv 0) (pe_glob (v := .ref aN) rfl gN rfl) (by rfl))))))
        (pss_one (ps_ret pe_bl)) pss_nil)
      (pss_one (ps_ret (pe_and (pe_cmpR op_in_sign (pe_ix ix_str (pv 0) pe_int (fun _ _ => rfl)) (pe_glob (v := .str letters) rfl hA ⟨_, rfl⟩) (by rfl))
        (pe_one (pe_callB (cr_all rfl) (by rfl) W.all (by decide +kernel) (pa_cons (pe_lc (own := [("sign", 1)]) (g := gName 1) (tt := tYes) rfl scName.nd (pi_str (pv 0)) (blkOk_by (N := ["value", "sign"]) (sc := defScope sName) (by decide +kernel))
          (fun _ _ _ _ _ => pg_name (i := 1) scName.nd rfl (Or.inl rfl)) (fun _ _ _ _ _ => pts_nil)
          (fun _ _ _ _ _ => pe_cmpR op_in_sign (pv 1) (pe_op op_add_str (pe_glob (v := .str letters) rfl hA ⟨_, rfl⟩) (pe_glob (v := .str digits) rfl hD ⟨_, rfl⟩)) (by rfl))) pa_nil)))))), ?_⟩
    refine ⟨_, rfl, _, _, _, _, _, rfl, .ty "str", hv.ty, hv.kit "str" (.inr (.inr rfl)), _, rfl, ?_⟩
    cases hv with
    | non => exact iteT (q H (Same.refl H))
    | bl b => exact iteT (q H (Same.refl H))
    | int i => exact iteT (q H (Same.refl H))
    | lst e => exact iteT (q H (Same.refl H))
    | tup e => exact iteT (q H (Same.refl H))
    | dK e => exact iteT (q H (Same.refl H))
    | str z hz => ?_
    have q : ∀ H', Same H H' → Q (.bl (isName z)) H' := q
    have hzl : z.length ≤ sizeLine := Nat.le_trans hz (by decide)
    refine iteF ?_
    have no : isName z = false → Q (.bl false) H := fun e => by
      have := q H (Same.refl H)
      rw [e] at this
      exact this
    refine ⟨_, rfl, _, rfl, hzl, _, _, rfl, rfl, _, rfl, ite2 (fun c1 => ?_) (fun c1 => ⟨_, rfl, iteT (no ?_)⟩)⟩
    case refine_2 =>
      have c1' : ¬ (1 : Int) ≤ ((z.length : Nat) : Int) := fun e => c1 (decide_eq_true e)
      unfold isName
      rw [show decide (1 ≤ z.length) = false from decide_eq_false (by omega)]
      rfl
    have c1' : (1 : Int) ≤ ((z.length : Nat) : Int) := of_decide_eq_true c1
    refine ⟨_, _, rfl, rfl, _, rfl, ?_⟩
    by_cases c2 : ((z.length : Nat) : Int) ≤ 8
    case neg =>
      rw [decide_eq_false c2]
      refine iteT (no ?_)
      unfold isName
      rw [show decide (z.length ≤ 8) = false from decide_eq_false (by omega), Bool.and_false]
      rfl
    rw [decide_eq_true c2]
    refine iteF ⟨_, rfl, aN, _, rfl, .inr (hN H), rfl, flat_strs _, ?_⟩
    refine ⟨_, rfl, ?_⟩
    rw [show inV (.str z) (noNames.map V.str) = noNames.contains z from inV_strs z noNames]
    cases c3 : noNames.contains z with
    | true =>
      refine iteT (no ?_)
      unfold isName
      rw [c3, Bool.not_true, Bool.and_false]
      rfl
    | false =>
      refine iteF ?_
      have hz0 : 0 < z.cps.toList.length := by
        have : z.length = z.cps.toList.length := Array.length_toList.symm
        omega
      obtain ⟨c0, cr, hc⟩ : ∃ c0 cr, z.cps.toList = c0 :: cr := by
        cases e : z.cps.toList with
        | nil => rw [e] at hz0; cases hz0
        | cons a r => exact ⟨a, r, rfl⟩
      have e1 : decide (1 ≤ z.length) = true := decide_eq_true (by omega)
      have e2 : decide (z.length ≤ 8) = true := decide_eq_true (by omega)
      have e3 : isName z = (decide (c0 ∈ letters.cps.toList) && z.cps.toList.all isAln) := by
        unfold isName
        rw [e1, e2, c3, hc]
        rfl
      refine ⟨_, rfl, _, _, c0, rfl, rfl, hzl, ?_, _, _, rfl, rfl, _, rfl, ite2 (fun c4 => ?_) (fun c4 => ?_)⟩
      · rw [hc]
        exact atI_nat (j := 0) rfl
      · refine ⟨_, rfl, _, rfl, fun D hD => lc_it walk_str (fun i H' => H' D = some (.lst ((z.cps.toList.take i).map fun c => V.bl (isAln c))) ∧ Same H H') ⟨?_, ?_⟩ (fun _ _ _ _ => trivial) ?_ ?_⟩
        · exact upd_same
        · exact Same.over (Same.refl H) hD
        · rintro i x H1 H2 hi ⟨h1, s1⟩ ⟨rfl, c, hc1, rfl⟩
          have hc2 : z.cps.toList[i]? = some c := by
            rw [Array.getElem?_toList]
            exact hc1
          refine ⟨rfl, _, rfl, _, _, rfl, rfl, by decide, c, _, rfl, rfl, _, h1, ?_, ?_, Same.over s1 hD⟩
          · rw [List.length_map, List.length_take]
            have : z.cps.toList.length = z.length := Array.length_toList
            exact Nat.lt_of_le_of_lt (Nat.le_trans (Nat.min_le_right _ _) (by omega)) (by decide : 2000 < sizeLine)
          · rw [upd_same, List.take_add_one, hc2, List.map_append]
            rfl
        · rintro H1 ⟨h1, s1⟩
          refine ⟨D, z.cps.toList.map isAln, rfl, SqL.of ?_, ?_⟩
          · rw [h1, List.take_of_length_le (by rw [Array.length_toList]; exact Nat.le_refl _), List.map_map]
            rfl
          · have := q H1 s1
            rw [e3, show decide (c0 ∈ letters.cps.toList) = true from c4, Bool.true_and] at this
            rw [List.all_map]
            exact this
      · refine no ?_
        rw [e3]
        have : decide (c0 ∈ letters.cps.toList) = false := by
          cases h : decide (c0 ∈ letters.cps.toList) with
          | true => exact absurd h c4
          | false => rfl
        rw [this]
        rfl
end
end K08

namespace K08
open PySem PySem.Spec PyProof.Rows L2 So
abbrev sEN : Stmt := inClass (topS 3) 0
abbrev sEM : Stmt := inClass (topS 4) 0
abbrev sES : Stmt := inClass (topS 5) 0
abbrev sET : Stmt := inClass (topS 6) 0
abbrev sEL : Stmt := inClass (topS 7) 0
theorem scET : FnScope ["self", "tool"] ["self", "tool"] (defScope sET) := ⟨rfl, rfl, rfl, by decide +kernel, rfl, by decide +kernel, by decide +kernel⟩
theorem scEL : FnScope ["self", "value"] ["self", "value"] (defScope sEL) := ⟨rfl, rfl, rfl, by decide +kernel, rfl, by decide +kernel, by decide +kernel⟩
theorem scEN : FnScope ["self", "name"] ["self", "name"] (defScope sEN) := ⟨rfl, rfl, rfl, by decide +kernel, rfl, by decide +kernel, by decide +kernel⟩
theorem scEM : FnScope ["self", "moment"] ["self", "moment"] (defScope sEM) := ⟨rfl, rfl, rfl, by decide +kernel, rfl, by decide +kernel, by decide +kernel⟩
theorem scES : FnScope ["self", "value"] ["self", "value"] (defScope sES) := ⟨rfl, rfl, rfl, by decide +kernel, rfl, by decide +kernel, by decide +kernel⟩
section
variable {P : Program} {w : World} {K : PySem.W.Frag} {mg : Str → Option Value} {base : Heap}
theorem ok_eN {C f : Addr} {fd : FuncData} (F : Fun K "__init__" "BadName.__init__" sEN f fd) (O : OneE K mg "BadName" "name" C f fd) : FnOk P w K mg base CX0 1 f fd ["self", "name"] (spOneE C "name") := by
  refine F.ok scEN (fun vs H Q E h => ?_) (fun cdv A outer s H vs Q E hr h => ?_)
  · obtain ⟨a, v, rfl, _⟩ := h
    rfl
  · obtain ⟨a, v, rfl, ha, q⟩ := h
    exact ⟨_, pss_one (ps_ost (pv 0) (pv 1)), _, rfl, _, rfl, a, C, rfl, O.T, O.no, .inl ⟨ha, fun dx h n => q dx h n⟩⟩
theorem ok_eM {C f : Addr} {fd : FuncData} (F : Fun K "__init__" "BadMoment.__init__" sEM f fd) (O : OneE K mg "BadMoment" "moment" C f fd) : FnOk P w K mg base CX0 1 f fd ["self", "moment"] (spOneE C "moment") := by
  refine F.ok scEM (fun vs H Q E h => ?_) (fun cdv A outer s H vs Q E hr h => ?_)
  · obtain ⟨a, v, rfl, _⟩ := h
    rfl
  · obtain ⟨a, v, rfl, ha, q⟩ := h
    exact ⟨_, pss_one (ps_ost (pv 0) (pv 1)), _, rfl, _, rfl, a, C, rfl, O.T, O.no, .inl ⟨ha, fun dx h n => q dx h n⟩⟩
theorem ok_eS {C f : Addr} {fd : FuncData} (F : Fun K "__init__" "BadSaying.__init__" sES f fd) (O : OneE K mg "BadSaying" "value" C f fd) : FnOk P w K mg base CX0 1 f fd ["self", "value"] (spOneE C "value") := by
  refine F.ok scES (fun vs H Q E h => ?_) (fun cdv A outer s H vs Q E hr h => ?_)
  · obtain ⟨a, v, rfl, _⟩ := h
    rfl
  · obtain ⟨a, v, rfl, ha, q⟩ := h
    exact ⟨_, pss_one (ps_ost (pv 0) (pv 1)), _, rfl, _, rfl, a, C, rfl, O.T, O.no, .inl ⟨ha, fun dx h n => q dx h n⟩⟩
theorem ok_eT {C f : Addr} {fd : FuncData} (F : Fun K "__init__" "NoTool.__init__" sET f fd) (O : OneE K mg "NoTool" "tool" C f fd) : FnOk P w K mg base CX0 1 f fd ["self", "tool"] (spOneE C "tool") := by
  refine F.ok scET (fun vs H Q E h => ?_) (fun cdv A outer s H vs Q E hr h => ?_)
  · obtain ⟨a, v, rfl, _⟩ := h
    rfl
  · obtain ⟨a, v, rfl, ha, q⟩ := h
    exact ⟨_, pss_one (ps_ost (pv 0) (pv 1)), _, rfl, _, rfl, a, C, rfl, O.T, O.no, .inl ⟨ha, fun dx h n => q dx h n⟩⟩
theorem ok_eL {C f : Addr} {fd : FuncData} (F : Fun K "__init__" "NoLife.__init__" sEL f fd) (O : OneE K mg "NoLife" "value" C f fd) : FnOk P w K mg base CX0 1 f fd ["self", "value"] (spOneE C "value") := by
  refine F.ok scEL (fun vs H Q E h => ?_) (fun cdv A outer s H vs Q E hr h => ?_)
  · obtain ⟨a, v, rfl, _⟩ := h
    rfl
  · obtain ⟨a, v, rfl, ha, q⟩ := h
    exact ⟨_, pss_one (ps_ost (pv 0) (pv 1)), _, rfl, _, rfl, a, C, rfl, O.T, O.no, .inl ⟨ha, fun dx h n => q dx h n⟩⟩
/-- the errors -/
structure Errs (K : PySem.W.Frag) (mg : Str → Option Value) (CN CM CS CT' CL : Addr) : Prop where
  n : ∃ (f : Addr) (fd : FuncData), OneE K mg "BadName" "name" CN f fd ∧ Fun K "__init__" "BadName.__init__" sEN f fd
  m : ∃ (f : Addr) (fd : FuncData), OneE K mg "BadMoment" "moment" CM f fd ∧ Fun K "__init__" "BadMoment.__init__" sEM f fd
  s : ∃ (f : Addr) (fd : FuncData), OneE K mg "BadSaying" "value" CS f fd ∧ Fun K "__init__" "BadSaying.__init__" sES f fd
  t : ∃ (f : Addr) (fd : FuncData), OneE K mg "NoTool" "tool" CT' f fd ∧ Fun K "__init__" "NoTool.__init__" sET f fd
  l : ∃ (f : Addr) (fd : FuncData), OneE K mg "NoLife" "value" CL f fd ∧ Fun K "__init__" "NoLife.__init__" sEL f fd
def gBeg : V → Bool
  | .int i => decide (1 ≤ i ∧ i ≤ 1000000000000000000000000000000)
  | _ => false
/-- the forms: whether a value has it, the class and the field of the error where not -/
def Form (CN CM CS : Addr) (form : Str) (v : V) (ok : Bool) (C : Addr) (fl : Str) : Prop :=
  (form = "name" ∧ ok = gNam v ∧ C = CN ∧ fl = "name") ∨ (form = "moment" ∧ ok = gMom v ∧ C = CM ∧ fl = "moment") ∨ (form = "beginning" ∧ ok = gBeg v ∧ C = CM ∧ fl = "moment") ∨ (form = "truth" ∧ ok = gTru v ∧ C = CS ∧ fl = "value")
theorem notS {a b : Str} (h : a ≠ b) : ¬ (decide (V.str a = V.str b) = true) := fun e => h (V.str.inj (of_decide_eq_true e))
def spCheck (CN CM CS : Addr) : Sp := fun vs H Q E => ∃ (v : V) (T : String) (form : Str) (ok : Bool) (C : Addr) (fl : Str), vs = [v, .str form] ∧ Gv H v T ∧ Form CN CM CS form v ok C fl ∧
  (ok = true → ∀ H', Same H H' → Q .non H') ∧ (ok = false → ∀ d H', Same H H' → H' d = some (.xd [(fl, v)]) → E (.ref C) (some d) H')
theorem ok_check {CN CM CS CT' CL f fM fN : Addr} {fd fdM fdN : FuncData} (F : Fun K "check_form" "check_form" sCheck f fd) (W : Words K mg) (R : Errs K mg CN CM CS CT' CL) (FM : Fun K "is_moment" "is_moment" sMoment fM fdM) (bM : Binds K fdM ["value"] []) (gM : mg "is_moment" = some (.ref fM))
    (GM : FnOk P w K mg base CX0 2 fM fdM ["value"] spMoment) (FN : Fun K "is_name" "is_name" sName fN fdN) (bN : Binds K fdN ["value"] []) (gN : mg "is_name" = some (.ref fN)) (GN : FnOk P w K mg base CX0 1 fN fdN ["value"] spName) :
    FnOk P w K mg base (L2.CX P w) 3 f fd ["value", "form"] (spCheck CN CM CS) := by
  obtain ⟨f1, fd1, O1, F1⟩ := R.n
  obtain ⟨f2, fd2, O2, F2⟩ := R.m
  obtain ⟨f3, fd3, O3, F3⟩ := R.s
  have G1 : FnOk P w K mg base CX0 1 f1 fd1 ["self", "name"] (spOneE CN "name") := ok_eN F1 O1
  have G2 : FnOk P w K mg base CX0 1 f2 fd2 ["self", "moment"] (spOneE CM "moment") := ok_eM F2 O2
  have G3 : FnOk P w K mg base CX0 1 f3 fd3 ["self", "value"] (spOneE CS "value") := ok_eS F3 O3
  refine F.okX scCheck (fun vs H Q E h => ?_) (fun cdv A outer s H vs Q E hr h => ?_)
  · obtain ⟨v, T, form, ok, C, fl, rfl, _⟩ := h
    rfl
  · obtain ⟨v, T, form, ok, C, fl, rfl, hv, hf, qy, qn⟩ := h
    have hr1 : Room 1 _ := hr.mono (by decide)
    refine ⟨_, pss_cons (ps_if (PW.pt (pw_and (pt_cmpR op_eq (pv 1) pe_str (nomark _)) (pw_and1 (pt_not (pt_val (pe_call GN hr1 (by rfl) gN FN.kp bN .nil pass0 (pa_cons (pv 0) pa_nil))))))) (pss_one (ps_raiseOne O1 G1 rfl hr (takes_of rfl rfl rfl rfl) (by rfl) (pa_cons (pv 0) pa_nil))) pss_nil)
      (pss_cons (ps_if (PW.pt (pw_and (pt_cmpR op_eq (pv 1) pe_str (nomark _)) (pw_and1 (pt_not (pt_val (pe_call GM hr (by rfl) gM FM.kp bM .nil pass0 (pa_cons (pv 0) pa_nil))))))) (pss_one (ps_raiseOne O2 G2 rfl hr (takes_of rfl rfl rfl rfl) (by rfl) (pa_cons (pv 0) pa_nil))) pss_nil)
      (pss_cons (ps_if (PW.pt (pw_and (pt_cmpR op_eq (pv 1) pe_str (nomark _)) (pw_and1 (pt_not (PW.pt (pw_and (pt_val (pe_call GM hr (by rfl) gM FM.kp bM .nil pass0 (pa_cons (pv 0) pa_nil))) (pw_and1 (pt_cmpR op_gt (pv 0) pe_int (nomark _))))))))) (pss_one (ps_raiseOne O2 G2 rfl hr (takes_of rfl rfl rfl rfl) (by rfl) (pa_cons (pv 0) pa_nil))) pss_nil)
      (pss_one (ps_if (PW.pt (pw_and (pt_cmpR op_eq (pv 1) pe_str (nomark _)) (pw_and1 (pt_not (pt_val (pe_callB call_isi (by rfl) W.isi (by decide +kernel) (pa_cons (pv 0) (pa_cons (pe_bltn (v := .ty "bool") (by rfl) W.bool (by decide +kernel) rfl) pa_nil))))))))
        (pss_one (ps_raiseOne O3 G3 rfl hr (takes_of rfl rfl rfl rfl) (by rfl) (pa_cons (pv 0) pa_nil))) pss_nil)))), ?_⟩
    rcases hf with ⟨rfl, rfl, rfl, rfl⟩ | ⟨rfl, rfl, rfl, rfl⟩ | ⟨rfl, rfl, rfl, rfl⟩ | ⟨rfl, rfl, rfl, rfl⟩
    · refine ⟨_, rfl, rfl, _, rfl, ite2 (fun _ => ?_) (fun e => absurd (decide_eq_true rfl) e)⟩
      refine ⟨_, rfl, v, T, rfl, hv, fun H1 s1 => ⟨_, rfl, ?_⟩⟩
      cases hg : gNam v with
      | true =>
        refine iteF ?_
        refine ⟨_, rfl, rfl, _, rfl, ite2 (fun e => absurd e (notS (by decide +kernel))) (fun _ => ?_)⟩
        refine ⟨_, rfl, rfl, _, rfl, ite2 (fun e => absurd e (notS (by decide +kernel))) (fun _ => ?_)⟩
        refine ⟨_, rfl, rfl, _, rfl, ite2 (fun e => absurd e (notS (by decide +kernel))) (fun _ => ?_)⟩
        exact qy hg H1 s1
      | false =>
        refine iteT ?_
        exact ⟨_, rfl, mkOne rfl fun d H' s2 _ e => qn hg d H' (s1.trans s2) e⟩
    · refine ⟨_, rfl, rfl, _, rfl, ite2 (fun e => absurd e (notS (by decide +kernel))) (fun _ => ?_)⟩
      refine ⟨_, rfl, rfl, _, rfl, ite2 (fun _ => ?_) (fun e => absurd (decide_eq_true rfl) e)⟩
      refine ⟨_, rfl, v, T, rfl, hv, _, rfl, ?_⟩
      cases hg : gMom v with
      | true =>
        refine iteF ?_
        refine ⟨_, rfl, rfl, _, rfl, ite2 (fun e => absurd e (notS (by decide +kernel))) (fun _ => ?_)⟩
        refine ⟨_, rfl, rfl, _, rfl, ite2 (fun e => absurd e (notS (by decide +kernel))) (fun _ => ?_)⟩
        exact qy hg H (Same.refl H)
      | false =>
        refine iteT ?_
        exact ⟨_, rfl, mkOne rfl fun d H' s2 _ e => qn hg d H' s2 e⟩
    · refine ⟨_, rfl, rfl, _, rfl, ite2 (fun e => absurd e (notS (by decide +kernel))) (fun _ => ?_)⟩
      refine ⟨_, rfl, rfl, _, rfl, ite2 (fun e => absurd e (notS (by decide +kernel))) (fun _ => ?_)⟩
      refine ⟨_, rfl, rfl, _, rfl, ite2 (fun _ => ?_) (fun e => absurd (decide_eq_true rfl) e)⟩
      refine ⟨_, rfl, v, T, rfl, hv, _, rfl, ?_⟩
      have no : gBeg v = false → tMkO C (spOneE C "moment") [] (tCons (tVar 0) tNil) [some v, some (.str "beginning")] H fun cls d H' => E cls d H' := fun e =>
        ⟨_, rfl, mkOne rfl fun d H' s2 _ e2 => qn e d H' s2 e2⟩
      cases hg : gMom v with
      | true =>
        refine iteT ?_
        obtain ⟨i, rfl⟩ : ∃ i, v = .int i := by
          cases v with
          | int i => exact ⟨i, rfl⟩
          | _ => cases hg
        have hi : 0 ≤ i ∧ i ≤ 1000000000000000000000000000000 := of_decide_eq_true hg
        refine ⟨_, rfl, _, _, rfl, rfl, _, rfl, ?_⟩
        by_cases z : 0 < i
        · rw [show decide (i > 0) = true from decide_eq_true z]
          refine iteF ?_
          refine ⟨_, rfl, rfl, _, rfl, ite2 (fun e => absurd e (notS (by decide +kernel))) (fun _ => ?_)⟩
          exact qy (decide_eq_true ⟨by omega, hi.2⟩) H (Same.refl H)
        · rw [show decide (i > 0) = false from decide_eq_false z]
          refine iteT ?_
          exact no (decide_eq_false (by omega))
      | false =>
        refine iteF (iteT (no ?_))
        cases v with
        | int i =>
          have : ¬ (0 ≤ i ∧ i ≤ 1000000000000000000000000000000) := of_decide_eq_false hg
          exact decide_eq_false (by omega)
        | _ => rfl
    · refine ⟨_, rfl, rfl, _, rfl, ite2 (fun e => absurd e (notS (by decide +kernel))) (fun _ => ?_)⟩
      refine ⟨_, rfl, rfl, _, rfl, ite2 (fun e => absurd e (notS (by decide +kernel))) (fun _ => ?_)⟩
      refine ⟨_, rfl, rfl, _, rfl, ite2 (fun e => absurd e (notS (by decide +kernel))) (fun _ => ?_)⟩
      refine ⟨_, rfl, rfl, _, rfl, ite2 (fun _ => ?_) (fun e => absurd (decide_eq_true rfl) e)⟩
      refine ⟨_, rfl, _, _, _, _, _, rfl, .ty "bool", hv.ty, hv.kit "bool" (.inr (.inl rfl)), _, rfl, ?_⟩
      have no : gTru v = false → tMkO C (spOneE C "value") [] (tCons (tVar 0) tNil) [some v, some (.str "truth")] H fun cls d H' => E cls d H' := fun e =>
        ⟨_, rfl, mkOne rfl fun d H' s2 _ e2 => qn e d H' s2 e2⟩
      cases hv with
      | bl b => exact iteF (qy rfl H (Same.refl H))
      | non => exact iteT (no rfl)
      | int i => exact iteT (no rfl)
      | str z h => exact iteT (no rfl)
      | lst e => exact iteT (no rfl)
      | tup e => exact iteT (no rfl)
      | dK e => exact iteT (no rfl)
end
end K08

/-! set(xs) of a list or a tuple of ints, so that sorted can walk it. -/
namespace So
open PySem PySem.Spec PyProof.Rows L2
/-- a set just made -/
abbrev bareSet (w : World) : Obj := { cls := .type "set", dict := none, data := .set #[] 0 (.fresh 0 0 (!w.params.followText "set-order")) }
section
variable {P : Program} {w : World} {A : Around} {E : Value → Shared → Prop} {s : Shared}
/-- what set(..) hands back -/
abbrev GotSet (w : World) (ns : List Int) (s : Shared) (h' : Heap) (c : Nat) : Prop :=
  SetR w h' s.heap.objs.size (fun j => decide (j ∈ ns)) c ∧ c ≤ ns.length ∧ ∀ b o, s.heap.get? b = some o → h'.get? b = some o
theorem set_of_list {l : Addr} {its : Array Value} (ns : List Int) {Q : Value → Shared → Prop} (hh : A.handled = none) (hl : s.heap.IsList l its) (hit : IntsAre its.toList ns) (hb : ns.length + 1 < scanBound)
    (q : ∀ h' tk c, GotSet w ns s h' c → Q (.ref s.heap.objs.size) { s with heap := h', toks := tk }) : wpAny (model P w) A (call (.type "set") [.ref l]) Q E s := by
  have sz : its.size = ns.length := by
    have e := hit.length
    rwa [Array.length_toList] at e
  obtain ⟨c, tl, mro⟩ := F.called_set.mro
  have mde := F.called_set.made
  have sbt := F.called_set.sub
  refine wpAny_call (codeAny_of_tree ?_)
  show wpAny _ _ (callAny (.type "set") _) _ _ _
  refine wpAny_pure ⟨Code.quiet_builtin _ (by decide +kernel), codeAny_builtin F.entry_type_call ?_⟩
  rw [Around.under_plain (weight_type_call_type "set" [.ref l] []) rfl]
  have k1 := F.called_set.notType
  have k2 := F.called_set.canCreate
  have k3 := F.typeCall_set_1 (.ref l)
  repeat (any_goals (first | assumption | wp_step))
  refine codeAny_mono (code_set_led1 (.ref l) (E := E) (Q₁ := fun ob s1 => ob = .ref s.heap.objs.size ∧ s1 = { s with heap := s.heap.push (bareSet w) }) ⟨rfl, rfl⟩) fun r s1 hr => ?_
  match r, hr with
  | .error e, hr => exact hr
  | .ok .next, hr => exact hr.elim
  | .ok .brk, hr => exact hr.elim
  | .ok .cont, hr => exact hr.elim
  | .ok (.ret ob), hr =>
    obtain ⟨rfl, rfl⟩ := hr
    generalize hH : s.heap.push (bareSet w) = g0
    have at0 : g0.get? s.heap.objs.size = some (bareSet w) := by rw [← hH]; exact Heap.get?_push_size _ rfl
    have up0 : ∀ b o, s.heap.get? b = some o → g0.get? b = some o := fun b o e => by rw [← hH]; exact Heap.get?_push_of_some _ e
    have z0 : g0.objs.size = s.heap.objs.size + 1 := by rw [← hH]; exact Heap.size_push ..
    have tS : Shared.TypeIs { s with heap := g0 } (.ref s.heap.objs.size) "set" := ⟨_, at0, rfl⟩
    have i1 := F.called_set.init.lookup
    have i2 := F.called_set.init.bind (.ref s.heap.objs.size)
    repeat (any_goals (first | assumption | wp_step))
    refine codeAny_mono (codeAny_call_builtin (R := wants (fun r s2 => r = .none ∧ ∃ h' tk c, s2 = { s with heap := h', toks := tk } ∧ GotSet w ns s h' c) E) F.called_set.init.plain F.entry_set_init (check_set_init_1 tS ?_)) fun r2 s2 hr2 => ?_
    · obtain ⟨ob, ho, hc, nl, hd⟩ := hl
      obtain ⟨cc, dd, da, sl⟩ := ob
      simp only at hc hd
      subst hc
      subst hd
      have ho1 := up0 _ _ ho
      have n1 := F.sub_list_set
      have n2 := F.sub_list_frozenset
      have n3 : (Value.type "list" == Value.type "dict") = false := by decide
      have il : g0.IsList l its := ⟨_, ho1, rfl, nl, rfl⟩
      unfold Builtin.«set.__init__» noKeywords Builtin.Frozenset.updateFrom
      generalize hit' : pyIter = pI
      wp_walk
      subst hit'
      refine wpAny_pyIter_list il (wpAny_bind (wpAny_runValue ?_))
      have ll : l < s.heap.objs.size := Heap.lt_size ho
      have nI : l ≠ g0.objs.size := by
        rw [z0]
        exact Nat.ne_of_lt (Nat.lt_succ_of_lt ll)
      have nS : s.heap.objs.size ∉ [g0.objs.size, l] := by
        intro z
        rcases List.mem_cons.mp z with z | z
        · rw [z0] at z
          exact Nat.ne_of_lt (Nat.lt_succ_self _) z
        · exact Nat.ne_of_gt ll (List.mem_singleton.mp z)
      have vals : ∀ (i : Nat) (v : Value), its[i]? = some v → ∃ k t, ns[i]? = some k ∧ v = .int k t := fun i v hv => by
        have hi : i < ns.length := by rw [← sz]; exact (Array.getElem?_eq_some_iff.mp hv).1
        obtain ⟨t, e⟩ := hit.int_at i v (by rw [Array.getElem?_toList]; exact hv)
        exact ⟨ns[i], t, List.getElem?_eq_getElem hi, by rw [e, List.getD_eq_getElem?_getD, List.getElem?_eq_getElem hi]; rfl⟩
      refine set_update_ints ((Walks.list (by simp [hh]) _ l nI its).toS) s.heap.objs.size nS ns sz hb vals (its.size - 0) 0 _ (by omega) (Nat.zero_le _) ⟨⟨_, Heap.get?_push_size _ rfl, rfl, rfl⟩, il.push _⟩
        ⟨0, Nat.le_refl 0, setR_new_at (Heap.get?_push_of_some _ at0)⟩ fun s' c' hm hc' hS' => ?_
      obtain ⟨h', g2, d', tk', os'⟩ := s'
      have eg : g2 = s.gens := hm.gens
      have ed : d' = s.drawn := hm.drawn
      have eo : os' = s.os := hm.os
      subst eg ed eo
      rw [sz] at hc'
      refine wpAny_pure (wpAny_pure ⟨rfl, h', tk', c', rfl, hS', hc', fun b o e => ?_⟩)
      have hb0 : b < s.heap.objs.size := Heap.lt_size e
      refine hm.heap b o (fun z => ?_) (Heap.get?_push_of_some _ (up0 _ _ e))
      rcases List.mem_cons.mp z with z | z
      · exact Nat.ne_of_lt hb0 z
      · rw [List.mem_singleton.mp z, z0] at hb0
        exact Nat.lt_irrefl _ (Nat.lt_of_succ_lt hb0)
    · match r2, hr2 with
      | .error e, hr2 => exact hr2
      | .ok .next, hr2 => exact hr2.elim
      | .ok .brk, hr2 => exact hr2.elim
      | .ok .cont, hr2 => exact hr2.elim
      | .ok (.ret r), hr2 =>
        obtain ⟨rfl, h', tk, c', rfl, g⟩ := hr2
        repeat (any_goals (first | assumption | wp_step))
        exact q _ _ _ g
end
/-- set(xs): ints, fewer than 64 -/
def rSetI (K : PySem.W.Frag) (w : World) : List V → Hp → VK → Prop := fun xs H Q => ∃ (l : Addr) (ns : List Int), xs = [.ref l] ∧ (SqL K H l (ns.map V.int) ∨ SqT K H l (ns.map V.int)) ∧ ns.length < 64 ∧
  ∀ p c, H p = none → c ≤ ns.length → Q (.ref p) (upd H p (SetO w p (fun k => decide (k ∈ ns)) c))
section
variable {X : Cx}
theorem cr_setI (hc : X.calm = true) : CallR X (.type "set") (rSetI X.K X.w) := by
  intro pins s σ H xs us Q I r h
  obtain ⟨l, ns, rfl, hs, hl, q⟩ := h
  rw [Vals.ref1 r]
  have fin : ∀ (h' : Heap) (tk c : Nat), GotSet X.w ns s h' c → EP X pins σ Q (.ref s.heap.objs.size) { s with heap := h', toks := tk } := fun h' tk c ⟨g1, g2, g3⟩ =>
    ⟨.ref s.heap.objs.size, _, I.laid (t' := tk) g3 (Nat.le_refl _) (setO_new g1), rfl, q _ c (I.hok.fresh (Nat.le_refl _)) g2⟩
  have hb : ns.length + 1 < scanBound := by
    unfold scanBound
    omega
  rcases hs with hs | hs
  · obtain ⟨its, rv, pl, _⟩ := I.list hs
    exact set_of_list ns (I.ok.hd hc) pl.isList (by simpa using ints_of_vals rv) hb fin
  · obtain ⟨its, rv, pl, _⟩ := I.tuple hs
    exact call_set_tupI ns (I.ok.hd hc) pl (by simpa using ints_of_vals rv) hb fun h' tk c g1 g2 g3 => fin h' tk c ⟨g1, g2, g3⟩
/-- sorted(set(xs)) -/
theorem pairwise_ext : ∀ {xs ys : List Int}, xs.Pairwise (· < ·) → ys.Pairwise (· < ·) → (∀ k, k ∈ xs ↔ k ∈ ys) → xs = ys
  | [], [], _, _, _ => rfl
  | [], y :: ys, _, _, h => absurd ((h y).mpr List.mem_cons_self) (by simp)
  | x :: xs, [], _, _, h => absurd ((h x).mp List.mem_cons_self) (by simp)
  | x :: xs, y :: ys, hx, hy, h => by
    rw [List.pairwise_cons] at hx hy
    have e : x = y := by
      rcases List.mem_cons.mp ((h x).mp List.mem_cons_self) with e | e
      · exact e
      · rcases List.mem_cons.mp ((h y).mpr List.mem_cons_self) with e2 | e2
        · exact e2.symm
        · have a := hy.1 x e
          have b := hx.1 y e2
          omega
    subst e
    congr 1
    refine pairwise_ext hx.2 hy.2 fun k => ⟨fun hk => ?_, fun hk => ?_⟩
    · rcases List.mem_cons.mp ((h k).mp (List.mem_cons_of_mem _ hk)) with e | e
      · subst e
        exact absurd (hx.1 _ hk) (by omega)
      · exact e
    · rcases List.mem_cons.mp ((h k).mpr (List.mem_cons_of_mem _ hk)) with e | e
      · subst e
        exact absurd (hy.1 _ hk) (by omega)
      · exact e
end
end So

namespace So
open PySem PySem.Spec PyProof.Rows L2 PySem.HandSPX
section
variable {M : Model} {A : Around} {E : Value → Shared → Prop} {h : Heap} {g : Array GenState} {d : Drawn} {t : Nat} {os : OsState}
variable {nm q : Str} {C N : Addr} {bs bm bmB : List Value} {hdct : Bool} {sn : List Str} {sub : List Value} {ab : Bool} {col : Option Bool} {dd : Option Addr} {k0 k1 k2 k3 k5 : Option Value} {B newId initId : String}
theorem kw_check (F : ExcBaseFacts B newId initId bmB) (hT : ∀ X : String, bm.contains (.type X) = bmB.contains (.type X)) {kws : List (Str × Value)} {Q : Unit → Shared → Prop}
    (hC : h.get? C = some (excClassObj nm q C N bs bm hdct sn sub ab col dd k0 k1 k2 k3 k5 newId)) (hq : Q () ⟨h, g, d, t, os⟩) :
    wpAny M A (checkBuiltinCall newId ⟨[.ref C], kws⟩) Q E ⟨h, g, d, t, os⟩ := by
  have inB : (Value.ref C :: bm).contains (.type B) = true := by
    rw [List.contains_cons, hT, F.hasB, Bool.or_true]
  have stars := F.noStar
  simp only [checkBuiltinCall, F.newKind, F.newSplit, F.newRow]
  repeat (first
    | refine wpAny_loadPart_at hC ?_
    | (refine wpAny_isSubtype_exc hC ?_
       rw [inB])
    | refine wpAny_staticBase_exc hC ?_
    | refine wpAny_madeBy_exc hC ?_
    | simp only [bne_self_eq_false, Bool.false_eq_true, if_false]
    | wp_step)
  exact hq
end
section
variable {prog : Program} {w : World} {A : Around} {E : Value → Shared → Prop} {R : Result → Shared → Prop} {h : Heap} {g : Array GenState} {d : Drawn} {t : Nat} {os : OsState}
variable {nm q : Str} {C N : Addr} {bs bm bmB : List Value} {hdct : Bool} {sn : List Str} {sub : List Value} {ab : Bool} {col : Option Bool} {dd : Option Addr} {k0 k1 k2 k3 k5 : Option Value} {B newId initId : String}
theorem kw_new (F : ExcBaseFacts B newId initId bmB) (hT : ∀ X : String, bm.contains (.type X) = bmB.contains (.type X)) {kws : List (Str × Value)}
    (hC : h.get? C = some (excClassObj nm q C N bs bm hdct sn sub ab col dd k0 k1 k2 k3 k5 newId))
    (hq : R (.ok (.ret (.ref (h.objs.size + 1)))) ⟨(h.push (PySem.W.kdv_tup [])).push (excO C h.objs.size), g, d, t, os⟩) :
    codeAny (model prog w) A (.builtin newId ⟨[.ref C], kws⟩) R ⟨h, g, d, t, os⟩ := by
  have ends := F.ends
  have inB : (Value.ref C :: bm).contains (.type B) = true := by
    rw [List.contains_cons, hT, F.hasB, Bool.or_true]
  have noA : (Value.ref C :: bm).contains (.type "AttributeError") = false := by
    rw [List.contains_cons, hT, F.noAttr]
    rfl
  have noN : (Value.ref C :: bm).contains (.type "NameError") = false := by
    rw [List.contains_cons, hT, F.noName]
    rfl
  refine codeAny_builtinAt F.entry ?_
  unfold Builtin.«BaseException.__new__»
  refine PySem.wpAt_bind ?_
  show PySem.wpAt _ _ _ (stack >>= _) _ _ _
  refine PySem.wpAt_bind (PySem.wpAt_stack fun p below => ?_)
  refine PySem.wpAt_of_wpAny ?_
  wp_walk
  refine PySem.wpAt_of_wpAny ?_
  rw [F.owner]
  repeat (first
    | with_reducible refine wpAny_madeHere_exc F.canon hC ?_
    | with_reducible refine wpAny_loadPart_at hC ?_
    | (with_reducible refine wpAny_isSubtype_exc hC ?_
       first
         | rw [inB]
         | rw [noA]
         | rw [noN])
    | wp_step)
  show R _ _
  rw [Heap.size_push]
  exact hq
theorem kw_type (F : ExcBaseFacts B newId initId bmB) (hT : ∀ X : String, bm.contains (.type X) = bmB.contains (.type X)) {kws : List (Str × Value)} {fI : Addr} {Q : Fin → Shared → Prop}
    (hC : h.get? C = some (excClassObj nm q C N bs bm hdct sn sub ab col dd k0 k1 k2 k3 k5 newId))
    (hi : PySem.W.Looks (model prog w) h (typeLookup (.ref C) "__init__") (some (.ref fI))) (hb : ∀ self, PySem.W.Looks (model prog w) h (bindSpecial (.ref fI) self) (.ref fI, [self]))
    (hq : codeAny (model prog w) A (.call (.ref fI) ⟨[.ref (h.objs.size + 1)], kws⟩)
      (fun r s' => match r with | .ok (.ret v) => v = .none ∧ Q (.done (.ret (.ref (h.objs.size + 1)))) s' | .ok _ => False | .error e => E e s')
      ⟨(h.push (PySem.W.kdv_tup [])).push (excO C h.objs.size), g, d, t, os⟩) :
    wpAny (model prog w) A (Builtin.«type.__call__» ⟨[.ref C], kws⟩) Q E ⟨h, g, d, t, os⟩ := by
  repeat (first
    | with_reducible refine wpAny_loadPart_at hC ?_
    | with_reducible refine wpAny_madeBy_exc hC ?_
    | wp_step)
  refine codeAny_call_builtin_code (Code.quiet_builtin _ F.quiet) ?_
  refine kw_check F hT hC ?_
  refine kw_new F hT hC ?_
  show wpAny _ _ _ _ _ _
  have keep : ∀ b o, h.get? b = some o → ((h.push (PySem.W.kdv_tup [])).push (excO C h.objs.size)).get? b = some o := by
    intro b o e
    exact Heap.get?_push_of_some _ (Heap.get?_push_of_some _ e)
  have hC' := keep _ _ hC
  have here : ((h.push (PySem.W.kdv_tup [])).push (excO C h.objs.size)).get? (h.objs.size + 1) = some (excO C h.objs.size) := by
    heap_get
  have self : (Value.ref C :: bm).contains (.ref C) = true := by simp
  have look := hi.keeps keep
  have bind := (hb (.ref (h.objs.size + 1))).keeps keep
  unfold isInstance
  repeat (first
    | with_reducible refine wpAny_loadPart_at here ?_
    | (with_reducible refine wpAny_isSubtype_exc hC' ?_
       rw [self])
    | wp_step)
  show wpAny _ _ (typeLookup (.ref C) _) _ _ _
  refine look.at ?_
  refine wpAny_holding (wpAny_bind (bind.at ?_))
  refine wpAny_bind (wpAny_call (codeAny_mono hq fun r s' z => ?_))
  match r, z with
  | .error e, z => exact z
  | .ok .next, z => exact z.elim
  | .ok .brk, z => exact z.elim
  | .ok .cont, z => exact z.elim
  | .ok (.ret v), z =>
    obtain ⟨e, z⟩ := z
    subst e
    first
      | exact wpAny_pure (wpAny_pure z)
      | (wp_walk
         exact z)
theorem kw_checkT {kws : List (Str × Value)} {Q : Unit → Shared → Prop} (hC : h.get? C = some (excClassObj nm q C N bs bm hdct sn sub ab col dd k0 k1 k2 k3 k5 newId)) (hq : Q () ⟨h, g, d, t, os⟩) :
    wpAny (model prog w) A (checkBuiltinCall "type.__call__" ⟨[.ref C], kws⟩) Q (fun e s' => E e s') ⟨h, g, d, t, os⟩ := by
  have f3 := tc_sub
  have ty : (⟨h, g, d, t, os⟩ : Shared).TypeIs (.ref C) "type" := ⟨_, hC, rfl⟩
  simp only [checkBuiltinCall, tc_kind, tc_split]
  repeat (any_goals (first
    | assumption
    | with_reducible refine wpAny_loadPart_at hC ?_
    | with_reducible refine wpAny_onRaise ?_
    | with_reducible refine wpAny_map ?_
    | wp_step))
theorem kw_call (F : ExcBaseFacts B newId initId bmB) (hT : ∀ X : String, bm.contains (.type X) = bmB.contains (.type X)) {kws : List (Str × Value)} {fI : Addr}
    (hC : h.get? C = some (excClassObj nm q C N bs bm hdct sn sub ab col dd k0 k1 k2 k3 k5 newId))
    (hi : PySem.W.Looks (model prog w) h (typeLookup (.ref C) "__init__") (some (.ref fI))) (hb : ∀ self, PySem.W.Looks (model prog w) h (bindSpecial (.ref fI) self) (.ref fI, [self]))
    (hq : codeAny (model prog w) (A.under (.builtin "type.__call__" ⟨[.ref C], kws⟩)) (.call (.ref fI) ⟨[.ref (h.objs.size + 1)], kws⟩) (PySem.W.InitBack (h.objs.size + 1) R)
      ⟨(h.push (PySem.W.kdv_tup [])).push (excO C h.objs.size), g, d, t, os⟩) :
    codeAny (model prog w) A (.call (.ref C) ⟨[], kws⟩) R ⟨h, g, d, t, os⟩ := by
  have lk := tc_lookup
  have bd := tc_bind (.ref C)
  have ty : (⟨h, g, d, t, os⟩ : Shared).TypeIs (.ref C) "type" := ⟨_, hC, rfl⟩
  refine codeAny_of_tree ?_
  show wpAny _ _ (callAny (.ref C) _) _ _ _
  repeat (any_goals (first
    | assumption
    | with_reducible refine wpAny_loadPart_at hC ?_
    | wp_step))
  refine ⟨rfl, ?_⟩
  refine codeAny_call_builtin_at (Code.quiet_builtin _ (by decide +kernel)) entry_typeCall ?_
  refine kw_checkT hC ?_
  refine kw_type F hT hC hi hb ?_
  refine codeAny_mono hq fun r s' z => ?_
  match r, z with
  | .error e, z => exact z
  | .ok (.ret v), z => exact z
  | .ok .next, z => exact z
  | .ok .brk, z => exact z
  | .ok .cont, z => exact z
end
end So

namespace So
open PySem PySem.Spec PyProof.Rows L2
/-- C(k = v, ..), C's own __init__ keeping sp -/
def tMkK (C : Addr) (n : Nat) (sp : Sp) (gV : List V → List V → List V) (tk : TA) : L2.St → Hp → XK → Prop := fun σ H Q => tk σ H fun zs H1 => zs.length = n ∧ ∀ a, H1 a = none → sp (gV [.ref a] zs) (upd H1 a (exo a C none))
  (fun v H2 => v = .non ∧ ∃ (d : Addr) (fs : List (Str × V)), H2 a = some (exo a C (some d)) ∧ H2 d = some (exd d fs) ∧ H1 d = none ∧ Q (.ref C) (some d) (upd (del H2 a) d (.xd fs))) (fun _ _ _ => False)
section
variable {X : Cx} {CX : CXT} {x : Str} {C fI : Addr} {k : Nat} {fd : FuncData} {ps ks : List Str} {sp : Sp} {g : List Value → List Value → List Value} {gV : List V → List V → List V} {kws : List Keyword} {tk : TA} {p pos : Pos}
theorem pmk_oexK (T : OexC X.K C) (iC : PySem.W.findIn X.K (.ref C) "__init__" = some (some (.ref fI))) (tI : PySem.W.typeIn X.K (.ref fI) = some (.type "function")) (F1 : FnOk X.prog X.w X.K X.mg X.base CX k fI fd ps sp) (hr : Room (k + 1) X.A) (hb : KBn X.K fd ps 1 ks g gV)
    (hx : Passes CX X (fun _ _ _ => False)) (hg : Gl X x) (hm : X.mg x = some (.ref C)) (hkw : PK X kws tk)
    (hall : (backToKw pos (keywordEach kws X.env)).all (·.1.isSome) = true := by rfl) (hks : (backToKw pos (keywordEach kws X.env)).filterMap (·.1) = ks := by rfl) (hdb : (x == ("__debug__" : Str)) = false := by decide)
    (hpl : ((backTo pos (starEach [] X.env)).any (·.1) || (backToKw pos (keywordEach kws X.env)).any (·.1.isNone)) = false := by rfl) :
    PMk X (.Call (.Name x p) [] kws pos) (tMkK C ks.length sp gV tk) := by
  intro pins s σ H Q I h
  obtain ⟨nm, q, N, bs, bm, sn, sub, ab, col, dd, k0, k1, k2, k3, k5, hC, hbm⟩ := T.cls
  refine wpAny_Call_Name_kw (ld_glob I hg hm ?_ hdb)
  refine PySem.W.callWith_KW0 (h₀ := X.base) I.ok.mod.kin T.kC hall ?_ hpl
  refine thn (hkw.run pos pins s σ H _ I h) fun ws s1 z => ?_
  obtain ⟨zs, H1, I1, rz, hz, q1⟩ := z
  refine ⟨I1.kIn, ?_⟩
  rw [hks]
  show wpAny _ _ (call (.ref C) [] (ks.zip ws)) _ _ _
  obtain ⟨hp, g', dr, tk', os⟩ := s1
  have big : hp.objs.size ≤ hp.objs.size + 1 := Nat.le_succ _
  have fresh : H1 (hp.objs.size + 1) = none := I1.hok.fresh big
  have hq := q1 _ fresh
  have keep : ∀ b o, hp.get? b = some o → ((hp.push (PySem.W.kdv_tup [])).push (PySem.HandSPX.excO C hp.objs.size)).get? b = some o := by
    intro b o e
    exact Heap.get?_push_of_some _ (Heap.get?_push_of_some _ e)
  have here : ((hp.push (PySem.W.kdv_tup [])).push (PySem.HandSPX.excO C hp.objs.size)).get? (hp.objs.size + 1) = some (PySem.HandSPX.excO C hp.objs.size) := by
    heap_get
  have I2 : Inv X pins σ (upd H1 (hp.objs.size + 1) (exo (hp.objs.size + 1) C none)) ⟨(hp.push (PySem.W.kdv_tup [])).push (PySem.HandSPX.excO C hp.objs.size), g', dr, tk', os⟩ :=
    I1.laid (t' := tk') (o := exo (hp.objs.size + 1) C none) keep big (exo_ok here)
  have r1 : Vals [V.ref (hp.objs.size + 1)] [Value.ref (hp.objs.size + 1)] := .cons rfl .nil
  refine wpAny_call (kw_call F.excBase_ValueError (fun Y => PySem.HandSPX.refsVE_contains Y bm hbm) (I1.kIn _ _ hC) (PySem.W.looks_findIn I1.kIn iC) (fun self => PySem.W.bind_fn I1.kIn self tI)
    (codeAny_mono (F1.run _ X.stack _ _ ⟨[.ref (hp.objs.size + 1)], ks.zip ws⟩ (g [.ref (hp.objs.size + 1)] ws) _ _ (fun _ _ _ => False) (hr.make C [] (ks.zip ws)) (I2.env0.make C [] (ks.zip ws))
      (hb.to _ [.ref (hp.objs.size + 1)] ws I2.kIn rfl (rz.length.symm.trans hz)) (hb.rel r1 rz) hq) fun r s' hq' => ?_))
  match r, hq' with
  | .error er, hq' => exact hx pins σ _ _ er s' I2 hq'
  | .ok .next, hq' => exact hq'.elim
  | .ok .brk, hq' => exact hq'.elim
  | .ok .cont, hq' => exact hq'.elim
  | .ok (.ret u), hq' =>
    obtain ⟨v, H2, os2, bare2, un2, hok2, rv, ev, d, fs, ea, ed, hd1, q2⟩ := hq'
    subst ev
    obtain ⟨h2, g2, d2, t2, os'⟩ := s'
    exact ⟨rv, mk_end (raises_own T.exC T.tyC) I1 big keep un2 hok2 os2 bare2 ea ed hd1 q2⟩
/-- an exception that is made and kept, not raised -/
theorem pe_ofMk {e : Expr} {t : L2.St → Hp → XK → Prop} (hex : X.ex = []) (h : PMk X e t) : PE X e (fun σ H Q => t σ H fun cls d H' => ∀ a, H' a = none → Q (.ref a) (upd H' a (Xo cls d a))) := by
  refine ⟨fun pins s σ H Q I w => ?_⟩
  refine thn (h pins s σ H _ I w) fun u s' z => ?_
  obtain ⟨a, oe, fv, sI, H', cls, d, rfl, J, k, na, he, hz, hd, h1, nH, ho, hb, _, q⟩ := z
  have K := J.kept (t' := s'.toks) (h' := s'.heap) k
  have I' : Inv X pins σ H' s' := ⟨K.ok, ho.trans J.os, hb, K.base, K.loc, K.cell, K.free, K.freeC, K.pin, K.hok, K.len⟩
  have nL : a ≠ X.env.locals := fun z => by
    obtain ⟨m, hn, _⟩ := J.loc
    obtain ⟨o, es, ep, e, _⟩ := hn
    rw [← z, na] at e
    cases e
  exact ⟨.ref a, _, track J hex na I' he hz hd nH nL, rfl, q a nH⟩
end
end So

namespace So
open PySem PySem.Spec PyProof.Rows L2
theorem overS {H H1 : Hp} {D : Addr} {o : HO} (s : Same H H1) (h : H1 D = none) : Same H (upd H1 D o) := fun b u e => (upd_ne (ne_of_none (s b u e) h)).trans (s b u e)
/-! ### errors with two fields -/
def spTwoE (C : Addr) (n1 n2 : Str) : Sp := fun vs H Q _ => ∃ (a : Addr) (v1 v2 : V), vs = [.ref a, v1, v2] ∧ H a = some (exo a C none) ∧ ∀ dx, H dx = none → dx ≠ a → Q .non (upd (upd (upd H dx (exd dx [(n1, v1)])) a (exo a C (some dx))) dx (exd dx [(n2, v2), (n1, v1)]))
section
variable {P : Program} {w : World} {K : PySem.W.Frag} {mg : Str → Option Value} {base : Heap}
theorem ok_one {n qual : Str} {st : Stmt} {C f : Addr} {fd : FuncData} (F : Fun K "__init__" qual st f fd) (T : OexC K C) (no : PySem.W.findIn K (.ref C) n = some none) (S : FnScope ["self", n] ["self", n] (defScope st))
    (hb : ∃ p1 p2 p3 p4, defBody st = [.Assign [.Attribute (.Name "self" p1) n p2] (.Name n p3) p4]) (h1 : (n == ("__debug__" : Str)) = false) (h2 : (n == ("__classdict__" : Str)) = false) :
    FnOk P w K mg base CX0 1 f fd ["self", n] (spOneE C n) := by
  obtain ⟨p1, p2, p3, p4, hb⟩ := hb
  refine F.ok S (fun vs H Q E h => ?_) (fun cdv A outer s H vs Q E hr h => ?_)
  · obtain ⟨a, v, rfl, _⟩ := h
    rfl
  · obtain ⟨a, v, rfl, ha, q⟩ := h
    rw [hb]
    have vs0 : Vis (defScope st) "self" := vis_par S (by simp)
    have vs1 : Vis (defScope st) n := vis_par S (by simp)
    exact ⟨_, pss_one (ps_ost (pe_var (i := 0) rfl vs0) (pe_var (i := 1) rfl vs1 h1 h2)), _, rfl, _, rfl, a, C, rfl, T, no, .inl ⟨ha, fun dx h n => q dx h n⟩⟩
theorem ok_two {n1 n2 qual : Str} {st : Stmt} {C f : Addr} {fd : FuncData} (F : Fun K "__init__" qual st f fd) (T : OexC K C) (no1 : PySem.W.findIn K (.ref C) n1 = some none) (no2 : PySem.W.findIn K (.ref C) n2 = some none) (S : FnScope ["self", n1, n2] ["self", n1, n2] (defScope st))
    (hb : ∃ p1 p2 p3 p4 q1 q2 q3 q4, defBody st = [.Assign [.Attribute (.Name "self" p1) n1 p2] (.Name n1 p3) p4, .Assign [.Attribute (.Name "self" q1) n2 q2] (.Name n2 q3) q4]) (h1 : (n1 == ("__debug__" : Str)) = false) (h2 : (n1 == ("__classdict__" : Str)) = false)
    (h3 : (n2 == ("__debug__" : Str)) = false) (h4 : (n2 == ("__classdict__" : Str)) = false) : FnOk P w K mg base CX0 1 f fd ["self", n1, n2] (spTwoE C n1 n2) := by
  obtain ⟨p1, p2, p3, p4, q1, q2, q3, q4, hb⟩ := hb
  refine F.ok S (fun vs H Q E h => ?_) (fun cdv A outer s H vs Q E hr h => ?_)
  · obtain ⟨a, v1, v2, rfl, _⟩ := h
    rfl
  · obtain ⟨a, v1, v2, rfl, ha, q⟩ := h
    rw [hb]
    have vs0 : Vis (defScope st) "self" := vis_par S (by simp)
    have vs1 : Vis (defScope st) n1 := vis_par S (by simp)
    have vs2 : Vis (defScope st) n2 := vis_par S (by simp)
    refine ⟨_, pss_cons (ps_ost (pe_var (i := 0) rfl vs0) (pe_var (i := 1) rfl vs1 h1 h2)) (pss_one (ps_ost (pe_var (i := 0) rfl vs0) (pe_var (i := 2) rfl vs2 h3 h4))), ?_⟩
    refine ⟨_, rfl, _, rfl, a, C, rfl, T, no1, .inl ⟨ha, fun dx hd ne => ?_⟩⟩
    refine ⟨_, rfl, _, rfl, a, C, rfl, T, no2, .inr ⟨dx, [(n1, v1)], upd_same, ?_, by show 1 ≤ 900; decide, q dx hd ne⟩⟩
    rw [upd_ne ne, upd_same]
end
/-- behind C(v1, v2) -/
theorem mkTwo {C : Addr} {n1 n2 : Str} {v1 v2 : V} {H1 : Hp} {Q : XK} (h : ∀ d H', Same H1 H' → H1 d = none → H' d = some (.xd [(n2, v2), (n1, v1)]) → Q (.ref C) (some d) H') :
    ∀ a, H1 a = none → spTwoE C n1 n2 [.ref a, v1, v2] (upd H1 a (exo a C none))
      (fun v H2 => v = .non ∧ ∃ (d : Addr) (fs : List (Str × V)), H2 a = some (exo a C (some d)) ∧ H2 d = some (exd d fs) ∧ H1 d = none ∧ Q (.ref C) (some d) (upd (del H2 a) d (.xd fs))) (fun _ _ _ => False) := by
  refine fun a ha => ⟨a, v1, v2, rfl, upd_same, fun dx hdx ne => ?_⟩
  have hd : H1 dx = none := by
    rw [upd_ne ne] at hdx
    exact hdx
  refine ⟨rfl, dx, [(n2, v2), (n1, v1)], ?_, upd_same, hd, h dx _ (fun b o hb => ?_) hd upd_same⟩
  · rw [upd_ne ne.symm, upd_same]
  · have hba : b ≠ a := ne_of_none hb ha
    have hbd : b ≠ dx := ne_of_none hb hd
    rw [upd_ne hbd, del_ne hba, upd_ne hbd, upd_ne hba, upd_ne hbd, upd_ne hba]
    exact hb
/-- a kept error with its fields -/
def ErAt (H : Hp) (a C : Addr) (fs : List (Str × V)) : Prop := ∃ d, H a = some (Xo (.ref C) (some d) a) ∧ H d = some (.xd fs)
theorem ErAt.same {H H' : Hp} {a C : Addr} {fs : List (Str × V)} (h : ErAt H a C fs) (s : Same H H') : ErAt H' a C fs := h.elim fun d e => ⟨d, s _ _ e.1, s _ _ e.2⟩
/-- what is wished behind an error that is made and kept -/
theorem keepOne {C : Addr} {fs : List (Str × V)} {H1 : Hp} {Q : VK} (h : ∀ a H', Same H1 H' → ErAt H' a C fs → Q (.ref a) H') :
    ∀ d H', Same H1 H' → H1 d = none → H' d = some (.xd fs) → ∀ a, H' a = none → Q (.ref a) (upd H' a (Xo (.ref C) (some d) a)) := by
  intro d H' s _ e a na
  exact h a _ (overS s na) ⟨d, upd_same, (upd_ne (ne_of_none e na)).trans e⟩
section
variable {X : Cx}
/-- e.n of a kept error of any class -/
theorem pe_xoA {e : Expr} {te : TE} {pos : Pos} {n : Str} (he : PE X e te) (hb : attributeBase e n X.env (eval e X.env) = eval e X.env := by rfl) :
    PE X (.Attribute e n pos) (fun σ H Q => te σ H fun x H1 => ∃ (a C : Addr) (fs : List (Str × V)) (v : V), x = .ref a ∧ ErAt H1 a C fs ∧ Err X.K C ∧ PySem.W.findIn X.K (.ref C) n = some none ∧ fs.lookup n = some v ∧ Q v H1) := by
  constructor
  intro pins s σ H Q I h
  refine attr_of hb (thn (he.run pins s σ H _ I h) fun u s1 hh => ?_)
  obtain ⟨x, H1, I1, rx, a, C, fs, v, rfl, ⟨dd, ha, ea⟩, T, hno, l, q⟩ := hh
  cases rx
  obtain ⟨oe, vs, hg, hz, hd⟩ := xo_at I1.hok ha
  obtain ⟨mA, hns, hr⟩ := (show ObjOk X.prog X.w H1 s1.heap dd (.xd fs) from I1.hok dd _ ea)
  obtain ⟨od, ho, hl⟩ := lookIn_ns hns
  have hrn := hr n
  rw [l] at hrn
  obtain ⟨u, hu, ru⟩ := RelO.some_of hrn
  have nc : PySem.W.notCls oe = true := by
    unfold PySem.W.notCls
    rw [hd]
  have J : PySem.W.InstAt s1.heap a oe C (some od) := by
    refine ⟨hg, hz.1, nc, ?_⟩
    rw [hz.2]
    exact ho
  have fo := PySem.W.findObj_own (K := X.K) (C := C) (od := od) (name := n) (v := u) T.hdC hno rfl (by rw [hl, hu])
  exact HandSPX.exc_get I1.kIn J T.ga T.gg T.exC fo (handed_of ru) ⟨v, H1, I1.tok _, ru, q⟩
/-- isinstance of a kept error that has no dict -/
theorem call_isX0 : CallR X (.builtin "isinstance") (fun xs H Q => ∃ (a D : Addr) (c : V) (u : Value) (b : Bool), xs = [.ref a, c] ∧ H a = some (Xo (.ref D) none a) ∧ Err X.K D ∧ ClsV c u ∧ PySem.W.kitOne X.K (.ref D) u = some b ∧ Q (.bl b) H) := by
  intro pins s σ H xs us Q I r h
  obtain ⟨a, D, c, u, b, rfl, ha, T, cv, e, q⟩ := h
  obtain ⟨u1, u2, rfl, r1, r2⟩ := vals2 r
  cases r1
  have e2 := cv.eq r2
  subst e2
  obtain ⟨oe, vs, hg, hz, hdat⟩ := xo_at I.hok ha
  have nc : PySem.W.notCls oe = true := by
    unfold PySem.W.notCls
    rw [hdat]
  have J : PySem.W.InstAt s.heap a oe D none := by
    refine ⟨hg, hz.1, nc, ?_⟩
    rw [hz.2]
    trivial
  exact PySem.W.kia_one (kitx_err T) I.kIn ⟨oe, none, J⟩ e (fun z => nomatch z) fun tk => ⟨.bl b, H, I.tok tk, rfl, q⟩
/-- C(), C an own error class without own __init__ -/
theorem pmk_own0 {C : Addr} {bmB : List Value} {B newId initId : String} {x : Str} {p pos : Pos} (F : ExcBaseFacts B newId initId bmB) (q : PySem.W.excIn X.K C bmB newId = true) (gC : X.mg x = some (.ref C))
    (kC : PySem.W.keepIn X.K (.ref C) = true) (r : Raises X (.ref C)) (hg : Gl X x) (hdb : (x == ("__debug__" : Str)) = false := by decide) :
    PMk X (.Call (.Name x p) [] [] pos) (fun _ H Q => Q (.ref C) none H) := by
  intro pins s σ H Q I h
  refine wpAny_Call_Name_kw (ld_glob I hg gC ?_ hdb)
  refine PySem.W.callWith_K0 I.kIn kC ?_
  show wpAny _ _ (call (.ref C) []) _ _ _
  obtain ⟨bm, N, nm, qn, bs, hdct, sn, sub, ab, col, dd, k0, k1, k2, k3, k5, mN, hC, hN, hni, T⟩ := exc_obj I.kIn q
  refine wpAny_call_exc_subT F T hC hN hni (fun h' e hm => ?_) (by decide)
  exact mk_of I hm r h (I.hok.gone hm.new)
end
end So

/-! own errors made and kept: what is asked in one step -/
namespace So
open PySem PySem.Spec PyProof.Rows L2
section
variable {X : Cx}
theorem pe_weak {e : Expr} {t t' : TE} (h : PE X e t) (k : ∀ σ H Q, t' σ H Q → t σ H Q) : PE X e t' := ⟨fun pins s σ H Q I w => h.run pins s σ H Q I (k σ H Q w)⟩
theorem ps_weak {st : Stmt} {t t' : TS} (h : PS X st t) (k : ∀ D σ H, t' D σ H → t D σ H) : PS X st t' := ⟨fun pins s σ H D I w => h.run pins s σ H D I (k D σ H w)⟩
/-- what the top says of an error with two fields -/
structure TwoE (K : PySem.W.Frag) (mg : Str → Option Value) (x n1 n2 : Str) (C f : Addr) (fd : FuncData) : Prop where
  T : OexC K C
  iC : PySem.W.findIn K (.ref C) "__init__" = some (some (.ref f))
  tI : PySem.W.typeIn K (.ref f) = some (.type "function")
  mgC : mg x = some (.ref C)
  no1 : PySem.W.findIn K (.ref C) n1 = some none
  no2 : PySem.W.findIn K (.ref C) n2 = some none
  err : Err K C
  hb : Binds K fd ["self", n1, n2] []
def k2 {α : Type} : List α → List α → List α
  | [u], [z] => [u, z]
  | _, _ => []
def k3 {α : Type} : List α → List α → List α
  | [u], [y, z] => [u, z, y]
  | _, _ => []
theorem k2_rel {vs : List V} {us : List Value} {zs : List V} {ws : List Value} (a : Vals vs us) (b : Vals zs ws) : Vals (k2 vs zs) (k2 us ws) := by
  cases a with
  | nil => exact .nil
  | cons a1 a2 =>
    cases a2 with
    | cons _ _ => exact .nil
    | nil =>
      cases b with
      | nil => exact .nil
      | cons b1 b2 =>
        cases b2 with
        | nil => exact .cons a1 (.cons b1 .nil)
        | cons _ _ => exact .nil
theorem k3_rel {vs : List V} {us : List Value} {zs : List V} {ws : List Value} (a : Vals vs us) (b : Vals zs ws) : Vals (k3 vs zs) (k3 us ws) := by
  cases a with
  | nil => exact .nil
  | cons a1 a2 =>
    cases a2 with
    | cons _ _ => exact .nil
    | nil =>
      cases b with
      | nil => exact .nil
      | cons b1 b2 =>
        cases b2 with
        | nil => exact .nil
        | cons b3 b4 =>
          cases b4 with
          | nil => exact .cons a1 (.cons b3 (.cons b1 .nil))
          | cons _ _ => exact .nil
theorem kbn2 {K : PySem.W.Frag} {fd : FuncData} {n : Str} (h : ∀ (s : Shared) (u z : Value), BindsTo s fd ⟨[u], [(n, z)]⟩ [("self", u), (n, z)]) : KBn K fd ["self", n] 1 [n] k2 k2 :=
  ⟨fun s us ws _ h1 h2 => match us, ws, h1, h2 with | [u], [z], _, _ => h s u z, k2_rel⟩
theorem kbn3 {K : PySem.W.Frag} {fd : FuncData} {n1 n2 : Str} (h : ∀ (s : Shared) (u y z : Value), BindsTo s fd ⟨[u], [(n2, y), (n1, z)]⟩ [("self", u), (n1, z), (n2, y)]) : KBn K fd ["self", n1, n2] 1 [n2, n1] k3 k3 :=
  ⟨fun s us ws _ h1 h2 => match us, ws, h1, h2 with | [u], [y, z], _, _ => h s u y z, k3_rel⟩
variable {x n n1 n2 : Str} {C f : Addr} {fd : FuncData} {e e2 : Expr} {p pos kp kp2 : Pos} {i j : Nat}
theorem pe_new1 (hex : X.ex = []) (O : OneE X.K X.mg x n C f fd) (F : FnOk X.prog X.w X.K X.mg X.base CX0 1 f fd ["self", n] (spOneE C n)) (hr : Room 2 X.A) (hg : Gl X x) (ha : PA X [e] (tCons (tVar i) tNil))
    (hdb : (x == ("__debug__" : Str)) = false := by decide) (hst : starEach [e] X.env = (false, eval e X.env) :: starEach [] X.env := by rfl) (hpl : (backTo pos (starEach [] X.env)).any (·.1) = false := by rfl) :
    PE X (.Call (.Name x p) [e] [] pos) (fun σ H Q => ∃ v, σ[i]? = some (some v) ∧ ∀ a H', Same H H' → ErAt H' a C [(n, v)] → Q (.ref a) H') :=
  pe_weak (pe_ofMk hex (pmk_one O F hr hg ha hdb hst hpl)) fun _ _ Q0 ⟨v, q, h⟩ => ⟨v, q, mkOne (C := C) (n := n) (v := v) (vs := [v]) (Q := fun cls d H' => ∀ a, H' a = none → Q0 (.ref a) (upd H' a (Xo cls d a))) rfl (keepOne h)⟩
theorem pe_new1K (hex : X.ex = []) (O : OneE X.K X.mg x n C f fd) (F : FnOk X.prog X.w X.K X.mg X.base CX0 1 f fd ["self", n] (spOneE C n)) (kb : KBn X.K fd ["self", n] 1 [n] k2 k2) (hr : Room 2 X.A) (hg : Gl X x) (he : PE X e (tVar i))
    (hall : (backToKw pos (keywordEach [⟨some n, e, kp⟩] X.env)).all (·.1.isSome) = true := by rfl) (hks : (backToKw pos (keywordEach [⟨some n, e, kp⟩] X.env)).filterMap (·.1) = [n] := by rfl) (hdb : (x == ("__debug__" : Str)) = false := by decide)
    (hpl : ((backTo pos (starEach [] X.env)).any (·.1) || (backToKw pos (keywordEach [⟨some n, e, kp⟩] X.env)).any (·.1.isNone)) = false := by rfl) :
    PE X (.Call (.Name x p) [] [⟨some n, e, kp⟩] pos) (fun σ H Q => ∃ v, σ[i]? = some (some v) ∧ ∀ a H', Same H H' → ErAt H' a C [(n, v)] → Q (.ref a) H') :=
  pe_weak (pe_ofMk hex (pmk_oexK O.T O.iC O.tI F hr kb (fun _ _ _ _ _ _ _ h => h.elim) hg O.mgC (pk_cons he pk_nil) hall hks hdb hpl)) fun _ _ Q0 ⟨v, q, h⟩ => ⟨v, q, rfl, (mkOne (C := C) (n := n) (v := v) (vs := [v]) (Q := fun cls d H' => ∀ a, H' a = none → Q0 (.ref a) (upd H' a (Xo cls d a))) rfl (keepOne h)).2⟩
theorem pe_new2 (hex : X.ex = []) (O : TwoE X.K X.mg x n1 n2 C f fd) (F : FnOk X.prog X.w X.K X.mg X.base CX0 1 f fd ["self", n1, n2] (spTwoE C n1 n2)) (hr : Room 2 X.A) (hg : Gl X x) (ha : PA X [e, e2] (tCons (tVar i) (tCons (tVar j) tNil)))
    (hdb : (x == ("__debug__" : Str)) = false := by decide) (hst : starEach [e, e2] X.env = (false, eval e X.env) :: starEach [e2] X.env := by rfl) (hpl : (backTo pos (starEach [e2] X.env)).any (·.1) = false := by rfl) :
    PE X (.Call (.Name x p) [e, e2] [] pos) (fun σ H Q => ∃ v, σ[i]? = some (some v) ∧ ∃ u, σ[j]? = some (some u) ∧ ∀ a H', Same H H' → ErAt H' a C [(n2, u), (n1, v)] → Q (.ref a) H') :=
  pe_weak (pe_ofMk hex (pmk_oex O.T O.iC O.tI F hr O.hb .nil (fun _ _ _ _ _ _ _ h => h.elim) hg O.mgC ha hdb hst hpl)) fun _ _ Q0 ⟨v, q, u, q2, h⟩ => ⟨v, q, u, q2, by show 2 ≤ 1000; decide, mkTwo (C := C) (n1 := n1) (n2 := n2) (v1 := v) (v2 := u) (Q := fun cls d H' => ∀ a, H' a = none → Q0 (.ref a) (upd H' a (Xo cls d a))) (keepOne h)⟩
theorem pe_new2K (hex : X.ex = []) (O : TwoE X.K X.mg x n1 n2 C f fd) (F : FnOk X.prog X.w X.K X.mg X.base CX0 1 f fd ["self", n1, n2] (spTwoE C n1 n2)) (kb : KBn X.K fd ["self", n1, n2] 1 [n2, n1] k3 k3) (hr : Room 2 X.A) (hg : Gl X x) (he : PE X e (tVar i)) (he2 : PE X e2 (tVar j))
    (hall : (backToKw pos (keywordEach [⟨some n2, e2, kp2⟩, ⟨some n1, e, kp⟩] X.env)).all (·.1.isSome) = true := by rfl) (hks : (backToKw pos (keywordEach [⟨some n2, e2, kp2⟩, ⟨some n1, e, kp⟩] X.env)).filterMap (·.1) = [n2, n1] := by rfl) (hdb : (x == ("__debug__" : Str)) = false := by decide)
    (hpl : ((backTo pos (starEach [] X.env)).any (·.1) || (backToKw pos (keywordEach [⟨some n2, e2, kp2⟩, ⟨some n1, e, kp⟩] X.env)).any (·.1.isNone)) = false := by rfl) :
    PE X (.Call (.Name x p) [] [⟨some n2, e2, kp2⟩, ⟨some n1, e, kp⟩] pos) (fun σ H Q => ∃ u, σ[j]? = some (some u) ∧ ∃ v, σ[i]? = some (some v) ∧ ∀ a H', Same H H' → ErAt H' a C [(n2, u), (n1, v)] → Q (.ref a) H') :=
  pe_weak (pe_ofMk hex (pmk_oexK O.T O.iC O.tI F hr kb (fun _ _ _ _ _ _ _ h => h.elim) hg O.mgC (pk_cons he2 (pk_cons he pk_nil)) hall hks hdb hpl)) fun _ _ Q0 ⟨u, q, v, q2, h⟩ => ⟨u, q, v, q2, rfl, mkTwo (C := C) (n1 := n1) (n2 := n2) (v1 := v) (v2 := u) (Q := fun cls d H' => ∀ a, H' a = none → Q0 (.ref a) (upd H' a (Xo cls d a))) (keepOne h)⟩
theorem pe_new0 (hex : X.ex = []) {bmB : List Value} {B newId initId : String} (F : ExcBaseFacts B newId initId bmB) (q : PySem.W.excIn X.K C bmB newId = true) (gC : X.mg x = some (.ref C)) (kC : PySem.W.keepIn X.K (.ref C) = true) (r : Raises X (.ref C)) (hg : Gl X x)
    (hdb : (x == ("__debug__" : Str)) = false := by decide) :
    PE X (.Call (.Name x p) [] [] pos) (fun _ H Q => ∀ a H', Same H H' → H' a = some (Xo (.ref C) none a) → Q (.ref a) H') :=
  pe_weak (pe_ofMk hex (pmk_own0 F q gC kC r hg hdb)) fun _ H _ h => fun a ha => h a _ (overS (Same.refl H) ha) upd_same
end
end So

/-! own `in` and `not in`; min(xs, default=d); a walk over what is a list or a tuple -/
namespace So
open PySem PySem.Spec PyProof.Rows L2
section
variable {X : Cx} {CX : CXT} {k : Nat} {C f : Addr} {fd : FuncData} {ps : List Str} {sp : Sp} {E : XK}
/-- what x in o asks, o of an own class with __contains__; g: the answer as it is, or turned about -/
def rInO (C : Addr) (sp : Sp) (E : XK) (g : Bool → Bool) : R2 := fun x y H Q => ∃ a dx fs, y = .ref a ∧ H a = some (.ins C dx fs) ∧ sp [.ref a, x] H (fun v H' => ∃ b, v = .bl b ∧ Q (.bl (g b)) H') E
theorem op_inO (F : FnOk X.prog X.w X.K X.mg X.base CX k f fd ps sp) (hs : PySem.W.findIn X.K (.ref C) "__contains__" = some (some (.ref f))) (hf : PySem.W.isFn X.K (.ref f) = true) (hb : Binds X.K fd ps []) (hx : Passes CX X E) (hr : Room k X.A) :
    OpR X (compareOp .In) (rInO C sp E id) := by
  intro pins s σ H x y v u Q I rx ry h
  obtain ⟨a, dx, fs, rfl, ha, q⟩ := h
  cases ry
  obtain ⟨mA, J, _⟩ := ins_get I.hok ha
  obtain ⟨od, J, _⟩ := J.look
  obtain ⟨m, hF⟩ := I.fr
  refine PySem.W.in_K hF I.ok.mod.kin J hs hf (wpAny_mono (run_eq (dx := dx) (fs := fs) F hb hx hr rfl I rx q) (fun w s' z => ?_) fun _ _ z => z)
  obtain ⟨b, H', rfl, I', q'⟩ := z
  exact wpAny_truthy_bool ⟨.bl b, H', I', rfl, q'⟩
theorem op_notInO (F : FnOk X.prog X.w X.K X.mg X.base CX k f fd ps sp) (hs : PySem.W.findIn X.K (.ref C) "__contains__" = some (some (.ref f))) (hf : PySem.W.isFn X.K (.ref f) = true) (hb : Binds X.K fd ps []) (hx : Passes CX X E) (hr : Room k X.A) :
    OpR X (compareOp .NotIn) (rInO C sp E not) := by
  intro pins s σ H x y v u Q I rx ry h
  obtain ⟨a, dx, fs, rfl, ha, q⟩ := h
  cases ry
  obtain ⟨mA, J, _⟩ := ins_get I.hok ha
  obtain ⟨od, J, _⟩ := J.look
  obtain ⟨m, hF⟩ := I.fr
  refine PySem.W.notIn_K hF I.ok.mod.kin J hs hf (wpAny_mono (run_eq (dx := dx) (fs := fs) F hb hx hr rfl I rx q) (fun w s' z => ?_) fun _ _ z => z)
  obtain ⟨b, H', rfl, I', q'⟩ := z
  exact wpAny_truthy_bool ⟨.bl (!b), H', I', rfl, q'⟩
/-- a walk by one of two roads -/
theorem pi_or {tg e : Expr} {w1 w2 : TI} (h1 : PI X tg e w1) (h2 : PI X tg e w2) : PI X tg e (fun σ H R => w1 σ H R ∨ w2 σ H R) := by
  refine ⟨fun pins s σ H R I h => ?_⟩
  rcases h with h | h
  · exact h1.run pins s σ H R I h
  · exact h2.run pins s σ H R I h
end
end So
namespace So
open PySem PySem.Spec PyProof.Rows L2
theorem foldl_min : ∀ (ns : List Int) (n : Int), (ns.foldl min n ∈ n :: ns) ∧ (∀ z ∈ n :: ns, ns.foldl min n ≤ z)
  | [], n => ⟨List.mem_cons_self, fun z hz => by rw [List.mem_singleton.mp hz]; exact Int.le_refl _⟩
  | k :: r, n => by
    obtain ⟨h1, h2⟩ := foldl_min r (min n k)
    have e : min n k ≤ n ∧ min n k ≤ k ∧ (min n k = n ∨ min n k = k) := by omega
    refine ⟨?_, fun z hz => ?_⟩
    · rw [List.foldl_cons]
      rcases List.mem_cons.mp h1 with h | h
      · rw [h]
        rcases e.2.2 with q | q <;> rw [q] <;> simp
      · exact List.mem_cons_of_mem _ (List.mem_cons_of_mem _ h)
    · rw [List.foldl_cons]
      have h0 := h2 (min n k) List.mem_cons_self
      rcases List.mem_cons.mp hz with h | h
      · rw [h]
        omega
      · rcases List.mem_cons.mp h with h | h
        · rw [h]
          omega
        · exact h2 z (List.mem_cons_of_mem _ h)
theorem alike_ints (ns : List Int) : PySem.W.AlikeAll (ns.map PyData.int) := by
  refine ⟨fun x hx y hy => ?_, fun x hx => ?_⟩
  · obtain ⟨i, _, rfl⟩ := List.mem_map.mp hx
    obtain ⟨j, _, rfl⟩ := List.mem_map.mp hy
    rfl
  · obtain ⟨i, _, rfl⟩ := List.mem_map.mp hx
    intro h
    cases h
theorem depth_ints0 : ∀ ns : List Int, PyData.depthAll (ns.map PyData.int) = 0
  | [] => rfl
  | n :: r => by simp [PyData.depthAll, PyData.depth, depth_ints0 r]
section
variable {X : Cx}
theorem dpi {K : PySem.W.Frag} {H : Hp} : ∀ ns : List Int, DpAll K H (ns.map V.int) (ns.map PyData.int)
  | [] => .nil
  | n :: r => .cons (.int n) (dpi r)
/-- min(xs, default=d): ints -/
theorem pe_minDef {e d : Expr} {p pos kp : Pos} {ta td : TA} (hc : X.calm = true) (hu : X.A.units + 64 < cLine) (hg : Gl X "min") (hm : X.mg "min" = none) (ha : PA X [e] ta) (hk : PK X [⟨some "default", d, kp⟩] td)
    (he : backTo pos (starEach [e] X.env) = (false, eval e X.env) :: backTo pos (starEach [] X.env) := by rfl) (hpl : (backTo pos (starEach [e] X.env)).any (·.1) = false := by rfl)
    (hall : (backToKw pos (keywordEach [⟨some "default", d, kp⟩] X.env)).all (·.1.isSome) = true := by rfl) (hkw : (backToKw pos (keywordEach [⟨some "default", d, kp⟩] X.env)).any (·.1.isNone) = false := by rfl)
    (hks : (backToKw pos (keywordEach [⟨some "default", d, kp⟩] X.env)).filterMap (·.1) = [("default" : Str)] := by rfl) :
    PE X (.Call (.Name "min" p) [e] [⟨some "default", d, kp⟩] pos) (fun σ H Q => ta σ H fun xs H1 => td σ H1 fun ys H2 => ∃ l ns y, xs = [.ref l] ∧ ys = [y] ∧ SqL X.K H2 l (ns.map V.int) ∧ (ns = [] → Q y H2) ∧ (∀ m, m ∈ ns → (∀ z ∈ ns, m ≤ z) → Q (.int m) H2)) := by
  refine ⟨fun pins s σ H Q I h => ?_⟩
  refine wpAny_Call_Name_kw (ld_blt I hg hm (show bootBuiltins "min" = some (.builtin "min") by decide +kernel) (PyProof.Rows.callWith_kw (thn (ha.run pos pins s σ H _ I h) fun us s1 ⟨xs, H1, I1, r1, q1⟩ => ?_) he hpl hall hkw))
  refine thn (hk.run pos pins s1 σ H1 _ I1 q1) fun ws s2 ⟨ys, H2, I2, r2, l, ns, y, ex, ey, hs, q0, q1⟩ => ?_
  subst ex ey
  rw [Vals.ref1 r1, hks]
  obtain ⟨u, rfl, ru⟩ := vals1 r2
  obtain ⟨its, rv, hl, _⟩ := I2.list hs
  have hd : DpAll X.K H2 (ns.map V.int) (ns.map PyData.int) := dpi ns
  obtain ⟨as, rd⟩ := Dp.readsAll I2 (ns.map PyData.int) (ns.map V.int) its hd rv
  refine PySem.W.min_list_default (I2.ok.hd hc) hl.isList (by simpa using rd) (alike_ints ns) (by rw [depth_ints0]; omega) (fun e0 h' tk k => ?_) (fun z zs i v h' tk bs e0 hv rz k => ?_)
  · exact ⟨y, H2, I2.kept k, ru, q0 (List.map_eq_nil_iff.mp e0)⟩
  · obtain ⟨n, r, rfl⟩ : ∃ n r, ns = n :: r := by
      cases ns with
      | nil => cases e0
      | cons n r => exact ⟨n, r, rfl⟩
    rw [List.map_cons] at e0
    injection e0 with e1 e2
    subst e1 e2
    rw [PySem.W.minD_ints] at rz
    cases rz with
    | int _ t =>
      obtain ⟨m1, m2⟩ := foldl_min r n
      exact ⟨.int _, H2, I2.kept k, ⟨t, rfl⟩, q1 _ m1 m2⟩
end
end So

namespace K08
open PySem PySem.Spec PyProof.Rows L2 So
abbrev sWith : Stmt := topS 19
abbrev sLInit : Stmt := inClass (topS 20) 0
theorem scWith : FnScope ["tool", "moments", "moment", "later"] ["tool", "moments"] (defScope sWith) := ⟨rfl, rfl, rfl, by decide +kernel, rfl, by decide +kernel, by decide +kernel⟩
theorem scLInit : FnScope ["self", "begun", "tool"] ["self", "begun"] (defScope sLInit) := ⟨rfl, rfl, rfl, by decide +kernel, rfl, by decide +kernel, by decide +kernel⟩
theorem passNo {X : Cx} {P : Program} {w : World} : Passes (L2.CX P w) X (fun _ _ _ => False) := fun _ _ _ _ _ _ _ h => by
  obtain ⟨_, _, _, _, _, _, _, _, _, _, _, _, hE⟩ := h
  exact hE.elim
theorem same_upd0 {H : Hp} {p : Addr} {o : HO} (h : H p = none) : Same H (upd H p o) := Same.over (Same.refl H) h
/-- what more the module's names say, to lives -/
structure WordsL (mg : Str → Option Value) : Prop where
  sorted : mg "sorted" = none
  set : mg "set" = none
  max : mg "max" = none
  min : mg "min" = none
  tuple : mg "tuple" = none
section
variable {P : Program} {w : World} {K : PySem.W.Frag} {mg : Str → Option Value} {base : Heap}
/-- with_first, of a name and of beginnings -/
def spWith (K : PySem.W.Frag) : Sp := fun vs H Q _ => ∃ (z : Str) (l : Addr) (ns : List Int), vs = [.str z, .ref l] ∧ isName z = true ∧ z.length ≤ 2000 ∧ (SqL K H l (ns.map V.int) ∨ SqT K H l (ns.map V.int)) ∧ ns.length < 64 ∧ (∀ n ∈ ns, gBeg (.int n) = true) ∧
  ∀ (t : Addr) (later : List Int) (H' : Hp), Same H H' → later.Pairwise (· < ·) → (∀ k, k ∈ later ↔ k ∈ ns) → H' t = some (.tup ((0 :: later).map V.int)) → Q (.ref t) H'
theorem sq_same {l : Addr} {xs : List V} {H H' : Hp} (h : SqL K H l xs ∨ SqT K H l xs) (s : Same H H') : SqL K H' l xs ∨ SqT K H' l xs := by
  rcases h with h | h
  · exact .inl (h.ext s)
  · exact .inr (h.ext s)
theorem ok_with {CN CM CS f fC : Addr} {fd fdC : FuncData} (F : Fun K "with_first" "with_first" sWith f fd) (L : WordsL mg) (FC : Fun K "check_form" "check_form" sCheck fC fdC) (bC : Binds K fdC ["value", "form"] []) (gC : mg "check_form" = some (.ref fC))
    (GC : FnOk P w K mg base (L2.CX P w) 3 fC fdC ["value", "form"] (spCheck CN CM CS)) : FnOk P w K mg base CX0 4 f fd ["tool", "moments"] (spWith K) := by
  refine F.ok scWith (fun vs H Q E h => ?_) (fun cdv A outer s H vs Q E hr h => ?_)
  · obtain ⟨z, l, ns, rfl, _⟩ := h
    rfl
  · obtain ⟨z, l, ns, rfl, hz, hzl, hl, h64, hb, q⟩ := h
    refine ⟨_, pss_cons (ps_expr (pe_call GC hr (by rfl) gC FC.kp bC .nil passNo (pa_cons (pv 0) (pa_cons pe_str pa_nil))))
      (pss_cons (ps_for PassesOwn.never rfl (pi_or (pi_list (pv 1)) (pi_tup (pv 1))) (pg_name (i := 2) scWith.nd rfl (Or.inl rfl)) (pss_one (ps_expr (pe_call GC hr (by rfl) gC FC.kp bC .nil passNo (pa_cons (pv 2) (pa_cons pe_str pa_nil))))))
      (pss_cons (ps_set (i := 3) scWith.nd rfl (.inl rfl) (pe_callB (cr_sortedSet rfl) (by rfl) L.sorted (by decide +kernel) (pa_cons (pe_callTy (cr_setI rfl) (by rfl) L.set (by decide +kernel) (pa_cons (pv 1) pa_nil)) pa_nil)))
      (pss_one (ps_ret (pe_tup (pa_cons pe_int (StX.pa_star (pv 3) pa_nil))))))), ?_⟩
    refine ⟨_, rfl, _, "str", _, _, _, _, rfl, .str z hzl, .inl ⟨rfl, rfl, rfl, rfl⟩, fun _ H1 s1 => ?_, fun g _ _ _ _ => by rw [show gNam (.str z) = true from hz] at g; cases g⟩
    obtain ⟨J, wJ, go⟩ : ∃ J, Walk J (ns.map V.int).length (fun H' => Same H H') (YAt (ns.map V.int)) ∧ ∀ R : It → Hp → Prop, R J H1 → (iList K (tVar 1) [some (.str z), some (.ref l), none, none] H1 R ∨ iTup K (tVar 1) [some (.str z), some (.ref l), none, none] H1 R) := by
      rcases hl with hl | hl
      · exact ⟨_, walk_list.mono (fun _ s => hl.ext s) (fun _ _ _ _ _ _ y => y), fun R r => .inl ⟨_, rfl, l, rfl, ⟨_, hl.ext s1⟩, r⟩⟩
      · exact ⟨_, walk_tup.mono (fun _ s => hl.ext s) (fun _ _ _ _ _ _ y => y), fun R r => .inr ⟨_, rfl, l, rfl, ⟨_, hl.ext s1⟩, r⟩⟩
    refine go _ (for_it wJ (fun i σ H' => (∃ v2, σ = [some (.str z), some (.ref l), v2, none]) ∧ Same H H') ⟨⟨_, rfl⟩, s1⟩ (fun _ _ _ _ y => y.2) ?_ ?_)
    · rintro i x σ H2 H3 hi ⟨⟨v2, rfl⟩, s2⟩ ⟨rfl, hx⟩
      obtain ⟨n, hn, rfl⟩ : ∃ n, n ∈ ns ∧ x = .int n := by
        have := List.mem_of_getElem? hx
        obtain ⟨n, h1, h2⟩ := List.mem_map.mp this
        exact ⟨n, h1, h2.symm⟩
      refine ⟨_, rfl, _, "int", _, _, _, _, rfl, .int n, .inr (.inr (.inl ⟨rfl, rfl, rfl, rfl⟩)), fun _ H4 s4 => ⟨⟨_, rfl⟩, s2.trans s4⟩, fun g _ _ _ _ => by rw [hb n hn] at g; cases g⟩
    · rintro σ H2 ⟨⟨v2, rfl⟩, s2⟩
      refine ⟨_, rfl, l, ns, rfl, sq_same hl s2, h64, fun p c hp hc => ⟨p, _, c, rfl, upd_same, Nat.lt_of_le_of_lt hc h64, fun later p2 hw hm hlen hp2 => ?_⟩⟩
      refine ⟨_, rfl, p2, later.map V.int, rfl, .inr (SqL.of upd_same), ?_⟩
      refine ⟨?_, fun t ht => q t later _ (((s2.trans (same_upd0 hp)).trans (same_upd0 hp2)).trans (same_upd0 ht)) hw (fun k => (hm k).trans ⟨of_decide_eq_true, decide_eq_true⟩) ?_⟩
      · rw [List.append_nil, List.length_cons, List.length_map, hlen]
        have : c < 64 := Nat.lt_of_le_of_lt hc h64
        have := sizeLine_eq
        omega
      · rw [upd_same, List.append_nil]
        rfl

/-! ### the lives -/
/-- at a stand the lives in which a tool has the beginnings F -/
def LvAt (C : Addr) (H : Hp) (a : Addr) (F : Str → Option (List Int)) : Prop := ∃ (dx d : Addr) (kvs : List (Key × V)), H a = some (.ins C dx [("_begun", .ref d)]) ∧ H d = some (.dK kvs) ∧
  (∀ z, F z = none → valV kvs (.inr z) = none) ∧ ∀ z ns, F z = some ns → ∃ t, valV kvs (.inr z) = some (.ref t) ∧ H t = some (.tup (ns.map V.int))
theorem LvAt.same {C : Addr} {H H' : Hp} {a : Addr} {F : Str → Option (List Int)} (h : LvAt C H a F) (s : Same H H') : LvAt C H' a F := by
  obtain ⟨dx, d, kvs, h1, h2, h3, h4⟩ := h
  refine ⟨dx, d, kvs, s _ _ h1, s _ _ h2, h3, fun z ns e => ?_⟩
  obtain ⟨t, e1, e2⟩ := h4 z ns e
  exact ⟨t, e1, s _ _ e2⟩
theorem LvAt.off {C p : Addr} {H H' : Hp} {a : Addr} {F : Str → Option (List Int)} {vs : List V} (h : LvAt C H a F) (s : Off p H H') (hp : H p = some (.lst vs)) : LvAt C H' a F := by
  obtain ⟨dx, d, kvs, h1, h2, h3, h4⟩ := h
  refine ⟨dx, d, kvs, s _ _ (ne_of h1 hp (fun z => nomatch z)) h1, s _ _ (ne_of h2 hp (fun z => nomatch z)) h2, h3, fun z ns e => ?_⟩
  obtain ⟨t, e1, e2⟩ := h4 z ns e
  exact ⟨t, e1, s _ _ (ne_of e2 hp (fun z => nomatch z)) e2⟩
/-- a dict of beginnings: what Lives is made of -/
def BgAt (K : PySem.W.Frag) (H : Hp) (d : Addr) (F : Str → Option (List Int)) : Prop := ∃ (kvs : List (Key × V)) (ks : List Str), H d = some (.dK kvs) ∧ kvs.map (·.1) = ks.map Sum.inr ∧ ks.length < 64 ∧ (∀ z, z ∈ ks ↔ (F z).isSome = true) ∧
  (∀ z ∈ ks, isName z = true ∧ z.length ≤ 2000) ∧ ∀ z ns, F z = some ns → ∃ l, valV kvs (.inr z) = some (.ref l) ∧ (SqL K H l (ns.map V.int) ∨ SqT K H l (ns.map V.int)) ∧ ns.length < 64 ∧ (∀ n ∈ ns, gBeg (.int n) = true) ∧ ns.Pairwise (· < ·)
theorem BgAt.same {d : Addr} {H H' : Hp} {F : Str → Option (List Int)} (h : BgAt K H d F) (s : Same H H') : BgAt K H' d F := by
  obtain ⟨kvs, ks, h1, h2, h3, h4, h5, h6⟩ := h
  refine ⟨kvs, ks, s _ _ h1, h2, h3, h4, h5, fun z ns e => ?_⟩
  obtain ⟨l, e1, e2, e3⟩ := h6 z ns e
  exact ⟨l, e1, sq_same e2 s, e3⟩
/-- what the top says of the class Lives, at C -/
structure Lvs (K : PySem.W.Frag) (mg : Str → Option Value) (C : Addr) : Prop where
  cl : Cls K C
  nB : NoAttr K C "_begun"
  mgC : mg "Lives" = some (.ref C)
  no : ∀ T, T ∈ ["tuple", "str", "NoneType", "int", "bool", "list", "dict"] → PySem.W.kitOne K (.type T) (.ref C) = some false ∧ PySem.W.notFirst K C (.type T) = true
theorem dc_it {J : It} {n : Nat} {G : Hp → Prop} {Y : Nat → Hp → V → Hp → Prop} (w : Walk J n G Y) {g : TG} {tt : TT} {tk tv : TE} {vs : List Nat} {σ : L2.St} {H1 : Hp} {D : Addr} {Qd : Hp → Prop} (Pv : Nat → Hp → Prop) (h0 : Pv 0 (upd H1 D (.dK []))) (hG : ∀ i H, i ≤ n → Pv i H → G H)
    (hs : ∀ i x H H', i < n → Pv i H → Y i H x H' → g x (wipe σ vs) H' fun σ2 H2 => wipe σ2 vs = wipe σ vs ∧ tt σ2 H2 fun b H3 =>
      if b = true then tk σ2 H3 fun y H4 => tv σ2 H4 fun z H5 => ∃ kvs k, y = kV k ∧ H5 D = some (.dK kvs) ∧ kvs.length < sizeLine ∧ Pv (i + 1) (upd H5 D (.dK (putK kvs k z))) else Pv (i + 1) H3) (hd : ∀ H, Pv n H → Qd H) :
    ∃ W : Nat → Nat → Hp → Prop, (∃ m, W 0 m (upd H1 D (.dK []))) ∧ ∀ i m H, W i m H →
      (J.stop i H ∧ Qd H) ∨ (J.go i H ∧ ∃ Nx : Hp → Prop, (∀ H', Nx H' → ∃ m', m' < m ∧ W (i + 1) m' H') ∧ ∀ x H', J.yld i H x H' → g x (wipe σ vs) H' fun σ2 H2 => wipe σ2 vs = wipe σ vs ∧ tt σ2 H2 fun b H3 =>
        if b = true then tk σ2 H3 fun y H4 => tv σ2 H4 fun z H5 => ∃ kvs k, y = kV k ∧ H5 D = some (.dK kvs) ∧ kvs.length < sizeLine ∧ Nx (upd H5 D (.dK (putK kvs k z))) else Nx H3) := by
  refine ⟨fun i m H => m = n - i ∧ i ≤ n ∧ Pv i H, ⟨n, by simp, Nat.zero_le _, h0⟩, ?_⟩
  rintro i m H ⟨rfl, hi, p⟩
  have q := hG i H hi p
  by_cases hlt : i < n
  · exact .inr ⟨w.goes i H hlt q, Pv (i + 1), fun H' p' => ⟨n - (i + 1), by omega, rfl, hlt, p'⟩, fun x H' y => hs i x H H' hlt p (w.yields i H x H' hlt q y)⟩
  · have e : i = n := by omega
    subst e
    exact .inl ⟨w.stops H q, hd H p⟩
/-- Lives.__init__ of such a dict -/
def spLInit (K : PySem.W.Frag) (C : Addr) : Sp := fun vs H Q _ => ∃ (x dx d : Addr) (F : Str → Option (List Int)), vs = [.ref x, .ref d] ∧ H x = some (.ins C dx []) ∧ BgAt K H d F ∧ ∀ H', Off x H H' → LvAt C H' x (fun z => (F z).map (0 :: ·)) → Q .non H'
theorem ok_linit {f C fW : Addr} {fd fdW : FuncData} (F : Fun K "__init__" "Lives.__init__" sLInit f fd) (T : Lvs K mg C) (L : WordsL mg) (FW : Fun K "with_first" "with_first" sWith fW fdW) (bW : Binds K fdW ["tool", "moments"] []) (gW : mg "with_first" = some (.ref fW))
    (GW : FnOk P w K mg base CX0 4 fW fdW ["tool", "moments"] (spWith K)) : FnOk P w K mg base CX0 5 f fd ["self", "begun"] (spLInit K C) := by
  refine F.ok scLInit (fun vs H Q E h => ?_) (fun cdv A outer s H vs Q E hr h => ?_)
  · obtain ⟨x, dx, d, F, rfl, _⟩ := h
    rfl
  · obtain ⟨x, dx, d, Fn, rfl, hx, hb, q⟩ := h
    obtain ⟨kvs, ks, hd, hk, h64, hF, hnm, hv⟩ := id hb
    refine ⟨_, pss_one (ps_fld (pv 0) (pe_dc (own := [("tool", 2)]) (g := gName 2) (tt := tYes) rfl scLInit.nd (pi_list (pe_callB (call_sortedD rfl) (by rfl) L.sorted (by decide +kernel) (pa_cons (pv 1) pa_nil))) (blkOk_by (N := ["self", "begun", "tool"]) (sc := defScope sLInit) (by decide +kernel))
        (fun _ _ _ _ _ => pg_name (i := 2) scLInit.nd rfl (Or.inl rfl)) (fun _ _ _ _ _ => pts_nil) (fun _ _ _ _ _ => pv 2)
        (fun _ _ _ _ _ => pe_call GW hr (by rfl) gW FW.kp bW .nil pass0 (pa_cons (pv 2) (pa_cons (pe_dget (hu_of hr) (pv 1) (pv 2) (fun _ _ => rfl)) pa_nil)))) rfl), ?_⟩
    refine ⟨_, rfl, d, kvs, ks, rfl, .inl hd, hk, h64, fun ys p hp hsrt hpn => ⟨p, rfl, ⟨_, SqL.of upd_same⟩, fun D hD => ?_⟩⟩
    have sp : Same H (upd H p (.lst (ys.map V.str))) := same_upd0 hpn
    have hylen : ys.length = ks.length := hp.length_eq
    refine dc_it walk_list (fun i H' => Same (upd H p (.lst (ys.map V.str))) H' ∧ ∃ kvs' : List (Key × V), H' D = some (.dK kvs') ∧ kvs'.length ≤ i ∧ (∀ z, z ∉ ys.take i → valV kvs' (.inr z) = none) ∧
      ∀ z ns, z ∈ ys.take i → Fn z = some ns → ∃ t, valV kvs' (.inr z) = some (.ref t) ∧ H' t = some (.tup ((0 :: ns).map V.int))) ⟨same_upd0 hD, [], upd_same, Nat.le_refl _, fun _ _ => rfl, fun z ns hz => by simp at hz⟩ (fun _ _ _ y => SqL.of (y.1 _ _ upd_same)) ?_ ?_
    · rintro i v H2 H3 hi ⟨s2, kvs', hD2, hl2, n2, y2⟩ ⟨rfl, hv2⟩
      obtain ⟨z, hz, rfl⟩ : ∃ z, ys[i]? = some z ∧ v = .str z := by
        rw [List.getElem?_map] at hv2
        cases e : ys[i]? with
        | none => rw [e] at hv2; cases hv2
        | some z => rw [e] at hv2; exact ⟨z, rfl, (Option.some.inj hv2).symm⟩
      have hzk : z ∈ ks := hp.mem_iff.mp (List.mem_of_getElem? hz)
      obtain ⟨hn1, hn2⟩ := hnm z hzk
      obtain ⟨ns, hns⟩ := Option.isSome_iff_exists.mp ((hF z).mp hzk)
      obtain ⟨l, hl1, hl3, hl4, hl5, hl6⟩ := hv z ns hns
      have sA := sp.trans s2
      have hi' : i < ks.length := by rw [List.length_map, hylen] at hi; exact hi
      refine ⟨rfl, _, rfl, _, rfl, _, rfl, _, rfl, d, _, rfl, .inl ⟨kvs, .inr z, .inl (sA _ _ hd), rfl, hl1.symm⟩, ?_⟩
      refine ⟨z, l, ns, rfl, hn1, hn2, sq_same hl3 sA, hl4, hl5, fun t later H4 s4 hw hm ht => ⟨kvs', .inr z, rfl, s4 _ _ hD2, Nat.lt_of_le_of_lt hl2 (by have := sizeLine_eq; omega), ?_⟩⟩
      have el : later = ns := pairwise_ext hw hl6 hm
      subst el
      have nD : D ≠ t := fun z => by rw [← z, s4 _ _ hD2] at ht; cases ht
      refine ⟨fun b o e => ?_, _, upd_same, Nat.le_trans (length_putK _ _ _) (by omega), fun w hw2 => ?_, fun w ws hw2 hws => ?_⟩
      · rw [upd_ne (ne_of_none e hD)]
        exact s4 _ _ (s2 _ _ e)
      · rw [List.take_add_one, hz] at hw2
        simp only [Option.toList, List.mem_append, List.mem_singleton, not_or] at hw2
        rw [valV_put, if_neg (fun y => hw2.2 (Sum.inr.inj y))]
        exact n2 w hw2.1
      · rw [valV_put]
        by_cases ewz : w = z
        · subst ewz
          rw [hns] at hws
          cases hws
          exact ⟨t, if_pos rfl, (upd_ne (Ne.symm nD)).trans ht⟩
        · rw [List.take_add_one, hz] at hw2
          simp only [Option.toList, List.mem_append, List.mem_singleton] at hw2
          obtain ⟨t2, e1, e2⟩ := y2 w ws (hw2.resolve_right ewz) hws
          exact ⟨t2, (if_neg (fun y => ewz (Sum.inr.inj y))).trans e1, (upd_ne (fun y => by rw [y, hD2] at e2; cases e2)).trans (s4 _ _ e2)⟩
    · rintro H2 ⟨s2, kvs', hD2, hl2, n2, y2⟩
      have sA := sp.trans s2
      refine ⟨_, rfl, x, C, dx, [], rfl, sA _ _ hx, T.cl, T.nB, (by show 0 < 1000; decide), ?_⟩
      have nDx : D ≠ x := fun z => by rw [z, sA _ _ hx] at hD2; cases hD2
      have et : ys.take (ys.map V.str).length = ys := by rw [List.length_map]; exact List.take_length
      rw [et] at n2 y2
      refine q _ (fun b o n e => (upd_ne n).trans (sA _ _ e)) ⟨dx, D, kvs', upd_same, (upd_ne nDx).trans hD2, fun z hz => n2 z fun hzy => ?_, fun z ns hz => ?_⟩
      · have := (hF z).mp (hp.mem_iff.mp hzy)
        have hz : (Fn z).map (0 :: ·) = none := hz
        cases e : Fn z with
        | none => rw [e] at this; cases this
        | some a => rw [e] at hz; cases hz
      · have hz : (Fn z).map (0 :: ·) = some ns := hz
        cases e : Fn z with
        | none => rw [e] at hz; cases hz
        | some a =>
          rw [e] at hz
          cases hz
          have hzy : z ∈ ys := hp.mem_iff.mpr ((hF z).mpr (by rw [e]; rfl))
          obtain ⟨t, e1, e2⟩ := y2 z a hzy e
          exact ⟨t, e1, (upd_ne (fun y => by rw [y, sA _ _ hx] at e2; cases e2)).trans e2⟩
end
end K08

namespace K08
open PySem PySem.Spec PyProof.Rows L2 So
abbrev sBeg : Stmt := inClass (topS 20) 3
abbrev sCont : Stmt := inClass (topS 20) 6
theorem scBeg : FnScope ["self", "tool"] ["self", "tool"] (defScope sBeg) := ⟨rfl, rfl, rfl, by decide +kernel, rfl, by decide +kernel, by decide +kernel⟩
theorem scCont : FnScope ["self", "life", "tool", "beginning"] ["self", "life"] (defScope sCont) := ⟨rfl, rfl, rfl, by decide +kernel, rfl, by decide +kernel, by decide +kernel⟩
/-- the beginnings by what is given for a tool -/
def fB (F : Str → Option (List Int)) : V → Option (List Int)
  | .str z => F z
  | _ => none
/-- the beginnings as they are told -/
def FOk (F : Str → Option (List Int)) : Prop := ∀ z ns, F z = some ns → ∃ l : List Int, ns = 0 :: l ∧ l.length < 64 ∧ (∀ n ∈ l, gBeg (.int n) = true) ∧ l.Pairwise (· < ·)
/-- what is given for a life: a pair of two values, or no pair -/
def LyAt (H : Hp) (y : V) (o : Option (V × V)) : Prop :=
  (o = none ∧ ∃ T, Gv H y T ∧ (T = "tuple" → ∃ p xs, y = .ref p ∧ H p = some (.tup xs) ∧ xs.length ≠ 2)) ∨ ∃ (u x : V) (p : Addr) (T1 T2 : String), o = some (u, x) ∧ y = .ref p ∧ H p = some (.tup [u, x]) ∧ Gv H u T1 ∧ Gv H x T2
theorem LyAt.same {H H' : Hp} {y : V} {o : Option (V × V)} (h : LyAt H y o) (s : Same H H') : LyAt H' y o := by
  rcases h with ⟨e, T, h1, h2⟩ | ⟨u, x, p, T1, T2, e, e1, h1, h2, h3⟩
  · refine .inl ⟨e, T, h1.same s, fun z => ?_⟩
    obtain ⟨p, xs, a, b, c⟩ := h2 z
    exact ⟨p, xs, a, s _ _ b, c⟩
  · exact .inr ⟨u, x, p, T1, T2, e, e1, s _ _ h1, h2.same s, h3.same s⟩
def inF (F : Str → Option (List Int)) : Option (V × V) → Bool
  | some (u, .int i) => match fB F u with
    | some ns => decide (i ∈ ns)
    | none => false
  | _ => false
theorem inV_ints (i : Int) : ∀ l : List Int, inV (.int i) (l.map V.int) = decide (i ∈ l)
  | [] => rfl
  | x :: r => by
    have h := inV_ints i r
    show (eqV (.int x) (.int i) || inV (.int i) (r.map V.int)) = _
    rw [h, show eqV (.int x) (.int i) = decide (i = x) by show (x == i) = _; rw [Bool.beq_eq_decide_eq]; exact decide_eq_decide.mpr ⟨Eq.symm, Eq.symm⟩, ← Bool.decide_or]
    exact decide_eq_decide.mpr List.mem_cons.symm
theorem flat_ints (l : List Int) : (l.map V.int).all flatV = true := by
  rw [List.all_map]
  exact List.all_eq_true.mpr fun _ _ => rfl
section
variable {P : Program} {w : World} {K : PySem.W.Frag} {mg : Str → Option Value} {base : Heap}
theorem Gv.kitT {H : Hp} {v : V} {T : String} (h : Gv H v T) : PySem.W.kitOne K (.type T) (.type "tuple") = some (decide (T = "tuple")) := by
  cases h <;> exact kit_ty (by decide +kernel)
def spBeg (C CT' : Addr) : Sp := fun vs H Q E => ∃ (a : Addr) (v : V) (T : String) (F : Str → Option (List Int)), vs = [.ref a, v] ∧ LvAt C H a F ∧ Gv H v T ∧
  (∀ ns, fB F v = some ns → ∀ t, H t = some (.tup (ns.map V.int)) → Q (.ref t) H) ∧ (fB F v = none → ∀ d H', Same H H' → H' d = some (.xd [("tool", v)]) → E (.ref CT') (some d) H')
theorem ok_beg {CN CM CS CT' CL C f : Addr} {fd : FuncData} (F : Fun K "beginnings" "Lives.beginnings" sBeg f fd) (T : Lvs K mg C) (W : Words K mg) (R : Errs K mg CN CM CS CT' CL) : FnOk P w K mg base (L2.CX P w) 3 f fd ["self", "tool"] (spBeg C CT') := by
  obtain ⟨f4, fd4, O4, F4⟩ := R.t
  have G4 : FnOk P w K mg base CX0 1 f4 fd4 ["self", "tool"] (spOneE CT' "tool") := ok_eT F4 O4
  refine F.okX scBeg (fun vs H Q E h => ?_) (fun cdv A outer s H vs Q E hr h => ?_)
  · obtain ⟨a, v, T, F, rfl, _⟩ := h
    rfl
  · obtain ⟨a, v, T', F, rfl, hL, hv, qy, qn⟩ := h
    obtain ⟨dx, d, kvs, h1, h2, h3, h4⟩ := id hL
    refine ⟨_, pss_cons (ps_if (PW.pt (pw_or (pt_not (pt_val (pe_callB call_isi (by rfl) W.isi (by decide +kernel) (pa_cons (pv 1) (pa_cons (pe_bltn (v := .ty "str") (by rfl) W.str (by decide +kernel) rfl) pa_nil)))))
        (pw_or1 (pt_cmp (pc_dnotin (hu_of hr) (pv 1) (pe_fld (pv 0) rfl)))))) (pss_one (ps_raiseOne O4 G4 rfl hr (takes_of rfl rfl rfl rfl) (by rfl) (pa_cons (pv 1) pa_nil))) pss_nil)
      (pss_one (ps_ret (pe_dget (hu_of hr) (pe_fld (pv 0) rfl) (pv 1) (fun _ _ => rfl)))), ?_⟩
    refine ⟨_, rfl, _, _, _, _, _, rfl, .ty "str", hv.ty, hv.kit "str" (.inr (.inr rfl)), _, rfl, ?_⟩
    have no : fB F v = none → tMkO CT' (spOneE CT' "tool") [] (tCons (tVar 1) tNil) [some (.ref a), some v] H fun cls d H' => E cls d H' := fun e => ⟨_, rfl, mkOne rfl fun d H' s2 _ e2 => qn e d H' s2 e2⟩
    cases hv with
    | non => exact iteT (no rfl)
    | bl b => exact iteT (no rfl)
    | int i => exact iteT (no rfl)
    | lst e => exact iteT (no rfl)
    | tup e => exact iteT (no rfl)
    | dK e => exact iteT (no rfl)
    | str z hz =>
      refine iteF ?_
      refine ⟨_, rfl, _, rfl, a, C, dx, _, _, rfl, h1, T.cl, T.nB, rfl, d, _, rfl, DGet.k (k := .inr z) h2, ?_⟩
      cases e : F z with
      | none =>
        rw [h3 z e]
        exact ⟨_, rfl, iteT (no e)⟩
      | some ns =>
        obtain ⟨t, e1, e2⟩ := h4 z ns e
        rw [e1]
        refine ⟨_, rfl, iteF ?_⟩
        exact ⟨_, rfl, a, C, dx, _, _, rfl, h1, T.cl, T.nB, rfl, _, rfl, d, _, rfl, .inl ⟨kvs, .inr z, .inl h2, rfl, e1.symm⟩, qy ns e t e2⟩
/-- life in lives -/
def spCont (C : Addr) : Sp := fun vs H Q _ => ∃ (a : Addr) (y : V) (o : Option (V × V)) (F : Str → Option (List Int)), vs = [.ref a, y] ∧ LvAt C H a F ∧ LyAt H y o ∧ Q (.bl (inF F o)) H
theorem ok_cont {C f fW : Addr} {fd fdW : FuncData} (F : Fun K "__contains__" "Lives.__contains__" sCont f fd) (T : Lvs K mg C) (W : Words K mg) (L : WordsL mg) (FW : Fun K "is_whole" "is_whole" sWhole fW fdW) (bW : Binds K fdW ["value"] []) (gW : mg "is_whole" = some (.ref fW)) :
    FnOk P w K mg base CX0 2 f fd ["self", "life"] (spCont C) := by
  have GW : FnOk P w K mg base CX0 1 fW fdW ["value"] spWhole := ok_whole FW W
  refine F.ok scCont (fun vs H Q E h => ?_) (fun cdv A outer s H vs Q E hr h => ?_)
  · obtain ⟨a, y, o, F, rfl, _⟩ := h
    rfl
  · obtain ⟨a, y, o, F, rfl, hL, hy, q⟩ := h
    obtain ⟨dx, d, kvs, h1, h2, h3, h4⟩ := id hL
    refine ⟨_, pss_cons (ps_if (PW.pt (pw_or (pt_not (pt_val (pe_callB call_isi (by rfl) W.isi (by decide +kernel) (pa_cons (pv 1) (pa_cons (pe_bltn (v := .ty "tuple") (by rfl) L.tuple (by decide +kernel) rfl) pa_nil)))))
        (pw_or1 (pt_cmpR op_ne (pe_callB call_len_seq (by rfl) W.len PySem.boot_len (pa_cons (pv 1) pa_nil)) pe_int (nomark _))))) (pss_one (ps_ret pe_bl)) pss_nil)
      (pss_cons (ps_asg (pv 1) (pg_tup rfl (pgs_cons (pg_name (i := 2) scCont.nd rfl (Or.inl rfl)) (pgs_cons (pg_name (i := 3) scCont.nd rfl (Or.inl rfl)) pgs_nil))))
      (pss_cons (ps_if (PW.pt (pw_or (pt_not (pt_val (pe_callB call_isi (by rfl) W.isi (by decide +kernel) (pa_cons (pv 2) (pa_cons (pe_bltn (v := .ty "str") (by rfl) W.str (by decide +kernel) rfl) pa_nil)))))
        (pw_or1 (pt_cmp (pc_dnotin (hu_of hr) (pv 2) (pe_fld (pv 0) rfl)))))) (pss_one (ps_ret pe_bl)) pss_nil)
      (pss_one (ps_ret (pe_and (pe_call GW hr (by rfl) gW FW.kp bW .nil pass0 (pa_cons (pv 3) pa_nil)) (pe_one (pe_cmpR op_in_seq (pv 3) (pe_dget (hu_of hr) (pe_fld (pv 0) rfl) (pv 2) (fun _ _ => rfl)) (by rfl)))))))), ?_⟩
    rcases hy with ⟨rfl, T', hv, ht⟩ | ⟨u, x, p, T1, T2, rfl, rfl, hp, hu, hx⟩
    · have q : Q (.bl false) H := q
      refine ⟨_, rfl, _, _, _, _, _, rfl, .ty "tuple", hv.ty, hv.kitT, _, rfl, ?_⟩
      by_cases e : T' = "tuple"
      · rw [decide_eq_true e]
        obtain ⟨p, xs, rfl, hp, hn⟩ := ht e
        refine iteF ⟨_, rfl, p, xs, rfl, .inr (SqT.of hp), rfl, _, rfl, ite2 (fun e2 => ?_) (fun e2 => ?_)⟩
        · exact q
        · refine absurd ?_ e2
          rw [decide_eq_false (fun z => hn (by have := V.int.inj z; omega))]
          rfl
      · rw [decide_eq_false e]
        exact iteT q
    · refine ⟨_, rfl, _, _, _, _, _, rfl, .ty "tuple", .base (.tup hp), (Gv.tup hp).kitT, _, rfl, iteF ?_⟩
      refine ⟨_, rfl, p, _, rfl, .inr (SqT.of hp), rfl, _, rfl, ite2 (fun e => by cases e) (fun _ => ?_)⟩
      refine ⟨_, rfl, p, _, rfl, SqT.of hp, rfl, u, _, rfl, x, _, rfl, rfl, ?_⟩
      refine ⟨_, rfl, _, _, _, _, _, rfl, .ty "str", hu.ty, hu.kit "str" (.inr (.inr rfl)), _, rfl, ?_⟩
      have no : fB F u = none → Q (.bl false) H := fun e => by
        have : inF F (some (u, x)) = false := by
          cases x <;> simp [inF, e]
        rw [this] at q
        exact q
      cases hu with
      | non => exact iteT (no rfl)
      | bl b => exact iteT (no rfl)
      | int i => exact iteT (no rfl)
      | lst e => exact iteT (no rfl)
      | tup e => exact iteT (no rfl)
      | dK e => exact iteT (no rfl)
      | str z hz =>
        refine iteF ?_
        refine ⟨_, rfl, _, rfl, a, C, dx, _, _, rfl, h1, T.cl, T.nB, rfl, d, _, rfl, DGet.k (k := .inr z) h2, ?_⟩
        cases e : F z with
        | none =>
          rw [h3 z e]
          exact ⟨_, rfl, iteT (no e)⟩
        | some ns =>
          obtain ⟨t, e1, e2⟩ := h4 z ns e
          rw [e1]
          refine ⟨_, rfl, iteF ?_⟩
          refine ⟨_, rfl, x, T2, rfl, hx, _, rfl, ?_⟩
          have no2 : gInt x = false → Q (.bl false) H := fun g => by
            have : inF F (some (.str z, x)) = false := by
              cases x <;> first | rfl | cases g
            rw [this] at q
            exact q
          cases hx with
          | non => exact iteF (no2 rfl)
          | bl b => exact iteF (no2 rfl)
          | str z h => exact iteF (no2 rfl)
          | lst e => exact iteF (no2 rfl)
          | tup e => exact iteF (no2 rfl)
          | dK e => exact iteF (no2 rfl)
          | int i =>
            refine iteT ?_
            refine ⟨_, rfl, _, rfl, a, C, dx, _, _, rfl, h1, T.cl, T.nB, rfl, _, rfl, d, _, rfl, .inl ⟨kvs, .inr z, .inl h2, rfl, e1.symm⟩, t, _, rfl, .inr (SqT.of e2), rfl, flat_ints _, ?_⟩
            have : inF F (some (.str z, .int i)) = inV (.int i) (ns.map V.int) := by
              rw [inV_ints]
              show (match F z with | some ns => decide (i ∈ ns) | none => false) = _
              rw [e]
            rw [this] at q
            exact q
end
end K08

/-! sorted(set(list)), the list's members texts, or ints -/
namespace So
open PySem PySem.Spec PyProof.Rows L2
/-- keys of one kind, and what they are as values -/
structure KyT (P : Program) (w : World) (α : Type) [DecidableEq α] where
  knd : PySem.KeyKind P w α
  mkv : α → Tok → Value
  key : Value → α
  hk : ∀ k t, key (mkv k t) = k
  his : ∀ k t, knd.is k (mkv k t) = true
  iff : ∀ k k0 t, knd.is k (mkv k0 t) = true ↔ k0 = k
  hsc : ∀ k t, (mkv k t).scannable = true
def kyStr (P : Program) (w : World) : KyT P w Str where
  knd := PySem.strKind P w
  mkv := Value.str
  key := fun v => match v with | .str x _ => x | _ => Str.empty
  hk := fun _ _ => rfl
  his := fun k t => strKind_is P w k t
  iff := fun k k0 t => by
    show ((k0 == k) = true) ↔ k0 = k
    exact beq_iff_eq
  hsc := fun _ _ => rfl
section
variable {P : Program} {w : World} {α : Type} [DecidableEq α] (T : KyT P w α)
def GoodG (e : Int × Value) : Prop := ∃ k tk, e.2 = T.mkv k tk ∧ e.1 = T.knd.hash k
def keyG (e : Int × Value) : α := T.key e.2
/-- the set at a: S its members, n their number; its table rises and can be walked -/
def SetG (h : Heap) (a : Addr) (S : α → Bool) (n : Nat) : Prop :=
  ∃ o es ep t, h.get? a = some o ∧ o.ExactSet ∧ o.data = .set es ep t ∧ (∀ e ∈ es.toList, GoodG T e) ∧ (es.toList.map (keyG T)).Nodup ∧ (∀ k, S k = true ↔ k ∈ es.toList.map (keyG T)) ∧
    es.size < scanBound ∧ t.fits es.size = true ∧ es.size = n ∧ Ris t.place.toList ∧ (w.params.followText "set-order" = true ∨ t.led = true)
end
section
variable {P : Program} {w : World} {α : Type} [DecidableEq α] {T : KyT P w α} {h h' : Heap} {a : Addr} {S : α → Bool} {n : Nat}
theorem SetG.at (R : SetG T h a S n) (k : ∀ o, h.get? a = some o → h'.get? a = some o) : SetG T h' a S n := by
  obtain ⟨o, es, ep, t, ho, r⟩ := R
  exact ⟨o, es, ep, t, k o ho, r⟩
theorem SetG.congr {S' : α → Bool} (R : SetG T h a S n) (e : ∀ k, S' k = S k) : SetG T h a S' n := by
  have q : S' = S := funext e
  rw [q]; exact R
theorem goodG_elems {l : List (Int × Value)} (g : ∀ e ∈ l, GoodG T e) : ElemsOf T.knd l := fun e he => by
  obtain ⟨k, tk, h1, h2⟩ := g e he
  exact ⟨⟨k, by rw [h1]; exact T.his k tk, h2⟩, by rw [h1]; exact T.hsc k tk⟩
theorem goodG_is {e : Int × Value} (g : GoodG T e) (k : α) : T.knd.is k e.2 = true ↔ keyG T e = k := by
  obtain ⟨k0, tk, h1, _⟩ := g
  unfold keyG
  rw [h1, T.hk]
  exact T.iff k k0 tk
theorem goodG_mem {l : List (Int × Value)} (g : ∀ e ∈ l, GoodG T e) (k : α) : k ∈ l.map (keyG T) ↔ ∃ e ∈ l, T.knd.is k e.2 = true := by
  rw [List.mem_map]
  constructor
  · rintro ⟨e, he, q⟩
    exact ⟨e, he, (goodG_is (g e he) k).2 q⟩
  · rintro ⟨e, he, q⟩
    exact ⟨e, he, (goodG_is (g e he) k).1 q⟩
theorem setG_fresh {h : Heap} : SetG T (h.push { cls := .type "set", dict := none, data := .set #[] 0 (.fresh 0 0 (!w.params.followText "set-order")) }) h.objs.size (fun _ => false) 0 :=
  ⟨_, #[], 0, _, Heap.get?_push_size _ rfl, ⟨rfl, rfl, rfl⟩, rfl, (fun e he => by simp at he), (by simp), (fun k => by simp), (by decide), (by rfl), rfl, List.Pairwise.nil, by
    show _ ∨ (!w.params.followText "set-order") = true
    cases w.params.followText "set-order"
    · exact .inr rfl
    · exact .inl rfl⟩
end
section
variable {P : Program} {w : World} {α : Type} [DecidableEq α] {T : KyT P w α} {A : Around} {E : Value → Shared → Prop} {s : Shared} {a : Addr} {S : α → Bool} {n : Nat}
theorem setG_add_tail {g : Bool → Sem Unit} (hg : ∀ (b : Bool) (s₁ : Shared) (Q' : Unit → Shared → Prop), Q' () s₁ → wpAny (model P w) A (g b) Q' E s₁)
    {o : Obj} {es : Array (Int × Value)} {ep : Nat} {t : SetTable} (ho : s.heap.get? a = some o) (hex : o.ExactSet) (hd : o.data = .set es ep t)
    {es1 : Array (Int × Value)} {t2 : SetTable} {S' : α → Bool} (g1 : ∀ e ∈ es1.toList, GoodG T e) (nd1 : (es1.toList.map (keyG T)).Nodup) (m1 : ∀ k, S' k = true ↔ k ∈ es1.toList.map (keyG T))
    (hb1 : es1.size < scanBound) (hf2 : t2.fits es1.size = true) (hr : Ris t2.place.toList) (hl : w.params.followText "set-order" = true ∨ t2.led = true) {wasDummy : Bool} {R : Option Bool → Shared → Prop}
    (hR : ∀ h', Heap.SameBut a s.heap h' → SetG T h' a S' es1.size → R (some true) { s with heap := h' }) :
    wpAny (model P w) A (do
        storeSet a es1 t2
        if (!wasDummy && t2.tooFull) = true then do
            g (relayAll t2 es1 (SetTable.grown es1.size)).2.2
            storeSet a (relayAll t2 es1 (SetTable.grown es1.size)).1 (relayAll t2 es1 (SetTable.grown es1.size)).2.1
            pure (some true)
          else pure (some true)) R E s := by
  refine wpAny_bind (wpAny_storeSet_of ho hd ?_ (fits_of_scanBound hb1))
  have ho1 := store_at (es' := es1) (t' := t2) ho hd
  have sb1 := Heap.SameBut.update s.heap a (Obj.putSet es1 t2)
  split
  · have pm := relayAll_perm t2 es1 (SetTable.grown es1.size)
    have hf3 := relayAll_fits t2 es1 (SetTable.grown es1.size)
    have hr3 := relayAll_ris t2 es1 (SetTable.grown es1.size)
    have hl3 := relayAll_led t2 es1 (SetTable.grown es1.size)
    generalize relayAll t2 es1 (SetTable.grown es1.size) = Z at pm hf3 hr3 hl3 ⊢
    obtain ⟨es2, t3, gave⟩ := Z
    dsimp only at pm hf3 hr3 hl3 ⊢
    have hsz : es2.size = es1.size := by rw [← Array.length_toList, pm.length_eq, Array.length_toList]
    have hb2 : es2.size < scanBound := by rw [hsz]; exact hb1
    refine wpAny_bind (hg _ _ _ ?_)
    refine wpAny_bind (wpAny_storeSet_of ho1 rfl ?_ (fits_of_scanBound hb2))
    have ho2 := store_at (es' := es2) (t' := t3) ho1 rfl
    refine wpAny_pure (hR _ (sb1.trans (Heap.SameBut.update _ a _)) ?_)
    exact ⟨_, es2, _, t3, ho2, hex, rfl, fun e he => g1 e (pm.mem_iff.mp he), (pm.map (keyG T)).nodup_iff.mpr nd1, fun k => (m1 k).trans (pm.map (keyG T)).mem_iff.symm, hb2, hf3, hsz, hr3,
      hl.imp id fun z => by rw [hl3]; exact z⟩
  · exact wpAny_pure (hR _ sb1 ⟨_, es1, _, t2, ho1, hex, rfl, g1, nd1, m1, hb1, hf2, rfl, hr, hl⟩)

theorem setG_add_hashed {k : α} {tk : Tok} {Q : Bool → Shared → Prop} (R : SetG T s.heap a S n) (room : n + 1 < scanBound)
    (hQ : ∀ h', Heap.SameBut a s.heap h' → SetG T h' a (fun j => S j || decide (j = k)) (if S k = true then n else n + 1) → Q (!S k) { s with heap := h' }) :
    wpAny (model P w) A (setAddHashed a (T.mkv k tk) (T.knd.hash k)) Q E s := by
  obtain ⟨o, es, ep, t, ho, hex, hd, g, nd, hm, hb, hf, hn, hr, hl⟩ := R
  have hkey : T.knd.is k (T.mkv k tk) = true := T.his k tk
  have hsc : (T.mkv k tk).scannable = true := T.hsc k tk
  have hel : ElemsOf T.knd es.toList := goodG_elems g
  unfold setAddHashed setAddHashedIn
  refine wpAny_holding (wpAny_bind (wpAny_setState_of ho hd hf ?_))
  dsimp only
  rw [byScan_of hsc hb hel]
  simp only [↓reduceIte]
  unfold setAddByScan
  refine wpAny_bind ?_
  refine wpAny_bind (wpAny_rule ?_)
  refine wpAny_bind (wpAny_setScan_of hkey ho hd hf hel ?_)
  cases hfi : List.findIdx? (fun e => T.knd.is k e.2) es.toList with
  | some j =>
    dsimp only
    obtain ⟨hj, pj, _⟩ := List.findIdx?_eq_some_iff_getElem.mp hfi
    have hSk : S k = true := (hm k).2 ((goodG_mem g k).2 ⟨es.toList[j], List.getElem_mem hj, pj⟩)
    refine wpAny_pure (wpAny_pure ?_)
    have q := hQ s.heap (Heap.SameBut.refl a s.heap) ⟨o, es, ep, t, ho, hex, hd, g, nd, fun i => by
      rw [Bool.or_eq_true, decide_eq_true_eq, ← hm i]
      exact ⟨fun z => z.elim id (fun e => e ▸ hSk), .inl⟩, hb, hf, by rw [if_pos hSk]; exact hn, hr, hl⟩
    rw [hSk] at q
    exact q
  | none =>
    dsimp only
    have hnk : k ∉ es.toList.map (keyG T) := fun z => by
      obtain ⟨e, he, q⟩ := (goodG_mem g k).1 z
      have c := List.findIdx?_eq_none_iff.mp hfi e he
      rw [q] at c
      cases c
    have hSk : S k = false := by
      cases q : S k with
      | false => rfl
      | true => exact absurd ((hm k).1 q) hnk
    have hgw : ∀ (b : Bool) {s₁ : Shared} {Q' : Unit → Shared → Prop}, Q' () s₁ → wpAny (model P w) A (match b with | true => rule "set.scan.the-table-gave-way" | false => pure ()) Q' E s₁ :=
      fun b s₁ Q' q => by cases b <;> first | exact wpAny_pure q | exact wpAny_rule q
    have pm := layNew_perm t es (T.knd.hash k) (T.mkv k tk)
    have hf1 := layNew_fits t es (T.knd.hash k) (T.mkv k tk)
    have hr1 := layNew_ris t es (T.knd.hash k) (T.mkv k tk) hr
    have hl1 := layNew_led t es (T.knd.hash k) (T.mkv k tk)
    generalize layNew t es (T.knd.hash k) (T.mkv k tk) = Z at pm hf1 hr1 hl1 ⊢
    obtain ⟨es1, t1, wasDummy, gave⟩ := Z
    dsimp only at pm hf1 hr1 hl1 ⊢
    rw [Array.toList_push] at pm
    have pc : es1.toList.Perm ((T.knd.hash k, T.mkv k tk) :: es.toList) := pm.trans (List.perm_append_singleton _ _)
    have pk : (es1.toList.map (keyG T)).Perm (k :: es.toList.map (keyG T)) := by
      have q := pc.map (keyG T)
      rw [List.map_cons] at q
      have e : keyG T (T.knd.hash k, T.mkv k tk) = k := T.hk k tk
      rw [e] at q
      exact q
    have g1 : ∀ e ∈ es1.toList, GoodG T e := fun e he => by
      rcases List.mem_cons.mp (pc.mem_iff.mp he) with z | z
      · rw [z]; exact ⟨k, tk, rfl, rfl⟩
      · exact g e z
    have nd1 : (es1.toList.map (keyG T)).Nodup := pk.nodup_iff.mpr (List.nodup_cons.mpr ⟨hnk, nd⟩)
    have m1 : ∀ i, (S i || decide (i = k)) = true ↔ i ∈ es1.toList.map (keyG T) := fun i => by
      rw [Bool.or_eq_true, decide_eq_true_eq, hm i, pk.mem_iff, List.mem_cons]
      exact Or.comm
    have hsz : es1.size = n + 1 := by rw [← Array.length_toList, pc.length_eq, List.length_cons, Array.length_toList, hn]
    have hb1 : es1.size < scanBound := by rw [hsz]; exact room
    have hled : w.params.followText "set-order" = true ∨ t1.led = true := hl.imp id fun z => by rw [hl1]; exact z
    have fin : ∀ h', Heap.SameBut a s.heap h' → SetG T h' a (fun j => S j || decide (j = k)) es1.size → Q true { s with heap := h' } := fun h' sb r => by
      have q := hQ h' sb
      rw [hSk] at q
      rw [hsz] at r
      exact q r
    refine wpAny_bind (hgw _ ?_)
    split
    · refine wpAny_bind ?_
      rw [hashByValue_scannable 8 hsc]
      refine wpAny_pure ?_
      refine setG_add_tail ?_ ho hex hd g1 nd1 m1 hb1 ?_ ?_ ?_ ?_
      · intro b s₁ Q' q; cases b <;> first | exact wpAny_pure q | exact wpAny_rule q
      · first | (split <;> first | exact hf1 | exact SetTable.fits_plain_off hf1) | exact hf1
      · first | (split <;> exact hr1) | exact hr1
      · first | (split <;> exact hled) | exact hled
      · intro h' sb r; dsimp only; exact wpAny_pure (fin h' sb r)
    · refine wpAny_bind (wpAny_pure ?_)
      simp only [↓reduceIte]
      refine setG_add_tail ?_ ho hex hd g1 nd1 m1 hb1 hf1 hr1 hled ?_
      · intro b s₁ Q' q; cases b <;> first | exact wpAny_pure q | exact wpAny_rule q
      · intro h' sb r; dsimp only; exact wpAny_pure (fin h' sb r)
end
end So

namespace So
open PySem PySem.Spec PyProof.Rows L2
section
variable {P : Program} {w : World} {α : Type} [DecidableEq α] {T : KyT P w α} {A : Around} {E : Value → Shared → Prop} {s : Shared}
theorem code_set_led1 (a : Value) {Q₁ : Value → Shared → Prop}
    (h : Q₁ (.ref s.heap.objs.size) { s with heap := s.heap.push { cls := .type "set", dict := none, data := .set #[] 0 (.fresh 0 0 (!w.params.followText "set-order")) } }) :
    codeAny (model P w) A (.call (.builtin "set.__new__") ⟨[.type "set", a], []⟩) (wants Q₁ E) s := by
  refine codeAny_of_tree ?_
  show wpAny _ A.in1 (do checkBuiltinCall "set.__new__" ⟨[.type "set", a], []⟩; again (.builtin "set.__new__" ⟨[.type "set", a], []⟩)) _ _ s
  refine wpAny_bind (wpAny_of_eq (F.newCall_set_1 a) (wpAny_pure ⟨plainId_quiet F.plain_set_new _, codeAny_builtin F.entry_set_new ?_⟩))
  rw [Around.under_plainId F.plain_set_new _]
  unfold Builtin.«set.__new__» Builtin.Frozenset.newClass
  have hsub := sub_set_self
  obtain ⟨hp, g, d, tk, os⟩ := s
  dsimp only
  wp_walk
  refine wpAny_askSetting (wpAny_pure ?_)
  dsimp only
  simp only [newObj]
  refine wpAny_bind (wpAny_alloc (wpAny_pure ?_))
  exact wpAny_pure h
end
section
variable {prog : Program} {w : World} {α : Type} [DecidableEq α] {T : KyT prog w α} {A : Around} {R : Result → Shared → Prop} {I : Addr} {fp wr : List Addr} {G : Array GenState → Array GenState → Prop} {n : Nat} {P : Nat → Value → Prop} {St : Nat → Shared → Prop}
theorem loopG (W : WalksS prog w A.in1 I fp wr G n P St) (S : Addr) (hSf : S ∉ fp) (xs : List α) (hsz : xs.length = n) (hn1 : n + 1 < scanBound)
    (hval : ∀ i v, P i v → ∃ k t, xs[i]? = some k ∧ v = T.mkv k t) :
    ∀ (k i : Nat) (s : Shared), n - i = k → i ≤ n → St i s →
      (∃ m, m ≤ i ∧ SetG T s.heap S (fun k' => decide (k' ∈ xs.take i)) m) →
      (∀ s', Moved (S :: wr) G s s' → (∃ m, m ≤ n ∧ SetG T s'.heap S (fun k' => decide (k' ∈ xs)) m) → R (.ok (.ret .none)) s') →
      codeAny (model prog w) A (.builtin "set.update.loop" ⟨[.ref S, .ref I], []⟩) R s := by
  have hSw : S ∉ wr := fun h => hSf (W.sub _ h)
  have hsub : ∀ b ∈ wr, b ∈ S :: wr := fun b hb => List.mem_cons_of_mem _ hb
  intro k
  induction k with
  | zero =>
    intro i s hk hi hst hS hR
    have hin : i = n := by omega
    subst hin
    refine codeAny_builtin PyProof.Rows.F.entry_set_update_loop ?_
    rw [Around.under_plainId PyProof.Rows.F.plain_set_update_loop _]
    show wpAny _ A.in1 (pyNext (.ref I) >>= _) _ _ s
    refine wpAny_bind (W.done s _ _ hst fun s' hm => ?_)
    show wpAny _ A.in1 (ret Value.none) _ _ s'
    refine wpAny_pure (hR s' (hm.mono hsub) ?_)
    obtain ⟨m, hm1, R1⟩ := hS
    rw [← hsz, List.take_length] at R1
    exact ⟨m, hm1, R1.at fun o ho => hm.heap S _ hSw ho⟩
  | succ k ih =>
    intro i s hk hi hst hS hR
    have hlt : i < n := by omega
    refine codeAny_builtin PyProof.Rows.F.entry_set_update_loop ?_
    rw [Around.under_plainId PyProof.Rows.F.plain_set_update_loop _]
    show wpAny _ A.in1 (pyNext (.ref I) >>= _) _ _ s
    refine wpAny_bind (W.item i s _ _ hlt hst fun v s' hP hst' hm => ?_)
    obtain ⟨x, t, hx, rfl⟩ := hval i v hP
    obtain ⟨m, hm1, R1⟩ := hS
    have R2 : SetG T s'.heap S (fun k' => decide (k' ∈ xs.take i)) m := R1.at fun o ho => hm.heap S _ hSw ho
    show wpAny _ A.in1 (holding [T.mkv x t] (setAdd S (T.mkv x t)) >>= _) _ _ s'
    refine wpAny_bind (wpAny_holding ?_)
    unfold setAdd
    refine wpAny_holding ?_
    refine wpAny_bind (T.knd.pyHash (k := x) (T.his x t) ?_)
    refine setG_add_hashed (s := { s' with toks := s'.toks + 1 }) R2 (by omega) fun h' hsb R3 => ?_
    have et : xs.take (i + 1) = xs.take i ++ [x] := by rw [List.take_add_one, hx]; rfl
    have R4 : ∃ m', m' ≤ i + 1 ∧ SetG T h' S (fun k' => decide (k' ∈ xs.take (i + 1))) m' := by
      refine ⟨_, ?_, R3.congr fun k' => ?_⟩
      · split <;> omega
      · rw [et, Bool.eq_iff_iff, Bool.or_eq_true, decide_eq_true_eq, decide_eq_true_eq, decide_eq_true_eq, List.mem_append, List.mem_singleton]
    refine wpAny_pure ⟨plainId_quiet PyProof.Rows.F.plain_set_update_loop _, ih (i + 1) _ (by omega) hlt (W.frame _ s' _ _ hst' (Nat.le_succ _) fun b hb o e => ?_) R4 fun s'' hm'' hS'' => ?_⟩
    · rw [hsb.2 b (fun h : b = S => hSf (by rw [← h]; exact hb))]; exact e
    · refine hR s'' (Moved.trans W.gtrans ((hm.mono hsub).then_heap (Nat.le_succ _) fun b o hb e => ?_) hm'') hS''
      rw [hsb.2 b (fun h : b = S => hb (by rw [h]; exact List.mem_cons_self))]; exact e
end
section
variable {prog : Program} {w : World} {α : Type} [DecidableEq α] {T : KyT prog w α} {A : Around} {E : Value → Shared → Prop} {s : Shared}
set_option maxHeartbeats 8000000 in
theorem call_set_listG {l : Addr} {items : Array Value} {xs : List α} {Q : Value → Shared → Prop}
    (hh : A.handled = none) (hl : s.heap.IsList l items) (hsz : xs.length = items.size) (hval : ∀ (i : Nat) (v : Value), items[i]? = some v → ∃ k t, xs[i]? = some k ∧ v = T.mkv k t) (hn1 : xs.length + 1 < scanBound)
    (h : ∀ (h' : Heap) (tk m : Nat), m ≤ xs.length → SetG T h' s.heap.objs.size (fun k' => decide (k' ∈ xs)) m →
      (∀ b o, b < s.heap.objs.size → s.heap.get? b = some o → h'.get? b = some o) → Q (.ref s.heap.objs.size) { s with heap := h', toks := tk }) :
    wpAny (model prog w) A (call (.type "set") [.ref l]) Q E s := by
  obtain ⟨c, tl, hmro⟩ := PySem.F.called_set.mro
  have hmade := PySem.F.called_set.made
  have hsub := PySem.F.called_set.sub
  refine wpAny_call (codeAny_of_tree ?_)
  show wpAny _ _ (callAny (.type "set") _) _ _ _
  refine wpAny_pure ⟨Code.quiet_builtin _ (by decide +kernel), codeAny_builtin PySem.F.entry_type_call ?_⟩
  rw [Around.under_plain (weight_type_call_type "set" [.ref l] []) rfl]
  have h1 := PySem.F.called_set.notType
  have h2 := PySem.F.called_set.canCreate
  have hct := PySem.F.typeCall_set_1 (.ref l)
  repeat (any_goals (first | assumption | wp_step))

  refine codeAny_mono (code_set_led1 (.ref l) (E := E) (Q₁ := fun obj s₁ => obj = .ref s.heap.objs.size ∧ s₁ = { s with heap := s.heap.push { cls := .type "set", dict := none, data := .set #[] 0 (.fresh 0 0 (!w.params.followText "set-order")) } }) ⟨rfl, rfl⟩) fun r s₁ hr => ?_
  cases r with
  | error e => exact hr
  | ok fl =>
    cases fl with
    | ret obj =>
      obtain ⟨rfl, rfl⟩ := hr
      have R0 := setG_fresh (T := T) (h := s.heap)
      generalize (!w.params.followText "set-order") = led at R0 ⊢
      have hS : (s.heap.push { cls := .type "set", dict := none, data := .set #[] 0 (.fresh 0 0 led) }).get? s.heap.objs.size = some { cls := .type "set", dict := none, data := .set #[] 0 (.fresh 0 0 led) } := Heap.get?_push_size _ rfl
      have hT : Shared.TypeIs { s with heap := s.heap.push { cls := .type "set", dict := none, data := .set #[] 0 (.fresh 0 0 led) } } (.ref s.heap.objs.size) "set" := ⟨_, hS, rfl⟩
      have hli := PySem.F.called_set.init.lookup
      have hbi := PySem.F.called_set.init.bind (.ref s.heap.objs.size)
      repeat (any_goals (first | assumption | wp_step))

      refine codeAny_mono (codeAny_call_builtin (R := wants (fun r s₂ => r = .none ∧ ∃ h' tk m, s₂ = { s with heap := h', toks := tk } ∧ m ≤ xs.length ∧
          SetG T h' s.heap.objs.size (fun k' => decide (k' ∈ xs)) m ∧
          (∀ b o, b < s.heap.objs.size → s.heap.get? b = some o → h'.get? b = some o)) E) PySem.F.called_set.init.plain PySem.F.entry_set_init (check_set_init_1 hT ?_)) fun r₂ s₂ hr₂ => ?_
      · obtain ⟨ol, hol, hcl, nl, hdl⟩ := hl
        obtain ⟨ocls, odict, odata, oslots⟩ := ol
        simp only at hcl hdl
        subst hcl; subst hdl
        have hol' : (s.heap.push { cls := .type "set", dict := none, data := .set #[] 0 (.fresh 0 0 led) }).get? l = some { cls := .type "list", dict := odict, data := .seq items nl, slots := oslots } := Heap.get?_push_of_some _ hol
        have hsls := PySem.F.sub_list_set
        have hslf := PySem.F.sub_list_frozenset
        have hne : (Value.type "list" == Value.type "dict") = false := by decide
        have hl1 : (s.heap.push { cls := .type "set", dict := none, data := .set #[] 0 (.fresh 0 0 led) }).IsList l items := ⟨_, hol', rfl, nl, rfl⟩
        unfold Builtin.«set.__init__» noKeywords Builtin.Frozenset.updateFrom
        generalize hPI : pyIter = PI
        wp_walk
        subst hPI

        refine wpAny_pyIter_list hl1 ?_
        refine wpAny_bind (wpAny_runValue ?_)
        have hlS : l < s.heap.objs.size := Heap.lt_size hol
        have hh3 : A.in1.in1.in1.handled = none := by simp [hh]
        have hneI : l ≠ (s.heap.push { cls := .type "set", dict := none, data := .set #[] 0 (.fresh 0 0 led) }).objs.size := by
          rw [Heap.size_push]; exact Nat.ne_of_lt (Nat.lt_succ_of_lt hlS)
        have hSf : s.heap.objs.size ∉ [(s.heap.push { cls := .type "set", dict := none, data := .set #[] 0 (.fresh 0 0 led) }).objs.size, l] := by
          rw [Heap.size_push]; simp only [List.mem_cons, List.mem_singleton, List.not_mem_nil, or_false, not_or]
          exact ⟨Nat.ne_of_lt (Nat.lt_succ_self _), Nat.ne_of_gt hlS⟩
        refine loopG (T := T) ((Walks.list hh3 _ l hneI items).toS) s.heap.objs.size
          hSf xs hsz (by rw [← hsz]; exact hn1) hval (items.size - 0) 0 _ (by omega) (Nat.zero_le _)
          ⟨⟨_, Heap.get?_push_size _ rfl, rfl, rfl⟩, (hl1.push _)⟩ ?hS0 ?hR
        case hS0 =>
          exact ⟨0, Nat.le_refl _, (R0.at fun o ho => Heap.get?_push_of_some _ ho).congr fun k => by simp⟩
        case hR =>
          intro s' hm hS'
          obtain ⟨h', g', d', tk', os'⟩ := s'
          have eg : g' = s.gens := hm.gens
          have ed : d' = s.drawn := hm.drawn
          have eo : os' = s.os := hm.os
          subst eg; subst ed; subst eo
          show wpAny _ _ _ _ _ _
          refine wpAny_pure ?_
          show wpAny _ _ (ret Value.none) _ _ _
          obtain ⟨m, hm1, R1⟩ := hS'
          refine wpAny_pure ⟨rfl, h', tk', m, rfl, by rw [hsz]; exact hm1, R1, fun b o hb e => ?_⟩
          have hb1 : b ≠ s.heap.objs.size := Nat.ne_of_lt hb
          have hb2 : b ≠ (s.heap.push { cls := .type "set", dict := none, data := .set #[] 0 (.fresh 0 0 led) }).objs.size := by
            rw [Heap.size_push]; exact Nat.ne_of_lt (Nat.lt_succ_of_lt hb)
          exact hm.heap b o (by simp only [List.mem_cons, List.mem_singleton, List.not_mem_nil, or_false, not_or]; exact ⟨hb1, hb2⟩) (Heap.get?_push_of_some _ (Heap.get?_push_of_some _ e))

      · cases r₂ with
        | error e => exact hr₂
        | ok fl₂ =>
          cases fl₂ with
          | ret r =>
            obtain ⟨rfl, h', tk, m, rfl, hm1, hS', hk'⟩ := hr₂
            repeat (any_goals (first | assumption | wp_step))
            exact h _ _ _ hm1 hS' hk'
          | _ => exact hr₂.elim
    | _ => exact hr.elim
end
end So

namespace So
open PySem PySem.Spec PyProof.Rows L2
/-! ### there is one ascending list of the same texts -/
theorem risingS_pair : ∀ {l : List Str} {p : Str}, risingS p l = true → (p :: l).Pairwise (fun a b => a.cps.toList ≤ b.cps.toList)
  | [], p, _ => List.pairwise_singleton _ _
  | x :: r, p, h => by
    have h : (!ltCps x.cps.toList p.cps.toList && risingS x r) = true := h
    rw [Bool.and_eq_true, Bool.not_eq_true', ltCps_eq, decide_eq_false_iff_not] at h
    have ih := risingS_pair h.2
    have h1 : p.cps.toList ≤ x.cps.toList := List.not_lt.mp h.1
    refine List.pairwise_cons.mpr ⟨fun y hy => ?_, ih⟩
    rcases List.mem_cons.mp hy with e | e
    · rw [e]; exact h1
    · exact List.le_trans h1 ((List.pairwise_cons.mp ih).1 y e)
theorem sortedS_pair {l : List Str} (h : sortedS l = true) : l.Pairwise (fun a b => a.cps.toList ≤ b.cps.toList) := by
  cases l with
  | nil => exact List.Pairwise.nil
  | cons x r => exact risingS_pair h
theorem str_of_cps {a b : Str} (h : a.cps.toList = b.cps.toList) : a = b := by
  cases a
  cases b
  simp only [Str.mk.injEq]
  exact Array.toList_inj.mp h
theorem sortedS_one {a b : List Str} (ha : sortedS a = true) (hb : sortedS b = true) (na : a.Nodup) (nb : b.Nodup) (h : ∀ k, k ∈ a ↔ k ∈ b) : a = b := by
  have p : a.Perm b := (List.perm_ext_iff_of_nodup na nb).mpr h
  exact p.eq_of_pairwise (le := fun a b : Str => a.cps.toList ≤ b.cps.toList) (fun x y _ _ h1 h2 => str_of_cps (List.le_antisymm h1 h2)) (sortedS_pair ha) (sortedS_pair hb)
theorem ints_one {a b : List Int} (ha : a.Pairwise (· < ·)) (hb : b.Pairwise (· < ·)) (h : ∀ k, k ∈ a ↔ k ∈ b) : a = b := by
  have nd : ∀ {l : List Int}, l.Pairwise (· < ·) → l.Nodup := fun h => h.imp fun h e => by omega
  have p : a.Perm b := (List.perm_ext_iff_of_nodup (nd ha) (nd hb)).mpr h
  exact p.eq_of_pairwise (le := fun a b : Int => a < b) (fun x y _ _ h1 h2 => by omega) ha hb
section
variable {P : Program} {w : World} {A : Around} {E : Value → Shared → Prop} {s : Shared} {a : Addr}
theorem strs_of (P : Program) (w : World) : ∀ (l : List Value), (∀ v ∈ l, ∃ k tk, v = Value.str k tk) → StrsAre l (l.map (kyStr P w).key)
  | [], _ => .nil
  | v :: l, h => by
    obtain ⟨k, tk, rfl⟩ := h v List.mem_cons_self
    exact .cons k tk (strs_of P w l fun u hu => h u (List.mem_cons_of_mem _ hu))
theorem list_sort_treeSt {a : Addr} {vs : List Value} {ss : List Str} {n : Nat} {Q : Fin → Shared → Prop} (ho : s.heap.get? a = some (seqObj "list" vs.toArray n))
    (hS : StrsAre vs ss) (hL : vs.length ≤ sizeLine)
    (h : ∀ (out : Array Value) (ss' : List Str), StrsAre out.toList ss' → ss'.Perm ss → sortedS ss' = true → Q (.done (.ret .none)) { s with heap := sortedHeap s.heap a vs out }) :
    wpAny (model P w) A (Builtin.«list.sort» ⟨[.ref a], []⟩) Q E s := by
  refine list_sort_treeKAny strKind_oneLt ho hS.keysOf (fun v₁ v₂ rest e => keyKind_strs (by rw [← e]; exact hS)) hL fun st' hp hs => ?_
  obtain ⟨ss', h1, h2, h3⟩ := sorted_out_str hS hp hs
  exact h _ ss' h1 h2 h3
theorem sorted_setS {S : Str → Bool} {n : Nat} {Q : Value → Shared → Prop} (R : SetG (kyStr P w) s.heap a S n) (hh : A.handled = none)
    (hQ : ∀ s' p (out : Array Value) (c : Nat) (ns : List Str), (∀ b o, s.heap.get? b = some o → s'.heap.get? b = some o) → s'.gens = s.gens → s'.os = s.os → s.heap.objs.size ≤ p →
      s'.heap.get? p = some (seqObj "list" out c) → StrsAre out.toList ns → sortedS ns = true → ns.Nodup → (∀ k, k ∈ ns ↔ S k = true) → ns.length = n → Q (.ref p) s') :
    wpAny (model P w) A (call (.builtin "sorted") [.ref a]) Q E s := by
  obtain ⟨o, es, ep, t, ho, hex, hd, g, nd, hm, hb, hf, hn, hr, hl⟩ := R
  refine Calls.call_function_entry kind_sorted plain_sorted entry_sorted (args_sorted1 _) ?_
  unfold Builtin.«sorted»
  refine wpAny_bind (m := checkCount "sorted" 1 1 _) (wpAny_pure ?_)
  refine wpAny_bind (collect_set (A := A.in1) hh ⟨o, ho, hex.1, hd⟩ hf hb hr hl fun s1 vs k1 hz g1 o1 pm => ?_)
  have hvl : vs.length = n := by rw [pm.length_eq, List.length_map, Array.length_toList]; exact hn
  have hvz : vs.length ≤ sizeLine := by rw [hvl, ← hn]; exact fits_of_scanBound hb
  have hI : StrsAre vs (vs.map (kyStr P w).key) := strs_of P w vs fun v hv => by
    obtain ⟨e, he, q⟩ := List.mem_map.mp (pm.mem_iff.mp hv)
    obtain ⟨k, tk, h1, _⟩ := g e he
    exact ⟨k, tk, by rw [← q]; exact h1⟩
  have pk : (vs.map (kyStr P w).key).Perm (es.toList.map (keyG (kyStr P w))) := by
    have q := pm.map (kyStr P w).key
    rw [List.map_map] at q
    exact q
  refine wpAny_bind (wpAny_newList ?_ hvz)
  have hoL : (s1.heap.push (seqObj "list" vs.toArray 0)).get? s1.heap.objs.size = some (seqObj "list" vs.toArray 0) := Heap.get?_push_size _ rfl
  refine wpAny_bind (wpAny_holding (wpAny_call_entry slot_list_sort ⟨_, hoL, rfl⟩ entry_list_sort (list_sort_treeSt hoL hI hvz fun out ns' a1 a2 a3 => ⟨_, rfl, ?_⟩) (args_list_sort _)))
  obtain ⟨c, hc⟩ := sortedHeap_at (vs := vs) (out := out) hoL
  have pn : ns'.Perm (es.toList.map (keyG (kyStr P w))) := a2.trans pk
  refine wpAny_pure ⟨_, rfl, hQ _ s1.heap.objs.size out c ns' (fun b u e => ?_) g1 o1 hz hc a1 a3 (pn.nodup_iff.mpr nd) (fun k => by rw [pn.mem_iff, ← hm k]) ?_⟩
  · have q := k1 b u e
    have hlt := Heap.lt_size q
    show (sortedHeap (s1.heap.push (seqObj "list" vs.toArray 0)) s1.heap.objs.size vs out).get? b = some u
    rw [sortedHeap_old (Nat.ne_of_lt hlt) (by rw [size_push']; exact Nat.lt_succ_of_lt hlt)]
    exact Heap.get?_push_of_some _ q
  · rw [pn.length_eq, List.length_map, Array.length_toList]; exact hn
end
/-! ### the calls -/
section
variable {X : Cx}
/-- the set of texts at a -/
def SetS (P : Program) (w : World) (a : Addr) (S : Str → Bool) (n : Nat) : HO := .ext fun h => SetG (kyStr P w) h a S n
theorem setS_new {w : World} {P P' : Program} {H : Hp} {h : Heap} {a : Addr} {S : Str → Bool} {n : Nat} (R : SetG (kyStr P' w) h a S n) : ObjOk P w H h a (SetS P' w a S n) := by
  have ⟨o, _, _, _, ho, _⟩ := R
  exact ⟨R, ⟨o, ho⟩, fun h1 h2 p k => SetG.at p k⟩
theorem setS_get {pins : List (Addr × Obj)} {σ : L2.St} {H : Hp} {s : Shared} {a : Addr} {S : Str → Bool} {n : Nat} (I : Inv X pins σ H s) (ha : H a = some (SetS X.prog X.w a S n)) : SetG (kyStr X.prog X.w) s.heap a S n := (I.hok a _ ha).1
/-- set(list of texts) -/
def rSetS (K : PySem.W.Frag) (P : Program) (w : World) : List V → Hp → VK → Prop := fun xs H Q => ∃ (l : Addr) (ks : List Str), xs = [.ref l] ∧ SqL K H l (ks.map V.str) ∧ ks.length < 1000 ∧
  ∀ (p : Addr) (n : Nat), H p = none → n ≤ ks.length → Q (.ref p) (upd H p (SetS P w p (fun k => decide (k ∈ ks)) n))
theorem vals_at : ∀ {xs : List Str} {us : List Value}, Vals (xs.map V.str) us → ∀ (i : Nat) (v : Value), us[i]? = some v → ∃ k t, xs[i]? = some k ∧ v = Value.str k t
  | [], us, r, i, v, h => by
    cases r
    simp at h
  | x :: xs, us, r, i, v, h => by
    cases r with
    | cons r1 r =>
      obtain ⟨t, rfl⟩ := r1
      cases i with
      | zero =>
        simp at h
        exact ⟨x, t, rfl, h.symm⟩
      | succ i => exact vals_at r i v (by simpa using h)
theorem cr_setS (hc : X.calm = true) : CallR X (.type "set") (rSetS X.K X.prog X.w) := by
  intro pins s σ H xs us Q I r h
  obtain ⟨l, ks, rfl, hs, h1000, q⟩ := h
  obtain ⟨its, rv, hl, _⟩ := I.list hs
  rw [Vals.ref1 r]
  have hlen := rv.length
  rw [List.length_map] at hlen
  refine call_set_listG (T := kyStr X.prog X.w) (xs := ks) (I.ok.hd hc) hl.isList (by simpa using hlen) (fun i v hv => vals_at rv i v (by simpa using hv)) (by unfold scanBound; omega) fun h' tk m hm R k => ?_
  exact ⟨.ref _, upd H s.heap.objs.size (SetS X.prog X.w s.heap.objs.size (fun k => decide (k ∈ ks)) m), I.laid (t' := tk) (fun b u e => k b u (Heap.lt_size e) e) (Nat.le_refl _) (setS_new R), rfl, q _ _ (I.hok.fresh (Nat.le_refl _)) hm⟩
/-- sorted(set of texts) -/
def rSortSS (P : Program) (w : World) : List V → Hp → VK → Prop := fun xs H Q => ∃ (a : Addr) (S : Str → Bool) (n : Nat), xs = [.ref a] ∧ H a = some (SetS P w a S n) ∧ n < 1000 ∧
  ∀ (ns : List Str) (p : Addr), sortedS ns = true → ns.Nodup → (∀ k, k ∈ ns ↔ S k = true) → ns.length = n → H p = none → Q (.ref p) (upd H p (.lst (ns.map V.str)))
theorem cr_sortSS (hc : X.calm = true) : CallR X (.builtin "sorted") (rSortSS X.prog X.w) := by
  intro pins s σ H vs us Q I r h
  obtain ⟨a, S, n, rfl, ha, h64, q⟩ := h
  have R := setS_get I ha
  rw [Vals.ref1 r]
  refine sorted_setS R (I.ok.hd hc) fun s' p out c ns k g o hp hg hi hs hnd hm hl => ?_
  have hlen : (ns.map V.str).length ≤ sizeLine := by rw [List.length_map, hl, sizeLine_eq]; omega
  have hn : H p = none := I.hok.fresh hp
  have J : Inv X pins σ (upd H p (.lst (ns.map V.str))) { s with heap := s'.heap, gens := s'.gens, drawn := s'.drawn, toks := s'.toks } :=
    I.call (ch := []) (Un.laid k hp hn) (I.hok.laid k hp ⟨hlen, out.toList, c, vals_of_strs hi, hg⟩) (by rw [g]; exact I.bare) (fun _ z => nomatch z)
  have e : s' = { s with heap := s'.heap, gens := s'.gens, drawn := s'.drawn, toks := s'.toks } := by
    cases s'
    cases s
    cases o
    rfl
  rw [e]
  exact ⟨.ref p, _, J, rfl, q ns p hs hnd hm hl hn⟩
/-! ### ints -/
def kyInt (P : Program) (w : World) : KyT P w Int where
  knd := PySem.intKind P w
  mkv := Value.int
  key := fun v => match v with | .int k _ => k | _ => 0
  hk := fun _ _ => rfl
  his := fun k t => intKind_is P w k t
  iff := fun k k0 t => by
    show ((k0 == k) = true) ↔ k0 = k
    exact beq_iff_eq
  hsc := fun _ _ => rfl
theorem setR_of {P : Program} {w : World} {h : Heap} {a : Addr} {S : Int → Bool} {n : Nat} (R : SetG (kyInt P w) h a S n) : SetR w h a S n := by
  obtain ⟨o, es, ep, t, ho, hex, hd, g, nd, hm, r⟩ := R
  exact ⟨o, es, ep, t, ho, hex, hd, g, nd, hm, r⟩
/-- set(list of ints) -/
def rSetI2 (K : PySem.W.Frag) (w : World) : List V → Hp → VK → Prop := fun xs H Q => ∃ (l : Addr) (ks : List Int), xs = [.ref l] ∧ SqL K H l (ks.map V.int) ∧ ks.length < 1000 ∧
  ∀ (p : Addr) (n : Nat), H p = none → n ≤ ks.length → Q (.ref p) (upd H p (SetO w p (fun k => decide (k ∈ ks)) n))
theorem vals_atI2 : ∀ {xs : List Int} {us : List Value}, Vals (xs.map V.int) us → ∀ (i : Nat) (v : Value), us[i]? = some v → ∃ k t, xs[i]? = some k ∧ v = Value.int k t
  | [], us, r, i, v, h => by
    cases r
    simp at h
  | x :: xs, us, r, i, v, h => by
    cases r with
    | cons r1 r =>
      obtain ⟨t, rfl⟩ := r1
      cases i with
      | zero =>
        simp at h
        exact ⟨x, t, rfl, h.symm⟩
      | succ i => exact vals_atI2 r i v (by simpa using h)
theorem cr_setI2 (hc : X.calm = true) : CallR X (.type "set") (rSetI2 X.K X.w) := by
  intro pins s σ H xs us Q I r h
  obtain ⟨l, ks, rfl, hs, h1000, q⟩ := h
  obtain ⟨its, rv, hl, _⟩ := I.list hs
  rw [Vals.ref1 r]
  have hlen := rv.length
  rw [List.length_map] at hlen
  refine call_set_listG (T := kyInt X.prog X.w) (xs := ks) (I.ok.hd hc) hl.isList (by simpa using hlen) (fun i v hv => vals_atI2 rv i v (by simpa using hv)) (by unfold scanBound; omega) fun h' tk m hm R k => ?_
  exact ⟨.ref _, upd H s.heap.objs.size (SetO X.w s.heap.objs.size (fun k => decide (k ∈ ks)) m), I.laid (t' := tk) (fun b u e => k b u (Heap.lt_size e) e) (Nat.le_refl _) (setO_new (setR_of R)), rfl, q _ _ (I.hok.fresh (Nat.le_refl _)) hm⟩
end
end So

/-! a comprehension of two fors: the outer walk, the inner walk -/
namespace So
open PySem PySem.Spec PyProof.Rows L2
/-- what the inner for of a comprehension asks; Nx: what holds behind it -/
def Inn (J : It) (g : TG) (tt : TT) (te : TE) (vs : List Nat) (σ : L2.St) (D : Addr) (H0 : Hp) (Nx : Hp → Prop) : Prop :=
  ∃ W1 : Nat → Nat → Hp → Prop, (∃ m, W1 0 m H0) ∧ ∀ j k H, W1 j k H → (J.stop j H ∧ Nx H) ∨ (J.go j H ∧ ∃ N1 : Hp → Prop, (∀ H', N1 H' → ∃ k', k' < k ∧ W1 (j + 1) k' H') ∧ ∀ x H', J.yld j H x H' → g x (wipe σ vs) H' fun σ3 H5 => wipe σ3 vs = wipe σ vs ∧ tt σ3 H5 fun b H6 =>
    if b = true then te σ3 H6 fun y H7 => ∃ acc, H7 D = some (.lst acc) ∧ acc.length < sizeLine ∧ N1 (upd H7 D (.lst (acc ++ [y]))) else N1 H6)
section
variable {n : Nat} {J : It} {G : Hp → Prop} {Y : Nat → Hp → V → Hp → Prop}
theorem inn_it (w : Walk J n G Y) {g : TG} {tt : TT} {te : TE} {vs : List Nat} {σ : L2.St} {H0 : Hp} {D : Addr} {Nx : Hp → Prop} (Pv : Nat → Hp → Prop) (h0 : Pv 0 H0) (hG : ∀ i H, i ≤ n → Pv i H → G H)
    (hs : ∀ i x H H', i < n → Pv i H → Y i H x H' → g x (wipe σ vs) H' fun σ2 H2 => wipe σ2 vs = wipe σ vs ∧ tt σ2 H2 fun b H3 =>
      if b = true then te σ2 H3 fun y H4 => ∃ acc, H4 D = some (.lst acc) ∧ acc.length < sizeLine ∧ Pv (i + 1) (upd H4 D (.lst (acc ++ [y]))) else Pv (i + 1) H3) (hd : ∀ H, Pv n H → Nx H) : Inn J g tt te vs σ D H0 Nx := by
  refine ⟨fun i m H => m = n - i ∧ i ≤ n ∧ Pv i H, ⟨n, (Nat.sub_zero n).symm, Nat.zero_le _, h0⟩, ?_⟩
  rintro i m H ⟨rfl, hi, p⟩
  have q := hG i H hi p
  rcases Nat.lt_or_ge i n with hlt | hge
  · refine .inr ⟨w.goes i H hlt q, Pv (i + 1), fun H' p' => ⟨n - (i + 1), by omega, rfl, hlt, p'⟩, fun x H' y => hs i x H H' hlt p (w.yields i H x H' hlt q y)⟩
  · obtain rfl : i = n := by omega
    exact .inl ⟨w.stops H q, hd H p⟩
theorem lc2_it (w : Walk J n G Y) {g g1 : TG} {tt tt1 : TT} {te : TE} {wi1 : TI} {vs vs1 : List Nat} {σ : L2.St} {H1 : Hp} {D : Addr} {Qd : Hp → Prop} (Pv : Nat → Hp → Prop) (h0 : Pv 0 (upd H1 D (.lst []))) (hG : ∀ i H, i ≤ n → Pv i H → G H)
    (hs : ∀ i x H H', i < n → Pv i H → Y i H x H' → g x (wipe σ vs) H' fun σ2 H2 => wipe σ2 vs = wipe σ vs ∧ tt σ2 H2 fun b H3 =>
      if b = true then wi1 σ2 H3 fun J1 H4 => Inn J1 g1 tt1 te vs1 σ2 D H4 (Pv (i + 1)) else Pv (i + 1) H3) (hd : ∀ H, Pv n H → Qd H) :
    ∃ W : Nat → Nat → Hp → Prop, (∃ m, W 0 m (upd H1 D (.lst []))) ∧ ∀ i m H, W i m H →
      (J.stop i H ∧ Qd H) ∨ (J.go i H ∧ ∃ Nx : Hp → Prop, (∀ H', Nx H' → ∃ m', m' < m ∧ W (i + 1) m' H') ∧ ∀ x H', J.yld i H x H' → g x (wipe σ vs) H' fun σ2 H2 => wipe σ2 vs = wipe σ vs ∧ tt σ2 H2 fun b H3 =>
        if b = true then wi1 σ2 H3 fun J1 H4 => Inn J1 g1 tt1 te vs1 σ2 D H4 Nx else Nx H3) := by
  refine ⟨fun i m H => m = n - i ∧ i ≤ n ∧ Pv i H, ⟨n, (Nat.sub_zero n).symm, Nat.zero_le _, h0⟩, ?_⟩
  rintro i m H ⟨rfl, hi, p⟩
  have q := hG i H hi p
  rcases Nat.lt_or_ge i n with hlt | hge
  · refine .inr ⟨w.goes i H hlt q, Pv (i + 1), fun H' p' => ⟨n - (i + 1), by omega, rfl, hlt, p'⟩, fun x H' y => hs i x H H' hlt p (w.yields i H x H' hlt q y)⟩
  · obtain rfl : i = n := by omega
    exact .inl ⟨w.stops H q, hd H p⟩
end
end So

/-! the truth of an instance by its own __bool__, bool(x) and len(x) by own __bool__ and __len__ -/
namespace So
open PySem PySem.Spec PyProof.Rows L2
section
variable {X : Cx} {CX : CXT} {k : Nat} {C f : Addr} {fd : FuncData} {ps : List Str} {sp : Sp} {E : XK}
/-- a method of one argument, called a room deeper or here -/
theorem run_one {pins : List (Addr × Obj)} {s : Shared} {σ : L2.St} {H : Hp} {a : Addr} {Q : VK} {A : Around} (F : FnOk X.prog X.w X.K X.mg X.base CX k f fd ps sp) (hb : Binds X.K fd ps [])
    (hx : Passes CX X E) (hr : Room k A) (hf : A.frames = X.A.frames) (I : Inv X pins σ H s) (h : sp [.ref a] H Q E) : wpAny (model X.prog X.w) A (call (.ref f) [.ref a]) (EP X pins σ Q) X.xe s := by
  have e0 : Env0 X.prog X.w X.K X.mg X.base A X.stack s H := by
    have e := I.env0
    exact ⟨hf.trans e.frames, e.mod, e.bs, e.bsz, e.funs, e.frf, e.hok, e.bare⟩
  have hl : ([Value.ref a] ++ ([] : List Value)).length = ps.length := (F.len _ _ _ _ h : [V.ref a].length = ps.length)
  refine wpAny_call (codeAny_mono (F.run A X.stack s H ⟨[.ref a], []⟩ ([Value.ref a] ++ []) [.ref a] Q E hr e0 (hb s [Value.ref a] I.kIn hl) (.cons (show RelV (.ref a) (Value.ref a) from rfl) .nil) h) fun r s' hq => ?_)
  cases r with
  | error e => exact hx pins σ H s e s' I hq
  | ok fl =>
    cases fl with
    | ret w => exact I.after hq
    | next => exact False.elim hq
    | brk => exact False.elim hq
    | cont => exact False.elim hq
/-- as a test -/
theorem pt_own {e : Expr} {t : TE} (F : FnOk X.prog X.w X.K X.mg X.base CX k f fd ps sp) (hs : PySem.W.findIn X.K (.ref C) "__bool__" = some (some (.ref f))) (hf : PySem.W.isFn X.K (.ref f) = true) (hb : Binds X.K fd ps []) (hx : Passes CX X E) (hr : Room k X.A)
    (h : PE X e t) (he : ∀ whole, isTrue e X.env whole = (do let v ← whole; standAt e.pos; holding [v] (truthy v)) := by intro _; rfl) :
    PT X e (fun σ H Q => t σ H fun x H1 => ∃ a dx fs, x = .ref a ∧ H1 a = some (.ins C dx fs) ∧ sp [.ref a] H1 (fun v H' => ∃ b, v = .bl b ∧ Q b H') E) := by
  refine ⟨fun pins s σ H Q I hw => ?_⟩
  refine isTrue_plain (thn (h.run pins s σ H _ I hw) fun v s1 ⟨x, H1, I1, r1, q1⟩ => ?_) (he _)
  obtain ⟨a, dx, fs, rfl, ha, q⟩ := q1
  cases r1
  obtain ⟨mA, J, _⟩ := ins_get I1.hok ha
  obtain ⟨od, J, _⟩ := J.look
  obtain ⟨m, hF⟩ := I1.fr
  refine PySem.W.truthy_K hF I1.ok.mod.kin J hs hf (wpAny_mono (run_one F hb hx hr rfl I1 q) (fun w s' z => ?_) fun _ _ z => z)
  obtain ⟨v, H', I', rv, b, rfl, q'⟩ := z
  cases rv
  exact ⟨H', I', q'⟩
/-- len(x) -/
theorem call_lenO (F : FnOk X.prog X.w X.K X.mg X.base CX k f fd ps sp) (hs : PySem.W.findIn X.K (.ref C) "__len__" = some (some (.ref f))) (hf : PySem.W.isFn X.K (.ref f) = true) (hb : Binds X.K fd ps []) (hx : Passes CX X E) (hr : Room (k + 1) X.A) :
    CallR X (.builtin "len") (fun xs H Q => ∃ a dx fs, xs = [.ref a] ∧ H a = some (.ins C dx fs) ∧ sp [.ref a] H (fun v H' => ∃ n : Nat, v = .int n ∧ (n : Int) < 2 ^ 63 ∧ Q (.int n) H') E) := by
  intro pins s σ H xs us Q I r h
  obtain ⟨a, dx, fs, rfl, ha, q⟩ := h
  rw [Vals.ref1 r]
  obtain ⟨mA, J, _⟩ := ins_get I.hok ha
  obtain ⟨od, J, _⟩ := J.look
  obtain ⟨m, hF⟩ := I.fr
  refine PySem.W.len_K hF I.ok.mod.kin J hs hf (wpAny_mono (run_one F hb hx hr.in1 rfl I q) (fun w s' z => ?_) fun _ _ z => z)
  obtain ⟨v, H', I', rv, n, rfl, hn, q'⟩ := z
  obtain ⟨t, rfl⟩ := rv
  exact ⟨⟨Int.natCast_nonneg n, hn⟩, .int n, H', I'.tok _, ⟨_, rfl⟩, q'⟩
/-- bool(x) -/
theorem call_boolO (G : FnOk X.prog X.w X.K X.mg X.base CX k f fd ps sp) (hs : PySem.W.findIn X.K (.ref C) "__bool__" = some (some (.ref f))) (hf : PySem.W.isFn X.K (.ref f) = true) (hb : Binds X.K fd ps []) (hx : Passes CX X E) (hr : Room (k + 2) X.A) :
    CallR X (.type "bool") (fun xs H Q => ∃ a dx fs, xs = [.ref a] ∧ H a = some (.ins C dx fs) ∧ sp [.ref a] H (fun v H' => ∃ b, v = .bl b ∧ Q (.bl b) H') E) := by
  intro pins s σ H xs us Q I r h
  obtain ⟨a, dx, fs, rfl, ha, q⟩ := h
  rw [Vals.ref1 r]
  obtain ⟨mA, J, _⟩ := ins_get I.hok ha
  obtain ⟨od, J, _⟩ := J.look
  obtain ⟨m, hF⟩ := I.fr
  have tr : ∀ (R : Bool → Shared → Prop), (∀ b s' H', Inv X pins σ H' s' → Q (.bl b) H' → R b s') → wpAny (model X.prog X.w) X.A.in1.in1 (truthy (.ref a)) R X.xe s := fun R hR => by
    refine PySem.W.truthy_K hF I.ok.mod.kin J hs hf (wpAny_mono (run_one G hb hx hr.in1.in1 rfl I q) (fun w s' z => ?_) fun _ _ z => z)
    obtain ⟨v, H', I', rv, b, rfl, q'⟩ := z
    cases rv
    exact hR b s' H' I' q'
  refine callType_codes (Q₁ := fun ob s1 => ∃ b H', ob = .bool b ∧ Inv X pins σ H' s1 ∧ Q (.bl b) H') PySem.F.called_bool (PySem.F.typeCall_bool_1 _) PySem.F.entry_object_init (codeAny_call_builtin PySem.F.called_bool.plain F.entry_bool_new (wpAny_of_eq (PySem.F.newCall_bool_1 _) ?_)) fun ob s1 hq => ?_
  · have f1 := PySem.F.conv_sub_bool
    refine wpAny_mono (Q := fun fin s' => ∃ b H', fin = .done (.ret (.bool b)) ∧ Inv X pins σ H' s' ∧ Q (.bl b) H') ?_ (fun fin s' z => ?_) fun _ _ z => z
    · unfold Builtin.«bool.__new__»
      repeat (any_goals (first | assumption | (with_reducible refine tr _ fun b s' H' I' q' => ?_) | wp_step))
      exact ⟨_, _, rfl, I', q'⟩
    · obtain ⟨b, H', rfl, I', q'⟩ := z
      exact ⟨b, H', rfl, I', q'⟩
  · obtain ⟨b, H', rfl, I', q'⟩ := hq
    refine ⟨rfl, PySem.F.args_object_init_2 _ _, ?_⟩
    exact object_init_meets PySem.F.called_bool.init.lookup PySem.F.called_bool.made PySem.F.newNe_bool X.prog X.w X.A.in1 _ s1 ⟨rfl, rfl, .bl b, H', I', rfl, q'⟩
end
end So

/-! rules within a comprehension's block, the written part told -/
namespace So
open PySem PySem.Spec PyProof.Rows L2
section
variable {X : Cx} {K : PySem.W.Frag} {tg l e : Expr} {tl ta : TE} {f : Str} {pos : Pos}
theorem pi_tupK (h : X.K = K) (hl : PE X l tl) : PI X tg l (iTup K tl) := by
  subst h
  exact pi_tup hl
theorem pi_listK (h : X.K = K) (hl : PE X l tl) : PI X tg l (iList K tl) := by
  subst h
  exact pi_list hl
theorem pe_fldK (h : X.K = K) (he : PE X e ta) (hb : attributeBase e f X.env (eval e X.env) = eval e X.env) : PE X (.Attribute e f pos) (tFld K ta f) := by
  subst h
  exact pe_fld he hb
theorem ix_listK (h : X.K = K) : IxR X (rIxL K) := h ▸ ix_list
theorem ix_tupK (h : X.K = K) : IxR X (rIxT K) := h ▸ ix_tup
theorem op_inK (h : X.K = K) : OpR X (compareOp .In) (rIn K false) := by
  subst h
  exact op_in_seq
theorem op_notInK (h : X.K = K) : OpR X (compareOp .NotIn) (rIn K true) := by
  subst h
  exact op_notIn_seq
theorem lenK (h : X.K = K) : CallR X (.builtin "len") (fun xs H Q => ∃ (p : Addr) (ys : List V), xs = [V.ref p] ∧ (SqL K H p ys ∨ SqT K H p ys) ∧ Q (.int (ys.length : Nat)) H) := by
  subst h
  exact call_len_seq
end
end So

namespace K08
open PySem PySem.Spec PyProof.Rows L2 So
abbrev sListed : Stmt := inClass (topS 20) 2
abbrev sLen : Stmt := inClass (topS 20) 7
theorem scListed : FnScope ["self", "tool", "moments", "moment"] ["self"] (defScope sListed) := ⟨rfl, rfl, rfl, by decide +kernel, rfl, by decide +kernel, by decide +kernel⟩
theorem scLen : FnScope ["self"] ["self"] (defScope sLen) := ⟨rfl, rfl, rfl, by decide +kernel, rfl, by decide +kernel, by decide +kernel⟩
def ins1 (k : Int) : List Int → List Int
  | [] => [k]
  | x :: r => if k < x then k :: x :: r else if k = x then x :: r else x :: ins1 k r
def srt (l : List Int) : List Int := l.foldr ins1 []
theorem mem_ins1 {k j : Int} : ∀ {l : List Int}, j ∈ ins1 k l ↔ j = k ∨ j ∈ l
  | [] => by simp [ins1]
  | x :: r => by
    unfold ins1
    split
    · simp
    · split
      · rename_i h
        subst h
        simp
      · rw [List.mem_cons, mem_ins1 (l := r), List.mem_cons]
        constructor
        · rintro (h | h | h) <;> simp [h]
        · rintro (h | h | h) <;> simp [h]
theorem asc_ins1 {k : Int} : ∀ {l : List Int}, l.Pairwise (· < ·) → (ins1 k l).Pairwise (· < ·)
  | [], _ => by simp [ins1]
  | x :: r, h => by
    rw [List.pairwise_cons] at h
    unfold ins1
    split
    · rename_i hk
      refine List.pairwise_cons.mpr ⟨fun j hj => ?_, List.pairwise_cons.mpr h⟩
      rcases List.mem_cons.mp hj with e | e
      · omega
      · have := h.1 j e
        omega
    · split
      · exact List.pairwise_cons.mpr h
      · refine List.pairwise_cons.mpr ⟨fun j hj => ?_, asc_ins1 h.2⟩
        rcases mem_ins1.mp hj with e | e
        · omega
        · exact h.1 j e
theorem srt_asc : ∀ l : List Int, (srt l).Pairwise (· < ·)
  | [] => .nil
  | x :: r => asc_ins1 (srt_asc r)
theorem srt_mem {k : Int} : ∀ {l : List Int}, k ∈ srt l ↔ k ∈ l
  | [] => by simp [srt]
  | x :: r => by
    show k ∈ ins1 x (srt r) ↔ _
    rw [mem_ins1, srt_mem (l := r), List.mem_cons]
theorem srt_one {l ns : List Int} (h : l.Pairwise (· < ·)) (hm : ∀ k, k ∈ l ↔ k ∈ ns) : l = srt ns := pairwise_ext h (srt_asc ns) fun k => (hm k).trans srt_mem.symm
section
variable {P : Program} {w : World} {K : PySem.W.Frag} {mg : Str → Option Value} {base : Heap}
/-- an entry of the lives' dict: a tool and the tuple of its beginnings -/
def EntL (H : Hp) (kv : Key × V) (p : Str × List Int) : Prop := kv.1 = Sum.inr p.1 ∧ ∃ t, kv.2 = .ref t ∧ H t = some (.tup (p.2.map V.int))
/-- at a stand the lives L, in order -/
def LsAt (C : Addr) (H : Hp) (a : Addr) (L : List (Str × List Int)) : Prop := ∃ (dx d : Addr) (kvs : List (Key × V)), H a = some (.ins C dx [("_begun", .ref d)]) ∧ H d = some (.dK kvs) ∧ Paired (EntL H) kvs L
theorem EntL.same {H H' : Hp} {kv : Key × V} {p : Str × List Int} (h : EntL H kv p) (s : Same H H') : EntL H' kv p := by
  obtain ⟨e, t, e1, e2⟩ := h
  exact ⟨e, t, e1, s _ _ e2⟩
theorem LsAt.same {C : Addr} {H H' : Hp} {a : Addr} {L : List (Str × List Int)} (h : LsAt C H a L) (s : Same H H') : LsAt C H' a L := by
  obtain ⟨dx, d, kvs, h1, h2, h3⟩ := h
  exact ⟨dx, d, kvs, s _ _ h1, s _ _ h2, L2.Paired.mapP h3 fun _ _ e => e.same s⟩
theorem ls_get {H : Hp} (z : Str) : ∀ {kvs : List (Key × V)} {L : List (Str × List Int)}, Paired (EntL H) kvs L →
    (L.lookup z = none → valV kvs (.inr z) = none) ∧ ∀ ns, L.lookup z = some ns → ∃ t, valV kvs (.inr z) = some (.ref t) ∧ H t = some (.tup (ns.map V.int))
  | _, _, .nil => ⟨fun _ => rfl, fun ns e => by cases e⟩
  | _, _, .cons (a := kv) (b := p) h t => by
    obtain ⟨e, t', e1, e2⟩ := h
    obtain ⟨zp, ns'⟩ := p
    obtain ⟨kk, kv2⟩ := kv
    have e : kk = Sum.inr zp := e
    subst e
    by_cases c : z = zp
    · subst c
      refine ⟨fun hn => ?_, fun ns hn => ⟨t', (valV_pos rfl).trans (congrArg some e1), ?_⟩⟩
      · rw [List.lookup_cons, beq_self_eq_true] at hn
        cases hn
      · rw [List.lookup_cons, beq_self_eq_true] at hn
        cases hn
        exact e2
    · have en : ¬ (Sum.inr zp : Key) = Sum.inr z := fun y => c (Sum.inr.inj y).symm
      have eb : (z == zp) = false := beq_eq_false_iff_ne.mpr c
      obtain ⟨r1, r2⟩ := ls_get z t
      refine ⟨fun hn => ?_, fun ns hn => ?_⟩
      · rw [List.lookup_cons, eb] at hn
        rw [valV_neg en]
        exact r1 hn
      · rw [List.lookup_cons, eb] at hn
        rw [valV_neg en]
        exact r2 ns hn
theorem lookup_not {z : Str} : ∀ {L : List (Str × List Int)}, z ∉ L.map (·.1) → L.lookup z = none
  | [], _ => rfl
  | (y, ns) :: r, h => by
    rw [List.map_cons, List.mem_cons, not_or] at h
    rw [List.lookup_cons, show (z == y) = false from beq_eq_false_iff_ne.mpr h.1]
    exact lookup_not h.2
theorem lookup_mem {z : Str} {ns : List Int} : ∀ {L : List (Str × List Int)}, (L.map (·.1)).Nodup → (z, ns) ∈ L → L.lookup z = some ns
  | [], _, h => nomatch h
  | (y, ms) :: r, hn, h => by
    rw [List.map_cons, List.nodup_cons] at hn
    rcases List.mem_cons.mp h with e | e
    · cases e
      rw [List.lookup_cons, beq_self_eq_true]
    · have : z ≠ y := fun q => hn.1 (q ▸ List.mem_map_of_mem (f := (·.1)) e)
      rw [List.lookup_cons, show (z == y) = false from beq_eq_false_iff_ne.mpr this]
      exact lookup_mem hn.2 e
theorem lookup_in {z : Str} {ns : List Int} : ∀ {L : List (Str × List Int)}, L.lookup z = some ns → (z, ns) ∈ L
  | [], h => nomatch h
  | (y, ms) :: r, h => by
    rw [List.lookup_cons] at h
    by_cases c : z = y
    · subst c
      rw [beq_self_eq_true] at h
      cases h
      exact List.mem_cons_self
    · rw [show (z == y) = false from beq_eq_false_iff_ne.mpr c] at h
      exact List.mem_cons_of_mem _ (lookup_in h)
/-- the lives as they are told -/
structure LOk (L : List (Str × List Int)) : Prop where
  srt : sortedS (L.map (·.1)) = true
  nd : (L.map (·.1)).Nodup
  few : L.length < 64
  ns : ∀ z ns, (z, ns) ∈ L → isName z = true ∧ z.length ≤ 2000 ∧ ∃ l : List Int, ns = 0 :: l ∧ l.length < 64 ∧ (∀ n ∈ l, gBeg (.int n) = true) ∧ l.Pairwise (· < ·)
/-- a dict of beginnings: what Lives is made of, for the lives L -/
def BgL (K : PySem.W.Frag) (H : Hp) (d : Addr) (L : List (Str × List Int)) : Prop := ∃ (kvs : List (Key × V)) (ks : List Str), H d = some (.dK kvs) ∧ kvs.map (·.1) = ks.map Sum.inr ∧ ks.Perm (L.map (·.1)) ∧
  ∀ z ns, (z, ns) ∈ L → ∃ (l : Addr) (ms : List Int), valV kvs (.inr z) = some (.ref l) ∧ (SqL K H l (ms.map V.int) ∨ SqT K H l (ms.map V.int)) ∧ ms.length < 64 ∧ (∀ n ∈ ms, gBeg (.int n) = true) ∧ ns = 0 :: srt ms
theorem BgL.same {d : Addr} {H H' : Hp} {L : List (Str × List Int)} (h : BgL K H d L) (s : Same H H') : BgL K H' d L := by
  obtain ⟨kvs, ks, h1, h2, h3, h6⟩ := h
  refine ⟨kvs, ks, s _ _ h1, h2, h3, fun z ns e => ?_⟩
  obtain ⟨l, ms, e1, e2, e3⟩ := h6 z ns e
  exact ⟨l, ms, e1, sq_same e2 s, e3⟩
/-- Lives.__init__ of such a dict -/
def spLInitL (K : PySem.W.Frag) (C : Addr) : Sp := fun vs H Q _ => ∃ (x dx d : Addr) (L : List (Str × List Int)), vs = [.ref x, .ref d] ∧ H x = some (.ins C dx []) ∧ BgL K H d L ∧ LOk L ∧ ∀ H', Off x H H' → LsAt C H' x L → Q .non H'
theorem ok_linitL {f C fW : Addr} {fd fdW : FuncData} (F : Fun K "__init__" "Lives.__init__" sLInit f fd) (T : Lvs K mg C) (L : WordsL mg) (FW : Fun K "with_first" "with_first" sWith fW fdW) (bW : Binds K fdW ["tool", "moments"] []) (gW : mg "with_first" = some (.ref fW))
    (GW : FnOk P w K mg base CX0 4 fW fdW ["tool", "moments"] (spWith K)) : FnOk P w K mg base CX0 5 f fd ["self", "begun"] (spLInitL K C) := by
  refine F.ok scLInit (fun vs H Q E h => ?_) (fun cdv A outer s H vs Q E hr h => ?_)
  · obtain ⟨x, dx, d, F, rfl, _⟩ := h
    rfl
  · obtain ⟨x, dx, d, L0, rfl, hx, hb, hO, q⟩ := h
    obtain ⟨kvs, ks, hd, hk, hpm, hv⟩ := id hb
    have h64 : ks.length < 64 := by rw [hpm.length_eq, List.length_map]; exact hO.few
    refine ⟨_, pss_one (ps_fld (pv 0) (pe_dc (own := [("tool", 2)]) (g := gName 2) (tt := tYes) rfl scLInit.nd (pi_list (pe_callB (call_sortedD rfl) (by rfl) L.sorted (by decide +kernel) (pa_cons (pv 1) pa_nil))) (blkOk_by (N := ["self", "begun", "tool"]) (sc := defScope sLInit) (by decide +kernel))
        (fun _ _ _ _ _ => pg_name (i := 2) scLInit.nd rfl (Or.inl rfl)) (fun _ _ _ _ _ => pts_nil) (fun _ _ _ _ _ => pv 2)
        (fun _ _ _ _ _ => pe_call GW hr (by rfl) gW FW.kp bW .nil pass0 (pa_cons (pv 2) (pa_cons (pe_dget (hu_of hr) (pv 1) (pv 2) (fun _ _ => rfl)) pa_nil)))) rfl), ?_⟩
    refine ⟨_, rfl, d, kvs, ks, rfl, .inl hd, hk, h64, fun ys p hp hsrt hpn => ⟨p, rfl, ⟨_, SqL.of upd_same⟩, fun D hD => ?_⟩⟩
    have sp : Same H (upd H p (.lst (ys.map V.str))) := same_upd0 hpn
    obtain rfl : ys = L0.map (·.1) := sortedS_one hsrt hO.srt (((hp.trans hpm).nodup_iff).mpr hO.nd) hO.nd fun k => (hp.trans hpm).mem_iff
    refine dc_it walk_list (fun i H' => Same (upd H p (.lst ((L0.map (·.1)).map V.str))) H' ∧ ∃ kvs' : List (Key × V), H' D = some (.dK kvs') ∧ Paired (EntL H') kvs' (L0.take i)) ⟨same_upd0 hD, [], upd_same, .nil⟩ (fun _ _ _ y => SqL.of (y.1 _ _ upd_same)) ?_ ?_
    · rintro i v H2 H3 hi ⟨s2, kvs', hD2, y2⟩ ⟨rfl, hv2⟩
      rw [List.length_map, List.length_map] at hi
      obtain ⟨⟨z, ns⟩, hz⟩ : ∃ p, L0[i]? = some p := ⟨_, List.getElem?_eq_getElem hi⟩
      rw [List.getElem?_map, List.getElem?_map, hz] at hv2
      obtain rfl : V.str z = v := Option.some.inj hv2
      have hmem := List.mem_of_getElem? hz
      obtain ⟨hn1, hn2, _⟩ := hO.ns z ns hmem
      obtain ⟨l, ms, hl1, hl3, hl4, hl5, rfl⟩ := hv z ns hmem
      have sA := sp.trans s2
      have et : L0.take (i + 1) = L0.take i ++ [(z, 0 :: srt ms)] := by rw [List.take_add_one, hz]; rfl
      have hfresh : valV kvs' (.inr z) = none := by
        refine (ls_get z y2).1 (lookup_not fun hin => ?_)
        have nd := hO.nd
        rw [← List.take_append_drop i L0, List.map_append, List.nodup_append] at nd
        have hdrop : z ∈ (L0.drop i).map (·.1) := by
          refine List.mem_map.mpr ⟨(z, 0 :: srt ms), ?_, rfl⟩
          refine List.mem_of_getElem? (i := 0) ?_
          rw [List.getElem?_drop, Nat.add_zero]
          exact hz
        exact nd.2.2 z hin z hdrop rfl
      have hl2 : kvs'.length ≤ i := by
        rw [Paired.length y2, List.length_take]
        exact Nat.min_le_left _ _
      refine ⟨rfl, _, rfl, _, rfl, _, rfl, _, rfl, d, _, rfl, .inl ⟨kvs, .inr z, .inl (sA _ _ hd), rfl, hl1.symm⟩, ?_⟩
      have few := hO.few
      refine ⟨z, l, ms, rfl, hn1, hn2, sq_same hl3 sA, hl4, hl5, fun t later H4 s4 hw hm ht => ?_⟩
      obtain rfl : later = srt ms := srt_one hw hm
      refine ⟨kvs', .inr z, rfl, s4 _ _ hD2, Nat.lt_of_le_of_lt hl2 (by have := sizeLine_eq; omega), ?_⟩
      have nD : ∀ {t : Addr} {xs : List V}, H4 t = some (.tup xs) → t ≠ D := fun ht z => by rw [z, s4 _ _ hD2] at ht; cases ht
      refine ⟨fun b o e => ?_, _, upd_same, ?_⟩
      · rw [upd_ne (ne_of_none e hD)]
        exact s4 _ _ (s2 _ _ e)
      · rw [putK_new _ hfresh, et]
        refine Paired.snoc (L2.Paired.mapP y2 fun kv p e => ?_) ⟨rfl, t, rfl, (upd_ne (nD ht)).trans ht⟩
        obtain ⟨e0, t2, e1, e2⟩ := e
        have e3 := s4 _ _ e2
        exact ⟨e0, t2, e1, (upd_ne (nD e3)).trans e3⟩
    · rintro H2 ⟨s2, kvs', hD2, y2⟩
      have sA := sp.trans s2
      refine ⟨_, rfl, x, C, dx, [], rfl, sA _ _ hx, T.cl, T.nB, (by show 0 < 1000; decide), ?_⟩
      have nDx : D ≠ x := fun z => by rw [z, sA _ _ hx] at hD2; cases hD2
      rw [List.length_map, List.length_map, List.take_length] at y2
      refine q _ (fun b o n e => (upd_ne n).trans (sA _ _ e)) ⟨dx, D, kvs', upd_same, (upd_ne nDx).trans hD2, L2.Paired.mapP y2 fun kv p e => ?_⟩
      obtain ⟨e0, t2, e1, e2⟩ := e
      exact ⟨e0, t2, e1, (upd_ne (fun y => by rw [y, sA _ _ hx] at e2; cases e2)).trans e2⟩
/-- a life, as it is kept -/
def LfAt (H : Hp) (j : Addr) (e : Str × Int) : Prop := H j = some (.tup [.str e.1, .int e.2])
/-- the lives one by one -/
def lvs (L : List (Str × List Int)) : List (Str × Int) := L.flatMap fun p => p.2.map fun n => (p.1, n)
theorem lvs_len : ∀ {L : List (Str × List Int)} {m : Nat}, (∀ p ∈ L, p.2.length ≤ m) → (lvs L).length ≤ L.length * m
  | [], _, _ => by simp [lvs]
  | p :: r, m, h => by
    have h1 := lvs_len (L := r) (m := m) fun q hq => h q (List.mem_cons_of_mem _ hq)
    have h2 := h p List.mem_cons_self
    show ((p.2.map fun n => (p.1, n)) ++ lvs r).length ≤ _
    rw [List.length_append, List.length_map, List.length_cons, Nat.succ_mul]
    omega
theorem LOk.small {L : List (Str × List Int)} (h : LOk L) : (lvs L).length ≤ 64 * 64 := by
  refine Nat.le_trans (lvs_len (m := 64) fun p hp => ?_) (Nat.mul_le_mul (Nat.le_of_lt h.few) (Nat.le_refl _))
  obtain ⟨_, _, l, e, h1, _⟩ := h.ns p.1 p.2 hp
  rw [e, List.length_cons]
  omega
theorem lvs_mem {L : List (Str × List Int)} {z : Str} {n : Int} : (z, n) ∈ lvs L ↔ ∃ ns, (z, ns) ∈ L ∧ n ∈ ns := by
  unfold lvs
  rw [List.mem_flatMap]
  constructor
  · rintro ⟨⟨z', ns⟩, h1, h2⟩
    obtain ⟨m, h3, h4⟩ := List.mem_map.mp h2
    cases h4
    exact ⟨ns, h1, h3⟩
  · rintro ⟨ns, h1, h2⟩
    exact ⟨_, h1, List.mem_map.mpr ⟨n, h2, rfl⟩⟩
theorem unlock_same {H H' : Hp} {d : Addr} {u o : HO} (h : H d = some u) (s : Same (upd H d o) H') : Same H (upd H' d u) := fun b x e => by
  by_cases c : b = d
  · subst c
    rw [upd_same]
    exact h.symm.trans e
  · rw [upd_ne c]
    exact s _ _ ((upd_ne c).trans e)
theorem over3 {H H1 : Hp} {D : Addr} {o : HO} (s : Same H H1) (h : H D = none) : Same H (upd H1 D o) := Same.over s h
/-- all lives, one by one -/
def spListed (C : Addr) : Sp := fun vs H Q _ => ∃ (a : Addr) (L : List (Str × List Int)), vs = [.ref a] ∧ LsAt C H a L ∧ LOk L ∧ ∀ (H' : Hp) (t : Addr) (js : List Addr), Same H H' → H' t = some (.tup (js.map V.ref)) → Paired (LfAt H') js (lvs L) → Q (.ref t) H'
theorem ok_listed {C f : Addr} {fd : FuncData} (F : Fun K "listed" "Lives.listed" sListed f fd) (T : Lvs K mg C) (L : WordsL mg) : FnOk P w K mg base CX0 1 f fd ["self"] (spListed C) := by
  refine F.ok scListed (fun vs H Q E h => ?_) (fun cdv A outer s H vs Q E hr h => ?_)
  · obtain ⟨a, L, rfl, _⟩ := h
    rfl
  · obtain ⟨a, L0, rfl, hL, hO, q⟩ := h
    obtain ⟨dx, d, kvs, h1, h2, h3⟩ := id hL
    refine ⟨_, pss_one (ps_ret (pe_callTy call_tuple_of (by rfl) L.tuple (by decide +kernel) (pa_cons (pe_lock (pe_lc2 (own := [("tool", 1), ("moments", 2), ("moment", 3)]) (vs1 := [3]) (g := gTup K 2 (gCons (gName 1) (gCons (gName 2) gNil))) (g1 := gName 3) (tt := tYes) (tt1 := tYes) rfl scListed.nd (pi_items (pe_fld (pv 0) rfl)) (blkOk_by (N := ["self", "tool", "moments", "moment"]) (sc := defScope sListed) (by decide +kernel)) (by decide)
        (fun _ _ _ _ _ => pg_tup rfl (pgs_cons (pg_name (i := 1) scListed.nd rfl (Or.inl rfl)) (pgs_cons (pg_name (i := 2) scListed.nd rfl (Or.inl rfl)) pgs_nil))) (fun _ _ _ _ _ => pts_nil)
        (fun _ _ _ _ _ => pi_tupK (K := K) rfl (pv 2)) (fun _ _ _ _ _ => pg_name (i := 3) scListed.nd rfl (Or.inl rfl)) (fun _ _ _ _ _ => pts_nil)
        (fun _ _ _ _ _ => pe_tup (pa_cons (pv 1) (pa_cons (pv 3) pa_nil))))) pa_nil))), ?_⟩
    refine ⟨d, _, h2, True.intro, fun od => ?_⟩
    have na : a ≠ d := fun z => by rw [z, h2] at h1; cases h1
    refine ⟨_, rfl, a, C, dx, _, _, rfl, (upd_ne na).trans h1, T.cl, T.nB, rfl, d, od, kvs, rfl, upd_same, fun D hD => ?_⟩
    have hDd : D ≠ d := fun z => by rw [z, upd_same] at hD; cases hD
    have hDH : H D = none := (upd_ne hDd).symm.trans hD
    have h3' : Paired (EntL (upd H d (.frz od (.dK kvs)))) kvs L0 := L2.Paired.mapP h3 fun kv p e => by
      obtain ⟨e0, t, e1, e2⟩ := e
      exact ⟨e0, t, e1, (upd_ne (fun z => by rw [z, h2] at e2; cases e2)).trans e2⟩
    have hlen := Paired.length h3
    have hsm := hO.small
    have hss := sizeLine_eq
    have hd1 : upd H d (.frz od (.dK kvs)) d = some (.frz od (.dK kvs)) := upd_same
    generalize hH1 : upd H d (.frz od (.dK kvs)) = H1 at hD h3' hd1 ⊢
    refine lc2_it walk_items (fun k H' => Same H1 H' ∧ ∃ rs : List Addr, H' D = some (.lst (rs.map V.ref)) ∧ Paired (LfAt H') rs (lvs (L0.take k))) ⟨same_upd0 hD, [], upd_same, .nil⟩ (fun _ _ _ y => y.1 _ _ hd1) ?_ ?_
    · rintro k x H2 H3 hk ⟨s2, rs, hD2, hpr⟩ ⟨Tt, x1, x2, rfl, hT, rfl, hx1, hx2⟩
      obtain ⟨kv, hkv⟩ : ∃ kv, kvs[k]? = some kv := ⟨_, List.getElem?_eq_getElem hk⟩
      obtain ⟨⟨z, ns⟩, hp, ez, t, et, ht⟩ := L2.paired_get h3' hkv
      have hx1 : kvs[k]?.map (fun kv => kV kv.1) = some x1 := hx1
      have hx2 : kvs[k]?.map Prod.snd = some x2 := hx2
      rw [hkv] at hx1 hx2
      obtain ⟨kk, kv2⟩ := kv
      have ez : kk = Sum.inr z := ez
      have et : kv2 = .ref t := et
      subst ez et
      obtain rfl : V.str z = x1 := Option.some.inj hx1
      obtain rfl : V.ref t = x2 := Option.some.inj hx2
      have hmem := List.mem_of_getElem? hp
      obtain ⟨_, _, l, el, hl64, _⟩ := hO.ns z ns hmem
      have hnl : ns.length ≤ 64 := by rw [el, List.length_cons]; omega
      have etk : lvs (L0.take (k + 1)) = lvs (L0.take k) ++ ns.map fun n => (z, n) := by
        rw [List.take_add_one, hp]
        unfold lvs
        rw [List.flatMap_append]
        simp
      have hle : (lvs (L0.take k)).length + ns.length ≤ 64 * 64 := by
        have e1 : lvs L0 = lvs (L0.take (k + 1)) ++ lvs (L0.drop (k + 1)) := by
          unfold lvs
          rw [← List.flatMap_append, List.take_append_drop]
        rw [e1, List.length_append, etk, List.length_append, List.length_map] at hsm
        omega
      have s3 : Same H2 (upd H2 Tt (.tup [.str z, .ref t])) := same_upd0 hT
      refine ⟨Tt, _, rfl, SqT.of upd_same, rfl, _, _, rfl, _, _, rfl, rfl, rfl, ?_⟩
      have s13 := s2.trans s3
      refine ⟨_, rfl, t, rfl, ⟨_, SqT.of (s13 _ _ ht)⟩, ?_⟩
      have hpr3 : Paired (LfAt (upd H2 Tt (.tup [.str z, .ref t]))) rs (lvs (L0.take k)) := L2.Paired.mapP hpr fun _ _ e => s3 _ _ e
      have hD3 := s3 _ _ hD2
      generalize upd H2 Tt (.tup [.str z, .ref t]) = H3 at s3 s13 hpr3 hD3
      refine inn_it walk_tup (fun j H' => Same H1 H' ∧ ∃ rs : List Addr, H' D = some (.lst (rs.map V.ref)) ∧ Paired (LfAt H') rs (lvs (L0.take k) ++ (ns.take j).map fun n => (z, n))) ⟨s13, rs, hD3, by rw [List.take_zero, List.map_nil, List.append_nil]; exact hpr3⟩ (fun _ _ _ y => SqT.of (y.1 _ _ ht)) ?_ ?_
      · rintro j x H4 H5 hj ⟨s4, rs4, hD4, hpr4⟩ ⟨rfl, hx⟩
        rw [List.length_map] at hj
        rw [List.getElem?_map] at hx
        obtain ⟨n, hn, rfl⟩ : ∃ n, ns[j]? = some n ∧ x = .int n := by
          cases e : ns[j]? with
          | none => rw [e] at hx; cases hx
          | some n => rw [e] at hx; exact ⟨n, rfl, (Option.some.inj hx).symm⟩
        refine ⟨rfl, _, rfl, _, rfl, by show 2 ≤ sizeLine; decide, fun tn htn => ?_⟩
        have s5 := same_upd0 (o := .tup [.str z, .int n]) htn
        have htn5 : (upd H5 tn (.tup [.str z, .int n])) tn = some (.tup [.str z, .int n]) := upd_same
        have hD5 := s5 _ _ hD4
        have eq2 : (ns.take (j + 1)).map (fun n => (z, n)) = (ns.take j).map (fun n => (z, n)) ++ [(z, n)] := by
          rw [List.take_add_one, hn, List.map_append]
          rfl
        have hrl := Paired.length hpr4
        refine ⟨_, hD5, ?_, over3 (s4.trans s5) hD, rs4 ++ [tn], ?_, ?_⟩
        · rw [List.length_append, List.length_map, List.length_take] at hrl
          rw [List.length_map]
          omega
        · rw [upd_same, List.map_append]
          rfl
        · rw [eq2, ← List.append_assoc]
          refine Paired.snoc (L2.Paired.mapP hpr4 fun r q e => ?_) ((upd_ne (ne_of htn5 hD5 (fun z => nomatch z))).trans htn5)
          have e' := s5 _ _ e
          exact (upd_ne (ne_of e' hD5 (fun z => nomatch z))).trans e'
      · rintro H4 ⟨s4, rs4, hD4, hpr4⟩
        rw [List.length_map, List.take_length] at hpr4
        exact ⟨s4, rs4, hD4, by rw [etk]; exact hpr4⟩
    rintro H2 ⟨s2, rs, hD2, hpr⟩
    rw [hlen, List.take_length] at hpr
    subst hH1
    refine ⟨s2 _ _ hd1, D, _, rfl, .inl ⟨SqL.of ((upd_ne hDd).trans hD2), fun t ht => ?_⟩⟩
    have sU := unlock_same h2 s2
    have sV := same_upd0 (o := .tup (rs.map V.ref)) ht
    refine q _ t rs (sU.trans sV) upd_same (L2.Paired.mapP hpr fun r e h => ?_)
    have hr : LfAt H2 r e := h
    have nd : r ≠ d := fun z => by have h5 := s2 _ _ hd1; rw [← z] at h5; exact nomatch (Option.some.inj (hr.symm.trans h5))
    exact sV _ _ ((upd_ne nd).trans hr)
/-- how many lives there are -/
def spLen (C : Addr) : Sp := fun vs H Q _ => ∃ (a : Addr) (L : List (Str × List Int)), vs = [.ref a] ∧ LsAt C H a L ∧ LOk L ∧ ∀ H' : Hp, Same H H' → Q (.int ((lvs L).length : Nat)) H'
theorem ok_len {C f fL : Addr} {fd fdL : FuncData} (F : Fun K "__len__" "Lives.__len__" sLen f fd) (T : Lvs K mg C) (W : Words K mg) (pL : Addr) (PL : PropOf K C "listed" pL fL) (bL : Binds K fdL ["self"] []) (GL : FnOk P w K mg base CX0 1 fL fdL ["self"] (spListed C)) : FnOk P w K mg base CX0 3 f fd ["self"] (spLen C) := by
  refine F.ok scLen (fun vs H Q E h => ?_) (fun cdv A outer s H vs Q E hr h => ?_)
  · obtain ⟨a, L, rfl, _⟩ := h
    rfl
  · obtain ⟨a, L0, rfl, hL, hO, q⟩ := h
    obtain ⟨dx, d, kvs, h1, h2, h3⟩ := id hL
    refine ⟨_, pss_one (ps_ret (pe_callB call_len_seq (by rfl) W.len PySem.boot_len (pa_cons (pe_prop (pv 0) T.cl PL GL hr bL .nil pass0 rfl) pa_nil))), ?_⟩
    refine ⟨_, rfl, a, dx, _, rfl, h1, a, L0, rfl, hL, hO, fun H' t js s ht hp => ⟨t, _, rfl, .inr (SqT.of ht), ?_⟩⟩
    rw [List.length_map, Paired.length hp]
    exact q H' s
/-- the lives in order are lives -/
theorem LsAt.lv {C : Addr} {H : Hp} {a : Addr} {L : List (Str × List Int)} (h : LsAt C H a L) : LvAt C H a (fun z => L.lookup z) := by
  obtain ⟨dx, d, kvs, h1, h2, h3⟩ := h
  exact ⟨dx, d, kvs, h1, h2, fun z e => (ls_get z h3).1 e, fun z ns e => (ls_get z h3).2 ns e⟩
theorem LOk.fok {L : List (Str × List Int)} (h : LOk L) : FOk (fun z => L.lookup z) := fun z ns e => by
  obtain ⟨_, _, l, h1⟩ := h.ns z ns (lookup_in e)
  exact ⟨l, h1⟩
end
end K08

namespace So
open PySem PySem.Spec PyProof.Rows L2
section
variable {P : Program} {w : World} {K : PySem.W.Frag} {mg : Str → Option Value} {base : Heap} {CX : CXT} {sp : Sp} {fd : FuncData} {ps N : List Str} {k : Nat} {f c : Addr}
/-- a def by its body, the guards and the code object told -/
theorem fnG_ofC {x qual : Str} {st : Stmt} (F : Fun K x qual st f fd) (hcode : fd.code = .ref c) (S : FnScope N ps (defScope st)) (len : ∀ vs H Q E, sp vs H Q E → vs.length = ps.length)
    (hbody : ∀ (A : Around) (outer : List Env) (s : Shared) (H : Hp) (vs : List V) (Q : VK) (E : XK), A.guards = some [] → Room k (A.deeper (envOfC qual (defScope st) s.heap.objs.size f (.ref c))) → sp vs H Q E →
      ∃ t, PSs (cxOf CX P w K mg base N qual (defScope st) f (.ref c) A outer s H E).nox (defBody st) t ∧ t { nx := fun _ H' => Q .non H', rt := Q } (start N vs) H) : FnG P w K mg base CX (k + 1) f fd ps sp := by
  obtain ⟨oc, od, kV, doc, pm, an, cdv, ct, osl, rfl, lk, hcd⟩ := F.ex
  obtain rfl : cdv = .ref c := hcode
  constructor
  · exact len
  intro A outer s H args us vs Q E hg hr e0 hb r hsp
  have old : ∀ b o, base.get? b = some o → s.heap.get? b = some o := fun b o e => (e0.bs b o e).1
  have KX := e0.mod.kin.keeps old
  have lim := e0.mod.nolimit.keeps old
  refine codeAny_call_function hr.depth (KX _ _ lk) rfl S.co S.gen rfl (PySem.W.codeRec_of KX hcd) (hb _ _ _ _ ?_)
  refine wpAny_newFunctionEnv_cells S.kind (fun y hy => ?_) fun env he s1 x => ?_
  · rcases S.par y.1 (List.of_mem_zip (show (y.1, y.2) ∈ ps.zip us from hy)).1 with q | q
    · exact Or.inl q
    · exact Or.inr (And.intro q (PySem.W.cellsFrom_some _ _ _ (Or.inl q)))
  subst he
  refine And.intro (lim.keeps x.toInCall.keep) (codeAny_func ?_)
  obtain ⟨t, ht, hq⟩ := hbody A outer s H vs Q E hg (hr.deeper _) hsp
  refine wpAny_mono (ht.nox.run [] s1 (start N vs) H _ (inv_start S hr.hd e0 (len _ _ _ _ hsp) r x) hq) (fun fl s' hs => ?_) fun _ _ hs => hs
  match fl, hs with
  | .ret u, ⟨v, σ', H', J, rv, q⟩ => exact ⟨v, H', J.os, J.bare, J.base, J.hok, rv, q⟩
  | .next, ⟨σ', H', J, q⟩ => exact ⟨V.non, H', J.os, J.bare, J.base, J.hok, rfl, q⟩
  | .brk, ⟨_, _, _, q⟩ => exact q.elim
  | .cont, ⟨_, _, _, q⟩ => exact q.elim
end
end So

namespace So
open PySem PySem.Spec PyProof.Rows L2 LamX
/-- the law's call, its one table of code objects and the guards told -/
theorem law_callTG {P : Program} {w : World} {K : PySem.W.Frag} {mg mb : Str → Option Value} {CX : CXT} {k : Nat} {fa a c T : Addr} {fd : FuncData} {x : Str} {sp : Sp} {s₁ : Shared} {vs : List Value} {ns : List Int}
    (KX : K.In s₁.heap) (hns : s₁.heap.Ns mainGlobals mg) (hb : s₁.heap.Ns builtinsNs mb) (hbb : ∀ x : Str, x ≠ "__name__" → mb x = bootBuiltins x) (hlim : s₁.heap.NoLimit) (hg : s₁.gens = #[])
    (tab : s₁.heap.get? T = some { cls := .none, data := .fields #[] }) (noT : K.lookup T = none) (cd : PySem.W.CodeHd s₁.heap c T)
    (mod : ∃ (bm : Addr) (ob : Obj), mg "__builtins__" = some (.ref bm) ∧ bm ≠ builtinsNs ∧ s₁.heap.get? bm = some ob ∧ ob.cls = .type "module" ∧ ob.dict = some builtinsNs ∧ ob.data = .plain)
    (ha : s₁.heap.get? a = some { cls := .type "list", data := .seq vs.toArray }) (hi : IntsAre vs ns) (hl : ns.length ≤ sizeLine) (hr : Room k callerA)
    (F : ∀ base : Heap, K.In base → base.Ns mainGlobals mg → TabB base mg c T → FnG P w K mg base CX k fa fd [x] sp) (hbind : ∀ (s : Shared) (u : Value), BindsTo s fd ⟨[u], []⟩ [(x, u)])
    (hsp : ∀ H : Hp, H T = some (.tbl #[]) → SqL K H a (ns.map V.int) → sp [.ref a] H (fun v _ => v = .bl true) fun _ _ _ => False)
    (hCX : ∀ H e s', CX [] H s₁ (fun _ _ _ => False) e s' → False) :
    codeAny (model P w) callerA (.call (.ref fa) ⟨[.ref a], []⟩) (fun r s' => r = .ok (.ret (.bool true)) ∧ OldK s₁.heap s'.heap ∧ s'.os = s₁.os ∧ AllBare s'.gens) s₁ := by
  have aT : a ≠ T := fun z => by
    rw [z, tab] at ha
    have := congrArg Obj.data (Option.some.inj ha)
    cases this
  -- what may be tracked at the start: the table, and the script where the written part does not hold it
  have go : ∀ H : Hp, H T = some (.tbl #[]) → (∀ b u, H b = some u → b = T ∨ (b = a ∧ K.lookup a = none ∧ ∃ o xs, u = .frz o (.lst xs))) → SqL K H a (ns.map V.int) → HOk P w H s₁.heap →
      codeAny (model P w) callerA (.call (.ref fa) ⟨[.ref a], []⟩) (fun r s' => r = .ok (.ret (.bool true)) ∧ OldK s₁.heap s'.heap ∧ s'.os = s₁.os ∧ AllBare s'.gens) s₁ := by
    intro H hT hA hS hok
    -- an object that is neither the script's list nor the table stands in the base
    have free : ∀ {b : Addr} {o : Obj}, s₁.heap.get? b = some o → (∀ vs n, o.data ≠ .seq vs n) → o.data ≠ .fields #[] → H b = none := by
      intro b o e h1 h2
      cases q : H b with
      | none => rfl
      | some u =>
        rcases hA b u q with rfl | ⟨rfl, _⟩
        · rw [tab] at e
          cases e
          exact absurd rfl h2
        · rw [ha] at e
          cases e
          exact absurd rfl (h1 _ _)
    have toBase : ∀ {b : Addr} {o : Obj}, s₁.heap.get? b = some o → H b = none → (hidT s₁.heap H).get? b = some o := fun e n => hidT_get e n
    have nsB : ∀ {b : Addr} {m : Str → Option Value}, s₁.heap.Ns b m → (hidT s₁.heap H).Ns b m := by
      rintro b m ⟨o, es, ep, e, d, r⟩
      have n : H b = none := by
        refine free e ?_ ?_
        · intro vs n z
          rw [d] at z
          cases z
        · intro z
          rw [d] at z
          cases z
      exact ⟨o, es, ep, toBase e n, d, r⟩
    have kin : K.In (hidT s₁.heap H) := by
      intro b o e
      refine toBase (KX b o e) ?_
      cases q : H b with
      | none => rfl
      | some u =>
        rcases hA b u q with rfl | ⟨rfl, z, _⟩
        · rw [noT] at e
          cases e
        · rw [z] at e
          cases e
    have lim2 : (hidT s₁.heap H).NoLimit := by
      obtain ⟨mc, h1, h2⟩ := hlim
      exact ⟨mc, nsB h1, h2⟩
    have gT : mainGlobals ≠ T := fun z => by
      obtain ⟨o, es, ep, e, d, _⟩ := hns
      rw [z, tab] at e
      cases e
      cases d
    have cd2 : PySem.W.CodeHd (hidT s₁.heap H) c T := by
      obtain ⟨o, us, fl, tf, fg, tg, inF, tx, tt, e1, r1, r2, r3, r⟩ := cd
      refine ⟨o, us, fl, tf, fg, tg, inF, tx, tt, toBase e1 (free e1 ?_ ?_), r1, r2, r3, r⟩
      · intro vs n z
        rw [r2] at z
        cases z
      · intro z
        rw [r2] at z
        cases z
        simp at r3
    have bm2 : (hidT s₁.heap H).BuiltinsAt mg T := by
      obtain ⟨bm, ob, b1, b2, b3, b4, b5, b6⟩ := mod
      have n1 : bm ≠ mainGlobals := fun z => by
        obtain ⟨o, es, ep, e, d, _⟩ := hns
        rw [z, e] at b3
        cases b3
        rw [d] at b6
        cases b6
      have n2 : bm ≠ T := fun z => by
        rw [z, tab] at b3
        cases b3
        cases b6
      refine ⟨bm, ob, b1, b2, n1, n2, toBase b3 (free b3 ?_ ?_), b4, b5, b6⟩
      · intro vs n z
        rw [b6] at z
        cases z
      · intro z
        rw [b6] at z
        cases z
    have e0 : Env0 P w K mg (hidT s₁.heap H) callerA [] s₁ H := by
      refine ⟨rfl, ⟨kin, nsB hns, ⟨mb, nsB hb, hbb⟩, lim2⟩, fun b o e => of_hidT e, Nat.le_of_eq (hidT_size _ _), True.intro, ?_, hok, .of_eq hg⟩
      intro b hb
      cases hb
    refine codeAny_mono ((F _ kin (nsB hns) ⟨cd2, bm2, gT⟩).runG callerA [] s₁ H ⟨[.ref a], []⟩ [.ref a] [.ref a] _ _ rfl hr e0 (hbind s₁ (.ref a)) (.cons rfl .nil) (hsp H hT hS)) fun r s' h => ?_
    match r, h with
    | .error e, h => exact (hCX H e s' h).elim
    | .ok .next, h => exact h.elim
    | .ok .brk, h => exact h.elim
    | .ok .cont, h => exact h.elim
    | .ok (.ret u), ⟨v, H', os, bare, un, hok', rv, q⟩ =>
      have q2 : v = .bl true := q
      subst q2
      cases rv
      obtain ⟨more, hm⟩ := un.tbls T #[] hT
      have grown : s'.heap.get? T = some { cls := .none, data := .fields (#[] ++ more) } := hok' T _ hm
      have stay : ∀ b o, b ≠ T → s₁.heap.get? b = some o → s'.heap.get? b = some o := by
        intro b o n e
        cases q : H b with
        | none => exact un.keep b o e q (fun z => nomatch z) (fun z => nomatch z)
        | some u =>
          rcases hA b u q with z | ⟨_, _, ob, xs, rfl⟩
          · exact absurd z n
          · have z1 := (hok b _ q).1
            have z2 := (hok' b _ (un.frzs b ob _ q)).1
            rw [z1] at e
            rw [z2, e]
      refine ⟨rfl, ⟨fun b o e => ?_, fun b o e => ?_⟩, os, bare⟩
      · by_cases n : b = T
        · subst n
          rw [tab] at e
          cases e
          refine .inr (.inl ⟨(cd.tab tab).isCodeTable, rfl, #[], more, rfl, grown⟩)
        · exact .inl (stay b o n e)
      · by_cases n : b = T
        · subst n
          exact ⟨_, grown⟩
        · exact ⟨o, stay b o n e⟩
  have rv := vals_ints hi
  have hlen : (ns.map V.int).length ≤ sizeLine := by rw [List.length_map]; exact hl
  cases hk : K.lookup a with
  | some o =>
    have e := KX a o hk
    rw [ha] at e
    cases e
    refine go (fun b => if b = T then some (.tbl #[]) else none) (if_pos rfl) (fun b u z => ?_) (Or.inr ⟨_, vs.toArray, _, hk, rfl, rfl, rfl, by rw [List.size_toArray, hi.length]; exact hl, by simpa using rv⟩) fun b u z => ?_
    · try dsimp only at z
      by_cases n : b = T
      · exact Or.inl n
      · rw [if_neg n] at z
        cases z
    · try dsimp only at z
      by_cases n : b = T
      · rw [if_pos n] at z
        cases z
        rw [n]
        exact tab
      · rw [if_neg n] at z
        cases z
  | none =>
    refine go (fun b => if b = T then some (.tbl #[]) else if b = a then some (.frz { cls := .type "list", data := .seq vs.toArray } (.lst (ns.map V.int))) else none) (if_pos rfl) (fun b u z => ?_) (Or.inl (Or.inr ⟨_, (if_neg aT).trans (if_pos rfl)⟩)) fun b u z => ?_
    · try dsimp only at z
      by_cases n : b = T
      · exact Or.inl n
      · rw [if_neg n] at z
        by_cases n2 : b = a
        · rw [if_pos n2] at z
          cases z
          exact Or.inr ⟨n2, hk, _, _, rfl⟩
        · rw [if_neg n2] at z
          cases z
    · try dsimp only at z
      by_cases n : b = T
      · rw [if_pos n] at z
        cases z
        rw [n]
        exact tab
      · rw [if_neg n] at z
        by_cases n2 : b = a
        · rw [if_pos n2] at z
          cases z
          rw [n2]
          exact ⟨ha, hlen, vs, _, rv, ha⟩
        · rw [if_neg n2] at z
          cases z
end So

namespace K08
open PySem PySem.Spec PyProof.Rows L2 So LamX
abbrev sHeard : Stmt := topS 28
abbrev heardN : List Str := ["_law_ask", "_law_caught", "error", "_law_heard_here"]
theorem scHeard : FnScope heardN ["_law_ask"] (defScope sHeard) := ⟨rfl, rfl, rfl, by decide +kernel, rfl, by decide +kernel, by decide +kernel⟩
theorem pe_imp {X : Cx} {e : Expr} {t : TE} (h : PE X e t) : PE X e (fun σ H Q => ∃ Q0 : VK, t σ H Q0 ∧ ∀ v H', Q0 v H' → Q v H') :=
  ⟨fun pins s σ H Q I ⟨Q0, h1, h2⟩ => thn (h.run pins s σ H Q0 I h1) fun u s' ⟨v, H', I', r, q⟩ => ⟨v, H', I', r, h2 v H' q⟩⟩
theorem takes_len {X : Cx} {W : WX} (tk : Takes X W) : Takes X (fun c d σ H => σ.length = X.N.length → W c d σ H) := fun u s' ⟨a, B, sI, pins, σ, H, cls, d, e, I, nb, up, sky, na, os, ag, w⟩ =>
  tk u s' ⟨a, B, sI, pins, σ, H, cls, d, e, I, nb, up, sky, na, os, ag, w I.len⟩
/-- the errors by the law's words -/
def KindL (CT' CL CM : Addr) (wd : Str) (C : Addr) (fl : Str) : Prop := (wd = "tool" ∧ C = CT' ∧ fl = "tool") ∨ (wd = "life" ∧ C = CL ∧ fl = "value") ∨ (wd = "moment" ∧ C = CM ∧ fl = "moment")
def EchL (CT' CL CM : Addr) (Q : VK) : XK := fun cls d H' => ∃ (wd : Str) (C : Addr) (fl : Str) (v : V) (dd : Addr), KindL CT' CL CM wd C fl ∧ cls = .ref C ∧ d = some dd ∧ H' dd = some (.xd [(fl, v)]) ∧ ∀ (H'' : Hp) (r : Addr), Same H' H'' → H'' r = some (.tup [.str wd, v]) → Q (.ref r) H''
def QtL (Q : VK) : VK := fun v H' => ∀ t, H' t = none → Q (.ref t) (upd H' t (.tup [.str "told", v]))
def TTL (CT' CL CM : Addr) : (XK → Hp → VK → Prop) → Hp → VK → Prop := fun tl H Q => tl (EchL CT' CL CM Q) H (QtL Q)
/-- what the top says of the errors, to the law's heard -/
structure HrL (K : PySem.W.Frag) (mg : Str → Option Value) (CT CN CM CT' CL : Addr) : Prop where
  gT : mg "TillError" = some (.ref CT)
  gN : mg "BadName" = some (.ref CN)
  gM : mg "BadMoment" = some (.ref CM)
  gTo : mg "NoTool" = some (.ref CT')
  gL : mg "NoLife" = some (.ref CL)
  gV : mg "ValueError" = none
  isi : mg "isinstance" = none
  len : mg "len" = none
  te : ∀ C ∈ [CT', CL, CM], PySem.W.exmOne K (.ref C) (.ref CT) = some true ∧ PySem.W.kitOne K (.ref C) (.type "ValueError") = some true ∧ Err K C
  eN : Err K CN
  no : ∀ C ∈ [CT', CL, CN, CM], PySem.W.kitOne K (.type "NoneType") (.ref C) = some false
  tt : PySem.W.kitOne K (.ref CT') (.ref CT') = some true
  tl : PySem.W.kitOne K (.ref CT') (.ref CL) = some false
  tn : PySem.W.kitOne K (.ref CT') (.ref CN) = some false
  tm : PySem.W.kitOne K (.ref CT') (.ref CM) = some false
  lt : PySem.W.kitOne K (.ref CL) (.ref CT') = some false
  ll : PySem.W.kitOne K (.ref CL) (.ref CL) = some true
  ln : PySem.W.kitOne K (.ref CL) (.ref CN) = some false
  lm : PySem.W.kitOne K (.ref CL) (.ref CM) = some false
  mt : PySem.W.kitOne K (.ref CM) (.ref CT') = some false
  ml : PySem.W.kitOne K (.ref CM) (.ref CL) = some false
  mn : PySem.W.kitOne K (.ref CM) (.ref CN) = some false
  mm : PySem.W.kitOne K (.ref CM) (.ref CM) = some true
  fN : PySem.W.findIn K (.ref CN) "name" = some none
  fM : PySem.W.findIn K (.ref CM) "moment" = some none
  fT : PySem.W.findIn K (.ref CT') "tool" = some none
  fL : PySem.W.findIn K (.ref CL) "value" = some none
section
variable {X : Cx}
theorem heard_gives {q : Str} {g CT CN CM CT' CL : Addr} {cdg : Value} (R : HrL X.K X.mg CT CN CM CT' CL) : GivesTo X heardN "_law_heard" (defScope sHeard) g cdg (defBody sHeard) "_law_ask" q (TTL CT' CL CM) := by
  intro f c' s H Q tl act hc h
  have TM := (R.te CM (by simp)).2.2
  have TT := (R.te CT' (by simp)).2.2
  have TL := (R.te CL (by simp)).2.2
  have TN := R.eN
  refine ⟨_, (pss_cons (ps_set (i := 1) scHeard.nd rfl (.inl rfl) pe_non)
      (pss_cons (ps_try_keep (X := (cxOf C8.CX0 X.prog X.w X.K X.mg X.base heardN "_law_heard" (defScope sHeard) g cdg X.A X.stack s H C8.E0).nox) (i := 2) (n := "error") (c := .ref CT)
        (tb := fun W D σ H => ∃ Ech : XK, (∀ cls d σ' H', Ech cls d H' → σ'.length = 4 → W cls d σ' H') ∧ σ[0]? = some (some (.ref f)) ∧ H c' = some (CodeO c' q) ∧ ∃ Q0 : VK, tl Ech H Q0 ∧ ∀ v H', Q0 v H' → ∀ t, H' t = none → D.rt (.ref t) (upd H' t (.tup [.str "told", v])))
        rfl rfl rfl scHeard.nd rfl rfl ⟨rfl, by decide, .inl R.gT⟩ LamX.takes0 (fun W pn xe tk _ => ?_) (fun a pn => pss_one (ps_set (i := 1) scHeard.nd rfl (.inl rfl) (pv 2))))
      (pss_cons (ps_set (i := 3) scHeard.nd rfl (.inl rfl) (pe_lst pa_nil))
      (pss_cons (ps_if (pt_val (pe_callB (So.CallR.or call_isi call_isXo) (by rfl) R.isi (by decide +kernel) (pa_cons (pv 1) (pa_cons (pe_glob (v := .ref CT') rfl R.gTo rfl) pa_nil)))) (pss_one (ps_expr (pe_bm PySem.F.plainAttrs_list PySem.F.slot_list_append PySem.F.type_list_append mt_append (pv 3) (pa_cons (pe_tup (pa_cons pe_str (pa_cons (pe_xo TT R.fT (pv 1)) pa_nil))) pa_nil)))) pss_nil)
      (pss_cons (ps_if (pt_val (pe_callB (So.CallR.or call_isi call_isXo) (by rfl) R.isi (by decide +kernel) (pa_cons (pv 1) (pa_cons (pe_glob (v := .ref CL) rfl R.gL rfl) pa_nil)))) (pss_one (ps_expr (pe_bm PySem.F.plainAttrs_list PySem.F.slot_list_append PySem.F.type_list_append mt_append (pv 3) (pa_cons (pe_tup (pa_cons pe_str (pa_cons (pe_xo TL R.fL (pv 1)) pa_nil))) pa_nil)))) pss_nil)
      (pss_cons (ps_if (pt_val (pe_callB (So.CallR.or call_isi call_isXo) (by rfl) R.isi (by decide +kernel) (pa_cons (pv 1) (pa_cons (pe_glob (v := .ref CN) rfl R.gN rfl) pa_nil)))) (pss_one (ps_expr (pe_bm PySem.F.plainAttrs_list PySem.F.slot_list_append PySem.F.type_list_append mt_append (pv 3) (pa_cons (pe_tup (pa_cons pe_str (pa_cons (pe_xo TN R.fN (pv 1)) pa_nil))) pa_nil)))) pss_nil)
      (pss_cons (ps_if (pt_val (pe_callB (So.CallR.or call_isi call_isXo) (by rfl) R.isi (by decide +kernel) (pa_cons (pv 1) (pa_cons (pe_glob (v := .ref CM) rfl R.gM rfl) pa_nil)))) (pss_one (ps_expr (pe_bm PySem.F.plainAttrs_list PySem.F.slot_list_append PySem.F.type_list_append mt_append (pv 3) (pa_cons (pe_tup (pa_cons pe_str (pa_cons (pe_xo TM R.fM (pv 1)) pa_nil))) pa_nil)))) pss_nil)
      (pss_one (ps_ret (pe_ifExp (PW.pt (pw_and (pt_cmpR op_eq (pe_callB call_len_seq (by rfl) R.len PySem.boot_len (pa_cons (pv 3) pa_nil)) pe_int (nomark _))
        (pw_and1 (pt_val (pe_callB call_isXo (by rfl) R.isi (by decide +kernel) (pa_cons (pv 1) (pa_cons (pe_bltn (v := .ty "ValueError") (by rfl) R.gV (by decide +kernel) rfl) pa_nil)))))))
      (pe_ix ix_list (pv 3) pe_int (fun _ _ => rfl)) pe_str)))))))))), ?_⟩
  · refine ⟨fun pins s' σ H' D I h' => ?_⟩
    obtain ⟨Ech, hW, h1, h2, Q0, h3, h4⟩ := h'
    refine (pss_one (ps_ret (pe_tup (pa_cons pe_str (pa_cons (pe_imp (act (fun c d σ H => σ.length = 4 → W c d σ H) pn xe Ech _ _ (takes_len tk) hW)) pa_nil))))).run pins s' σ H' D I ?_
    exact ⟨Q0, ⟨h1, h2, h3⟩, fun v H'' z => ⟨by show 2 ≤ sizeLine; decide, fun t ht => h4 v H'' z t ht⟩⟩
  · refine ⟨EchL CT' CL CM Q, fun cls d σ' H' ⟨wd, C, fl, v, dd, k3, e1, e2, e3, q3⟩ hl => ?_, rfl, hc, QtL Q, h, fun v H' z t ht => z t ht⟩
    obtain ⟨x0, x1, x2, x3, rfl⟩ : ∃ x0 x1 x2 x3, σ' = [x0, x1, x2, x3] := by
      match σ', hl with
      | [x0, x1, x2, x3], _ => exact ⟨x0, x1, x2, x3, rfl⟩
    subst e1 e2
    have hC : C ∈ [CT', CL, CM] := by
      rcases k3 with ⟨_, rfl, _⟩ | ⟨_, rfl, _⟩ | ⟨_, rfl, _⟩ <;> simp
    obtain ⟨tE, tV, tEr⟩ := R.te C hC
    refine ⟨true, tE, fun _ a ha => ?_, fun y => nomatch y⟩
    refine ⟨_, rfl, by show 0 ≤ sizeLine; decide, fun p hp => ?_⟩
    have s0 : Same H' (upd H' a (Xo (.ref C) (some dd) a)) := same_upd0 ha
    have s1 := s0.trans (same_upd0 (o := .lst []) hp)
    have HA : (upd (upd H' a (Xo (.ref C) (some dd) a)) p (.lst [])) a = some (Xo (.ref C) (some dd) a) := same_upd0 hp _ _ upd_same
    have HD : (upd (upd H' a (Xo (.ref C) (some dd) a)) p (.lst [])) dd = some (.xd [(fl, v)]) := s1 _ _ e3
    have HP : (upd (upd H' a (Xo (.ref C) (some dd) a)) p (.lst [])) p = some (.lst []) := upd_same
    have hpn : H' p = none := s0.free hp
    revert s1 HA HD HP
    generalize upd (upd H' a (Xo (.ref C) (some dd) a)) p (.lst []) = H1
    intro s1 HA HD HP
    rcases k3 with ⟨rfl, rfl, rfl⟩ | ⟨rfl, rfl, rfl⟩ | ⟨rfl, rfl, rfl⟩
    · refine ⟨_, rfl, .inr ⟨a, _, dd, _, _, _, true, rfl, HA, HD, tEr, .own _, R.tt, _, rfl, iteT ?_⟩⟩
      refine ⟨_, rfl, .inl ⟨rfl, _, SqL.of HP⟩, _, rfl, a, dd, _, v, rfl, HA, HD, by simp [List.lookup], by show 2 ≤ sizeLine; decide, fun r hr => ?_⟩
      have s2 := same_upd0 (o := .tup [.str "tool", v]) hr
      refine ⟨p, _, _, rfl, rfl, s2 _ _ HP, by show 0 < sizeLine; decide, ?_⟩
      have nrp : r ≠ p := fun y => by rw [y, HP] at hr; cases hr
      have nap : a ≠ p := fun y => by rw [y, HP] at HA; cases HA
      have ndp : dd ≠ p := ne_of HD HP (fun y => nomatch y)
      have HA3 := (upd_ne (o := HO.lst [.ref r]) nap).trans (s2 _ _ HA)
      have HD3 := (upd_ne (o := HO.lst [.ref r]) ndp).trans (s2 _ _ HD)
      refine ⟨_, rfl, .inr ⟨a, _, dd, _, _, _, false, rfl, HA3, HD3, tEr, .own CL, R.tl, _, rfl, iteF ?_⟩⟩
      refine ⟨_, rfl, .inr ⟨a, _, dd, _, _, _, false, rfl, HA3, HD3, tEr, .own CN, R.tn, _, rfl, iteF ?_⟩⟩
      refine ⟨_, rfl, .inr ⟨a, _, dd, _, _, _, false, rfl, HA3, HD3, tEr, .own CM, R.tm, _, rfl, iteF ?_⟩⟩
      refine ⟨_, rfl, p, _, rfl, .inl (SqL.of upd_same), rfl, _, rfl, ite2 (fun _ => ?_) (fun y => absurd (decide_eq_true rfl) y)⟩
      refine ⟨_, rfl, a, _, dd, _, _, _, true, rfl, HA3, HD3, tEr, .ty "ValueError", tV, _, rfl, iteT ?_⟩
      refine ⟨_, rfl, p, _, 0, _, rfl, rfl, SqL.of upd_same, atI_nat (j := 0) rfl, q3 _ r (fun b o y => ?_) ((upd_ne nrp).trans upd_same)⟩
      exact (upd_ne (ne_of_none y hpn)).trans (s2 _ _ (s1 _ _ y))
    · refine ⟨_, rfl, .inr ⟨a, _, dd, _, _, _, false, rfl, HA, HD, tEr, .own CT', R.lt, _, rfl, iteF ?_⟩⟩
      refine ⟨_, rfl, .inr ⟨a, _, dd, _, _, _, true, rfl, HA, HD, tEr, .own _, R.ll, _, rfl, iteT ?_⟩⟩
      refine ⟨_, rfl, .inl ⟨rfl, _, SqL.of HP⟩, _, rfl, a, dd, _, v, rfl, HA, HD, by simp [List.lookup], by show 2 ≤ sizeLine; decide, fun r hr => ?_⟩
      have s2 := same_upd0 (o := .tup [.str "life", v]) hr
      refine ⟨p, _, _, rfl, rfl, s2 _ _ HP, by show 0 < sizeLine; decide, ?_⟩
      have nrp : r ≠ p := fun y => by rw [y, HP] at hr; cases hr
      have nap : a ≠ p := fun y => by rw [y, HP] at HA; cases HA
      have ndp : dd ≠ p := ne_of HD HP (fun y => nomatch y)
      have HA3 := (upd_ne (o := HO.lst [.ref r]) nap).trans (s2 _ _ HA)
      have HD3 := (upd_ne (o := HO.lst [.ref r]) ndp).trans (s2 _ _ HD)
      refine ⟨_, rfl, .inr ⟨a, _, dd, _, _, _, false, rfl, HA3, HD3, tEr, .own CN, R.ln, _, rfl, iteF ?_⟩⟩
      refine ⟨_, rfl, .inr ⟨a, _, dd, _, _, _, false, rfl, HA3, HD3, tEr, .own CM, R.lm, _, rfl, iteF ?_⟩⟩
      refine ⟨_, rfl, p, _, rfl, .inl (SqL.of upd_same), rfl, _, rfl, ite2 (fun _ => ?_) (fun y => absurd (decide_eq_true rfl) y)⟩
      refine ⟨_, rfl, a, _, dd, _, _, _, true, rfl, HA3, HD3, tEr, .ty "ValueError", tV, _, rfl, iteT ?_⟩
      refine ⟨_, rfl, p, _, 0, _, rfl, rfl, SqL.of upd_same, atI_nat (j := 0) rfl, q3 _ r (fun b o y => ?_) ((upd_ne nrp).trans upd_same)⟩
      exact (upd_ne (ne_of_none y hpn)).trans (s2 _ _ (s1 _ _ y))
    · refine ⟨_, rfl, .inr ⟨a, _, dd, _, _, _, false, rfl, HA, HD, tEr, .own CT', R.mt, _, rfl, iteF ?_⟩⟩
      refine ⟨_, rfl, .inr ⟨a, _, dd, _, _, _, false, rfl, HA, HD, tEr, .own CL, R.ml, _, rfl, iteF ?_⟩⟩
      refine ⟨_, rfl, .inr ⟨a, _, dd, _, _, _, false, rfl, HA, HD, tEr, .own CN, R.mn, _, rfl, iteF ?_⟩⟩
      refine ⟨_, rfl, .inr ⟨a, _, dd, _, _, _, true, rfl, HA, HD, tEr, .own _, R.mm, _, rfl, iteT ?_⟩⟩
      refine ⟨_, rfl, .inl ⟨rfl, _, SqL.of HP⟩, _, rfl, a, dd, _, v, rfl, HA, HD, by simp [List.lookup], by show 2 ≤ sizeLine; decide, fun r hr => ?_⟩
      have s2 := same_upd0 (o := .tup [.str "moment", v]) hr
      refine ⟨p, _, _, rfl, rfl, s2 _ _ HP, by show 0 < sizeLine; decide, ?_⟩
      have nrp : r ≠ p := fun y => by rw [y, HP] at hr; cases hr
      have nap : a ≠ p := fun y => by rw [y, HP] at HA; cases HA
      have ndp : dd ≠ p := ne_of HD HP (fun y => nomatch y)
      have HA3 := (upd_ne (o := HO.lst [.ref r]) nap).trans (s2 _ _ HA)
      have HD3 := (upd_ne (o := HO.lst [.ref r]) ndp).trans (s2 _ _ HD)
      refine ⟨_, rfl, p, _, rfl, .inl (SqL.of upd_same), rfl, _, rfl, ite2 (fun _ => ?_) (fun y => absurd (decide_eq_true rfl) y)⟩
      refine ⟨_, rfl, a, _, dd, _, _, _, true, rfl, HA3, HD3, tEr, .ty "ValueError", tV, _, rfl, iteT ?_⟩
      refine ⟨_, rfl, p, _, 0, _, rfl, rfl, SqL.of upd_same, atI_nat (j := 0) rfl, q3 _ r (fun b o y => ?_) ((upd_ne nrp).trans upd_same)⟩
      exact (upd_ne (ne_of_none y hpn)).trans (s2 _ _ (s1 _ _ y))
end
end K08

namespace So
open PySem PySem.Spec PyProof.Rows L2
/-! tuple(d) of a dict: its keys -/
section
variable {prog : Program} {w : World} {A : Around} {E : Value → Shared → Prop} {s : Shared} {r d : Addr} {n : Nat} {P : Nat → Value → Prop} {OK : Heap → Prop}
theorem code_tuple_new_dict {Q₁ : Value → Shared → Prop} (K : PySem.W.KdlSrc prog w "dict" r d n P OK) (hh : A.handled = none) (hok : OK s.heap) (hn : n ≤ sizeLine)
    (h : ∀ (h' : Heap) (tk : Nat) (acc : Array Value), (∀ b o, s.heap.get? b = some o → h'.get? b = some o) → ItemsOf P acc n →
      Q₁ (.ref h'.objs.size) { s with heap := h'.push { cls := .type "tuple", data := .seq acc }, toks := tk }) :
    codeAny (model prog w) A (.call (.builtin "tuple.__new__") ⟨[.type "tuple", .ref r], []⟩) (wants Q₁ E) s := by
  refine codeAny_of_tree ?_
  show wpAny _ A.in1 (do checkBuiltinCall "tuple.__new__" ⟨[.type "tuple", .ref r], []⟩; again (.builtin "tuple.__new__" ⟨[.type "tuple", .ref r], []⟩)) _ _ s
  refine wpAny_bind (wpAny_of_eq (F.newCall_tuple_1 _) (wpAny_pure ⟨plainId_quiet F.plain_tuple_new _, codeAny_builtin F.entry_tuple_new ?_⟩))
  rw [Around.under_plainId F.plain_tuple_new _]
  have hsub := sub_tuple_self
  have hinit := init_tuple_lookup
  have hmh := madeHere_tuple
  have hTI : s.TypeIs (.ref r) "dict" := K.type s hok
  have hh1 : A.in1.handled = none := hh
  wp_walk using wpAny_typeOf hTI, PySem.W.kdu_collect (A := A.in1) K hh1 hok hn
  intro h' tk acc hk hacc
  show wpAny _ _ (Builtin.Tuple.tupleExact acc.toList.toArray >>= fun v => ret v) _ _ _
  unfold Builtin.Tuple.tupleExact
  refine wpAny_bind (wpAny_newObj_type ?_ (by show acc.toList.toArray.size ≤ sizeLine; simp only [Array.toArray_toList]; rw [hacc.1]; exact hn))
  refine wpAny_pure ?_
  have e : acc.toList.toArray = acc := by simp
  rw [e]
  exact h h' tk acc hk hacc
theorem call_tuple_dict {Q : Value → Shared → Prop} (K : PySem.W.KdlSrc prog w "dict" r d n P OK) (hh : A.handled = none) (hok : OK s.heap) (hn : n ≤ sizeLine)
    (hQ : ∀ (h' : Heap) (tk : Nat) (acc : Array Value), (∀ b o, s.heap.get? b = some o → h'.get? b = some o) → ItemsOf P acc n →
      Q (.ref h'.objs.size) { s with heap := h'.push { cls := .type "tuple", data := .seq acc }, toks := tk }) :
    wpAny (model prog w) A (call (.type "tuple") [.ref r]) Q E s := by
  refine callType_codes (Q₁ := fun obj s₁ => s₁.TypeIs obj "tuple" ∧ Q obj s₁) F.called_tuple (F.typeCall_tuple_1 _) F.entry_object_init
    (code_tuple_new_dict (A := A.in1) K hh hok hn fun h' tk acc hk hacc => ⟨⟨_, Heap.get?_push_size _ rfl, rfl⟩, hQ h' tk acc hk hacc⟩) fun obj s₁ h₁ => ?_
  exact ⟨h₁.1, F.args_object_init_2 obj _, object_init_meets F.called_tuple.init.lookup F.called_tuple.made (by decide) prog w A.in1 _ s₁ ⟨h₁.1, rfl, h₁.2⟩⟩
end
section
variable {X : Cx}
theorem call_tupleD (hcalm : X.calm = true) : CallR X (.type "tuple") (fun xs H Q => ∃ (a : Addr) (kvs : List (Key × V)), xs = [.ref a] ∧ Rd H a (.dK kvs) ∧ ∀ p, H p = none → Q (.ref p) (upd H p (.tup (kvs.map fun kv => kV kv.1)))) := by
  intro pins s σ H xs us Q I r q
  obtain ⟨a, kvs, ex, hd, q⟩ := q
  subst ex
  obtain ⟨u, eu, rx⟩ := vals1 r
  subst eu
  cases rx
  obtain ⟨z, lo, vs, rel, dd⟩ := dk_rd I.hok hd
  obtain ⟨ep, hat⟩ := dd.dictAt
  have ek : (kvs.map fun kv => kV kv.1) = vs.map fun p => kV p.1 := by
    have e := congrArg (List.map kV) rel.keys
    rw [List.map_map, List.map_map] at e
    exact e
  refine call_tuple_dict (PySem.W.kdl_dict (knd := mixKind X.prog X.w) (kvs := vs) (ep := ep) lo) (I.ok.hd hcalm) hat (by rw [← rel.length]; exact z) fun h' tk acc hk hacc => ?_
  have hv : Vals (vs.map fun p => kV p.1) acc.toList := keys_at (by rw [Array.length_toList]; exact hacc.1) fun j v e => hacc.2 j v (by rw [← Array.getElem?_toList]; exact e)
  have I1 : Inv X pins σ H { s with heap := h', toks := tk } := I.kept (t' := tk) hk
  have I2 : Inv X pins σ (upd H h'.objs.size (.tup (kvs.map fun kv => kV kv.1))) { s with heap := h'.push { cls := .type "tuple", data := .seq acc }, toks := tk } :=
    I1.laid (t' := tk) (fun b o e => Heap.get?_push_of_some _ e) (Nat.le_refl _) (show ObjOk X.prog X.w _ _ _ (.tup (kvs.map fun kv => kV kv.1)) from ⟨by rw [List.length_map]; exact z, acc.toList, by rw [ek]; exact hv, by rw [Array.toArray_toList]; exact IsTup.new _ _⟩)
  exact ⟨.ref h'.objs.size, _, I2, rfl, q _ (I1.hok.fresh (Nat.le_refl _))⟩
end
end So

/-! a dict == a tuple: never -/
namespace So
open PySem PySem.Spec PyProof.Rows L2
theorem sub_dt : isSubtype (.type "dict") (.type "tuple") = pure false := by rw [isSubtype_type]; kernel_rfl
theorem sub_td : isSubtype (.type "tuple") (.type "dict") = pure false := by rw [isSubtype_type]; kernel_rfl
section
variable {P : Program} {w : World} {A : Around} {E : Value → Shared → Prop} {s : Shared}
theorem rc_dict_tuple {a b : Addr} {its : Array Value} {Q : Value → Shared → Prop} (ha : s.TypeIs (.ref a) "dict") (hb : s.heap.IsTuple b its) (hu : A.units < cLine) (h : Q (.bool false) s) : wpAny (model P w) A (richCompare .Eq (.ref a) (.ref b)) Q E s := by
  have tb : s.TypeIs (.ref b) "tuple" := by
    obtain ⟨o, ho, hc, _⟩ := hb
    exact ⟨o, ho, hc⟩
  have ne : a ≠ b := fun z => by
    subst z
    obtain ⟨o, e, c⟩ := ha
    obtain ⟨o', e', c'⟩ := tb
    rw [e] at e'
    cases e'
    rw [c] at c'
    exact absurd (Value.type.inj c') (by decide)
  refine PySem.SeqAt.rc_eq_decline_or (k := false) ha tb (by decide) sub_td PySem.F.slot_dict_eq PySem.F.slot_tuple_eq_refl (fun Q' hq => ?_) (fun Q' hq => ?_) (fun Q' hq => ?_) (.inr hu) h
  · refine wpAny_call_entry PySem.F.slot_dict_eq ha PySem.F.entry_dict_eq ?_ (PySem.F.args_dict_eq_2 _ _)
    show wpAny _ _ (Builtin.Dict.dictSlotArgs "__eq__" ⟨[.ref a, .ref b], []⟩ >>= _) _ _ s
    refine wpAny_bind ?_
    unfold Builtin.Dict.dictSlotArgs
    refine wpAny_bind (wpAny_notOrdered_dict ha (wpAny_pure ?_))
    refine wpAny_bind (wpAny_isInstance (T := "tuple") (b := false) tb sub_td ?_)
    simp only [Bool.not_false, if_true]
    exact wpAny_bind (wpAny_rule (wpAny_bind (wpAny_pure (wpAny_pure ⟨_, rfl, hq⟩))))
  · obtain ⟨⟨cls, dd, data, sl⟩, ho, hc, n, hd⟩ := id hb
    simp only at hc hd
    subst hc hd
    have hi : ∀ {A' : Around} {E' : Value → Shared → Prop} {Q2 : Bool → Shared → Prop}, Q2 false s → wpAny (model P w) A' (isInstance (.ref a) (.type "tuple")) Q2 E' s := fun q => wpAny_isInstance (T := "dict") (b := false) ha sub_dt q
    refine wpAny_call_entry PySem.F.slot_tuple_eq_refl tb PySem.F.entry_tuple_eq ?_ (PySem.F.args_tuple_eq_2 _ _)
    obtain ⟨hp, g, d, tk, os⟩ := s
    wp_walk using PySem.AutoSeq1.wpAny_loadPart' ho, hi
    exact ⟨_, rfl, hq⟩
  · obtain ⟨oa, ea, ca⟩ := ha
    obtain ⟨ob, eb, cb⟩ := tb
    show wpAny (model P w) A (if (a == b) = true then pure true else _) Q' E s
    rw [if_neg (by simpa using ne)]
    refine wpAny_bind (wpAny_load ea (wpAny_bind (wpAny_load eb ?_)))
    split
    · rename_i h1 _ _ _
      rw [ca] at h1
      exact absurd (Value.type.inj h1) (by decide)
    · exact wpAny_pure hq
end
section
variable {X : Cx}
/-- by one of two rules -/
theorem op_or {f : Value → Value → Sem Value} {r1 r2 : R2} (h1 : OpR X f r1) (h2 : OpR X f r2) : OpR X f (fun x y H Q => r1 x y H Q ∨ r2 x y H Q) := fun pins s σ H x y v u Q I rx ry h => h.elim (h1 pins s σ H x y v u Q I rx ry) (h2 pins s σ H x y v u Q I rx ry)
def rEqDT (K : PySem.W.Frag) : R2 := fun x y H Q => ∃ (a b : Addr) (kvs : List (Key × V)) (xs : List V), x = .ref a ∧ y = .ref b ∧ H a = some (.dK kvs) ∧ SqT K H b xs ∧ Q (.bl false) H
theorem op_eqDT (hu : X.A.units < cLine) : OpR X (compareOp .Eq) (rEqDT X.K) := by
  intro pins s σ H x y v u Q I rx ry h
  obtain ⟨a, b, kvs, xs, rfl, rfl, ha, hb, q⟩ := h
  cases rx
  cases ry
  obtain ⟨_, _, vs, _, hd⟩ : kvs.length ≤ sizeLine ∧ (a == sysModules) = false ∧ ∃ vs, KV kvs vs ∧ s.heap.DictOf (mixKind X.prog X.w) a vs := I.hok a _ ha
  obtain ⟨its, _, pl, _⟩ := I.tuple hb
  exact rc_dict_tuple hd.typeIs (show s.heap.IsTuple b its.toArray from pl) hu ⟨.bl false, H, I, rfl, q⟩
end
end So

/-! a dict == a text: never -/
namespace So
open PySem PySem.Spec PyProof.Rows L2
theorem sub_ds : isSubtype (.type "dict") (.type "str") = pure false := by rw [isSubtype_type]; kernel_rfl
theorem sub_sd : isSubtype (.type "str") (.type "dict") = pure false := by rw [isSubtype_type]; kernel_rfl
section
variable {P : Program} {w : World} {A : Around} {E : Value → Shared → Prop} {s : Shared}
theorem rc_dict_str {a : Addr} {z : Str} {t : Tok} {Q : Value → Shared → Prop} (ha : s.TypeIs (.ref a) "dict") (hd : ∃ o e ep, s.heap.get? a = some o ∧ o.data = .dict e ep) (hu : A.units < cLine) (h : Q (.bool false) s) : wpAny (model P w) A (richCompare .Eq (.ref a) (.str z t)) Q E s := by
  have tb : s.TypeIs (.str z t) "str" := typeIs_str s z t
  refine PySem.SeqAt.rc_eq_decline_or (k := false) ha tb (by decide) sub_sd PySem.F.slot_dict_eq PySem.F.slot_str_eq_refl (fun Q' hq => ?_) (fun Q' hq => ?_) (fun Q' hq => ?_) (.inr hu) h
  · refine wpAny_call_entry PySem.F.slot_dict_eq ha PySem.F.entry_dict_eq ?_ (PySem.F.args_dict_eq_2 _ _)
    show wpAny _ _ (Builtin.Dict.dictSlotArgs "__eq__" ⟨[.ref a, .str z t], []⟩ >>= _) _ _ s
    refine wpAny_bind ?_
    unfold Builtin.Dict.dictSlotArgs
    refine wpAny_bind (wpAny_notOrdered_dict ha (wpAny_pure ?_))
    refine wpAny_bind (wpAny_isInstance (T := "str") (b := false) tb sub_sd ?_)
    simp only [Bool.not_false, if_true]
    exact wpAny_bind (wpAny_rule (wpAny_bind (wpAny_pure (wpAny_pure ⟨_, rfl, hq⟩))))
  · have hi : ∀ {A' : Around} {E' : Value → Shared → Prop} {Q2 : Bool → Shared → Prop}, Q2 false s → wpAny (model P w) A' (isInstance (.ref a) (.type "str")) Q2 E' s := fun q => wpAny_isInstance (T := "dict") (b := false) ha sub_ds q
    refine wpAny_call_entry PySem.F.slot_str_eq_refl tb PySem.F.entry_str_eq ?_ (PySem.F.args_str_eq_2 _ _)
    obtain ⟨⟨cls, dd, data, sl⟩, e, ep, ho, ed⟩ := hd
    simp only at ed
    subst ed
    obtain ⟨hp, g, d, tk, os⟩ := s
    wp_walk using PySem.AutoSeq1.wpAny_loadPart' ho, wpAny_load' ho
    exact ⟨_, rfl, hq⟩
  · exact wpAny_isSame_plain rfl hq
end
section
variable {X : Cx}
def rEqDS : R2 := fun x y H Q => ∃ (a : Addr) (kvs : List (Key × V)) (z : Str), x = .ref a ∧ y = .str z ∧ H a = some (.dK kvs) ∧ Q (.bl false) H
theorem op_eqDS (hu : X.A.units < cLine) : OpR X (compareOp .Eq) rEqDS := by
  intro pins s σ H x y v u Q I rx ry h
  obtain ⟨a, kvs, z, rfl, rfl, ha, q⟩ := h
  cases rx
  obtain ⟨t, rfl⟩ := ry
  obtain ⟨_, _, vs, _, hd⟩ : kvs.length ≤ sizeLine ∧ (a == sysModules) = false ∧ ∃ vs, KV kvs vs ∧ s.heap.DictOf (mixKind X.prog X.w) a vs := I.hok a _ ha
  obtain ⟨o, es, ep, ho, _, hdd, _⟩ := id hd
  exact rc_dict_str hd.typeIs ⟨o, es, ep, ho, hdd⟩ hu ⟨.bl false, H, I, rfl, q⟩
end
end So

/-! bool(a tuple) -/
namespace So
open PySem PySem.Spec PyProof.Rows L2
section
variable {X : Cx}
theorem call_boolT : CallR X (.type "bool") (fun xs H Q => ∃ (a : Addr) (zs : List V), xs = [.ref a] ∧ SqT X.K H a zs ∧ Q (.bl (!zs.isEmpty)) H) := by
  intro pins s σ H xs us Q I r h
  obtain ⟨a, zs, rfl, hq, q⟩ := h
  rw [Vals.ref1 r]
  obtain ⟨its, rv, pl, hz⟩ := I.tuple hq
  have hl := line63
  have hlen := rv.length
  have tr : ∀ (R : Bool → Shared → Prop), (∀ b s' H', Inv X pins σ H' s' → Q (.bl b) H' → R b s') → wpAny (model X.prog X.w) X.A.in1.in1 (truthy (.ref a)) R X.xe s := fun R hR =>
    truthy_tuple pl (by simp only [List.size_toArray]; omega) (hR _ _ H (I.tok _) (by rw [isEmpty_of rv]; exact q))
  refine callType_codes (Q₁ := fun ob s1 => ∃ b H', ob = .bool b ∧ Inv X pins σ H' s1 ∧ Q (.bl b) H') PySem.F.called_bool (PySem.F.typeCall_bool_1 _) PySem.F.entry_object_init (codeAny_call_builtin PySem.F.called_bool.plain F.entry_bool_new (wpAny_of_eq (PySem.F.newCall_bool_1 _) ?_)) fun ob s1 hq => ?_
  · have f1 := PySem.F.conv_sub_bool
    refine wpAny_mono (Q := fun fin s' => ∃ b H', fin = .done (.ret (.bool b)) ∧ Inv X pins σ H' s' ∧ Q (.bl b) H') ?_ (fun fin s' z => ?_) fun _ _ z => z
    · unfold Builtin.«bool.__new__»
      repeat (any_goals (first | assumption | (with_reducible refine tr _ fun b s' H' I' q' => ?_) | wp_step))
      exact ⟨_, _, rfl, I', q'⟩
    · obtain ⟨b, H', rfl, I', q'⟩ := z
      exact ⟨b, H', rfl, I', q'⟩
  · obtain ⟨b, H', rfl, I', q'⟩ := hq
    refine ⟨rfl, PySem.F.args_object_init_2 _ _, ?_⟩
    exact object_init_meets PySem.F.called_bool.init.lookup PySem.F.called_bool.made PySem.F.newNe_bool X.prog X.w X.A.in1 _ s1 ⟨rfl, rfl, .bl b, H', I', rfl, q'⟩
end
end So

/-! == of two dicts whose values are data; a dict not in a list of texts; bool(a dict) -/
namespace So
open PySem PySem.Spec PyProof.Rows L2
/-- item by item, up to the first that fails -/
inductive HitsD (K : PySem.W.Frag) (H : Hp) (ls : List (Key × V)) : List (Key × V) → Bool → Prop
  | nil : HitsD K H ls [] true
  | miss {k : Key} {v : V} {r : List (Key × V)} : valV ls k = none → HitsD K H ls ((k, v) :: r) false
  | hit {k : Key} {v y : V} {r : List (Key × V)} {d e : PyData} {b : Bool} : valV ls k = some y → Dp K H v d → Dp K H y e → SeqAt.shaped d = true → SeqAt.shaped e = true → HitsD K H ls r b → HitsD K H ls ((k, v) :: r) (PyData.eqv d e && b)
def rEqDD (K : PySem.W.Frag) : R2 := fun x y H Q => ∃ (a b : Addr) (ks ls : List (Key × V)) (r : Bool), x = .ref a ∧ y = .ref b ∧ H a = some (.dK ks) ∧ H b = some (.dK ls) ∧ HitsD K H ls ks r ∧ Q (.bl (ks.length == ls.length && r)) H
section
variable {X : Cx}
theorem shaped_depth {d : PyData} (h : SeqAt.shaped d = true) : d.depth ≤ 64 := by
  unfold SeqAt.shaped at h
  simp only [Bool.and_eq_true] at h
  have := of_decide_eq_true h.2
  omega
theorem hits_d {pins : List (Addr × Obj)} {σ : L2.St} {H : Hp} {s : Shared} {A : Around} (hu : A.units + 64 < cLine) (I : Inv X pins σ H s) {ls : List (Key × V)} {vb : List (Key × Value)} (rb : KV ls vb) : ∀ {ks : List (Key × V)} {va : List (Key × Value)} {r : Bool}, KV ks va → HitsD X.K H ls ks r → PySem.W.KeqHits A s vb va r := by
  intro ks va r ra
  unfold KV at ra
  induction ra generalizing r with
  | nil =>
    intro h
    cases h
    exact .nil
  | @cons p q ps qs h t ih =>
    intro hh
    obtain ⟨k, v⟩ := q
    obtain ⟨k', v'⟩ := p
    obtain ⟨h1, h2⟩ := h
    have h1' : k' = k := h1
    subst h1'
    have hv := rb.val k'
    cases hh with
    | miss hn =>
      rw [hn] at hv
      exact .miss (RelO.none_of hv)
    | hit e hd he sd se hr =>
      rw [e] at hv
      obtain ⟨y, hy, ry⟩ := hv.some_of
      obtain ⟨as, r1⟩ := Dp.reads I _ _ _ hd h2
      obtain ⟨bs, r2⟩ := Dp.reads I _ _ _ he ry
      refine .hit hy (SeqAt.eqAt_plain _ _ _ _ _ _ _ _ r1 r2 (PyData.plain_of_canLay0 _ (SeqAt.canLay_of_shaped sd)) (PyData.plain_of_canLay0 _ (SeqAt.canLay_of_shaped se)) ?_) (ih hr)
      have := shaped_depth sd
      omega
theorem op_eqDD (hu : X.A.units + 66 < cLine) : OpR X (compareOp .Eq) (rEqDD X.K) := by
  intro pins s σ H x y v u Q I rx ry h
  obtain ⟨a, b, ks, ls, r, rfl, rfl, ea, eb, hh, q⟩ := h
  obtain rfl : v = Value.ref a := rx
  obtain rfl : u = Value.ref b := ry
  obtain ⟨_, ya, va, ra, da⟩ := (show ObjOk X.prog X.w H s.heap a (.dK ks) from I.hok a _ ea)
  obtain ⟨_, yb, vb, rb, db⟩ := (show ObjOk X.prog X.w H s.heap b (.dK ls) from I.hok b _ eb)
  have e1 : va.length = ks.length := ra.length.symm
  have e2 : vb.length = ls.length := rb.length.symm
  exact PySem.W.keq_eq (knd := mixKind X.prog X.w) (r := r) ya yb da db (by omega) (fun _ => hits_d (A := X.A.in1) (by show X.A.units + 1 + 64 < cLine; omega) I rb ra hh) ⟨.bl _, H, I, by rw [e1, e2]; rfl, q⟩
end
section
variable {P : Program} {w : World} {A : Around} {E : Value → Shared → Prop} {s : Shared}
theorem rc_str_dict {a : Addr} {z : Str} {t : Tok} {Q : Value → Shared → Prop} (ha : s.TypeIs (.ref a) "dict") (hd : ∃ o e ep, s.heap.get? a = some o ∧ o.data = .dict e ep) (hu : A.units < cLine) (h : Q (.bool false) s) : wpAny (model P w) A (richCompare .Eq (.str z t) (.ref a)) Q E s := by
  have tb : s.TypeIs (.str z t) "str" := typeIs_str s z t
  refine PySem.SeqAt.rc_eq_decline_or (k := false) tb ha (by decide) sub_ds PySem.F.slot_str_eq_refl PySem.F.slot_dict_eq (fun Q' hq => ?_) (fun Q' hq => ?_) (fun Q' hq => ?_) (.inr hu) h
  · have hi : ∀ {A' : Around} {E' : Value → Shared → Prop} {Q2 : Bool → Shared → Prop}, Q2 false s → wpAny (model P w) A' (isInstance (.ref a) (.type "str")) Q2 E' s := fun q => wpAny_isInstance (T := "dict") (b := false) ha sub_ds q
    refine wpAny_call_entry PySem.F.slot_str_eq_refl tb PySem.F.entry_str_eq ?_ (PySem.F.args_str_eq_2 _ _)
    obtain ⟨⟨cls, dd, data, sl⟩, e, ep, ho, ed⟩ := hd
    simp only at ed
    subst ed
    obtain ⟨hp, g, d, tk, os⟩ := s
    wp_walk using PySem.AutoSeq1.wpAny_loadPart' ho, wpAny_load' ho
    exact ⟨_, rfl, hq⟩
  · refine wpAny_call_entry PySem.F.slot_dict_eq ha PySem.F.entry_dict_eq ?_ (PySem.F.args_dict_eq_2 _ _)
    show wpAny _ _ (Builtin.Dict.dictSlotArgs "__eq__" ⟨[.ref a, .str z t], []⟩ >>= _) _ _ s
    refine wpAny_bind ?_
    unfold Builtin.Dict.dictSlotArgs
    refine wpAny_bind (wpAny_notOrdered_dict ha (wpAny_pure ?_))
    refine wpAny_bind (wpAny_isInstance (T := "str") (b := false) tb sub_sd ?_)
    simp only [Bool.not_false, if_true]
    exact wpAny_bind (wpAny_rule (wpAny_bind (wpAny_pure (wpAny_pure ⟨_, rfl, hq⟩))))
  · exact wpAny_isSame_plain rfl hq
end
section
variable {X : Cx}
/-- x not in a list of texts, x data or a dict -/
def rNotInW (K : PySem.W.Frag) : R2 := fun x y H Q => (∃ d ds, Dp K H x d ∧ Dp K H y (.list ds) ∧ SeqAt.shaped d = true ∧ SeqAt.shaped (.list ds) = true ∧ Q (.bl (!ds.any fun z => PyData.eqv z d)) H) ∨
  ∃ (a l : Addr) (kvs : List (Key × V)) (zs : List Str), x = .ref a ∧ y = .ref l ∧ H a = some (.dK kvs) ∧ SqL K H l (zs.map V.str) ∧ Q (.bl true) H
theorem vals_str {zs : List Str} : ∀ {us : List Value}, Vals (zs.map V.str) us → ∀ u ∈ us, ∃ z t, u = Value.str z t := by
  induction zs with
  | nil => intro us h; cases h; intro u hu; cases hu
  | cons z r ih =>
    intro us h
    cases h with
    | cons h1 h2 =>
      intro u hu
      rcases List.mem_cons.mp hu with e | hu
      · obtain ⟨t, e2⟩ := h1
        exact ⟨z, t, e.trans e2⟩
      · exact ih h2 u hu
theorem op_notInW (hu : X.A.units + 65 < cLine) : OpR X (compareOp .NotIn) (rNotInW X.K) := by
  intro pins s σ H x y v u Q I rx ry h
  rcases h with h | ⟨a, l, kvs, zs, rfl, rfl, ha, hl, q⟩
  · exact op_notInD hu pins s σ H x y v u Q I rx ry h
  · obtain rfl : v = Value.ref a := rx
    obtain rfl : u = Value.ref l := ry
    obtain ⟨_, _, vs, _, hd⟩ : kvs.length ≤ sizeLine ∧ (a == sysModules) = false ∧ ∃ vs, KV kvs vs ∧ s.heap.DictOf (mixKind X.prog X.w) a vs := I.hok a _ ha
    obtain ⟨o, es, ep, ho, _, hdd, _⟩ := id hd
    obtain ⟨its, r, pl, hz⟩ := I.list hl
    refine SeqAt.notIn_listAt (fun _ => false) pl.isList (fun y hy => ?_) ⟨.bl true, H, I, ?_, q⟩
    · obtain ⟨z, t, rfl⟩ := vals_str r y (by simpa using hy)
      intro prog w E Q' hq
      unfold eqBool
      refine wpAny_holding ?_
      refine wpAny_ite_split (fun hab => by simp at hab) (fun _ => ?_)
      exact wpAny_bind (rc_str_dict hd.typeIs ⟨o, es, ep, ho, hdd⟩ (by show X.A.units + 1 < cLine; omega) (wpAny_truthy_bool hq))
    · show Value.bool _ = Value.bool true
      simp
/-- bool(a dict) -/
theorem call_boolK : CallR X (.type "bool") (fun xs H Q => ∃ (a : Addr) (kvs : List (Key × V)), xs = [.ref a] ∧ H a = some (.dK kvs) ∧ Q (.bl (!kvs.isEmpty)) H) := by
  intro pins s σ H xs us Q I r h
  obtain ⟨a, kvs, rfl, hq, q⟩ := h
  rw [Vals.ref1 r]
  obtain ⟨hlen, hds, vs, rv, hd⟩ : kvs.length ≤ sizeLine ∧ (a == sysModules) = false ∧ ∃ vs, KV kvs vs ∧ s.heap.DictOf (mixKind X.prog X.w) a vs := I.hok a _ hq
  have hl := line63
  have el : vs.length = kvs.length := rv.length.symm
  have tr : ∀ (R : Bool → Shared → Prop), (∀ b s' H', Inv X pins σ H' s' → Q (.bl b) H' → R b s') → wpAny (model X.prog X.w) X.A.in1.in1 (truthy (.ref a)) R X.xe s := fun R hR =>
    wpAny_truthy_dict hds hd (by omega) (hR _ _ H (I.tok _) (by
      have : (!vs.isEmpty) = (!kvs.isEmpty) := by cases vs <;> cases kvs <;> simp_all
      first | (rw [this]; exact q) | (simpa [this] using q) | skip))
  refine callType_codes (Q₁ := fun ob s1 => ∃ b H', ob = .bool b ∧ Inv X pins σ H' s1 ∧ Q (.bl b) H') PySem.F.called_bool (PySem.F.typeCall_bool_1 _) PySem.F.entry_object_init (codeAny_call_builtin PySem.F.called_bool.plain F.entry_bool_new (wpAny_of_eq (PySem.F.newCall_bool_1 _) ?_)) fun ob s1 hq => ?_
  · have f1 := PySem.F.conv_sub_bool
    refine wpAny_mono (Q := fun fin s' => ∃ b H', fin = .done (.ret (.bool b)) ∧ Inv X pins σ H' s' ∧ Q (.bl b) H') ?_ (fun fin s' z => ?_) fun _ _ z => z
    · unfold Builtin.«bool.__new__»
      repeat (any_goals (first | assumption | (with_reducible refine tr _ fun b s' H' I' q' => ?_) | wp_step))
      exact ⟨_, _, rfl, I', q'⟩
    · obtain ⟨b, H', rfl, I', q'⟩ := z
      exact ⟨b, H', rfl, I', q'⟩
  · obtain ⟨b, H', rfl, I', q'⟩ := hq
    refine ⟨rfl, PySem.F.args_object_init_2 _ _, ?_⟩
    exact object_init_meets PySem.F.called_bool.init.lookup PySem.F.called_bool.made PySem.F.newNe_bool X.prog X.w X.A.in1 _ s1 ⟨rfl, rfl, .bl b, H', I', rfl, q'⟩
end
end So

namespace K08
open PySem PySem.Spec PyProof.Rows L2 So
abbrev sLTools : Stmt := inClass (topS 20) 1
abbrev sLEq : Stmt := inClass (topS 20) 8
abbrev sLBool : Stmt := inClass (topS 20) 9
theorem scLTools : FnScope ["self"] ["self"] (defScope sLTools) := ⟨rfl, rfl, rfl, by decide +kernel, rfl, by decide +kernel, by decide +kernel⟩
theorem scLEq : FnScope ["self", "other"] ["self", "other"] (defScope sLEq) := ⟨rfl, rfl, rfl, by decide +kernel, rfl, by decide +kernel, by decide +kernel⟩
theorem scLBool : FnScope ["self"] ["self"] (defScope sLBool) := ⟨rfl, rfl, rfl, by decide +kernel, rfl, by decide +kernel, by decide +kernel⟩
/-- an instance of Lives against built-in types -/
structure LvsI (K : PySem.W.Frag) (C : Addr) : Prop where
  ha : PySem.W.findIn K (.ref C) "__class__" = some (some (.builtin "object.__class__"))
  hn : PySem.W.specialIn K (.builtin "object.__class__") "__get__" = some (some (.builtin "getset_descriptor.__get__"))
  htk : PySem.W.takesIn K (.builtin "object.__class__") = some true
  hm : PySem.W.mroIn K C (.type "object") = some true
  me : PySem.W.kitOne K (.ref C) (.ref C) = some true
theorem keysL {H : Hp} : ∀ {kvs : List (Key × V)} {L : List (Str × List Int)}, Paired (EntL H) kvs L → (kvs.map fun kv => kV kv.1) = (L.map (·.1)).map V.str
  | _, _, .nil => rfl
  | _, _, .cons (a := kv) (b := p) h t => by
    obtain ⟨e, _⟩ := h
    rw [List.map_cons, List.map_cons, List.map_cons, keysL t, e]
    rfl
theorem eqv_ints : ∀ ns ms : List Int, PyData.eqvAll (ns.map PyData.int) (ms.map PyData.int) = decide (ns = ms)
  | [], [] => by simp [PyData.eqvAll]
  | [], _ :: _ => by simp [PyData.eqvAll]
  | _ :: _, [] => by simp [PyData.eqvAll]
  | n :: r, m :: t => by
    simp only [List.map_cons, PyData.eqvAll, PyData.eqv, eqv_ints r t, List.cons.injEq, Bool.decide_and]
    congr 1
theorem eqv_tupI (ns ms : List Int) : PyData.eqv (.tuple (ns.map PyData.int)) (.tuple (ms.map PyData.int)) = decide (ns = ms) := by
  rw [PyData.eqv]
  exact eqv_ints ns ms
theorem hu66 {A : Around} {k : Nat} (hr : Room k A) : A.units + 66 < cLine := by
  have := hr.un
  omega
theorem shaped_tupI (ns : List Int) : SeqAt.shaped (.tuple (ns.map PyData.int)) = true := by
  unfold SeqAt.shaped
  rw [Bool.and_eq_true]
  have hd := depth_ints ns
  refine ⟨?_, decide_eq_true ?_⟩
  · show PyData.canLay0 _ = true
    simp only [PyData.canLay0]
    clear hd
    induction ns with
    | nil => rfl
    | cons a r ih => simpa [PyData.canLayAll0, PyData.canLay0] using ih
  · simp only [PyData.depth]
    omega
/-- whether two lives are the same, as their dicts tell -/
def sameL (L L' : List (Str × List Int)) : Bool := L.all fun p => decide (L'.lookup p.1 = some p.2)
theorem hits_L {K : PySem.W.Frag} {H : Hp} {kvs' : List (Key × V)} {L' : List (Str × List Int)} (h' : Paired (EntL H) kvs' L') : ∀ {kvs : List (Key × V)} {L : List (Str × List Int)}, Paired (EntL H) kvs L → HitsD K H kvs' kvs (sameL L L')
  | _, _, .nil => .nil
  | _, _, .cons (a := kv) (b := p) h t => by
    obtain ⟨e, u, e1, e2⟩ := h
    obtain ⟨k, v⟩ := kv
    have e : k = Sum.inr p.1 := e
    have e1 : v = .ref u := e1
    subst e e1
    have ih := hits_L (K := K) h' t
    show HitsD K H kvs' _ (decide (L'.lookup p.1 = some p.2) && sameL _ L')
    cases hl : L'.lookup p.1 with
    | none =>
      rw [show decide ((none : Option (List Int)) = some p.2) = false from by simp, Bool.false_and]
      exact .miss ((ls_get p.1 h').1 hl)
    | some ns =>
      obtain ⟨u', f1, f2⟩ := (ls_get p.1 h').2 ns hl
      have := HitsD.hit (K := K) f1 (.tup (SqT.of e2) (dp_ints _)) (.tup (SqT.of f2) (dp_ints _)) (shaped_tupI _) (shaped_tupI _) ih
      rw [eqv_tupI] at this
      rw [show decide (some ns = some p.2) = decide (p.2 = ns) from decide_eq_decide.mpr ⟨fun h => (Option.some.inj h).symm, fun h => by rw [h]⟩]
      exact this
theorem sameL_self {L : List (Str × List Int)} (nd : (L.map (·.1)).Nodup) : sameL L L = true := List.all_eq_true.mpr fun p hp => decide_eq_true (lookup_mem nd hp)
section
variable {P : Program} {w : World} {K : PySem.W.Frag} {mg : Str → Option Value} {base : Heap}
/-- the tools in a tuple -/
def spLTools (C : Addr) : Sp := fun vs H Q _ => ∃ (a : Addr) (L : List (Str × List Int)), vs = [.ref a] ∧ LsAt C H a L ∧ ∀ (H' : Hp) (t : Addr), Same H H' → H' t = some (.tup ((L.map (·.1)).map V.str)) → Q (.ref t) H'
theorem ok_ltools {C f : Addr} {fd : FuncData} (F : Fun K "tools" "Lives.tools" sLTools f fd) (T : Lvs K mg C) (mt : mg "tuple" = none) : FnOk P w K mg base CX0 1 f fd ["self"] (spLTools C) := by
  refine F.ok scLTools (fun vs H Q E h => ?_) (fun cdv A outer s H vs Q E hr h => ?_)
  · obtain ⟨_, _, rfl, _⟩ := h
    rfl
  · obtain ⟨a, L, rfl, ⟨dx, d, kvs, h1, h2, h3⟩, q⟩ := h
    refine ⟨_, pss_one (ps_ret (pe_callTy (call_tupleD rfl) (by rfl) mt (by decide +kernel) (pa_cons (pe_fld (pv 0) rfl) pa_nil))), ?_⟩
    refine ⟨_, rfl, a, C, dx, _, _, rfl, h1, T.cl, T.nB, rfl, d, kvs, rfl, .inl h2, fun t ht => ?_⟩
    rw [keysL h3]
    exact q _ t (same_upd0 ht) upd_same
/-- == of lives and of anything -/
def spLEq (C : Addr) : Sp := fun vs H Q _ => ∃ (a : Addr) (y : V) (L : List (Str × List Int)), vs = [.ref a, y] ∧ LsAt C H a L ∧
  ((∃ (a' : Addr) (L' : List (Str × List Int)), y = .ref a' ∧ LsAt C H a' L' ∧ Q (.bl (L.length == L'.length && sameL L L')) H) ∨ ∃ T, Gv H y T ∧ Q (.bl false) H)
theorem ok_leq {C f : Addr} {fd : FuncData} (F : Fun K "__eq__" "Lives.__eq__" sLEq f fd) (T : Lvs K mg C) (TI : LvsI K C) (W : Words K mg) : FnOk P w K mg base CX0 2 f fd ["self", "other"] (spLEq C) := by
  refine F.ok scLEq (fun vs H Q E h => ?_) (fun cdv A outer s H vs Q E hr h => ?_)
  · obtain ⟨_, _, _, rfl, _⟩ := h
    rfl
  · obtain ⟨a, y, L, rfl, ⟨dx, d, kvs, h1, h2, h3⟩, h⟩ := h
    refine ⟨_, pss_one (ps_ret (pe_and (pe_callB call_isi (by rfl) W.isi (by decide +kernel) (pa_cons (pv 1) (pa_cons (pe_glob (v := .ref C) rfl T.mgC rfl) pa_nil)))
      (pe_one (pe_cmpR (op_eqDD (hu66 hr)) (pe_fld (pv 0) rfl) (pe_fld (pv 1) rfl) (nomark _))))), ?_⟩
    rcases h with ⟨a', L', rfl, ⟨dx', d', kvs', g1, g2, g3⟩, q⟩ | ⟨Ty, hg, q⟩
    · refine ⟨_, rfl, _, _, _, _, true, rfl, .own C, .base (.ins g1 T.cl TI.ha TI.hn TI.htk TI.hm), TI.me, true, rfl, iteT ?_⟩
      refine ⟨_, rfl, a, C, dx, _, _, rfl, h1, T.cl, T.nB, rfl, _, rfl, a', C, dx', _, _, rfl, g1, T.cl, T.nB, rfl, d, d', kvs, kvs', sameL L L', rfl, rfl, h2, g2, hits_L g3 h3, ?_⟩
      rw [Paired.length h3, Paired.length g3]
      exact q
    · have ht : PySem.W.kitOne K (.type Ty) (.ref C) = some false := by
        cases hg <;> exact (T.no _ (by simp)).1
      exact ⟨_, rfl, _, _, _, _, false, rfl, .own C, hg.ty, ht, false, rfl, iteF q⟩
/-- whether there is a tool -/
def spLBool (C : Addr) : Sp := fun vs H Q _ => ∃ (a : Addr) (L : List (Str × List Int)), vs = [.ref a] ∧ LsAt C H a L ∧ Q (.bl (!L.isEmpty)) H
theorem ok_lbool {C f : Addr} {fd : FuncData} (F : Fun K "__bool__" "Lives.__bool__" sLBool f fd) (T : Lvs K mg C) (W : Words K mg) : FnOk P w K mg base CX0 1 f fd ["self"] (spLBool C) := by
  refine F.ok scLBool (fun vs H Q E h => ?_) (fun cdv A outer s H vs Q E hr h => ?_)
  · obtain ⟨_, _, rfl, _⟩ := h
    rfl
  · obtain ⟨a, L, rfl, ⟨dx, d, kvs, h1, h2, h3⟩, q⟩ := h
    refine ⟨_, pss_one (ps_ret (pe_callTy call_boolK (by rfl) W.bool (by decide +kernel) (pa_cons (pe_fld (pv 0) rfl) pa_nil))), ?_⟩
    refine ⟨_, rfl, a, C, dx, _, _, rfl, h1, T.cl, T.nB, rfl, d, kvs, rfl, h2, ?_⟩
    have e := Paired.length h3
    rw [show (!kvs.isEmpty) = (!L.isEmpty) by cases kvs <;> cases L <;> simp_all]
    exact q
end
end K08

namespace K08
open PySem PySem.Spec PyProof.Rows L2 So
abbrev sLName : Stmt := topS 26
abbrev sWords : Stmt := topS 25
theorem scLName : FnScope ["_law_pen_here", "_law_letters", "_law_made", "_law_k"] ["_law_pen_here"] (defScope sLName) := ⟨rfl, rfl, rfl, by decide +kernel, rfl, by decide +kernel, by decide +kernel⟩
theorem scWords : FnScope ["_law_some"] [] (defScope sWords) := ⟨rfl, rfl, rfl, by decide +kernel, rfl, by decide +kernel, by decide +kernel⟩
theorem cut63 (xs : List V) : cutV xs none (some 63) = xs.take 63 := by
  unfold cutV
  rw [HT.sIx_none, show HT.sIx xs.length xs.length (some 63) = min 63 xs.length from HT.sIx_nat xs.length xs.length 63]
  simp
theorem same3 {H : Hp} {a b c : Addr} {o1 o2 o3 : HO} (ha : H a = none) (hb : upd H a o1 b = none) (hc : upd (upd H a o1) b o2 c = none) : Same H (upd (upd (upd H a o1) b o2) c o3) ∧ H c = none :=
  have s2 := (same_upd0 (o := o1) ha).trans (same_upd0 (o := o2) hb)
  ⟨s2.trans (same_upd0 hc), s2.free hc⟩
section
variable {P : Program} {w : World} {K : PySem.W.Frag} {mg : Str → Option Value} {base : Heap}
def spPen (K : PySem.W.Frag) : Sp := fun vs H Q _ => ∃ (a : Addr) (ns : List Int), vs = [.ref a] ∧ SqL K H a (ns.map V.int) ∧ ∀ (H' : Hp) (p l : Addr) (ns' : List Int), Same H H' → Pen H' p l ns' 0 0 → Q (.ref p) H'
theorem ok_pen {f : Addr} {fd : FuncData} (F : Fun K "_law_pen" "_law_pen" sPen f fd) (ml : mg "list" = none) : FnOk P w K mg base CX0 1 f fd ["_law_script"] (spPen K) := by
  refine F.ok scPen (fun vs H Q E h => ?_) (fun cdv A outer s H vs Q E hr h => ?_)
  · obtain ⟨a, ns, rfl, _⟩ := h
    rfl
  · obtain ⟨a, ns, rfl, hS, q⟩ := h
    refine ⟨_, pss_one (ps_ret (pe_lst (pa_cons (pe_callTy call_list_of (by rfl) ml (by decide +kernel) (pa_cons (pe_slice sl_list (pv 0) po_none (po_some pe_int)) pa_nil)) (pa_cons pe_int (pa_cons pe_int pa_nil))))), ?_⟩
    refine ⟨_, rfl, 63, rfl, a, ns.map V.int, rfl, hS, fun c hc => ?_⟩
    rw [cut63, ← List.map_take]
    refine ⟨c, _, rfl, .inl (SqL.of upd_same), fun l hl => ?_⟩
    refine ⟨by show 3 ≤ sizeLine; decide, fun p hp => ?_⟩
    have s1 : Same H (upd (upd (upd H c (.lst ((ns.take 63).map V.int))) l (.lst ((ns.take 63).map V.int))) p (.lst [.ref l, .int 0, .int 0])) := by
      refine ((same_upd0 hc).trans (same_upd0 hl)).trans (same_upd0 hp)
    have nlp : l ≠ p := fun e => by
      rw [e, upd_same] at hp
      cases hp
    exact q _ p l (ns.take 63) s1 ⟨upd_same, (upd_ne nlp).trans upd_same, Int.le_refl 0⟩
/-- the words that are no names -/
def spWords : Sp := fun vs H Q _ => vs = [] ∧ ∀ (H' : Hp) (a : Addr), Same H H' → H a = none → H' a = some (.lst (noNames.map V.str)) → Q (.ref a) H'
theorem ok_words {f : Addr} {fd : FuncData} (F : Fun K "_law_words" "_law_words" sWords f fd) : FnOk P w K mg base CX0 1 f fd [] spWords := by
  refine F.ok scWords (fun vs H Q E h => ?_) (fun cdv A outer s H vs Q E hr h => ?_)
  · obtain ⟨rfl, _⟩ := h
    rfl
  · obtain ⟨rfl, q⟩ := h
    refine ⟨_, (pss_cons (ps_set (i := 0) scWords.nd rfl (.inl rfl) (pe_lst (pa_cons pe_str (pa_cons pe_str (pa_cons pe_str (pa_cons pe_str (pa_cons pe_str (pa_cons pe_str (pa_cons pe_str (pa_cons pe_str (pa_cons pe_str (pa_cons pe_str pa_nil))))))))))))
      (pss_one (ps_ret (pe_op op_cat (pv 0) (pe_lst (pa_cons pe_str (pa_cons pe_str (pa_cons pe_str (pa_cons pe_str (pa_cons pe_str (pa_cons pe_str (pa_cons pe_str (pa_cons pe_str (pa_cons pe_str (pa_cons pe_str pa_nil))))))))))))))), ?_⟩
    refine ⟨by show 10 ≤ sizeLine; decide, fun a ha => ?_⟩
    refine ⟨_, rfl, by show 10 ≤ sizeLine; decide, fun b hb => ?_⟩
    refine ⟨a, b, _, _, rfl, rfl, (upd_ne (ne_of_none upd_same hb)).trans upd_same, upd_same, by show 20 ≤ sizeLine; decide, fun c hc => ?_⟩
    exact q _ c (same3 ha hb hc).1 (same3 (o3 := .lst []) ha hb hc).2 upd_same
/-- what is being written of a name -/
def Nm (z : Str) (k : Nat) : Prop := 1 ≤ z.length ∧ z.length ≤ k ∧ z.cps.toList.headD 0 ∈ letters.cps.toList ∧ z.cps.toList.all isAln = true
theorem Nm.one {c : Nat} (h : c ∈ letters.cps.toList) : Nm ⟨#[c]⟩ 1 := by
  refine ⟨Nat.le_refl _, Nat.le_refl _, h, ?_⟩
  have : isAln c = true := decide_eq_true (by
    show c ∈ (letters.cps ++ digits.cps).toList
    rw [Array.toList_append]
    exact List.mem_append_left _ h)
  simp [this]
theorem Nm.more {z : Str} {k c : Nat} (h : Nm z k) (hc : c ∈ (letters ++ digits).cps.toList) : Nm (z ++ ⟨#[c]⟩) (k + 1) := by
  obtain ⟨h1, h2, h3, h4⟩ := h
  have e : (z ++ (⟨#[c]⟩ : Str)).cps.toList = z.cps.toList ++ [c] := Array.toList_append
  have el : (z ++ (⟨#[c]⟩ : Str)).length = z.length + 1 := by
    show (z ++ (⟨#[c]⟩ : Str)).cps.size = z.cps.size + 1
    rw [← Array.length_toList, e, List.length_append, Array.length_toList]
    rfl
  refine ⟨by omega, by omega, ?_, ?_⟩
  · rw [e]
    cases q : z.cps.toList with
    | nil =>
      have : z.length = z.cps.toList.length := Array.length_toList.symm
      rw [q] at this
      simp at this
      omega
    | cons a r =>
      rw [q] at h3
      exact h3
  · rw [e, List.all_append, h4]
    simp [isAln, hc]
theorem Nm.name {z : Str} (h : Nm z 8) (hn : noNames.contains z = false) : isName z = true := by
  obtain ⟨h1, h2, h3, h4⟩ := h
  unfold isName
  rw [decide_eq_true h1, decide_eq_true h2, hn, decide_eq_true h3, h4]
  rfl
theorem x_name : ∀ z ∈ noNames, isName (("x" : Str) ++ cutS z (some 1) none) = true := by decide +kernel
theorem x_len : ∀ z ∈ noNames, ("x" : Str).length + (cutS z (some 1) none).length ≤ 100 := by decide +kernel
theorem len_noNames : ∀ z ∈ noNames, z.length ≤ 8 := by decide +kernel
/-- a drawn name -/
def spLName : Sp := fun vs H Q _ => ∃ (p l : Addr) (ns : List Int) (n : Nat) (g : Int), vs = [.ref p] ∧ Pen H p l ns n g ∧ n < 999000 ∧
  ∀ (z : Str) (n' : Nat) (g' : Int) (H' : Hp), isName z = true → n' ≤ n + 9 → Off p H H' → Pen H' p l ns n' g' → Q (.str z) H'
theorem ok_lname {f fP fW : Addr} {fd fdP fdW : FuncData} (F : Fun K "_law_name" "_law_name" sLName f fd) (mr : mg "range" = none) (FP : Fun K "_law_pick" "_law_pick" sPick fP fdP) (bP : Binds K fdP ["_law_pen_here", "_law_some"] []) (gP : mg "_law_pick" = some (.ref fP))
    (GP : FnOk P w K mg base CX0 2 fP fdP ["_law_pen_here", "_law_some"] (spPick K)) (FW : Fun K "_law_words" "_law_words" sWords fW fdW) (bW : Binds K fdW [] []) (gW : mg "_law_words" = some (.ref fW)) (GW : FnOk P w K mg base CX0 1 fW fdW [] spWords) :
    FnOk P w K mg base CX0 3 f fd ["_law_pen_here"] spLName := by
  refine F.ok scLName (fun vs H Q E h => ?_) (fun cdv A outer s H vs Q E hr h => ?_)
  · obtain ⟨p, l, ns, n, g, rfl, _⟩ := h
    rfl
  · obtain ⟨p, l, ns, n, g, rfl, hp, hn, k⟩ := h
    have hr1 : Room 1 _ := hr.mono (by decide)
    refine ⟨_, pss_cons (ps_set (i := 1) scLName.nd rfl (.inl rfl) pe_str)
      (pss_cons (ps_set (i := 2) scLName.nd rfl (.inl rfl) (pe_call GP hr (by rfl) gP FP.kp bP .nil pass0 (pa_cons (pv 0) (pa_cons (pv 1) pa_nil))))
      (pss_cons (ps_for PassesOwn.never rfl (pi_range1 (by rfl) mr (pa_cons (pe_call GP hr (by rfl) gP FP.kp bP .nil pass0 (pa_cons (pv 0) (pa_cons (pe_lst (pa_cons pe_int (pa_cons pe_int (pa_cons pe_int (pa_cons pe_int (pa_cons pe_int pa_nil)))))) pa_nil))) pa_nil)) (pg_name (i := 3) scLName.nd rfl (Or.inl rfl))
        (pss_one (ps_set (i := 2) scLName.nd rfl (.inl rfl) (pe_op op_add_str (pv 2) (pe_call GP hr (by rfl) gP FP.kp bP .nil pass0 (pa_cons (pv 0) (pa_cons (pe_op op_add_str (pv 1) pe_str) pa_nil)))))))
      (pss_one (ps_ret (pe_ifExp (pt_cmpR op_notIn_seq (pv 2) (pe_call0 GW hr1 (by rfl) gW FW.kp bW .nil pass0) (by rfl)) (pv 2) (pe_op op_add_str pe_str (pe_slice sl_str (pv 2) (po_some pe_int) po_none))))))), ?_⟩
    have s26 : (0 : Nat) < letters.length ∧ letters.length ≤ 1000 := by decide +kernel
    have s36 : (0 : Nat) < (letters ++ digits).length ∧ (letters ++ digits).length ≤ 1000 ∧ letters.length + digits.length ≤ sizeLine := by decide +kernel
    refine ⟨_, rfl, _, rfl, p, l, ns, n, g, _, rfl, hp, by omega, .inr ⟨_, rfl, s26.1, s26.2, fun c n1 g1 H1 hc hn1 off1 pen1 => ?_⟩⟩
    refine ⟨_, rfl, (by show 5 ≤ sizeLine; decide), fun q1 hq1 => ?_⟩
    refine ⟨p, l, ns, n1, g1, _, rfl, pen1.new hq1, by omega, .inl ⟨q1, _, rfl, (ne_of_none pen1.pen hq1).symm, upd_same, (by show 0 < 5; decide), (by show 5 ≤ 1000; decide), fun v n2 g2 H2 hv hn2 off2 pen2 => ?_⟩⟩
    obtain ⟨r, hr7, rfl⟩ : ∃ r : Nat, r ≤ 7 ∧ v = .int r := by
      simp only [List.mem_cons, List.not_mem_nil, or_false] at hv
      rcases hv with h | h | h | h | h <;> subst h
      · exact ⟨0, by decide, rfl⟩
      · exact ⟨0, by decide, rfl⟩
      · exact ⟨1, by decide, rfl⟩
      · exact ⟨2, by decide, rfl⟩
      · exact ⟨7, by decide, rfl⟩
    have off12 : Off p H H2 := Off.trans (off1.new hq1) off2
    refine ⟨r, rfl, by omega, by omega, for_range (n := r) (fun i σ' H' => ∃ (z : Str) (x : Option V) (n' : Nat) (g' : Int), σ' = [some (.ref p), some (.str letters), some (.str z), x] ∧ Nm z (i + 1) ∧ n' ≤ n + 2 + i ∧ Off p H H' ∧ Pen H' p l ns n' g') ⟨_, none, n2, g2, rfl, Nm.one hc, by omega, off12, pen2⟩ ?_ ?_⟩
    · rintro i σ' H3 hi ⟨z, x, n3, g3, rfl, hz, hn3, off3, pen3⟩
      refine ⟨_, rfl, _, rfl, _, rfl, _, _, rfl, rfl, s36.2.2, p, l, ns, n3, g3, _, rfl, pen3, by omega, .inr ⟨_, rfl, s36.1, s36.2.1, fun c' n4 g4 H4 hc' hn4 off4 pen4 => ?_⟩⟩
      refine ⟨z, _, rfl, rfl, ?_, ?_⟩
      · have := hz.2.1
        show z.length + 1 ≤ sizeLine
        exact Nat.le_trans (by omega : z.length + 1 ≤ 100) (by decide)
      · exact ⟨_, _, n4, g4, rfl, hz.more hc', by omega, off3.trans off4, pen4⟩
    · rintro σ' H3 ⟨z, x, n3, g3, rfl, hz, hn3, off3, pen3⟩
      have hz8 : Nm z 8 := ⟨hz.1, by have := hz.2.1; omega, hz.2.2⟩
      refine ⟨_, rfl, rfl, fun H4 aW s4 hW hH4 => ?_⟩
      have pen4 : Pen H4 p l ns n3 g3 := ⟨s4 _ _ pen3.pen, s4 _ _ pen3.cells, pen3.left⟩
      have off4 : Off p H H4 := off3.trans fun b o _ e => s4 b o e
      refine ⟨aW, _, rfl, .inl (SqL.of hH4), rfl, flat_strs _, _, rfl, ?_⟩
      rw [show inV (.str z) (noNames.map V.str) = noNames.contains z from inV_strs z noNames]
      cases c3 : noNames.contains z with
      | false =>
        refine iteT ?_
        exact ⟨_, rfl, k z n3 g3 H4 (hz8.name c3) (by omega) off4 pen4⟩
      | true =>
        refine iteF ?_
        have hm : z ∈ noNames := by simpa using c3
        refine ⟨_, rfl, 1, rfl, z, rfl, ?_, _, _, rfl, rfl, ?_, k _ n3 g3 H4 (x_name z hm) (by omega) off4 pen4⟩
        · have := len_noNames z hm
          exact Nat.le_trans (by omega : z.length ≤ 100) (by decide)
        · exact Nat.le_trans (x_len z hm) (by decide)
end
end K08

namespace K08
open PySem PySem.Spec PyProof.Rows L2 So
theorem aln_small : ∀ c ∈ (letters ++ digits).cps.toList, c < 128 := by decide +kernel
theorem name_small {z : Str} (h : isName z = true) : ∀ c ∈ z.cps.toList, c < 128 := by
  unfold isName at h
  simp only [Bool.and_eq_true] at h
  intro c hc
  exact aln_small c (of_decide_eq_true (List.all_eq_true.mp h.2 c hc))
theorem name_len {z : Str} (h : isName z = true) : z.length ≤ 8 := by
  unfold isName at h
  simp only [Bool.and_eq_true] at h
  exact of_decide_eq_true h.1.1.1.2
theorem name_strOk {z : Str} (h : isName z = true) : PyData.strOk z = true := by
  unfold PyData.strOk
  rw [← Array.all_toList]
  exact List.all_eq_true.mpr fun c hc => decide_eq_true (Nat.lt_trans (name_small h c hc) (by decide))
/-! ### names in order -/
def leS (a b : Str) : Prop := a.cps.toList ≤ b.cps.toList
def insS (x : Str) : List Str → List Str
  | [] => [x]
  | y :: r => if ltCps y.cps.toList x.cps.toList = true then y :: insS x r else x :: y :: r
def srtS (l : List Str) : List Str := l.foldr insS []
theorem insS_perm (x : Str) : ∀ l, (insS x l).Perm (x :: l)
  | [] => .refl _
  | y :: r => by
    unfold insS
    split
    · exact ((insS_perm x r).cons y).trans (.swap x y r)
    · exact .refl _
theorem srtS_perm : ∀ l, (srtS l).Perm l
  | [] => .refl _
  | x :: r => (insS_perm x _).trans ((srtS_perm r).cons x)
theorem insS_pw (x : Str) : ∀ {l : List Str}, l.Pairwise leS → (insS x l).Pairwise leS
  | [], _ => List.pairwise_singleton _ _
  | y :: r, h => by
    obtain ⟨h1, h2⟩ := List.pairwise_cons.mp h
    unfold insS
    split
    · rename_i c
      rw [ltCps_eq, decide_eq_true_eq] at c
      refine List.pairwise_cons.mpr ⟨fun z hz => ?_, insS_pw x h2⟩
      rcases List.mem_cons.mp ((insS_perm x r).mem_iff.mp hz) with e | e
      · rw [e]
        exact List.le_of_lt c
      · exact h1 z e
    · rename_i c
      rw [ltCps_eq, decide_eq_true_eq] at c
      have c : x.cps.toList ≤ y.cps.toList := List.not_lt.mp c
      refine List.pairwise_cons.mpr ⟨fun z hz => ?_, h⟩
      rcases List.mem_cons.mp hz with e | e
      · rw [e]
        exact c
      · exact List.le_trans c (h1 z e)
theorem srtS_pw : ∀ l, (srtS l).Pairwise leS
  | [] => .nil
  | x :: r => insS_pw x (srtS_pw r)
theorem srtS_sorted (l : List Str) : sortedS (srtS l) = true := sortedS_of_pairwise _ ((srtS_pw l).imp fun {a b} h => by
  rw [ltCps_eq, decide_eq_false_iff_not]
  exact List.not_lt.mpr h)
theorem srtS_one {l ys : List Str} (nd : l.Nodup) (hp : ys.Perm l) (hs : sortedS ys = true) : ys = srtS l :=
  sortedS_one hs (srtS_sorted l) (hp.nodup_iff.mpr nd) ((srtS_perm l).nodup_iff.mpr nd) fun k => hp.mem_iff.trans (srtS_perm l).mem_iff.symm
/-! ### drawn beginnings -/
/-- an entry: a name, the list of its beginnings -/
def EnS (H : Hp) (kv : Key × V) (p : Str × List Int) : Prop := kv.1 = Sum.inr p.1 ∧ ∃ l, kv.2 = .ref l ∧ H l = some (.lst (p.2.map V.int))
def StAt (H : Hp) (d : Addr) (S : List (Str × List Int)) : Prop := ∃ kvs, H d = some (.dK kvs) ∧ Paired (EnS H) kvs S
structure StOk (S : List (Str × List Int)) : Prop where
  nd : (S.map (·.1)).Nodup
  few : S.length ≤ 12
  nm : ∀ p ∈ S, isName p.1 = true
  len : ∀ p ∈ S, p.2.length ≤ 6
  ms : ∀ p ∈ S, ∀ n ∈ p.2, 1 ≤ n ∧ n ≤ 1000000000000000000000000000000
/-- the lives of such a dict -/
def LS (S : List (Str × List Int)) : List (Str × List Int) := (srtS (S.map (·.1))).map fun z => (z, 0 :: srt ((S.lookup z).getD []))
theorem LS_fst (S : List (Str × List Int)) : (LS S).map (·.1) = srtS (S.map (·.1)) := by
  unfold LS
  rw [List.map_map]
  exact List.map_id _
theorem srt_len : ∀ l : List Int, (srt l).length ≤ l.length
  | [] => Nat.le_refl _
  | x :: r => by
    have h1 := srt_len r
    have h2 : ∀ (k : Int) (l : List Int), (ins1 k l).length ≤ l.length + 1 := by
      intro k l
      induction l with
      | nil => simp [ins1]
      | cons y t ih =>
        unfold ins1
        split
        · simp
        · split
          · simp
          · simp only [List.length_cons]
            omega
    have := h2 x (srt r)
    show (ins1 x (srt r)).length ≤ r.length + 1
    omega
theorem StOk.ok {S : List (Str × List Int)} (h : StOk S) : LOk (LS S) := by
  have e : (LS S).length = S.length := by
    unfold LS
    rw [List.length_map, (srtS_perm _).length_eq, List.length_map]
  refine ⟨by rw [LS_fst]; exact srtS_sorted _, by rw [LS_fst]; exact (srtS_perm _).nodup_iff.mpr h.nd, by have := h.few; omega, fun z ns hm => ?_⟩
  obtain ⟨z', hz, e⟩ := List.mem_map.mp hm
  obtain ⟨rfl, rfl⟩ := Prod.mk.inj e
  obtain ⟨p, hp, rfl⟩ := List.mem_map.mp ((srtS_perm _).mem_iff.mp hz)
  have hl : S.lookup p.1 = some p.2 := lookup_mem h.nd hp
  rw [hl]
  have hn := h.nm p hp
  refine ⟨hn, Nat.le_trans (name_len hn) (by decide), srt p.2, rfl, ?_, fun n hn => ?_, srt_asc _⟩
  · have h1 := srt_len p.2
    have h2 := h.len p hp
    show (srt p.2).length < 64
    omega
  · exact decide_eq_true (h.ms p hp n (srt_mem.mp hn))
theorem LS_mem {S : List (Str × List Int)} (h : StOk S) {p : Str × List Int} (hp : p ∈ S) : (p.1, 0 :: srt p.2) ∈ LS S := by
  refine List.mem_map.mpr ⟨p.1, (srtS_perm _).mem_iff.mpr (List.mem_map_of_mem (f := (·.1)) hp), ?_⟩
  rw [show S.lookup p.1 = some p.2 from lookup_mem h.nd hp]
  rfl
theorem LS_mem' {S : List (Str × List Int)} (h : StOk S) {z : Str} {ns : List Int} (hm : (z, ns) ∈ LS S) : ∃ ms, (z, ms) ∈ S ∧ ns = 0 :: srt ms := by
  obtain ⟨z', hz, e⟩ := List.mem_map.mp hm
  obtain ⟨rfl, rfl⟩ := Prod.mk.inj e
  obtain ⟨p, hp, rfl⟩ := List.mem_map.mp ((srtS_perm _).mem_iff.mp hz)
  exact ⟨p.2, hp, by rw [show S.lookup p.1 = some p.2 from lookup_mem h.nd hp]; rfl⟩
theorem LS_none {S : List (Str × List Int)} {z : Str} (h : z ∉ S.map (·.1)) : (LS S).lookup z = none := lookup_not (by rw [LS_fst]; exact fun hm => h ((srtS_perm _).mem_iff.mp hm))
/-- one more name, or other beginnings -/
def putS (S : List (Str × List Int)) (z : Str) (ms : List Int) : List (Str × List Int) := if z ∈ S.map (·.1) then S.map (fun p => if p.1 = z then (z, ms) else p) else S ++ [(z, ms)]
theorem putS_ok {S : List (Str × List Int)} {z : Str} {ms : List Int} (h : StOk S) (hf : S.length < 12) (hz : isName z = true) (hl : ms.length ≤ 6) (hm : ∀ n ∈ ms, 1 ≤ n ∧ n ≤ 1000000000000000000000000000000) : StOk (putS S z ms) ∧ (putS S z ms).length ≤ S.length + 1 := by
  unfold putS
  by_cases c : z ∈ S.map (·.1)
  · rw [if_pos c]
    have cases_ : ∀ p ∈ S.map (fun p => if p.1 = z then (z, ms) else p), p = (z, ms) ∨ p ∈ S := fun p hp => by
      obtain ⟨q, hq, rfl⟩ := List.mem_map.mp hp
      by_cases c2 : q.1 = z
      · rw [if_pos c2]
        exact .inl rfl
      · rw [if_neg c2]
        exact .inr hq
    refine ⟨⟨?_, by rw [List.length_map]; exact h.few, fun p hp => ?_, fun p hp => ?_, fun p hp => ?_⟩, by rw [List.length_map]; exact Nat.le_succ _⟩
    · have e : (S.map (fun p => if p.1 = z then (z, ms) else p)).map (·.1) = S.map (·.1) := by
        rw [List.map_map]
        refine List.map_congr_left fun p _ => ?_
        show (if p.1 = z then (z, ms) else p).1 = p.1
        split
        · rename_i e
          exact e.symm
        · rfl
      rw [e]
      exact h.nd
    · rcases cases_ p hp with rfl | e
      · exact hz
      · exact h.nm p e
    · rcases cases_ p hp with rfl | e
      · exact hl
      · exact h.len p e
    · rcases cases_ p hp with rfl | e
      · exact hm
      · exact h.ms p e
  · rw [if_neg c]
    have cases_ : ∀ p ∈ S ++ [(z, ms)], p ∈ S ∨ p = (z, ms) := fun p hp => by simpa using hp
    refine ⟨⟨?_, by rw [List.length_append]; exact hf, fun p hp => ?_, fun p hp => ?_, fun p hp => ?_⟩, by rw [List.length_append]; exact Nat.le_refl _⟩
    · rw [List.map_append, List.nodup_append]
      exact ⟨h.nd, by simp, fun a ha b hb e => by
        rw [List.mem_singleton.mp hb] at e
        have e : a = z := e
        exact c (e ▸ ha)⟩
    · rcases cases_ p hp with e | rfl
      · exact h.nm p e
      · exact hz
    · rcases cases_ p hp with e | rfl
      · exact h.len p e
      · exact hl
    · rcases cases_ p hp with e | rfl
      · exact h.ms p e
      · exact hm
theorem en_keys {H : Hp} : ∀ {kvs : List (Key × V)} {S : List (Str × List Int)}, Paired (EnS H) kvs S → kvs.map (·.1) = (S.map (·.1)).map Sum.inr
  | _, _, .nil => rfl
  | _, _, .cons h t => by
    rw [List.map_cons, List.map_cons, List.map_cons, en_keys t, h.1]
theorem en_map {H : Hp} {z : Str} {ms : List Int} {nl : Addr} (hl : H nl = some (.lst (ms.map V.int))) : ∀ {kvs : List (Key × V)} {S : List (Str × List Int)}, Paired (EnS H) kvs S → Paired (EnS H) (kvs.map fun kv => if kv.1 = Sum.inr z then (kv.1, V.ref nl) else kv) (S.map fun p => if p.1 = z then (z, ms) else p)
  | _, _, .nil => .nil
  | _, _, .cons (a := kv) (b := p) h t => by
    refine .cons ?_ (en_map hl t)
    show EnS H (if kv.1 = Sum.inr z then (kv.1, V.ref nl) else kv) (if p.1 = z then (z, ms) else p)
    by_cases c : p.1 = z
    · rw [if_pos (by rw [h.1, c]), if_pos c]
      exact ⟨by rw [h.1, c], nl, rfl, hl⟩
    · rw [if_neg (by rw [h.1]; exact fun e => c (Sum.inr.inj e)), if_neg c]
      exact h
theorem StAt.put {H : Hp} {d nl : Addr} {kvs : List (Key × V)} {S : List (Str × List Int)} {z : Str} {ms : List Int} (hd : H d = some (.dK kvs)) (hp : Paired (EnS H) kvs S) (hl : H nl = some (.lst (ms.map V.int))) :
    StAt (upd H d (.dK (putK kvs (.inr z) (.ref nl)))) d (putS S z ms) := by
  have keep : ∀ {kv : Key × V} {p : Str × List Int}, EnS H kv p → EnS (upd H d (.dK (putK kvs (.inr z) (.ref nl)))) kv p := fun h => by
    obtain ⟨e, l, e1, e2⟩ := h
    exact ⟨e, l, e1, (upd_ne (ne_of e2 hd (fun y => nomatch y))).trans e2⟩
  refine ⟨_, upd_same, L2.Paired.mapP ?_ fun _ _ e => keep e⟩
  have hk : (kvs.any fun kv => decide (kv.1 = (Sum.inr z : Key))) = decide (z ∈ S.map (·.1)) := by
    rw [Bool.eq_iff_iff, List.any_eq_true, decide_eq_true_eq]
    constructor
    · rintro ⟨kv, h1, h2⟩
      have : (Sum.inr z : Key) ∈ kvs.map (·.1) := List.mem_map.mpr ⟨kv, h1, of_decide_eq_true h2⟩
      rw [en_keys hp] at this
      obtain ⟨y, hy, e⟩ := List.mem_map.mp this
      exact Sum.inr.inj e ▸ hy
    · intro h1
      have : (Sum.inr z : Key) ∈ kvs.map (·.1) := by rw [en_keys hp]; exact List.mem_map_of_mem (f := Sum.inr) h1
      obtain ⟨kv, h2, e⟩ := List.mem_map.mp this
      exact ⟨kv, h2, decide_eq_true e⟩
  unfold putK putS
  rw [hk]
  by_cases c : z ∈ S.map (·.1)
  · rw [if_pos (decide_eq_true c), if_pos c]
    exact en_map hl hp
  · rw [if_neg (by simpa using c), if_neg c]
    exact Paired.snoc hp ⟨rfl, nl, rfl, hl⟩
theorem EnS.same {H H' : Hp} {kv : Key × V} {p : Str × List Int} (h : EnS H kv p) (s : Same H H') : EnS H' kv p := by
  obtain ⟨e, l, e1, e2⟩ := h
  exact ⟨e, l, e1, s _ _ e2⟩
theorem StAt.same {H H' : Hp} {d : Addr} {S : List (Str × List Int)} (h : StAt H d S) (s : Same H H') : StAt H' d S := by
  obtain ⟨kvs, h1, h2⟩ := h
  exact ⟨kvs, s _ _ h1, L2.Paired.mapP h2 fun _ _ e => e.same s⟩
end K08

namespace So
open PySem PySem.Spec PyProof.Rows L2
/-! a row walked by itself: what follows it is said once -/
theorem ps_cut {X : Cx} {st : Stmt} {t : TS} (h : PS X st t) : PS X st (fun D σ H => ∃ N : L2.St → Hp → Prop, t { D with nx := N } σ H ∧ ∀ σ' H', N σ' H' → D.nx σ' H') :=
  ⟨fun pins s σ H D I ⟨N, h1, h2⟩ => wpAny_mono (h.run pins s σ H { D with nx := N } I h1) (fun fl s' z => by
    cases fl with
    | next =>
      obtain ⟨σ', H', I', q⟩ := z
      exact ⟨σ', H', I', h2 _ _ q⟩
    | ret v => exact z
    | brk => exact z
    | cont => exact z) fun _ _ z => z⟩
end So

namespace K08
open PySem PySem.Spec PyProof.Rows L2 So
abbrev sBegun : Stmt := topS 27
abbrev begunN : List Str := ["_law_pen_here", "_law_starts", "_law_turn", "_law_base", "_law_k"]
theorem scBegun : FnScope begunN ["_law_pen_here"] (defScope sBegun) := ⟨rfl, rfl, rfl, by decide +kernel, rfl, by decide +kernel, by decide +kernel⟩
theorem off_same {p : Addr} {H H' : Hp} (s : Same H H') : Off p H H' := fun b o _ e => s b o e
theorem Pen.nw {H : Hp} {p l : Addr} {ns : List Int} {n : Nat} {g : Int} (h : Pen H p l ns n g) {d : Addr} (hd : H d = none) : d ≠ p := fun z => by rw [z, h.pen] at hd; cases hd
theorem Pen.nl {H : Hp} {p l : Addr} {ns : List Int} {n : Nat} {g : Int} (h : Pen H p l ns n g) {d : Addr} (hd : H d = none) : d ≠ l := fun z => by rw [z, h.cells] at hd; cases hd
theorem Pen.sm {H H' : Hp} {p l : Addr} {ns : List Int} {n : Nat} {g : Int} (h : Pen H p l ns n g) (s : Same H H') : Pen H' p l ns n g := ⟨s _ _ h.pen, s _ _ h.cells, h.left⟩
theorem Pen.up {H : Hp} {p l c : Addr} {ns : List Int} {n : Nat} {g : Int} {o : HO} (h : Pen H p l ns n g) (h1 : c ≠ p) (h2 : c ≠ l) : Pen (upd H c o) p l ns n g := ⟨(upd_ne (Ne.symm h1)).trans h.pen, (upd_ne (Ne.symm h2)).trans h.cells, h.left⟩
theorem ints_ne {ms : List Int} {l : Addr} {n : Nat} {g : Int} : HO.lst (ms.map V.int) ≠ HO.lst [.ref l, .int n, .int g] := fun h => by
  injection h with h
  cases ms with
  | nil => cases h
  | cons a r =>
    injection h with h _
    cases h
theorem StAt.offp {H H' : Hp} {d p l : Addr} {S : List (Str × List Int)} {ns : List Int} {n : Nat} {g : Int} (h : StAt H d S) (pen : Pen H p l ns n g) (o : Off p H H') : StAt H' d S := by
  obtain ⟨kvs, h1, h2⟩ := h
  refine ⟨kvs, o _ _ (ne_of h1 pen.pen (fun y => nomatch y)) h1, L2.Paired.mapP h2 fun kv q e => ?_⟩
  obtain ⟨e0, t, e1, e2⟩ := e
  exact ⟨e0, t, e1, o _ _ (ne_of e2 pen.pen ints_ne) e2⟩
section
variable {P : Program} {w : World} {K : PySem.W.Frag} {mg : Str → Option Value} {base : Heap}
def spBegun : Sp := fun vs H Q _ => ∃ (p l : Addr) (cc : List Int) (n : Nat) (g : Int), vs = [.ref p] ∧ Pen H p l cc n g ∧ n < 900000 ∧
  ∀ (S : List (Str × List Int)) (d : Addr) (n' : Nat) (g' : Int) (H' : Hp), StOk S → StAt H' d S → n' ≤ n + 300 → Off p H H' → Pen H' p l cc n' g' → Q (.ref d) H'
theorem ok_begun {f fD fPk fN : Addr} {fd fdD fdPk fdN : FuncData} (F : Fun K "_law_begun" "_law_begun" sBegun f fd) (mr : mg "range" = none)
    (FD : Fun K "_law_draw" "_law_draw" sDraw fD fdD) (bD : Binds K fdD ["_law_pen_here", "_law_many"] []) (gD : mg "_law_draw" = some (.ref fD)) (GD : FnOk P w K mg base CX0 1 fD fdD ["_law_pen_here", "_law_many"] spDraw)
    (FPk : Fun K "_law_pick" "_law_pick" sPick fPk fdPk) (bPk : Binds K fdPk ["_law_pen_here", "_law_some"] []) (gPk : mg "_law_pick" = some (.ref fPk)) (GPk : FnOk P w K mg base CX0 2 fPk fdPk ["_law_pen_here", "_law_some"] (spPick K))
    (FN : Fun K "_law_name" "_law_name" sLName fN fdN) (bN : Binds K fdN ["_law_pen_here"] []) (gN : mg "_law_name" = some (.ref fN)) (GN : FnOk P w K mg base CX0 3 fN fdN ["_law_pen_here"] spLName) :
    FnOk P w K mg base CX0 4 f fd ["_law_pen_here"] spBegun := by
  refine F.ok scBegun (fun vs H Q E h => ?_) (fun cdv A outer s H vs Q E hr h => ?_)
  · obtain ⟨_, _, _, _, _, rfl, _⟩ := h
    rfl
  · obtain ⟨p, l, cc, n, g, rfl, pen, hn, q⟩ := h
    have hr1 : Room 1 _ := hr.mono (by decide)
    have hr2 : Room 2 _ := hr.mono (by decide)
    have hr3 : Room 3 _ := hr.mono (by decide)
    have hss := sizeLine_eq
    refine ⟨_, pss_cons (ps_set (i := 1) scBegun.nd rfl (.inl rfl) pe_dnewK)
      (pss_cons (ps_for PassesOwn.never rfl (pi_range1 (by rfl) mr (pa_cons (pe_call GPk hr2 (by rfl) gPk FPk.kp bPk .nil pass0 (pa_cons (pv 0) (pa_cons (pe_lst (pa_cons pe_int (pa_cons pe_int (pa_cons pe_int (pa_cons pe_int (pa_cons pe_int pa_nil)))))) pa_nil))) pa_nil)) (pg_name (i := 2) scBegun.nd rfl (Or.inl rfl))
        (pss_cons (ps_cut (ps_set (i := 3) scBegun.nd rfl (.inr rfl) (pe_call GPk hr2 (by rfl) gPk FPk.kp bPk .nil pass0 (pa_cons (pv 0) (pa_cons (pe_lst (pa_cons pe_int (pa_cons pe_int (pa_cons pe_int (pa_cons (pe_op op_sub (pe_op op_pow pe_int pe_int) pe_int) (pa_cons (pe_op op_add pe_int (pe_call GD hr1 (by rfl) gD FD.kp bD .nil pass0 (pa_cons (pv 0) (pa_cons (pe_op op_pow pe_int pe_int) pa_nil)))) pa_nil)))))) pa_nil)))))
        (pss_one (ps_dput (hu_of hr) (pv 1) (pe_call GN hr3 (by rfl) gN FN.kp bN .nil pass0 (pa_cons (pv 0) pa_nil)) (pe_lc (own := [("_law_k", 4)]) (g := gName 4) (tt := tYes) rfl scBegun.nd (pi_range1 (by rfl) mr (pa_cons (pe_call GD hr1 (by rfl) gD FD.kp bD .nil pass0 (pa_cons (pv 0) (pa_cons pe_int pa_nil))) pa_nil))
            (blkOk_by (N := begunN) (sc := defScope sBegun) (by decide +kernel)) (fun _ _ _ _ _ => pg_name (i := 4) scBegun.nd rfl (Or.inl rfl)) (fun _ _ _ _ _ => pts_nil) (fun _ _ _ _ _ => pe_op op_add (pv 3) (pe_call GD hr1 (by rfl) gD FD.kp bD .nil pass0 (pa_cons (pv 0) (pa_cons pe_int pa_nil))))) rfl))))
      (pss_one (ps_ret (pv 1)))), ?_⟩
    intro d0 hd0
    have s1 := same_upd0 (o := .dK []) hd0
    have pen1 := pen.sm s1
    have st1 : StAt (upd H d0 (.dK [])) d0 [] := ⟨[], upd_same, .nil⟩
    have nd0 := pen.nw hd0
    generalize upd H d0 (.dK []) = H1 at s1 pen1 st1 ⊢
    refine ⟨_, rfl, by show 5 ≤ sizeLine; omega, fun q1 hq1 => ?_⟩
    have s2 := same_upd0 (o := .lst [V.int 0, .int 1, .int 2, .int 3, .int 12]) hq1
    refine ⟨p, l, cc, n, g, .ref q1, rfl, pen1.sm s2, by omega, .inl ⟨q1, _, rfl, pen1.nw hq1, upd_same, by decide, by decide, fun v n2 g2 H2 hv hn2 off2 pen2 => ?_⟩⟩
    obtain ⟨r, hr12, rfl⟩ : ∃ r : Nat, r ≤ 12 ∧ v = .int r := by
      simp only [List.mem_cons, List.not_mem_nil, or_false] at hv
      rcases hv with h | h | h | h | h <;> subst h
      · exact ⟨0, by decide, rfl⟩
      · exact ⟨1, by decide, rfl⟩
      · exact ⟨2, by decide, rfl⟩
      · exact ⟨3, by decide, rfl⟩
      · exact ⟨12, by decide, rfl⟩
    have st2 := (st1.same s2).offp (pen1.sm s2) off2
    have off02 : Off p H H2 := ((off_same s1).trans (off_same s2)).trans off2
    clear s1 s2 hq1 hv pen1 st1 off2
    refine ⟨r, rfl, by omega, by omega, for_range (n := r) (fun i σ' H' => ∃ (S : List (Str × List Int)) (y2 y3 : Option V) (n' : Nat) (g' : Int), σ' = [some (.ref p), some (.ref d0), y2, y3, none] ∧ StOk S ∧ S.length ≤ i ∧ StAt H' d0 S ∧ n' ≤ n + 1 + 18 * i ∧ Off p H H' ∧ Pen H' p l cc n' g')
      ⟨[], none, none, n2, g2, rfl, ⟨.nil, Nat.zero_le _, (fun _ h => nomatch h), (fun _ h => nomatch h), (fun _ h => nomatch h)⟩, Nat.zero_le _, st2, by omega, off02, pen2⟩ ?_ ?_⟩
    case refine_2 =>
      rintro σ' H' ⟨S, y2, y3, n3, g3, rfl, hS, _, st3, hn3, off3, pen3⟩
      exact ⟨_, rfl, q S d0 n3 g3 H' hS st3 (by omega) off3 pen3⟩
    rintro i σ' H3 hi ⟨S, y2, y3, n3, g3, rfl, hS, hSl, st3, hn3, off3, pen3⟩
    -- the base
    refine ⟨fun σ'' H' => ∃ (bs : Int) (n' : Nat) (g' : Int), σ'' = [some (.ref p), some (.ref d0), some (.int (0 + (i : Nat))), some (.int bs), none] ∧ 1 ≤ bs ∧ bs ≤ 999999999999999999999999999995 ∧ StAt H' d0 S ∧ n' ≤ n3 + 2 ∧ Off p H3 H' ∧ Pen H' p l cc n' g', ?_, ?_⟩
    · refine ⟨_, rfl, _, _, rfl, rfl, ⟨by decide, by decide, by decide⟩, _, _, rfl, rfl, _, rfl, _, _, rfl, rfl, ⟨by decide, by decide, by decide⟩, p, l, cc, n3, g3, _, rfl, pen3, by omega, by decide, by decide, fun e n4 g4 H4 he0 he1 hn4 off4 pen4 => ?_⟩
      refine ⟨_, _, rfl, rfl, by show 5 ≤ sizeLine; omega, fun q2 hq2 => ?_⟩
      have e30 : (10 : Int) ^ (30 : Int).toNat - 5 = 999999999999999999999999999995 := by decide
      have e29 : (10 : Int) ^ (29 : Int).toNat = 100000000000000000000000000000 := by decide
      have s5 := same_upd0 (o := .lst [V.int 1, .int 2, .int 7, .int ((10 : Int) ^ (30 : Int).toNat - 5), .int (1 + e)]) hq2
      refine ⟨p, l, cc, n4, g4, .ref q2, rfl, pen4.sm s5, by omega, .inl ⟨q2, _, rfl, pen4.nw hq2, upd_same, by show 0 < 5; decide, by show 5 ≤ 1000; decide, fun v n6 g6 H6 hv hn6 off6 pen6 => ?_⟩⟩
      obtain ⟨bs, rfl, h1, h2⟩ : ∃ bs, v = .int bs ∧ 1 ≤ bs ∧ bs ≤ 999999999999999999999999999995 := by
        simp only [List.mem_cons, List.not_mem_nil, or_false] at hv
        rw [e29] at he1
        rcases hv with h | h | h | h | h <;> subst h
        · exact ⟨_, rfl, by decide, by decide⟩
        · exact ⟨_, rfl, by decide, by decide⟩
        · exact ⟨_, rfl, by decide, by decide⟩
        · exact ⟨_, rfl, by rw [e30]; decide, by rw [e30]; decide⟩
        · exact ⟨_, rfl, by omega, by omega⟩
      exact ⟨bs, n6, g6, rfl, h1, h2, ((st3.offp pen3 off4).same s5).offp (pen4.sm s5) off6, by omega, (off4.trans (off_same s5)).trans off6, pen6⟩
    rintro σ'' H7 ⟨bs, n7, g7, rfl, hb1, hb2, st7, hn7, off7, pen7⟩
    -- the beginnings
    refine ⟨_, rfl, p, l, cc, n7, g7, 7, rfl, pen7, by omega, by decide, by decide, fun m n8 g8 H8 hm0 hm7 hn8 off8 pen8 => ⟨_, rfl, by omega, by omega, fun D hD => ?_⟩⟩
    have nD := pen8.nw hD
    have nDl := pen8.nl hD
    have hm7' : m.toNat ≤ 6 := by omega
    have st8 := st7.offp pen7 off8
    refine lc_it (walk_range (lo := 0) (n := m.toNat)) (fun j H' => ∃ (vals : List Int) (n' : Nat) (g' : Int), Pen H' p l cc n' g' ∧ n' ≤ n8 + j ∧ Off p H8 H' ∧ H' D = some (.lst (vals.map V.int)) ∧ vals.length = j ∧ ∀ y ∈ vals, 1 ≤ y ∧ y ≤ 1000000000000000000000000000000)
      ⟨[], n8, g8, pen8.sm (same_upd0 hD), by omega, off_same (same_upd0 hD), upd_same, rfl, (fun _ h => nomatch h)⟩ (fun _ _ _ _ => trivial) ?_ ?_
    · rintro j x H9 H10 hj ⟨vals, n9, g9, pen9, hn9, off9, hD9, hvl, hvb⟩ ⟨rfl, rfl⟩
      refine ⟨rfl, _, rfl, _, rfl, p, l, cc, n9, g9, 6, rfl, pen9, by omega, by decide, by decide, fun e n11 g11 H11 he0 he1 hn11 off11 pen11 => ⟨_, _, rfl, rfl, ?_⟩⟩
      have o10 := off9.trans off11
      have hD11 := off11 _ _ nD hD9
      refine ⟨_, hD11, ?_, vals ++ [bs + e], n11, g11, pen11.up nD nDl, by omega, fun c' o hc' e' => ?_, ?_, ?_, ?_⟩
      · rw [List.length_map, hvl]
        omega
      · rw [upd_ne (fun y => by rw [y, hD] at e'; cases e')]
        exact o10 _ _ hc' e'
      · rw [upd_same, List.map_append]
        rfl
      · rw [List.length_append, hvl]
        rfl
      · intro y' hy'
        rcases List.mem_append.mp hy' with h | h
        · exact hvb y' h
        · rw [List.mem_singleton.mp h]
          omega
    rintro H9 ⟨vals, n9, g9, pen9, hn9, off9, hD9, hvl, hvb⟩
    -- the name
    refine ⟨_, rfl, _, rfl, p, l, cc, n9, g9, rfl, pen9, by omega, fun z n10 g10 H10 hz hn10 off10 pen10 => ?_⟩
    have st10 := (st8.offp pen8 off9).offp pen9 off10
    have hD10 := off10 _ _ nD hD9
    obtain ⟨kvs, hd10, hpr⟩ := id st10
    have hkl := Paired.length hpr
    refine ⟨d0, _, rfl, DPut.k (k := .inr z) hd10 (by omega), ?_⟩
    obtain ⟨hS', hl'⟩ := putS_ok (z := z) (ms := vals) hS (by omega) hz (by omega) hvb
    refine ⟨putS S z vals, _, _, n10, g10, rfl, hS', by omega, StAt.put hd10 hpr hD10, by omega, ?_, ?_⟩
    · have o := (((off3.trans off7).trans off8).trans off9).trans off10
      exact fun b u hb e => (upd_ne (fun y => by rw [y, hd0] at e; cases e)).trans (o b u hb e)
    · exact pen10.up (fun y => by rw [y, pen10.pen] at hd10; cases hd10) (fun y => by rw [y, pen10.cells] at hd10; cases hd10)
end
end K08

namespace K08
open PySem PySem.Spec PyProof.Rows L2 So
abbrev sListedW : Stmt := topS 29
abbrev sFresh : Stmt := topS 31
abbrev listedN : List Str := ["_law_starts", "_law_listed_here", "_law_tool", "_law_first"]
theorem scListedW : FnScope listedN ["_law_starts"] (defScope sListedW) := ⟨rfl, rfl, rfl, by decide +kernel, rfl, by decide +kernel, by decide +kernel⟩
theorem scFresh : FnScope ["_law_some", "_law_first"] ["_law_some"] (defScope sFresh) := ⟨rfl, rfl, rfl, by decide +kernel, rfl, by decide +kernel, by decide +kernel⟩
theorem keysS {H : Hp} : ∀ {kvs : List (Key × V)} {S : List (Str × List Int)}, Paired (EnS H) kvs S → (kvs.map fun kv => kV kv.1) = (S.map (·.1)).map V.str
  | _, _, .nil => rfl
  | _, _, .cons (a := kv) (b := p) h t => by
    obtain ⟨e, _⟩ := h
    rw [List.map_cons, List.map_cons, List.map_cons, keysS t, e]
    rfl
theorem en_get {H : Hp} {z : Str} {ms : List Int} : ∀ {kvs : List (Key × V)} {S : List (Str × List Int)}, Paired (EnS H) kvs S → S.lookup z = some ms → ∃ l, valV kvs (.inr z) = some (.ref l) ∧ H l = some (.lst (ms.map V.int))
  | _, _, .nil, h => nomatch h
  | _, _, .cons (a := kv) (b := p) h t, hl => by
    obtain ⟨e, l, e1, e2⟩ := h
    obtain ⟨y, ns⟩ := p
    obtain ⟨k, v⟩ := kv
    have e : k = Sum.inr y := e
    have e1 : v = .ref l := e1
    subst e e1
    rw [List.lookup_cons] at hl
    by_cases c : z = y
    · subst c
      rw [beq_self_eq_true] at hl
      cases hl
      exact ⟨l, by simp [valV], e2⟩
    · rw [show (z == y) = false from beq_eq_false_iff_ne.mpr c] at hl
      obtain ⟨l', h1, h2⟩ := en_get t hl
      refine ⟨l', ?_, h2⟩
      rw [← h1]
      simp [valV, show ¬ (Sum.inr y : Key) = Sum.inr z from fun h => c (Sum.inr.inj h).symm]
theorem lvs_snoc (L : List (Str × List Int)) (p : Str × List Int) : lvs (L ++ [p]) = lvs L ++ p.2.map fun n => (p.1, n) := by
  unfold lvs
  rw [List.flatMap_append]
  simp
theorem paired_app {α β : Type} {R : α → β → Prop} {a b : List α} {c d : List β} (h : Paired R a c) (h2 : Paired R b d) : Paired R (a ++ b) (c ++ d) := by
  induction h with
  | nil => exact h2
  | cons x _ ih => exact .cons x ih
theorem fits : ∀ (l ms : List Int), l.Nodup → (∀ x ∈ l, x ∈ ms) → l.length ≤ ms.length
  | [], _, _, _ => Nat.zero_le _
  | x :: r, ms, nd, h => by
    rw [List.nodup_cons] at nd
    have hx := h x List.mem_cons_self
    have ih := fits r (ms.erase x) nd.2 fun y hy => (List.mem_erase_of_ne (fun e => nd.1 (by rw [← e]; exact hy))).mpr (h y (List.mem_cons_of_mem _ hy))
    rw [List.length_erase_of_mem hx] at ih
    have : 0 < ms.length := List.length_pos_of_mem hx
    rw [List.length_cons]
    omega
section
variable {P : Program} {w : World} {K : PySem.W.Frag} {mg : Str → Option Value} {base : Heap}
/-- all lives, as the law lists them -/
def spListedW : Sp := fun vs H Q _ => ∃ (d : Addr) (S : List (Str × List Int)), vs = [.ref d] ∧ StAt H d S ∧ StOk S ∧
  ∀ (H' : Hp) (t : Addr) (js : List Addr), Same H H' → H' t = some (.lst (js.map V.ref)) → Paired (LfAt H') js (lvs (LS S)) → Q (.ref t) H'
theorem ok_listedW {f : Addr} {fd : FuncData} (F : Fun K "_law_listed" "_law_listed" sListedW f fd) (msr : mg "sorted" = none) (mls : mg "list" = none) (mst : mg "set" = none) : FnOk P w K mg base CX0 1 f fd ["_law_starts"] spListedW := by
  refine F.ok scListedW (fun vs H Q E h => ?_) (fun cdv A outer s H vs Q E hr h => ?_)
  · obtain ⟨_, _, rfl, _⟩ := h
    rfl
  · obtain ⟨d, S, rfl, hst, hS, q⟩ := h
    have hss := sizeLine_eq
    refine ⟨_, pss_cons (ps_set (i := 1) scListedW.nd rfl (.inl rfl) (pe_lst pa_nil))
      (pss_cons (ps_for PassesOwn.never rfl (pi_list (pe_callB cr_sortedS (by rfl) msr (by decide +kernel) (pa_cons (pe_callTy (call_listD rfl) (by rfl) mls (by decide +kernel) (pa_cons (pv 0) pa_nil)) pa_nil))) (pg_name (i := 2) scListedW.nd rfl (Or.inr rfl))
        (pss_one (ps_set (i := 1) scListedW.nd rfl (.inl rfl) (pe_op op_cat (pv 1) (pe_lc (own := [("_law_first", 3)]) (g := gName 3) (tt := tYes) rfl scListedW.nd (pi_list (pe_callB (cr_sortedSet rfl) (by rfl) msr (by decide +kernel) (pa_cons (pe_callTy (cr_setI rfl) (by rfl) mst (by decide +kernel) (pa_cons (pe_op op_cat (pe_lst (pa_cons pe_int pa_nil)) (pe_dget (hu_of hr) (pv 0) (pv 2) (fun _ _ => rfl))) pa_nil)) pa_nil)))
            (blkOk_by (N := listedN) (sc := defScope sListedW) (by decide +kernel)) (fun _ _ _ _ _ => pg_name (i := 3) scListedW.nd rfl (Or.inl rfl)) (fun _ _ _ _ _ => pts_nil) (fun _ _ _ _ _ => pe_tup (pa_cons (pv 2) (pa_cons (pv 3) pa_nil))))))))
      (pss_one (ps_ret (pv 1)))), ?_⟩
    refine ⟨by show 0 ≤ sizeLine; omega, fun f0 hf0 => ?_⟩
    have s1 := same_upd0 (o := .lst []) hf0
    have hf1 : upd H f0 (.lst []) f0 = some (.lst []) := upd_same
    generalize upd H f0 (.lst []) = H1 at s1 hf1 ⊢
    obtain ⟨kvs, hd1, hpr1⟩ := hst.same s1
    have hkl := Paired.length hpr1
    have hfew := hS.few
    refine ⟨_, rfl, d, kvs, rfl, .inl hd1, fun p1 hp1 => ?_⟩
    rw [keysS hpr1]
    refine ⟨p1, S.map (·.1), rfl, SqL.of upd_same, by rw [List.length_map]; omega, fun ys p2 hperm hsrt hp2 => ⟨p2, rfl, ⟨_, SqL.of upd_same⟩, ?_⟩⟩
    obtain rfl := srtS_one hS.nd hperm hsrt
    have s3 := (same_upd0 (o := .lst ((S.map (·.1)).map V.str)) hp1).trans (same_upd0 (o := .lst ((srtS (S.map (·.1))).map V.str)) hp2)
    have hp3 : upd (upd H1 p1 (.lst ((S.map (·.1)).map V.str))) p2 (.lst ((srtS (S.map (·.1))).map V.str)) p2 = some (.lst ((srtS (S.map (·.1))).map V.str)) := upd_same
    have s13 := s1.trans s3
    have hf3 := s3 _ _ hf1
    generalize upd (upd H1 p1 (.lst ((S.map (·.1)).map V.str))) p2 (.lst ((srtS (S.map (·.1))).map V.str)) = H3 at s3 hp3 s13 hf3 ⊢
    clear s3 hp2 hp1 hsrt hperm hpr1 hd1 hf1 s1 hf0
    have hLl : (LS S).length = (srtS (S.map (·.1))).length := by unfold LS; rw [List.length_map]
    have hLe : (srtS (S.map (·.1))).length = S.length := by rw [(srtS_perm _).length_eq, List.length_map]
    have hsm : ∀ k, (lvs ((LS S).take k)).length ≤ 64 * 64 := fun k => by
      have h1 := hS.ok.small
      have e : lvs (LS S) = lvs ((LS S).take k) ++ lvs ((LS S).drop k) := by
        unfold lvs
        rw [← List.flatMap_append, List.take_append_drop]
      rw [e, List.length_append] at h1
      omega
    refine for_it walk_list (fun k σ G => ∃ (f : Addr) (rs : List Addr) (y2 : Option V), σ = [some (.ref d), some (.ref f), y2, none] ∧ Same H3 G ∧ G f = some (.lst (rs.map V.ref)) ∧ Paired (LfAt G) rs (lvs ((LS S).take k)))
      ⟨f0, [], none, rfl, Same.refl _, hf3, .nil⟩ (fun _ _ _ _ ⟨_, _, _, _, o, _⟩ => SqL.of (o _ _ hp3)) ?_ ?_
    case refine_2 =>
      rintro σ G ⟨f, rs, y2, rfl, sG, hf, hrs⟩
      rw [List.length_map, ← hLl, List.take_length] at hrs
      exact ⟨_, rfl, q G f rs (s13.trans sG) hf hrs⟩
    rintro k x σ G' G hk ⟨f, rs, y2, rfl, sG, hf, hrs⟩ ⟨rfl, hx⟩
    rw [List.length_map] at hk
    obtain ⟨z, hz, rfl⟩ : ∃ z, (srtS (S.map (·.1)))[k]? = some z ∧ x = .str z := by
      rw [List.getElem?_map] at hx
      cases e : (srtS (S.map (·.1)))[k]? with
      | none => rw [e] at hx; cases hx
      | some z => rw [e] at hx; exact ⟨z, rfl, (Option.some.inj hx).symm⟩
    obtain ⟨⟨z', ms⟩, hpS, rfl⟩ := List.mem_map.mp ((srtS_perm _).mem_iff.mp (List.mem_of_getElem? hz))
    have hlk : S.lookup z' = some ms := lookup_mem hS.nd hpS
    have hLk : (LS S)[k]? = some (z', 0 :: srt ms) := by
      unfold LS
      rw [List.getElem?_map, hz]
      show some (z', 0 :: srt ((S.lookup z').getD [])) = _
      rw [hlk]
      rfl
    obtain ⟨kvs', hd', hpr'⟩ := hst.same (s13.trans sG)
    obtain ⟨l0, hv0, hl0⟩ := en_get hpr' hlk
    have hml := hS.len _ hpS
    have hmb := hS.ms _ hpS
    refine ⟨_, rfl, by show 1 ≤ sizeLine; omega, fun q0 hq0 => ?_⟩
    have s4 := same_upd0 (o := .lst [V.int 0]) hq0
    refine ⟨_, rfl, _, rfl, d, _, rfl, .inl ⟨kvs', .inr z', .inl (s4 _ _ hd'), rfl, hv0.symm⟩, ?_⟩
    refine ⟨q0, l0, _, _, rfl, rfl, upd_same, s4 _ _ hl0, by show 1 + (ms.map V.int).length ≤ sizeLine; rw [List.length_map]; have : ms.length ≤ 6 := hml; omega, fun q1 hq1 => ?_⟩
    have s5 := s4.trans (same_upd0 (o := .lst ([V.int 0] ++ ms.map V.int)) hq1)
    have hq5 : upd (upd G q0 (.lst [V.int 0])) q1 (.lst ([V.int 0] ++ ms.map V.int)) q1 = some (.lst ((0 :: ms).map V.int)) := upd_same
    generalize upd (upd G q0 (.lst [V.int 0])) q1 (.lst ([V.int 0] ++ ms.map V.int)) = H5 at s5 hq5 ⊢
    clear s4 hq1 hq0
    refine ⟨q1, 0 :: ms, rfl, .inl (SqL.of hq5), by show ms.length + 1 < 64; have : ms.length ≤ 6 := hml; omega, fun ps c hps hc => ⟨ps, _, c, rfl, upd_same, ?_, fun later p6 hw hm hlen hp6 => ?_⟩⟩
    · have h1 : (0 :: ms).length = ms.length + 1 := rfl
      have : ms.length ≤ 6 := hml
      omega
    obtain rfl : later = 0 :: srt ms := by
      refine pairwise_ext hw (List.pairwise_cons.mpr ⟨fun n hn => ?_, srt_asc ms⟩) fun n => ?_
      · have := (hmb n (srt_mem.mp hn)).1
        omega
      · rw [hm n, decide_eq_true_eq, List.mem_cons, List.mem_cons, srt_mem]
    refine ⟨p6, rfl, ⟨_, SqL.of upd_same⟩, fun D hD => ?_⟩
    revert hD
    generalize e6 : upd (upd H5 ps _) p6 _ = H6
    intro hD
    have s6 : Same H5 H6 := by
      rw [← e6]
      exact (same_upd0 hps).trans (same_upd0 hp6)
    have hp6' : H6 p6 = some (.lst ((0 :: srt ms).map V.int)) := by
      rw [← e6]
      exact upd_same
    have s56 := s5.trans s6
    clear s6 s5 e6 hps hp6
    have hsl2 : (0 :: srt ms).length ≤ 7 := by
      have h1 := srt_len ms
      have h2 : ms.length ≤ 6 := hml
      rw [List.length_cons]
      omega
    have hsl := srt_len ms
    refine lc_it walk_list (fun j H' => Same H6 H' ∧ ∃ rs2 : List Addr, H' D = some (.lst (rs2.map V.ref)) ∧ Paired (LfAt H') rs2 (((0 :: srt ms).take j).map fun n => (z', n))) ⟨same_upd0 hD, [], upd_same, .nil⟩ (fun _ _ _ y => SqL.of (y.1 _ _ hp6')) ?_ ?_
    · rintro j x Hx H7 hj ⟨s7, rs2, hD7, hr7⟩ ⟨rfl, hx⟩
      rw [List.getElem?_map] at hx
      obtain ⟨n, hn, rfl⟩ : ∃ n, (0 :: srt ms)[j]? = some n ∧ x = .int n := by
        cases e : (0 :: srt ms)[j]? with
        | none => rw [e] at hx; cases hx
        | some n => rw [e] at hx; exact ⟨n, rfl, (Option.some.inj hx).symm⟩
      refine ⟨rfl, _, rfl, _, rfl, by show 2 ≤ sizeLine; omega, fun tn htn => ?_⟩
      have s8 := same_upd0 (o := .tup [V.str z', .int n]) htn
      have htn8 : (upd H7 tn (.tup [V.str z', .int n])) tn = some (.tup [.str z', .int n]) := upd_same
      have hD8 := s8 _ _ hD7
      have hrl := Paired.length hr7
      have et : ((0 :: srt ms).take (j + 1)).map (fun n => (z', n)) = ((0 :: srt ms).take j).map (fun n => (z', n)) ++ [(z', n)] := by
        rw [List.take_add_one, hn, List.map_append]
        rfl
      refine ⟨_, hD8, ?_, Same.over (s7.trans s8) hD, rs2 ++ [tn], ?_, ?_⟩
      · rw [List.length_map, List.length_take] at hrl
        rw [List.length_map]
        omega
      · rw [upd_same, List.map_append]
        rfl
      · rw [et]
        refine Paired.snoc (L2.Paired.mapP hr7 fun r q e => ?_) ((upd_ne (ne_of htn8 hD8 (fun z => nomatch z))).trans htn8)
        have e' := s8 _ _ e
        exact (upd_ne (ne_of e' hD8 (fun z => nomatch z))).trans e'
    rintro H7 ⟨s7, rs2, hD7, hr7⟩
    rw [List.length_map, List.take_length] at hr7
    have s57 := s56.trans s7
    have hf7 := s57 _ _ hf
    have hrs7 : Paired (LfAt H7) rs (lvs ((LS S).take k)) := L2.Paired.mapP hrs fun r q e => s57 _ _ e
    have hl1 := Paired.length hrs7
    have hl2 := Paired.length hr7
    have et : lvs ((LS S).take (k + 1)) = lvs ((LS S).take k) ++ (0 :: srt ms).map fun n => (z', n) := by
      rw [List.take_add_one, hLk]
      exact lvs_snoc _ _
    refine ⟨f, D, _, _, rfl, rfl, hf7, hD7, ?_, fun nl hnl => ?_⟩
    · have h1 := hsm (k + 1)
      rw [et, List.length_append, ← hl1, ← hl2] at h1
      rw [List.length_map, List.length_map]
      omega
    refine ⟨nl, rs ++ rs2, _, rfl, sG.trans (s57.trans (same_upd0 hnl)), ?_, ?_⟩
    · rw [upd_same, List.map_append]
    · rw [et]
      have keep : ∀ {r : Addr} {q : Str × Int}, LfAt H7 r q → LfAt (upd H7 nl (.lst (rs.map V.ref ++ rs2.map V.ref))) r q := fun e => same_upd0 hnl _ _ e
      exact paired_app (L2.Paired.mapP hrs7 fun r q e => keep e) (L2.Paired.mapP hr7 fun r q e => keep e)
end
end K08

/-! repr of data with dicts: each thing's text built by itself, so that no more is asked of an address than that a dict is not the modules' own. -/
namespace So
open PySem PySem.Spec PyProof.Rows L2
mutual
/-- a value is this data; dicts with texts as keys may stand in it -/
inductive Dd (K : PySem.W.Frag) (H : Hp) : V → PyData → Prop
  | non : Dd K H .non .none
  | bl (b : Bool) : Dd K H (.bl b) (.bool b)
  | int (i : Int) : Dd K H (.int i) (.int i)
  | str (x : Str) : Dd K H (.str x) (.str x)
  | lst {a : Addr} {xs : List V} {ds : List PyData} (e : SqL K H a xs) (h : DdAll K H xs ds) : Dd K H (.ref a) (.list ds)
  | tup {a : Addr} {xs : List V} {ds : List PyData} (e : SqT K H a xs) (h : DdAll K H xs ds) : Dd K H (.ref a) (.tuple ds)
  | dct {a : Addr} {kvs : List (Key × V)} {ds : List (PyData × PyData)} (e : H a = some (.dK kvs)) (h : DdKv K H kvs ds) : Dd K H (.ref a) (.dict ds)
inductive DdAll (K : PySem.W.Frag) (H : Hp) : List V → List PyData → Prop
  | nil : DdAll K H [] []
  | cons {v : V} {vs : List V} {d : PyData} {ds : List PyData} (h : Dd K H v d) (t : DdAll K H vs ds) : DdAll K H (v :: vs) (d :: ds)
inductive DdKv (K : PySem.W.Frag) (H : Hp) : List (Key × V) → List (PyData × PyData) → Prop
  | nil : DdKv K H [] []
  | cons {k : Str} {v : V} {r : List (Key × V)} {d : PyData} {ds : List (PyData × PyData)} (h : Dd K H v d) (t : DdKv K H r ds) : DdKv K H ((Sum.inr k, v) :: r) ((.str k, d) :: ds)
end
section
variable {X : Cx} {pins : List (Addr × Obj)} {σ : L2.St} {H : Hp} {s : Shared}
/-- a thing in memory that shows so -/
def ShK (X : Cx) (h : Heap) (u : Value) (d : PyData) : Prop := ∃ as bs, Reads h u d as ∧ ReadAtMost h d.depth bs ∧ ReprK X.prog X.w bs h d.depth u d.shown
def ShAll (X : Cx) (h : Heap) (us : List Value) (ds : List PyData) : Prop := ∃ as bs, ReadsAll h us ds as ∧ ReadAtMost h (PyData.depthAll ds) bs ∧ ReprAllK X.prog X.w bs h (PyData.depthAll ds) us (PyData.shownAll ds)
theorem shAll_cons {h : Heap} {u : Value} {us : List Value} {d : PyData} {ds : List PyData} (a : ShK X h u d) (b : ShAll X h us ds) : ShAll X h (u :: us) (d :: ds) := by
  obtain ⟨as1, b1, r1, hb1, k1⟩ := a
  obtain ⟨as2, b2, r2, hb2, k2⟩ := b
  refine ⟨_, b1 ++ b2, .cons r1 r2, ?_, ?_⟩
  · intro b hm
    simp only [PyData.depthAll]
    rcases List.mem_append.mp hm with hm | hm
    · obtain ⟨d', as', r', hd'⟩ := hb1 b hm
      exact ⟨d', as', r', Nat.le_trans hd' (Nat.le_max_left _ _)⟩
    · obtain ⟨d', as', r', hd'⟩ := hb2 b hm
      exact ⟨d', as', r', Nat.le_trans hd' (Nat.le_max_right _ _)⟩
  · simp only [PyData.depthAll, PyData.shownAll]
    exact .cons ((k1.more fun b hb => List.mem_append_left _ hb).level_le (Nat.le_max_left _ _)) (k2.more_le (fun b hb => List.mem_append_right _ hb) (Nat.le_max_right _ _))
theorem shAll_nil {h : Heap} : ShAll X h [] [] := ⟨_, [], .nil, (fun _ h => nomatch h), by simp only [PyData.shownAll]; exact .nil⟩
mutual
theorem Dd.sh (I : Inv X pins σ H s) : ∀ (d : PyData) (v : V) (u : Value), Dd X.K H v d → RelV v u → d.showable = true → d.shown.length ≤ sizeLine → ShK X s.heap u d
  | .none, _, _, h, r, _, _ => by
    cases h
    cases r
    exact ⟨_, [], .none, (fun _ h => nomatch h), by simp only [PyData.shown]; exact .of_is ReprIs.none _ _ _⟩
  | .bool b, _, _, h, r, _, _ => by
    cases h
    cases r
    exact ⟨_, [], .bool b, (fun _ h => nomatch h), by simp only [PyData.shown]; exact .of_is (ReprIs.bool b) _ _ _⟩
  | .int i, _, _, h, r, hs, _ => by
    cases h
    obtain ⟨t, rfl⟩ := r
    exact ⟨_, [], .int i t, (fun _ h => nomatch h), by simp only [PyData.shown]; exact .of_is (ReprIs.int t (by simpa [PyData.showable] using hs)) _ _ _⟩
  | .str x, _, _, h, r, _, hz => by
    cases h
    obtain ⟨t, rfl⟩ := r
    exact ⟨_, [], .str x t, (fun _ h => nomatch h), by simp only [PyData.shown]; exact .of_is (ReprIs.str x t (by simpa only [PyData.shown] using hz)) _ _ _⟩
  | .list ds, _, _, h, r, hs, hz => by
    cases h with
    | @lst a xs _ e hall =>
      cases r
      have hz' : (listText (PyData.shownAll ds)).length ≤ sizeLine := by simpa only [PyData.shown] using hz
      obtain ⟨its, rv, ⟨o, n, h1, h2, _, h3⟩, _⟩ := I.list e
      obtain ⟨as, bs, rd, hb, hk⟩ := DdAll.sh I ds xs its hall rv (by simpa [PyData.showable] using hs) (fun t ht => Nat.le_trans (listText_mem_le ht) hz')
      have rr : Reads s.heap (.ref a) (.list ds) _ := .list h1 h2 h3 rd
      have hna : a ∉ bs := not_mem_of_deeper rr (by simp only [PyData.depth]; omega) hb
      refine ⟨_, a :: bs, rr, ReadAtMost.cons rr (by simp only [PyData.depth]; omega) hb, ?_⟩
      simp only [PyData.depth, PyData.shown]
      cases its with
      | nil =>
        cases rd
        simp only [PyData.shownAll, listText_nil]
        exact ReprK.listEmpty h1 h2 h3
      | cons x l => exact ReprK.list h1 h2 h3 hna (by simpa using hk.length_eq) (fun i y e => hk.item i y (by simpa using e))
  | .tuple ds, _, _, h, r, hs, hz => by
    cases h with
    | @tup a xs _ e hall =>
      cases r
      have hz' : (tupleText (PyData.shownAll ds)).length ≤ sizeLine := by simpa only [PyData.shown] using hz
      obtain ⟨its, rv, ⟨o, h1, h2, n, h3⟩, _⟩ := I.tuple e
      obtain ⟨as, bs, rd, hb, hk⟩ := DdAll.sh I ds xs its hall rv (by simpa [PyData.showable] using hs) (fun t ht => Nat.le_trans (tupleText_mem_le ht) hz')
      have rr : Reads s.heap (.ref a) (.tuple ds) _ := .tuple h1 h2 h3 rd
      have hna : a ∉ bs := not_mem_of_deeper rr (by simp only [PyData.depth]; omega) hb
      refine ⟨_, a :: bs, rr, ReadAtMost.cons rr (by simp only [PyData.depth]; omega) hb, ?_⟩
      simp only [PyData.depth, PyData.shown]
      exact ReprK.tuple h1 h2 h3 hna hk
  | .dict ds, _, _, h, r, hs, hz => by
    cases h with
    | @dct a kvs _ e hall =>
      cases r
      have hz' : (dictText (PyData.shownKv ds)).length ≤ sizeLine := by simpa only [PyData.shown] using hz
      obtain ⟨_, hsys, vs, hk, hD⟩ : kvs.length ≤ sizeLine ∧ (a == sysModules) = false ∧ ∃ vs, KV kvs vs ∧ s.heap.DictOf (mixKind X.prog X.w) a vs := I.hok a _ e
      obtain ⟨o, es, ep, h1, h2, h3, _, e5, _⟩ := hD
      obtain ⟨hs1, hs2⟩ := PyData.showableKv_split ds (by simpa [PyData.showable] using hs)
      obtain ⟨⟨as1, b1, r1, hb1, k1⟩, as2, b2, r2, hb2, k2⟩ := DdKv.sh I ds kvs vs es.toList hall hk e5 hs1 hs2
        (fun t ht => let ⟨p, hp, hl⟩ := PyData.shownKv_key_le ds t ht; Nat.le_trans hl (Nat.le_trans (dictText_mem_le hp) hz')) (fun t ht => let ⟨p, hp, hl⟩ := PyData.shownKv_val_le ds t ht; Nat.le_trans hl (Nat.le_trans (dictText_mem_le hp) hz'))
      have rr : Reads s.heap (.ref a) (.dict ds) _ := .dict h1 h2.1 h3 r1 r2
      have hb : ReadAtMost s.heap (PyData.depthKv ds) (b1 ++ b2) := (hb1.mono (PyData.depthAll_keys_le ds)).append (hb2.mono (PyData.depthAll_vals_le ds))
      have hna : a ∉ b1 ++ b2 := not_mem_of_deeper rr (by simp only [PyData.depth]; omega) hb
      refine ⟨_, a :: (b1 ++ b2), rr, ReadAtMost.cons rr (by simp only [PyData.depth]; omega) hb, ?_⟩
      simp only [PyData.depth, PyData.shown, PyData.shownKv_eq]
      exact ReprK.dict h1 h2.1 h3 hsys hna (ReprEntriesK.of_two es.toList _ _
        (k1.more_le (fun b hb => List.mem_append_left _ hb) (PyData.depthAll_keys_le ds)) (k2.more_le (fun b hb => List.mem_append_right _ hb) (PyData.depthAll_vals_le ds)))
theorem DdAll.sh (I : Inv X pins σ H s) : ∀ (ds : List PyData) (vs : List V) (us : List Value), DdAll X.K H vs ds → Vals vs us → PyData.showableAll ds = true → (∀ t ∈ PyData.shownAll ds, t.length ≤ sizeLine) → ShAll X s.heap us ds
  | [], _, _, h, r, _, _ => by
    cases h
    cases r
    exact shAll_nil
  | d :: ds, _, _, h, r, hs, hz => by
    cases h with
    | cons h1 h2 =>
      cases r with
      | cons r1 r2 =>
        have hs' : d.showable = true ∧ PyData.showableAll ds = true := by simpa [PyData.showableAll] using hs
        exact shAll_cons (Dd.sh I d _ _ h1 r1 hs'.1 (hz _ (by simp only [PyData.shownAll]; exact List.mem_cons_self ..))) (DdAll.sh I ds _ _ h2 r2 hs'.2 fun t ht => hz t (by simp only [PyData.shownAll]; exact List.mem_cons_of_mem _ ht))
theorem DdKv.sh (I : Inv X pins σ H s) : ∀ (ds : List (PyData × PyData)) (kvs : List (Key × V)) (vs : List (Key × Value)) (es : List DictEntry), DdKv X.K H kvs ds → KV kvs vs → Pairs (mixKind X.prog X.w) es vs → PyData.showableAll (ds.map (·.1)) = true → PyData.showableAll (ds.map (·.2)) = true →
    (∀ t ∈ PyData.shownAll (ds.map (·.1)), t.length ≤ sizeLine) → (∀ t ∈ PyData.shownAll (ds.map (·.2)), t.length ≤ sizeLine) → ShAll X s.heap (es.map (·.key)) (ds.map (·.1)) ∧ ShAll X s.heap (es.map (·.val)) (ds.map (·.2))
  | [], _, _, _, h, hk, hp, _, _, _, _ => by
    cases h
    cases hk
    cases hp
    exact ⟨shAll_nil, shAll_nil⟩
  | (dk, dv) :: ds, _, _, _, h, hk, hp, hs1, hs2, z1, z2 => by
    cases h with
    | @cons k v r _ _ h1 h2 =>
      cases hk with
      | @cons _ kv _ _ hk1 hk2 =>
        obtain ⟨kk, kval⟩ := kv
        obtain ⟨q1, q2⟩ := hk1
        simp only at q1 q2
        subst q1
        cases hp with
        | @cons en _ es' _ p1 p2 p3 =>
          have hs1' : (PyData.str k).showable = true ∧ PyData.showableAll (ds.map (·.1)) = true := by simpa [PyData.showableAll] using hs1
          have hs2' : dv.showable = true ∧ PyData.showableAll (ds.map (·.2)) = true := by simpa [PyData.showableAll] using hs2
          have hz1 : (PyData.str k).shown.length ≤ sizeLine := z1 _ (by simp only [List.map_cons, PyData.shownAll]; exact List.mem_cons_self ..)
          have hz2 : dv.shown.length ≤ sizeLine := z2 _ (by simp only [List.map_cons, PyData.shownAll]; exact List.mem_cons_self ..)
          obtain ⟨c1, c2⟩ := DdKv.sh I ds _ _ _ h2 hk2 p3 hs1'.2 hs2'.2 (fun t ht => z1 t (by simp only [List.map_cons, PyData.shownAll]; exact List.mem_cons_of_mem _ ht)) (fun t ht => z2 t (by simp only [List.map_cons, PyData.shownAll]; exact List.mem_cons_of_mem _ ht))
          simp only at p2
          refine ⟨?_, ?_⟩
          · rcases keyIs_shape (show keyIs (Sum.inr k) en.key = true from p1) with ⟨j, t3, z, _⟩ | ⟨y, t3, z, ez⟩
            · cases z
            · cases z
              simp only [List.map_cons]
              refine shAll_cons ?_ c1
              rw [ez]
              exact ⟨_, [], .str k t3, (fun _ h => nomatch h), by simp only [PyData.shown]; exact .of_is (ReprIs.str k t3 (by simpa only [PyData.shown] using hz1)) _ _ _⟩
          · simp only [List.map_cons]
            rw [p2]
            exact shAll_cons (Dd.sh I dv v _ h1 q2 hs2'.1 hz2) c2
end
/-- such a thing is shown by its own type -/
theorem Dd.shows (I : Inv X pins σ H s) {a : Addr} {d : PyData} (h : Dd X.K H (.ref a) d) (hs : d.showable = true) (hz : d.shown.length ≤ sizeLine) : ∃ T idr, ShowsBy X.prog X.w s.heap a d T idr := by
  cases h with
  | @lst _ xs ds e hall =>
    have hz' : (listText (PyData.shownAll ds)).length ≤ sizeLine := by simpa only [PyData.shown] using hz
    obtain ⟨its, rv, ⟨o, n, h1, h2, _, h3⟩, _⟩ := I.list e
    obtain ⟨as, bs, rd, hb, hk⟩ := DdAll.sh I ds xs its hall rv (by simpa [PyData.showable] using hs) (fun t ht => Nat.le_trans (listText_mem_le ht) hz')
    have rr : Reads s.heap (.ref a) (.list ds) _ := .list h1 h2 h3 rd
    have hna : a ∉ bs := not_mem_of_deeper rr (by simp only [PyData.depth]; omega) hb
    refine ⟨"list", "list.__repr__", F.slot_list_repr.toG, F.slot_list_str, F.slot_list_format, fun s' hk0 => ⟨o, hk0 _ _ h1, h2⟩, fun A E s' Q hg hu hk0 hQ => ?_⟩
    simp only [PyData.depth] at hu
    simp only [PyData.shown] at hQ
    cases its with
    | nil =>
      cases rd
      simp only [PyData.shownAll, listText_nil] at hQ
      exact call_list_repr_empty ⟨o, hk0 _ _ h1, h2⟩ (hk0 _ _ h1) h3 (hQ s'.heap _ _ fun _ _ e => e)
    | cons x l => exact call_list_reprK h1 h2 h3 hna (by simpa using hk.length_eq) (fun i y e => hk.item i y (by simpa using e)) hg (fun b _ => Clear.nil b) hu hk0 hQ hz'
  | @tup _ xs ds e hall =>
    have hz' : (tupleText (PyData.shownAll ds)).length ≤ sizeLine := by simpa only [PyData.shown] using hz
    obtain ⟨its, rv, ⟨o, h1, h2, n, h3⟩, _⟩ := I.tuple e
    obtain ⟨as, bs, rd, hb, hk⟩ := DdAll.sh I ds xs its hall rv (by simpa [PyData.showable] using hs) (fun t ht => Nat.le_trans (tupleText_mem_le ht) hz')
    have rr : Reads s.heap (.ref a) (.tuple ds) _ := .tuple h1 h2 h3 rd
    have hna : a ∉ bs := not_mem_of_deeper rr (by simp only [PyData.depth]; omega) hb
    refine ⟨"tuple", "tuple.__repr__", F.slot_tuple_repr, F.slot_tuple_str, F.slot_tuple_format, fun s' hk0 => ⟨o, hk0 _ _ h1, h2⟩, fun A E s' Q hg hu hk0 hQ => ?_⟩
    simp only [PyData.depth] at hu
    simp only [PyData.shown] at hQ
    exact call_tuple_reprK h1 h2 h3 hna hk hg (fun b _ => Clear.nil b) hu hk0 hQ hz'
  | @dct _ kvs ds e hall =>
    have hz' : (dictText (PyData.shownKv ds)).length ≤ sizeLine := by simpa only [PyData.shown] using hz
    obtain ⟨_, hsys, vs, hk, hD⟩ : kvs.length ≤ sizeLine ∧ (a == sysModules) = false ∧ ∃ vs, KV kvs vs ∧ s.heap.DictOf (mixKind X.prog X.w) a vs := I.hok a _ e
    obtain ⟨o, es, ep, h1, h2, h3, _, e5, _⟩ := hD
    obtain ⟨hs1, hs2⟩ := PyData.showableKv_split ds (by simpa [PyData.showable] using hs)
    obtain ⟨⟨as1, b1, r1, hb1, k1⟩, as2, b2, r2, hb2, k2⟩ := DdKv.sh I ds kvs vs es.toList hall hk e5 hs1 hs2
      (fun t ht => let ⟨p, hp, hl⟩ := PyData.shownKv_key_le ds t ht; Nat.le_trans hl (Nat.le_trans (dictText_mem_le hp) hz')) (fun t ht => let ⟨p, hp, hl⟩ := PyData.shownKv_val_le ds t ht; Nat.le_trans hl (Nat.le_trans (dictText_mem_le hp) hz'))
    have rr : Reads s.heap (.ref a) (.dict ds) _ := .dict h1 h2.1 h3 r1 r2
    have hb : ReadAtMost s.heap (PyData.depthKv ds) (b1 ++ b2) := (hb1.mono (PyData.depthAll_keys_le ds)).append (hb2.mono (PyData.depthAll_vals_le ds))
    have hna : a ∉ b1 ++ b2 := not_mem_of_deeper rr (by simp only [PyData.depth]; omega) hb
    refine ⟨"dict", "dict.__repr__", F.slot_dict_repr, F.slot_dict_str, F.slot_dict_format, fun s' hk0 => ⟨o, hk0 _ _ h1, h2.1⟩, fun A E s' Q hg hu hk0 hQ => ?_⟩
    simp only [PyData.depth] at hu
    simp only [PyData.shown, PyData.shownKv_eq] at hQ
    exact call_dict_reprK h1 h2.1 h3 hsys hna (ReprEntriesK.of_two es.toList _ _
      (k1.more_le (fun b hb => List.mem_append_left _ hb) (PyData.depthAll_keys_le ds)) (k2.more_le (fun b hb => List.mem_append_right _ hb) (PyData.depthAll_vals_le ds))) hg (fun b _ => Clear.nil b) hu hk0 hQ (by rw [← PyData.shownKv_eq]; exact hz')
/-- repr of data, dicts in it -/
def rReprG (K : PySem.W.Frag) : List V → Hp → VK → Prop := fun xs H Q => ∃ v d, xs = [v] ∧ Dd K H v d ∧ d.showable = true ∧ d.depth ≤ 60 ∧ d.shown.length ≤ sizeLine ∧ Q (.str d.shown) H
theorem call_reprG (hg : X.A.guards = some []) (hu : X.A.units + 64 < cLine) : CallR X (.builtin "repr") (rReprG X.K) := by
  intro pins s σ H xs us Q I r h
  obtain ⟨v, d, rfl, hd, hs, hdep, hz, q⟩ := h
  obtain ⟨u, rfl, rv⟩ := vals1 r
  cases v with
  | ref a =>
    cases rv
    obtain ⟨T, idr, S⟩ := hd.shows I hs hz
    refine call_repr_slot (by omega) (S.typeIs s fun _ _ e => e) S.slotRepr (S.call X.A.in1 X.xe s _ hg (by show X.A.units + 1 + d.depth < cLine; omega) (fun _ _ e => e) fun h' u tk hk => ⟨_, _, rfl, ?_⟩)
    exact ⟨.str d.shown, H, I.kept hk, ⟨_, rfl⟩, q⟩
  | non =>
    cases hd
    cases rv
    exact PySem.P.repr_of_none ⟨.str _, H, I.tok _, ⟨_, rfl⟩, q⟩
  | bl b =>
    cases hd
    cases rv
    refine PySem.P.repr_of_bool ⟨.str (PyData.shown (.bool b)), H, I.tok _, ⟨s.toks, ?_⟩, q⟩
    cases b <;> rfl
  | int i =>
    cases hd
    obtain ⟨t, rfl⟩ := rv
    exact PySem.P.repr_of_int (by simpa [PyData.showable] using hs) ⟨.str _, H, I.tok _, ⟨_, rfl⟩, q⟩
  | str x =>
    cases hd
    obtain ⟨t, rfl⟩ := rv
    exact PySem.P.repr_of_str ⟨.str _, H, I.tok _, ⟨_, rfl⟩, q⟩ hz
  | byt b => cases hd
  | flt b => cases hd
  | ty n => cases hd
end
/-! data stays -/
mutual
theorem Dd.same {K : PySem.W.Frag} {H H' : Hp} (s : Ext H H') : ∀ {d : PyData} {v : V}, Dd K H v d → Dd K H' v d
  | _, _, .non => .non
  | _, _, .bl b => .bl b
  | _, _, .int i => .int i
  | _, _, .str x => .str x
  | _, _, .lst e h => .lst (SqL.ext e s) (DdAll.same s h)
  | _, _, .tup e h => .tup (SqT.ext e s) (DdAll.same s h)
  | _, _, .dct e h => .dct (s _ _ e) (DdKv.same s h)
theorem DdAll.same {K : PySem.W.Frag} {H H' : Hp} (s : Ext H H') : ∀ {ds : List PyData} {vs : List V}, DdAll K H vs ds → DdAll K H' vs ds
  | _, _, .nil => .nil
  | _, _, .cons h t => .cons (Dd.same s h) (DdAll.same s t)
theorem DdKv.same {K : PySem.W.Frag} {H H' : Hp} (s : Ext H H') : ∀ {ds : List (PyData × PyData)} {vs : List (Key × V)}, DdKv K H vs ds → DdKv K H' vs ds
  | _, _, .nil => .nil
  | _, _, .cons h t => .cons (Dd.same s h) (DdKv.same s t)
end
end So

/-! how long what repr tells of data is, how deep it goes -/
namespace So
open PySem PySem.Spec PyProof.Rows L2
theorem shownAll_map' : ∀ ds : List PyData, PyData.shownAll ds = ds.map PyData.shown
  | [] => rfl
  | d :: r => by
    unfold PyData.shownAll
    rw [shownAll_map' r]
    rfl
theorem sum_le' {k : Nat} : ∀ ds : List PyData, (∀ d ∈ ds, d.shown.length ≤ k) → (((PyData.shownAll ds).map (·.length)).sum) ≤ k * ds.length
  | [], _ => by simp [PyData.shownAll]
  | d :: r, h => by
    have ih := sum_le' r fun x hx => h x (List.mem_cons_of_mem _ hx)
    have h1 := h d List.mem_cons_self
    unfold PyData.shownAll
    rw [List.map_cons, List.sum_cons, List.length_cons, Nat.mul_succ]
    omega
theorem len_all' (ds : List PyData) : (PyData.shownAll ds).length = ds.length := by rw [shownAll_map', List.length_map]
/-- data that shows in n letters, m deep -/
structure OkD (n m : Nat) (d : PyData) : Prop where
  show' : d.showable = true
  deep : d.depth ≤ m
  len : d.shown.length ≤ n
theorem OkD.mono {n m n' m' : Nat} {d : PyData} (h : OkD n m d) (h1 : n ≤ n') (h2 : m ≤ m') : OkD n' m' d := ⟨h.show', Nat.le_trans h.deep h2, Nat.le_trans h.len h1⟩
theorem okAll {n m : Nat} : ∀ {ds : List PyData}, (∀ d ∈ ds, OkD n m d) → PyData.showableAll ds = true ∧ PyData.depthAll ds ≤ m + 1
  | [], _ => ⟨rfl, by simp [PyData.depthAll]⟩
  | d :: r, h => by
    have ih := okAll (ds := r) fun x hx => h x (List.mem_cons_of_mem _ hx)
    have h1 := h d List.mem_cons_self
    refine ⟨?_, ?_⟩
    · simp only [PyData.showableAll, h1.show', ih.1, Bool.and_self]
    · simp only [PyData.depthAll]
      have := h1.deep
      have := ih.2
      omega
theorem OkD.list {n m : Nat} {ds : List PyData} (h : ∀ d ∈ ds, OkD n m d) : OkD (n * ds.length + 2 * ds.length + 3) (m + 2) (.list ds) := by
  have a := okAll h
  refine ⟨by simp only [PyData.showable]; exact a.1, by simp only [PyData.depth]; omega, ?_⟩
  have h1 := listText_len_le (PyData.shownAll ds)
  have h2 := sum_le' (k := n) ds fun d hd => (h d hd).len
  rw [len_all'] at h1
  show (listText (PyData.shownAll ds)).length ≤ _
  omega
theorem OkD.tuple {n m : Nat} {ds : List PyData} (h : ∀ d ∈ ds, OkD n m d) : OkD (n * ds.length + 2 * ds.length + 3) (m + 2) (.tuple ds) := by
  have a := okAll h
  refine ⟨by simp only [PyData.showable]; exact a.1, by simp only [PyData.depth]; omega, ?_⟩
  have h1 := tupleText_len_le (PyData.shownAll ds)
  have h2 := sum_le' (k := n) ds fun d hd => (h d hd).len
  rw [len_all'] at h1
  show (tupleText (PyData.shownAll ds)).length ≤ _
  omega
theorem OkD.int {i : Int} (h : i.natAbs < 2 ^ 250) : OkD 2000 0 (.int i) := by
  have hl : i.natAbs.log2 < 1920 := Nat.lt_of_lt_of_le (PySem.Flt.log2_lt_of (by decide) h) (by decide)
  refine ⟨by simp [PyData.showable, hl], Nat.zero_le _, ?_⟩
  show (Str.ofString (toString i)).length ≤ 2000
  rw [PyProof.Rows.ofString_length]
  exact Nat.le_trans (int_text_length_le (k := 1920) (by decide) hl) (by decide)
theorem OkD.bool (b : Bool) : OkD 2000 0 (.bool b) := ⟨rfl, Nat.zero_le _, by cases b <;> decide⟩
theorem OkD.none : OkD 2000 0 .none := ⟨rfl, Nat.zero_le _, by decide⟩
theorem OkD.str {z : Str} (h : ∀ c ∈ z.cps.toList, c < 128) (hl : z.length ≤ 100) : OkD 2000 0 (.str z) := by
  refine ⟨rfl, Nat.zero_le _, ?_⟩
  have h1 := PySem.StrLaws.reprText_len z (fun c hc => Nat.lt_trans (h c hc) (by decide))
  show (reprText z).length ≤ 2000
  omega
/-- the same texts of the same data -/
theorem OkD.repr {n m : Nat} {d : PyData} (h : OkD n m d) (h1 : m ≤ 60) (h2 : n ≤ 16777216) : d.showable = true ∧ d.depth ≤ 60 ∧ d.shown.length ≤ sizeLine := ⟨h.show', Nat.le_trans h.deep h1, by rw [sizeLine_eq]; exact Nat.le_trans h.len h2⟩
end So

namespace K08
open PySem PySem.Spec PyProof.Rows L2 So LamX
abbrev sOdd : Stmt := topS 30
abbrev oddN : List Str := ["_law_pen_here", "_law_tools", "_law_some", "_law_one"]
theorem scOdd : FnScope oddN ["_law_pen_here", "_law_tools"] (defScope sOdd) := ⟨rfl, rfl, rfl, by decide +kernel, rfl, by decide +kernel, by decide +kernel⟩
/-- the odd values -/
def OdV (H : Hp) (v : V) : Prop := (∃ z ∈ (["", "A", "sound", "zzzzzzz9"] : List Str), v = .str z) ∨ v = .non ∨ v = .int 7 ∨ v = .bl true ∨ v = .int (10 ^ 30) ∨ (∃ t, v = .ref t ∧ H t = some (.lst [])) ∨ (∃ t, v = .ref t ∧ H t = some (.tup [.str "a"])) ∨ ∃ t, v = .ref t ∧ H t = some (.dK [])
theorem OdV.keep {H H' : Hp} {v : V} (h : OdV H v) (s1 : ∀ b, H b = some (.lst []) → H' b = some (.lst [])) (s2 : ∀ b, H b = some (.tup [.str "a"]) → H' b = some (.tup [.str "a"])) (s3 : ∀ b, H b = some (.dK []) → H' b = some (.dK [])) : OdV H' v := by
  rcases h with h | h | h | h | h | ⟨t, e, h⟩ | ⟨t, e, h⟩ | ⟨t, e, h⟩
  · exact .inl h
  · exact .inr (.inl h)
  · exact .inr (.inr (.inl h))
  · exact .inr (.inr (.inr (.inl h)))
  · exact .inr (.inr (.inr (.inr (.inl h))))
  · exact .inr (.inr (.inr (.inr (.inr (.inl ⟨t, e, s1 _ h⟩)))))
  · exact .inr (.inr (.inr (.inr (.inr (.inr (.inl ⟨t, e, s2 _ h⟩))))))
  · exact .inr (.inr (.inr (.inr (.inr (.inr (.inr ⟨t, e, s3 _ h⟩))))))
theorem OdV.same {H H' : Hp} {v : V} (h : OdV H v) (s : Same H H') : OdV H' v := h.keep (fun b e => s _ _ e) (fun b e => s _ _ e) (fun b e => s _ _ e)
theorem OdV.ext {H H' : Hp} {v : V} (h : OdV H v) (s : ExtN H H') : OdV H' v := h.keep (fun b e => s _ _ e (fun _ y => nomatch y)) (fun b e => s _ _ e (fun _ y => nomatch y)) (fun b e => s _ _ e (fun _ y => nomatch y))
theorem OdV.offp {H H' : Hp} {p l : Addr} {v : V} {ns : List Int} {n : Nat} {g : Int} (h : OdV H v) (pen : Pen H p l ns n g) (o : Off p H H') : OdV H' v :=
  h.keep (fun b e => o _ _ (ne_of e pen.pen (fun y => nomatch y)) e) (fun b e => o _ _ (ne_of e pen.pen (fun y => nomatch y)) e) (fun b e => o _ _ (ne_of e pen.pen (fun y => nomatch y)) e)
theorem OdV.gv {H : Hp} {v : V} (h : OdV H v) : ∃ T, Gv H v T := by
  rcases h with ⟨z, hz, rfl⟩ | rfl | rfl | rfl | rfl | ⟨t, rfl, h⟩ | ⟨t, rfl, h⟩ | ⟨t, rfl, h⟩
  · exact ⟨_, .str z (by revert z; decide +kernel)⟩
  · exact ⟨_, .non⟩
  · exact ⟨_, .int _⟩
  · exact ⟨_, .bl _⟩
  · exact ⟨_, .int _⟩
  · exact ⟨_, .lst h⟩
  · exact ⟨_, .tup h⟩
  · exact ⟨_, .dK h⟩
theorem OdV.dat {K : PySem.W.Frag} {H : Hp} {v : V} (h : OdV H v) : ∃ d, OkD 4100 3 d ∧ ∀ H', (∀ b u, (∀ ps, u ≠ .tbl ps) → H b = some u → H' b = some u) → Dd K H' v d := by
  rcases h with ⟨z, hz, rfl⟩ | rfl | rfl | rfl | rfl | ⟨t, rfl, h⟩ | ⟨t, rfl, h⟩ | ⟨t, rfl, h⟩
  · exact ⟨.str z, (OkD.str (by revert z; decide +kernel) (by revert z; decide +kernel)).mono (by decide) (by decide), fun _ _ => .str _⟩
  · exact ⟨_, OkD.none.mono (by decide) (by decide), fun _ _ => .non⟩
  · exact ⟨_, (OkD.int (by decide +kernel)).mono (by decide) (by decide), fun _ _ => .int _⟩
  · exact ⟨_, (OkD.bool _).mono (by decide) (by decide), fun _ _ => .bl _⟩
  · exact ⟨_, (OkD.int (by decide +kernel)).mono (by decide) (by decide), fun _ _ => .int _⟩
  · exact ⟨.list [], ⟨by decide +kernel, by decide +kernel, by decide +kernel⟩, fun H' s => .lst (SqL.of (s _ _ (fun _ y => nomatch y) h)) .nil⟩
  · exact ⟨.tuple [.str "a"], ⟨by decide +kernel, by decide +kernel, by decide +kernel⟩, fun H' s => .tup (SqT.of (s _ _ (fun _ y => nomatch y) h)) (.cons (.str _) .nil)⟩
  · exact ⟨.dict [], ⟨by decide +kernel, by decide +kernel, by decide +kernel⟩, fun H' s => .dct (s _ _ (fun _ y => nomatch y) h) .nil⟩
theorem dp_strs {K : PySem.W.Frag} {H : Hp} : ∀ zs : List Str, DpAll K H (zs.map V.str) (zs.map PyData.str)
  | [] => .nil
  | z :: r => .cons (.str z) (dp_strs r)
theorem shaped_strs {zs : List Str} (h : ∀ z ∈ zs, PyData.strOk z = true) : SeqAt.shaped (.list (zs.map PyData.str)) = true := by
  unfold SeqAt.shaped
  rw [Bool.and_eq_true]
  refine ⟨?_, decide_eq_true ?_⟩
  · show PyData.canLay0 _ = true
    simp only [PyData.canLay0]
    induction zs with
    | nil => rfl
    | cons a r ih =>
      have h1 := h a List.mem_cons_self
      simpa [PyData.canLayAll0, PyData.canLay0, h1] using ih fun z hz => h z (List.mem_cons_of_mem _ hz)
  · have : PyData.depthAll (zs.map PyData.str) ≤ 1 := by
      clear h
      induction zs with
      | nil => simp [PyData.depthAll]
      | cons a r ih =>
        simp only [List.map_cons, PyData.depthAll, PyData.depth]
        omega
    simp only [PyData.depth]
    omega
theorem op_notIn_seqK {X : Cx} {K : PySem.W.Frag} (h : X.K = K) : OpR X (compareOp .NotIn) (rIn K true) := by
  subst h
  exact op_notIn_seq
theorem op_notInWK {X : Cx} {K : PySem.W.Frag} (h : X.K = K) (hu : X.A.units + 65 < cLine) : OpR X (compareOp .NotIn) (rNotInW K) := by
  subst h
  exact op_notInW hu
theorem hu65 {A : Around} {k : Nat} (hr : Room k A) : A.units + 65 < cLine := by
  have := hr.un
  omega
theorem odd_shaped : ∀ z ∈ (["", "A", "sound", "zzzzzzz9"] : List Str), SeqAt.shaped (.str z) = true := by decide +kernel
theorem any_str (z : Str) : ∀ zs : List Str, ((zs.map PyData.str).any fun y => PyData.eqv y (.str z)) = decide (z ∈ zs)
  | [] => rfl
  | y :: r => by
    rw [List.map_cons, List.any_cons, any_str z r]
    by_cases c : y = z
    · subst c
      simp [PyData.eqv]
    · simp [PyData.eqv, c, Ne.symm c]
theorem any_no {d : PyData} (h : ∀ z, PyData.eqv (.str z) d = false) : ∀ zs : List Str, ((zs.map PyData.str).any fun y => PyData.eqv y d) = false
  | [] => rfl
  | y :: r => by rw [List.map_cons, List.any_cons, any_no h r, h y]; rfl
/-- an odd value not in a list of names -/
theorem not_in {K : PySem.W.Frag} {H : Hp} {tl : Addr} {zs : List Str} (hz : ∀ z ∈ zs, PyData.strOk z = true) (ht : H tl = some (.lst (zs.map V.str))) {v : V} (hv : OdV H v) {Q : VK} (q : ∀ b : Bool, (v = .non → b = true) → (b = true → ∀ z, v = .str z → z ∉ zs) → Q (.bl b) H) : rNotInW K v (.ref tl) H Q := by
  have sl := shaped_strs hz
  have dl : Dp K H (.ref tl) (.list (zs.map PyData.str)) := .lst (SqL.of ht) (dp_strs zs)
  rcases hv with ⟨z, hz', rfl⟩ | rfl | rfl | rfl | rfl | ⟨t, rfl, h⟩ | ⟨t, rfl, h⟩ | ⟨t, rfl, h⟩
  · refine .inl ⟨.str z, _, .str z, dl, odd_shaped z hz', sl, ?_⟩
    rw [any_str]
    refine q _ (fun e => by cases e) fun hb z2 e => ?_
    cases e
    simpa using hb
  · refine .inl ⟨.none, _, .non, dl, by decide +kernel, sl, ?_⟩
    rw [any_no (fun z => by simp [PyData.eqv])]
    exact q _ (fun _ => rfl) fun _ z e => by cases e
  · refine .inl ⟨.int 7, _, .int 7, dl, by decide +kernel, sl, ?_⟩
    rw [any_no (fun z => by simp [PyData.eqv])]
    exact q _ (fun _ => rfl) fun _ z e => by cases e
  · refine .inl ⟨.bool true, _, .bl true, dl, by decide +kernel, sl, ?_⟩
    rw [any_no (fun z => by simp [PyData.eqv])]
    exact q _ (fun _ => rfl) fun _ z e => by cases e
  · refine .inl ⟨.int (10 ^ 30), _, .int _, dl, by decide +kernel, sl, ?_⟩
    rw [any_no (fun z => by simp [PyData.eqv])]
    exact q _ (fun _ => rfl) fun _ z e => by cases e
  · refine .inl ⟨.list [], _, .lst (SqL.of h) .nil, dl, by decide +kernel, sl, ?_⟩
    rw [any_no (fun z => by simp [PyData.eqv])]
    exact q _ (fun _ => rfl) fun _ z e => by cases e
  · refine .inl ⟨.tuple [.str "a"], _, .tup (SqT.of h) (.cons (.str _) .nil), dl, by decide +kernel, sl, ?_⟩
    rw [any_no (fun z => by simp [PyData.eqv])]
    exact q _ (fun _ => rfl) fun _ z e => by cases e
  · exact .inr ⟨t, tl, [], zs, rfl, rfl, h, SqL.of ht, q _ (fun _ => rfl) fun _ z e => by cases e⟩
section
variable {P : Program} {w : World} {K : PySem.W.Frag} {mg : Str → Option Value} {base : Heap}
/-- the least moment that is none of some -/
def spFresh : Sp := fun vs H Q _ => ∃ (l : Addr) (ms : List Int), vs = [.ref l] ∧ H l = some (.lst (ms.map V.int)) ∧ ms.length ≤ 6 ∧ ∀ (k : Int) (t : Addr) (H' : Hp), 1 ≤ k → k ≤ 98 → k ∉ ms → Same H H' → H' t = some (.lst [.int k]) → Q (.ref t) H'
theorem ok_fresh {f : Addr} {fd : FuncData} (F : Fun K "_law_fresh" "_law_fresh" sFresh f fd) (mr : mg "range" = none) : FnOk P w K mg base CX0 1 f fd ["_law_some"] spFresh := by
  refine F.ok scFresh (fun vs H Q E h => ?_) (fun cdv A outer s H vs Q E hr h => ?_)
  · obtain ⟨_, _, rfl, _⟩ := h
    rfl
  · obtain ⟨l, ms, rfl, hl, h6, q⟩ := h
    have hss := sizeLine_eq
    refine ⟨_, pss_one (ps_ret (pe_slice sl_list (pe_lc (own := [("_law_first", 1)]) (g := gName 1) rfl scFresh.nd (pi_range2 (by rfl) mr (pa_cons pe_int (pa_cons pe_int pa_nil))) (blkOk_by (N := ["_law_some", "_law_first"]) (sc := defScope sFresh) (by decide +kernel))
      (fun _ _ _ _ _ => pg_name (i := 1) scFresh.nd rfl (Or.inl rfl)) (fun _ _ _ _ _ => pts_one (pt_cmpR (op_notIn_seqK (K := K) rfl) (pv 1) (pv 0) (by rfl))) (fun _ _ _ _ _ => pv 1)) po_none (po_some pe_int))), ?_⟩
    refine ⟨1, 99, rfl, ⟨by decide, by decide, by decide, by decide⟩, fun D hD => ?_⟩
    refine lc_it (walk_range (lo := 1) (n := ((99 : Int) - 1).toNat)) (fun j H' => Same H H' ∧ ∃ vals : List Int, H' D = some (.lst (vals.map V.int)) ∧ vals.length ≤ j ∧ (∀ y ∈ vals, 1 ≤ y ∧ y ≤ 98 ∧ y ∉ ms) ∧ ∀ y : Int, 1 ≤ y → y ≤ j → y ∉ ms → y ∈ vals)
      ⟨same_upd0 hD, [], upd_same, Nat.zero_le _, (fun _ h => nomatch h), fun y h1 h2 => by omega⟩ (fun _ _ _ _ => trivial) ?_ ?_
    · rintro j x Hx H7 hj ⟨s7, vals, hD7, hvl, hv1, hv2⟩ ⟨rfl, rfl⟩
      have hj98 : j < 98 := hj
      refine ⟨rfl, _, rfl, _, rfl, l, _, rfl, .inl (SqL.of (s7 _ _ hl)), rfl, flat_ints ms, _, rfl, ?_⟩
      rw [show inV (.int (1 + (j : Int))) (ms.map V.int) = decide ((1 + (j : Int)) ∈ ms) from inV_ints _ ms]
      by_cases c : (1 + (j : Int)) ∈ ms
      · rw [decide_eq_true c]
        refine iteF ⟨s7, vals, hD7, Nat.le_succ_of_le hvl, hv1, fun y h1 h2 h3 => ?_⟩
        refine hv2 y h1 ?_ h3
        by_cases e : y = 1 + (j : Int)
        · exact absurd (e ▸ c) h3
        · omega
      · rw [decide_eq_false c]
        refine iteT ⟨_, rfl, _, hD7, by rw [List.length_map]; omega, Same.over s7 hD, vals ++ [1 + (j : Int)], by rw [upd_same, List.map_append]; rfl, by rw [List.length_append]; exact Nat.succ_le_succ hvl, fun y hy => ?_, fun y h1 h2 h3 => ?_⟩
        · rcases List.mem_append.mp hy with h | h
          · exact hv1 y h
          · rw [List.mem_singleton.mp h]
            exact ⟨by omega, by omega, c⟩
        · by_cases e : y = 1 + (j : Int)
          · exact List.mem_append_right _ (by rw [e]; exact List.mem_singleton.mpr rfl)
          · exact List.mem_append_left _ (hv2 y h1 (by omega) h3)
    rintro H7 ⟨s7, vals, hD7, hvl, hv1, hv2⟩
    have hne : vals ≠ [] := fun e => by
      subst e
      have : ([1, 2, 3, 4, 5, 6, 7] : List Int).length ≤ ms.length := fits _ _ (by decide) fun x hx => by
        by_cases c : x ∈ ms
        · exact c
        · have hx' : x = 1 ∨ x = 2 ∨ x = 3 ∨ x = 4 ∨ x = 5 ∨ x = 6 ∨ x = 7 := by simpa using hx
          have := hv2 x (by omega) (by show x ≤ 98; omega) c
          cases this
      have h7 : ([1, 2, 3, 4, 5, 6, 7] : List Int).length = 7 := rfl
      omega
    obtain ⟨k, r, rfl⟩ := List.exists_cons_of_ne_nil hne
    obtain ⟨h1, h2, h3⟩ := hv1 k List.mem_cons_self
    refine ⟨1, rfl, D, _, rfl, SqL.of hD7, fun c hc => ?_⟩
    rw [show cutV ((k :: r).map V.int) none (some 1) = [V.int k] by
      unfold cutV
      rw [HT.sIx_none, show HT.sIx ((k :: r).map V.int).length ((k :: r).map V.int).length (some 1) = min 1 ((k :: r).map V.int).length from HT.sIx_nat _ _ 1]
      simp]
    exact q k c _ h1 h2 h3 (s7.trans (same_upd0 hc)) upd_same
/-- a value that is no tool of some -/
def spOdd : Sp := fun vs H Q _ => ∃ (p l tl : Addr) (cc : List Int) (n : Nat) (g : Int) (zs : List Str), vs = [.ref p, .ref tl] ∧ Pen H p l cc n g ∧ n < 990000 ∧ H tl = some (.lst (zs.map V.str)) ∧ (∀ z ∈ zs, isName z = true) ∧
  ∀ (v : V) (n' : Nat) (g' : Int) (H' : Hp), OdV H' v → (∀ z, v = .str z → z ∉ zs) → n' ≤ n + 1 → Off p H H' → Pen H' p l cc n' g' → Q v H'
theorem ok_odd {f fPk : Addr} {fd fdPk : FuncData} (F : Fun K "_law_odd" "_law_odd" sOdd f fd)
    (FPk : Fun K "_law_pick" "_law_pick" sPick fPk fdPk) (bPk : Binds K fdPk ["_law_pen_here", "_law_some"] []) (gPk : mg "_law_pick" = some (.ref fPk)) (GPk : FnOk P w K mg base CX0 2 fPk fdPk ["_law_pen_here", "_law_some"] (spPick K)) :
    FnOk P w K mg base CX0 3 f fd ["_law_pen_here", "_law_tools"] spOdd := by
  refine F.ok scOdd (fun vs H Q E h => ?_) (fun cdv A outer s H vs Q E hr h => ?_)
  · obtain ⟨_, _, _, _, _, _, _, rfl, _⟩ := h
    rfl
  · obtain ⟨p, l, tl, cc, n, g, zs, rfl, pen, hn, htl, hzs, q⟩ := h
    have hss := sizeLine_eq
    refine ⟨_, pss_cons (ps_set (i := 2) scOdd.nd rfl (.inl rfl) (pe_lst (pa_cons pe_non (pa_cons pe_int (pa_cons pe_bl (pa_cons (pe_lst pa_nil) (pa_cons (pe_tup (pa_cons pe_str pa_nil)) (pa_cons pe_dnewK (pa_cons pe_str (pa_cons pe_str (pa_cons pe_str (pa_cons pe_str (pa_cons (pe_op op_pow pe_int pe_int) pa_nil)))))))))))))
      (pss_one (ps_ret (pe_call GPk hr (by rfl) gPk FPk.kp bPk .nil pass0 (pa_cons (pv 0) (pa_cons (pe_lc (own := [("_law_one", 3)]) (g := gName 3) rfl scOdd.nd (pi_list (pv 2)) (blkOk_by (N := oddN) (sc := defScope sOdd) (by decide +kernel))
        (fun _ _ _ _ _ => pg_name (i := 3) scOdd.nd rfl (Or.inl rfl)) (fun _ _ _ _ _ => pts_one (pt_cmpR (op_notInWK (K := K) rfl (hu65 hr)) (pv 3) (pv 1) (by rfl))) (fun _ _ _ _ _ => pv 3)) pa_nil))))), ?_⟩
    refine ⟨by show 0 ≤ sizeLine; omega, fun t1 h1 => ⟨by show 1 ≤ sizeLine; omega, fun t2 h2 => fun t3 h3 => ⟨_, _, rfl, rfl, ⟨by decide, by decide, by decide⟩, by show 11 ≤ sizeLine; omega, fun t4 h4 => ?_⟩⟩⟩
    generalize hxs : [V.non, V.int 7, V.bl true, V.ref t1, V.ref t2, V.ref t3, V.str "", V.str "A", V.str "sound", V.str "zzzzzzz9", V.int ((10 : Int) ^ Int.toNat 30)] = xs
    have u1 := same_upd0 (o := .lst []) h1
    have u2 := same_upd0 (o := .tup [.str "a"]) h2
    have u3 := same_upd0 (o := .dK []) h3
    have u4 := same_upd0 (o := .lst xs) h4
    have e1 := u4 _ _ (u3 _ _ (u2 _ _ (show (upd H t1 (.lst [])) t1 = some (.lst []) from upd_same)))
    have e2 := u4 _ _ (u3 _ _ (show (upd (upd H t1 (.lst [])) t2 (.tup [.str "a"])) t2 = some (.tup [.str "a"]) from upd_same))
    have e3 := u4 _ _ (show (upd (upd (upd H t1 (.lst [])) t2 (.tup [.str "a"])) t3 (.dK [])) t3 = some (.dK []) from upd_same)
    have sm := ((u1.trans u2).trans u3).trans u4
    have hS : (upd (upd (upd (upd H t1 (.lst [])) t2 (.tup [.str "a"])) t3 (.dK [])) t4 (.lst xs)) t4 = some (.lst xs) := upd_same
    revert e1 e2 e3 sm hS
    generalize upd (upd (upd (upd H t1 (.lst [])) t2 (.tup [.str "a"])) t3 (.dK [])) t4 (.lst xs) = G
    intro e1 e2 e3 sm hS
    clear u1 u2 u3 u4 h1 h2 h3 h4
    have key : ∀ x ∈ xs, OdV G x := by
      rw [← hxs]
      simp only [List.forall_mem_cons]
      exact ⟨.inr (.inl rfl), .inr (.inr (.inl rfl)), .inr (.inr (.inr (.inl rfl))), .inr (.inr (.inr (.inr (.inr (.inl ⟨t1, rfl, e1⟩))))), .inr (.inr (.inr (.inr (.inr (.inr (.inl ⟨t2, rfl, e2⟩)))))), .inr (.inr (.inr (.inr (.inr (.inr (.inr ⟨t3, rfl, e3⟩)))))),
        .inl ⟨_, by simp, rfl⟩, .inl ⟨_, by simp, rfl⟩, .inl ⟨_, by simp, rfl⟩, .inl ⟨_, by simp, rfl⟩, .inr (.inr (.inr (.inr (.inl rfl)))), fun _ h => nomatch h⟩
    have x0 : xs[0]? = some .non := by rw [← hxs]; rfl
    have xl : xs.length = 11 := by rw [← hxs]; rfl
    clear hxs e1 e2 e3
    have htlG := sm _ _ htl
    refine ⟨_, rfl, _, rfl, t4, rfl, ⟨_, SqL.of hS⟩, fun D hD => ?_⟩
    refine lc_it walk_list (fun j H' => Same G H' ∧ ∃ vs : List V, H' D = some (.lst vs) ∧ vs.length ≤ j ∧ (0 < j → vs ≠ []) ∧ ∀ y ∈ vs, y ∈ xs ∧ ∀ z, y = .str z → z ∉ zs)
      ⟨same_upd0 hD, [], upd_same, Nat.zero_le _, (fun h => absurd h (Nat.lt_irrefl _)), fun _ h => nomatch h⟩ (fun _ _ _ y => SqL.of (y.1 _ _ hS)) ?_ ?_
    · rintro j x Hx H7 hj ⟨s7, vs, hD7, hvl, hv0, hv⟩ ⟨rfl, hx⟩
      have hxm := List.mem_of_getElem? hx
      refine ⟨rfl, _, rfl, _, rfl, not_in (fun z hz => name_strOk (hzs z hz)) (s7 _ _ htlG) ((key x hxm).same s7) fun b hb0 hb => ⟨_, rfl, ?_⟩⟩
      cases b with
      | false =>
        refine iteF ⟨s7, vs, hD7, Nat.le_succ_of_le hvl, fun _ => ?_, hv⟩
        rcases Nat.eq_zero_or_pos j with e | e
        · subst e
          rw [x0] at hx
          exact absurd (hb0 (Option.some.inj hx).symm) (by decide)
        · exact hv0 e
      | true =>
        refine iteT ⟨_, rfl, _, hD7, by omega, Same.over s7 hD, vs ++ [x], upd_same, by rw [List.length_append]; exact Nat.succ_le_succ hvl, fun _ => by simp, fun y hy => ?_⟩
        rcases List.mem_append.mp hy with h | h
        · exact hv y h
        · rw [List.mem_singleton.mp h]
          exact ⟨hxm, hb rfl⟩
    rintro H7 ⟨s7, vs, hD7, hvl, hv0, hv⟩
    have pen7 := (pen.sm sm).sm s7
    have nD : D ≠ p := fun e => by
      have := (pen.sm sm).pen
      rw [← e, hD] at this
      cases this
    refine ⟨p, l, cc, n, g, .ref D, rfl, pen7, by omega, .inl ⟨D, vs, rfl, nD, hD7, List.length_pos_iff.mpr (hv0 (by omega)), by omega, fun v n' g' H' hvm hn' off' pen' => ?_⟩⟩
    obtain ⟨hvx, hvz⟩ := hv v hvm
    exact q v n' g' H' (((key v hvx).same s7).offp pen7 off') hvz hn' ((off_same (sm.trans s7)).trans off') pen'
end
end K08

namespace K08
open PySem PySem.Spec PyProof.Rows L2 So TL
theorem num_strOk {i : Int} (h : 0 ≤ i) : PyData.strOk (Str.ofString (toString i)) = true := by
  unfold PyData.strOk
  rw [← Array.all_toList]
  refine List.all_eq_true.mpr fun c hc => decide_eq_true ?_
  obtain ⟨k, rfl⟩ : ∃ k : Nat, i = k := ⟨i.toNat, by omega⟩
  have e : (Str.ofString (toString ((k : Nat) : Int))).cps.toList = numL k := tl_num k
  rw [e] at hc
  have := numL_digits k _ hc
  omega
def dPt (z : Str) (m : Int) : PyData := .tuple [.str z, .int m]
theorem dp_pt {K : PySem.W.Frag} {H : Hp} {p : Addr} {z : Str} {m : Int} (h : H p = some (.tup [.str z, .int m])) : Dp K H (.ref p) (dPt z m) := .tup (SqT.of h) (.cons (.str z) (.cons (.int m) .nil))
theorem shaped_pt {z : Str} {m : Int} (h : PyData.strOk z = true) : SeqAt.shaped (dPt z m) = true := by
  unfold SeqAt.shaped dPt
  simp [PyData.canLay0, PyData.canLayAll0, PyData.depth, PyData.depthAll, h]
theorem eqv_pt (z z' : Str) (m m' : Int) : PyData.eqv (dPt z m) (dPt z' m') = decide (z = z' ∧ m = m') := by
  unfold dPt
  simp only [PyData.eqv, PyData.eqvAll, Bool.and_true]
  by_cases h1 : z = z' <;> by_cases h2 : m = m' <;> simp [h1, h2]
theorem dp_pts {K : PySem.W.Frag} {H : Hp} : ∀ {js : List Addr} {es : List (Str × Int)}, Paired (LfAt H) js es → DpAll K H (js.map V.ref) (es.map fun e => dPt e.1 e.2)
  | _, _, .nil => .nil
  | _, _, .cons h t => .cons (dp_pt h) (dp_pts t)
theorem shaped_pts {es : List (Str × Int)} (h : ∀ e ∈ es, PyData.strOk e.1 = true) : SeqAt.shaped (.list (es.map fun e => dPt e.1 e.2)) = true := by
  unfold SeqAt.shaped
  rw [Bool.and_eq_true]
  refine ⟨?_, decide_eq_true ?_⟩
  · show PyData.canLay0 _ = true
    simp only [PyData.canLay0]
    induction es with
    | nil => rfl
    | cons a r ih =>
      have h1 := h a List.mem_cons_self
      have h2 := ih fun e he => h e (List.mem_cons_of_mem _ he)
      rw [List.map_cons]
      simp only [PyData.canLayAll0, h2, Bool.and_true]
      simp [dPt, PyData.canLay0, PyData.canLayAll0, h1]
  · have : PyData.depthAll (es.map fun e => dPt e.1 e.2) ≤ 3 := by
      clear h
      induction es with
      | nil => simp [PyData.depthAll]
      | cons a r ih =>
        simp only [List.map_cons, PyData.depthAll, dPt, PyData.depth] at ih ⊢
        omega
    simp only [PyData.depth]
    omega
theorem any_pt (z : Str) (n : Int) : ∀ es : List (Str × Int), ((es.map fun e => dPt e.1 e.2).any fun y => PyData.eqv y (dPt z n)) = decide ((z, n) ∈ es)
  | [] => rfl
  | e :: r => by
    rw [List.map_cons, List.any_cons, any_pt z n r, eqv_pt]
    obtain ⟨y, m⟩ := e
    by_cases c : y = z ∧ m = n
    · obtain ⟨rfl, rfl⟩ := c
      simp
    · rw [decide_eq_false c, Bool.false_or]
      refine decide_eq_decide.mpr ⟨fun h => List.mem_cons_of_mem _ h, fun h => ?_⟩
      rcases List.mem_cons.mp h with h | h
      · cases h
        exact absurd ⟨rfl, rfl⟩ c
      · exact h
theorem lvs_mem' {L : List (Str × List Int)} (ok : LOk L) {z : Str} {n : Int} : (z, n) ∈ lvs L ↔ ∃ ns, L.lookup z = some ns ∧ n ∈ ns := by
  unfold lvs
  constructor
  · intro h
    obtain ⟨p, hp, h2⟩ := List.mem_flatMap.mp h
    obtain ⟨m, hm, e⟩ := List.mem_map.mp h2
    cases e
    exact ⟨p.2, lookup_mem ok.nd hp, hm⟩
  · rintro ⟨ns, h1, h2⟩
    exact List.mem_flatMap.mpr ⟨(z, ns), lookup_in h1, List.mem_map.mpr ⟨n, h2, rfl⟩⟩
theorem inF_lvs {L : List (Str × List Int)} (ok : LOk L) (z : Str) (n : Int) : inF (fun z => L.lookup z) (some (.str z, .int n)) = decide ((z, n) ∈ lvs L) := by
  show (match L.lookup z with | some ns => decide (n ∈ ns) | none => false) = _
  cases e : L.lookup z with
  | none => exact (decide_eq_false fun h => by
      obtain ⟨ns, h1, _⟩ := (lvs_mem' ok).mp h
      rw [e] at h1
      cases h1).symm
  | some ns =>
    refine decide_eq_decide.mpr ⟨fun h => (lvs_mem' ok).mpr ⟨ns, e, h⟩, fun h => ?_⟩
    obtain ⟨ns', h1, h2⟩ := (lvs_mem' ok).mp h
    rw [e] at h1
    cases h1
    exact h2
/-- a value that is no life -/
def NoL (F : Str → Option (List Int)) (H : Hp) (v : V) : Prop := ∃ o, LyAt H v o ∧ inF F o = false
theorem NoL.same {F : Str → Option (List Int)} {H H' : Hp} {v : V} (h : NoL F H v) (s : Same H H') : NoL F H' v := by
  obtain ⟨o, h1, h2⟩ := h
  exact ⟨o, h1.same s, h2⟩
theorem NoL.flat {F : Str → Option (List Int)} {H : Hp} {v : V} {T : String} (h : Gv H v T) (n : T ≠ "tuple") : NoL F H v := ⟨none, .inl ⟨rfl, T, h, fun e => absurd e n⟩, rfl⟩
theorem NoL.tup {F : Str → Option (List Int)} {H : Hp} {p : Addr} {xs : List V} (h : H p = some (.tup xs)) (n : xs.length ≠ 2) : NoL F H (.ref p) := ⟨none, .inl ⟨rfl, _, .tup h, fun _ => ⟨p, xs, rfl, h, n⟩⟩, rfl⟩
theorem NoL.pair {F : Str → Option (List Int)} {H : Hp} {p : Addr} {u x : V} {T1 T2 : String} (h : H p = some (.tup [u, x])) (h1 : Gv H u T1) (h2 : Gv H x T2) (n : inF F (some (u, x)) = false) : NoL F H (.ref p) := ⟨some (u, x), .inr ⟨u, x, p, T1, T2, rfl, rfl, h, h1, h2⟩, n⟩
theorem inF_no {F : Str → Option (List Int)} {u x : V} (h : fB F u = none) : inF F (some (u, x)) = false := by
  cases x with
  | int i =>
    show (match fB F u with | some ns => decide (i ∈ ns) | none => false) = false
    rw [h]
  | _ => rfl
end K08

/-! a list of anything == [], != [] -/
namespace So
open PySem PySem.Spec PyProof.Rows L2
section
variable {X : Cx}
theorem isL {hp : Heap} {a : Addr} {its : Array Value} (h : PlainL hp a its) : hp.IsList a its := by
  obtain ⟨o, n, e, c, d, dt⟩ := h
  exact ⟨o, e, c, n, dt⟩
def rNil (K : PySem.W.Frag) (neg : Bool) : R2 := fun x y H Q => ∃ (a b : Addr) (xs : List V), x = .ref a ∧ y = .ref b ∧ SqL K H a xs ∧ SqL K H b [] ∧ Q (.bl (if neg then !xs.isEmpty else xs.isEmpty)) H
theorem op_neNil (hu : X.A.units < cLine) : OpR X (compareOp .NotEq) (rNil X.K true) := by
  intro pins s σ H x y v u Q I rx ry h
  obtain ⟨a, b, xs, rfl, rfl, ha, hb, q⟩ := h
  cases rx
  cases ry
  obtain ⟨its, rv, hl, hz⟩ := I.list ha
  obtain ⟨its2, rv2, hl2, hz2⟩ := I.list hb
  cases rv2
  cases xs with
  | nil =>
    cases rv
    exact PySem.SeqAt.RcNeAt.lists (e := fun _ => true) (isL hl) (isL hl2) rfl hu (fun j h1 _ => absurd h1 (Nat.not_lt_zero j)) X.prog X.w _ _ ⟨.bl false, H, I, rfl, q⟩
  | cons x r =>
    cases rv with
    | cons r1 r2 => exact PySem.SeqAt.RcNeAt.lists_lengths (isL hl) (isL hl2) (by simp) hu X.prog X.w _ _ ⟨.bl true, H, I, rfl, q⟩
theorem op_eqNil (hu : X.A.units < cLine) : OpR X (compareOp .Eq) (rNil X.K false) := by
  intro pins s σ H x y v u Q I rx ry h
  obtain ⟨a, b, xs, rfl, rfl, ha, hb, q⟩ := h
  cases rx
  cases ry
  obtain ⟨its, rv, hl, hz⟩ := I.list ha
  obtain ⟨its2, rv2, hl2, hz2⟩ := I.list hb
  cases rv2
  cases xs with
  | nil =>
    cases rv
    exact PySem.SeqAt.RcAt.lists (e := fun _ => true) (isL hl) (isL hl2) rfl hu (fun j h1 _ => absurd h1 (Nat.not_lt_zero j)) X.prog X.w _ _ ⟨.bl true, H, I, rfl, q⟩
  | cons x r =>
    cases rv with
    | cons r1 r2 => exact PySem.SeqAt.RcAt.lists_lengths (isL hl) (isL hl2) (by simp) hu X.prog X.w _ _ ⟨.bl false, H, I, rfl, q⟩
end
end So

namespace So
open PySem PySem.Spec PyProof.Rows L2
/-! a statement that is never come to -/
def tDead : TS := fun _ _ _ => False
theorem ps_dead {X : Cx} {st : Stmt} : PS X st tDead := ⟨fun _ _ _ _ _ _ h => h.elim⟩
theorem pss_dead {X : Cx} {st : List Stmt} : PSs X st tDead := ⟨fun _ _ _ _ _ _ h => h.elim⟩
def tDeadE : TE := fun _ _ _ => False
theorem pe_dead {X : Cx} {e : Expr} : PE X e tDeadE := ⟨fun _ _ _ _ _ _ h => h.elim⟩
end So

namespace K08
open PySem PySem.Spec PyProof.Rows L2 So
abbrev sMem : Stmt := topS 32
abbrev memN : List Str := ["_law_pen_here", "_law_lives", "_law_listed_here", "_law_odd_here", "_law_one", "_law_tool", "_law_first", "_law_more", "_law_other"]
theorem scMem : FnScope memN ["_law_pen_here", "_law_lives", "_law_listed_here"] (defScope sMem) := ⟨rfl, rfl, rfl, by decide +kernel, rfl, by decide +kernel, by decide +kernel⟩
theorem op_notInDK {X : Cx} {K : PySem.W.Frag} (h : X.K = K) (hu : X.A.units + 65 < cLine) : OpR X (compareOp .NotIn) (rNotInD K) := by
  subst h
  exact op_notInD hu
section
variable {P : Program} {w : World} {K : PySem.W.Frag} {mg : Str → Option Value} {base : Heap}
def spMem (C : Addr) : Sp := fun vs H Q _ => ∃ (p a t : Addr) (js : List Addr) (L : List (Str × List Int)), vs = [.ref p, .ref a, .ref t] ∧ LsAt C H a L ∧ LOk L ∧ H t = some (.lst (js.map V.ref)) ∧ Paired (LfAt H) js (lvs L) ∧ ∀ H', Same H H' → Q (.bl true) H'
theorem ok_mem {C f fC : Addr} {fd fdC : FuncData} (F0 : Fun K "_law_members_right" "_law_members_right" sMem f fd) (ms : mg "str" = none) (sC : PySem.W.findIn K (.ref C) "__contains__" = some (some (.ref fC))) (iC : PySem.W.isFn K (.ref fC) = true) (bC : Binds K fdC ["self", "life"] []) (GC : FnOk P w K mg base CX0 2 fC fdC ["self", "life"] (spCont C)) :
    FnOk P w K mg base CX0 3 f fd ["_law_pen_here", "_law_lives", "_law_listed_here"] (spMem C) := by
  refine F0.ok scMem (fun vs H Q E h => ?_) (fun cdv A outer s H vs Q E hr h => ?_)
  · obtain ⟨_, _, _, _, _, rfl, _⟩ := h
    rfl
  · obtain ⟨p, a, t, js, L, rfl, hL, ok, ht, hjs, q⟩ := h
    have hr2 : Room 2 _ := hr.mono (by decide)
    have hss := sizeLine_eq
    refine ⟨_, pss_cons (ps_set (i := 3) scMem.nd rfl (.inl rfl) (pe_lst (pa_cons pe_non (pa_cons pe_int (pa_cons pe_str (pa_cons (pe_tup pa_nil) (pa_cons (pe_tup (pa_cons pe_str pa_nil)) (pa_cons (pe_lst (pa_cons pe_str (pa_cons pe_int pa_nil))) (pa_cons (pe_tup (pa_cons pe_str (pa_cons pe_str pa_nil))) (pa_cons (pe_tup (pa_cons pe_str (pa_cons pe_bl pa_nil))) (pa_cons (pe_tup (pa_cons pe_str (pa_cons pe_bl pa_nil))) (pa_cons (pe_tup (pa_cons pe_str (pa_cons pe_non pa_nil))) (pa_cons (pe_tup (pa_cons pe_non (pa_cons pe_int pa_nil))) (pa_cons (pe_tup (pa_cons (pe_lst pa_nil) (pa_cons pe_int pa_nil))) pa_nil))))))))))))))
      (pss_cons (ps_cut (ps_set (i := 3) scMem.nd rfl (.inl rfl) (pe_op op_cat (pe_op op_cat (pv 3) (pe_lst (pa_cons (pe_tup (pa_cons pe_str (pa_cons pe_int (pa_cons pe_int pa_nil)))) (pa_cons (pe_tup (pa_cons (pe_tup (pa_cons pe_str (pa_cons pe_int pa_nil))) pa_nil)) (pa_cons pe_dnewK pa_nil))))) (pe_lc (own := [("_law_one", 4)]) (g := gName 4) rfl scMem.nd (pi_list (pe_lst (pa_cons (pe_tup (pa_cons pe_str (pa_cons pe_int pa_nil))) pa_nil))) (blkOk_by (N := memN) (sc := defScope sMem) (by decide +kernel))
          (fun _ _ _ _ _ => pg_name (i := 4) scMem.nd rfl (Or.inl rfl)) (fun _ _ _ _ _ => pts_one (pt_cmpR (op_notInDK (K := K) rfl (hu65 hr)) (pv 4) (pv 2) (by rfl))) (fun _ _ _ _ _ => pv 4)))))
      (pss_cons (ps_for PassesOwn.never rfl (pi_list (pv 2)) (pg_name (i := 4) scMem.nd rfl (Or.inl rfl))
        (pss_cons (ps_asg (pv 4) (pg_tup rfl (pgs_cons (pg_name (i := 5) scMem.nd rfl (Or.inl rfl)) (pgs_cons (pg_name (i := 6) scMem.nd rfl (Or.inl rfl)) pgs_nil))))
        (pss_cons (ps_set (i := 7) scMem.nd rfl (.inl rfl) (pe_lst (pa_cons (pe_tup (pa_cons (pv 5) (pa_cons (pe_op op_add (pv 6) pe_int) pa_nil))) (pa_cons (pe_tup (pa_cons (pv 5) (pa_cons (pe_op op_sub (pv 6) pe_int) pa_nil))) (pa_cons (pe_lst (pa_cons (pv 5) (pa_cons (pv 6) pa_nil))) (pa_cons (pe_tup (pa_cons (pv 5) (pa_cons (pe_callTy call_str_int (by rfl) ms (by decide +kernel) (pa_cons (pv 6) pa_nil)) pa_nil))) (pa_cons (pe_tup (pa_cons (pv 6) (pa_cons (pv 5) pa_nil))) pa_nil)))))))
        (pss_cons (ps_cut (ps_set (i := 3) scMem.nd rfl (.inl rfl) (pe_op op_cat (pe_op op_cat (pv 3) (pe_lc (own := [("_law_other", 8)]) (g := gName 8) rfl scMem.nd (pi_list (pv 7)) (blkOk_by (N := memN) (sc := defScope sMem) (by decide +kernel)) (fun _ _ _ _ _ => pg_name (i := 8) scMem.nd rfl (Or.inl rfl))
            (fun _ _ _ _ _ => pts_one (pt_cmpR (op_notInDK (K := K) rfl (hu65 hr)) (pv 8) (pv 2) (by rfl))) (fun _ _ _ _ _ => pv 8))) (pe_lst (pa_cons (pe_tup (pa_cons (pv 5) (pa_cons pe_bl pa_nil))) (pa_cons (pe_tup (pa_cons (pv 5) (pa_cons pe_bl pa_nil))) pa_nil))))))
        (pss_one (ps_if (PW.pt (pw_or (pt_cmpR (op_notInO GC sC iC bC pass0 hr2) (pv 4) (pv 1) (by rfl)) (pw_or1 (pt_cmpR (op_notInO GC sC iC bC pass0 hr2) (pe_tup (pa_cons (pv 5) (pa_cons (pv 6) pa_nil))) (pv 1) (by rfl))))) pss_dead pss_nil))))))
      (pss_one (ps_ret (pe_cmpR (op_eqNil hr.units0) (pe_lc (own := [("_law_one", 4)]) (g := gName 4) rfl scMem.nd (pi_list (pv 3)) (blkOk_by (N := memN) (sc := defScope sMem) (by decide +kernel)) (fun _ _ _ _ _ => pg_name (i := 4) scMem.nd rfl (Or.inl rfl))
          (fun _ _ _ _ _ => pts_one (pt_cmpR (op_inO GC sC iC bC pass0 hr2) (pv 4) (pv 1) (by rfl))) (fun _ _ _ _ _ => pv 4)) (pe_lst pa_nil) (nomark _)))))), ?_⟩
    let F : Str → Option (List Int) := fun z => L.lookup z
    refine ⟨by show 0 ≤ sizeLine; omega, fun t1 h1 => ?_⟩
    have s1 := same_upd0 (o := .tup []) h1
    have k1 : NoL F (upd H t1 (.tup [])) (.ref t1) := NoL.tup upd_same (by decide)
    generalize upd H t1 (.tup []) = G1 at s1 k1 ⊢
    clear h1
    refine ⟨by show 1 ≤ sizeLine; omega, fun t2 h2 => ?_⟩
    have s2 := same_upd0 (o := .tup [.str "a"]) h2
    have k2 : NoL F (upd G1 t2 (.tup [.str "a"])) (.ref t2) := NoL.tup upd_same (by decide)
    generalize upd G1 t2 (.tup [.str "a"]) = G2 at s2 k2 ⊢
    clear h2
    refine ⟨by show 2 ≤ sizeLine; omega, fun t3 h3 => ?_⟩
    have s3 := same_upd0 (o := .lst [.str "a", .int 0]) h3
    have k3 : NoL F (upd G2 t3 (.lst [.str "a", .int 0])) (.ref t3) := NoL.flat (.lst upd_same) (by decide)
    generalize upd G2 t3 (.lst [.str "a", .int 0]) = G3 at s3 k3 ⊢
    clear h3
    refine ⟨by show 2 ≤ sizeLine; omega, fun t4 h4 => ?_⟩
    have s4 := same_upd0 (o := .tup [.str "a", .str "0"]) h4
    have k4 : NoL F (upd G3 t4 (.tup [.str "a", .str "0"])) (.ref t4) := NoL.pair upd_same (.str _ (by decide)) (.str _ (by decide)) rfl
    generalize upd G3 t4 (.tup [.str "a", .str "0"]) = G4 at s4 k4 ⊢
    clear h4
    refine ⟨by show 2 ≤ sizeLine; omega, fun t5 h5 => ?_⟩
    have s5 := same_upd0 (o := .tup [.str "a", .bl true]) h5
    have k5 : NoL F (upd G4 t5 (.tup [.str "a", .bl true])) (.ref t5) := NoL.pair upd_same (.str _ (by decide)) (.bl _) rfl
    generalize upd G4 t5 (.tup [.str "a", .bl true]) = G5 at s5 k5 ⊢
    clear h5
    refine ⟨by show 2 ≤ sizeLine; omega, fun t6 h6 => ?_⟩
    have s6 := same_upd0 (o := .tup [.str "a", .bl false]) h6
    have k6 : NoL F (upd G5 t6 (.tup [.str "a", .bl false])) (.ref t6) := NoL.pair upd_same (.str _ (by decide)) (.bl _) rfl
    generalize upd G5 t6 (.tup [.str "a", .bl false]) = G6 at s6 k6 ⊢
    clear h6
    refine ⟨by show 2 ≤ sizeLine; omega, fun t7 h7 => ?_⟩
    have s7 := same_upd0 (o := .tup [.str "a", .non]) h7
    have k7 : NoL F (upd G6 t7 (.tup [.str "a", .non])) (.ref t7) := NoL.pair upd_same (.str _ (by decide)) .non rfl
    generalize upd G6 t7 (.tup [.str "a", .non]) = G7 at s7 k7 ⊢
    clear h7
    refine ⟨by show 2 ≤ sizeLine; omega, fun t8 h8 => ?_⟩
    have s8 := same_upd0 (o := .tup [.non, .int 0]) h8
    have k8 : NoL F (upd G7 t8 (.tup [.non, .int 0])) (.ref t8) := NoL.pair upd_same .non (.int _) rfl
    generalize upd G7 t8 (.tup [.non, .int 0]) = G8 at s8 k8 ⊢
    clear h8
    refine ⟨by show 0 ≤ sizeLine; omega, fun t9 h9 => ⟨by show 2 ≤ sizeLine; omega, fun t10 h10 => ?_⟩⟩
    have s9 := same_upd0 (o := .lst []) h9
    have s10 := same_upd0 (o := .tup [.ref t9, .int 0]) h10
    have k10 : NoL F (upd (upd G8 t9 (.lst [])) t10 (.tup [.ref t9, .int 0])) (.ref t10) := NoL.pair upd_same (.lst (s10 _ _ upd_same)) (.int _) rfl
    have s910 := s9.trans s10
    generalize upd (upd G8 t9 (.lst [])) t10 (.tup [.ref t9, .int 0]) = G10 at s910 k10 ⊢
    clear s9 s10 h9 h10
    refine ⟨by show 12 ≤ sizeLine; omega, fun q1 hq1 => ?_⟩
    generalize hxs : [V.non, .int 7, .str "a", .ref t1, .ref t2, .ref t3, .ref t4, .ref t5, .ref t6, .ref t7, .ref t8, .ref t10] = xs
    have xl : xs.length = 12 := by rw [← hxs]; rfl
    have s11 := same_upd0 (o := .lst xs) hq1
    have hq11 : upd G10 q1 (.lst xs) q1 = some (.lst xs) := upd_same
    have ha : NoL F H (.str "a") := NoL.flat (T := "str") (.str _ (by decide)) (by decide)
    have s0 : Same H G10 := ((((((((s1.trans s2).trans s3).trans s4).trans s5).trans s6).trans s7).trans s8).trans s910)
    have key : ∀ x ∈ xs, NoL F G10 x := by
      rw [← hxs]
      simp only [List.forall_mem_cons]
      exact ⟨.flat .non (by decide), .flat (.int _) (by decide), ha.same s0, k1.same (((((((s2.trans s3).trans s4).trans s5).trans s6).trans s7).trans s8).trans s910), k2.same ((((((s3.trans s4).trans s5).trans s6).trans s7).trans s8).trans s910), k3.same (((((s4.trans s5).trans s6).trans s7).trans s8).trans s910), k4.same ((((s5.trans s6).trans s7).trans s8).trans s910), k5.same (((s6.trans s7).trans s8).trans s910), k6.same ((s7.trans s8).trans s910), k7.same (s8.trans s910), k8.same s910, k10, fun _ h => nomatch h⟩
    clear hxs k1 k2 k3 k4 k5 k6 k7 k8 k10 s1 s2 s3 s4 s5 s6 s7 s8 s910 ha
    have key := fun x hx => (key x hx).same s11
    have s0 := s0.trans s11
    generalize upd G10 q1 (.lst xs) = G11 at s11 hq11 key s0 ⊢
    have dl : ∀ {G : Hp}, Same H G → Dp K G (.ref t) (.list ((lvs L).map fun e => dPt e.1 e.2)) := fun s => .lst (SqL.of (s _ _ ht)) (dp_pts (L2.Paired.mapP hjs fun j e h => s _ _ h))
    have sl : SeqAt.shaped (.list ((lvs L).map fun e => dPt e.1 e.2)) = true := shaped_pts fun e he => by
      obtain ⟨ns, h1, _⟩ := (lvs_mem' ok).mp (show (e.1, e.2) ∈ lvs L from he)
      exact name_strOk (ok.ns _ _ (lookup_in h1)).1
    have zz : PyData.strOk ("zzzzzzz9" : Str) = true := by decide +kernel
    -- more of them
    refine ⟨fun σ' G => ∃ (q2 : Addr) (xs2 : List V), σ' = [some (.ref p), some (.ref a), some (.ref t), some (.ref q2), none, none, none, none, none] ∧ Same H G ∧ G q2 = some (.lst xs2) ∧ xs2.length ≤ 20 ∧ ∀ x ∈ xs2, NoL F G x, ?_, ?_⟩
    · refine ⟨_, rfl, by show 3 ≤ sizeLine; omega, fun u1 hu1 => ⟨by show 2 ≤ sizeLine; omega, fun u2 hu2 => ⟨by show 1 ≤ sizeLine; omega, fun u3 hu3 => fun u4 hu4 => ⟨by show 3 ≤ sizeLine; omega, fun u5 hu5 => ?_⟩⟩⟩⟩
      have v1 := same_upd0 (o := .tup [V.str "a", .int 0, .int 0]) hu1
      have v2 := same_upd0 (o := .tup [V.str "a", .int 0]) hu2
      have v3 := same_upd0 (o := .tup [V.ref u2]) hu3
      have v4 := same_upd0 (o := .dK []) hu4
      have v5 := same_upd0 (o := .lst [V.ref u1, .ref u3, .ref u4]) hu5
      have w1 := v5 _ _ (v4 _ _ (v3 _ _ (v2 _ _ (upd_same (H := G11) (a := u1) (o := .tup [V.str "a", .int 0, .int 0])))))
      have w3 := v5 _ _ (v4 _ _ (upd_same (H := upd (upd G11 u1 (.tup [V.str "a", .int 0, .int 0])) u2 (.tup [V.str "a", .int 0])) (a := u3) (o := .tup [V.ref u2])))
      have w4 := v5 _ _ (upd_same (H := upd (upd (upd G11 u1 (.tup [V.str "a", .int 0, .int 0])) u2 (.tup [V.str "a", .int 0])) u3 (.tup [V.ref u2])) (a := u4) (o := .dK []))
      have w5 := upd_same (H := upd (upd (upd (upd G11 u1 (.tup [V.str "a", .int 0, .int 0])) u2 (.tup [V.str "a", .int 0])) u3 (.tup [V.ref u2])) u4 (.dK [])) (a := u5) (o := .lst [V.ref u1, .ref u3, .ref u4])
      have sv := (((v1.trans v2).trans v3).trans v4).trans v5
      clear v1 v2 v3 v4 v5 hu1 hu2 hu3 hu4 hu5
      revert w1 w3 w4 w5 sv
      generalize upd (upd (upd (upd (upd G11 u1 (.tup [V.str "a", .int 0, .int 0])) u2 (.tup [V.str "a", .int 0])) u3 (.tup [V.ref u2])) u4 (.dK [])) u5 (.lst [V.ref u1, .ref u3, .ref u4]) = G12
      intro w1 w3 w4 w5 sv
      refine ⟨q1, u5, _, _, rfl, rfl, sv _ _ hq11, w5, by rw [xl]; show 12 + 3 ≤ sizeLine; omega, fun u6 hu6 => ?_⟩
      have s6 := sv.trans (same_upd0 (o := .lst (xs ++ [V.ref u1, .ref u3, .ref u4])) hu6)
      have w6 : upd G12 u6 (.lst (xs ++ [V.ref u1, .ref u3, .ref u4])) u6 = some (.lst (xs ++ [V.ref u1, .ref u3, .ref u4])) := upd_same
      have key6 : ∀ x ∈ xs ++ [V.ref u1, .ref u3, .ref u4], NoL F (upd G12 u6 (.lst (xs ++ [V.ref u1, .ref u3, .ref u4]))) x := fun x hx => by
        rcases List.mem_append.mp hx with h | h
        · exact (key x h).same s6
        · simp only [List.mem_cons, List.not_mem_nil, or_false] at h
          have g := same_upd0 (o := .lst (xs ++ [V.ref u1, .ref u3, .ref u4])) hu6
          rcases h with rfl | rfl | rfl
          · exact .tup (g _ _ w1) (by show 3 ≠ 2; decide)
          · exact .tup (g _ _ w3) (by show 1 ≠ 2; decide)
          · exact .flat (.dK (g _ _ w4)) (by decide)
      generalize upd G12 u6 (.lst (xs ++ [V.ref u1, .ref u3, .ref u4])) = G13 at s6 w6 key6 ⊢
      clear w1 w3 w4 w5 sv hu6
      refine ⟨by show 2 ≤ sizeLine; omega, fun u7 hu7 => ⟨by show 1 ≤ sizeLine; omega, fun u8 hu8 => ?_⟩⟩
      have v7 := same_upd0 (o := .tup [V.str "zzzzzzz9", .int 0]) hu7
      have v8 := same_upd0 (o := .lst [V.ref u7]) hu8
      have w7 := v8 _ _ (upd_same (H := G13) (a := u7) (o := .tup [V.str "zzzzzzz9", .int 0]))
      have w8 := upd_same (H := upd G13 u7 (.tup [V.str "zzzzzzz9", .int 0])) (a := u8) (o := .lst [V.ref u7])
      have s8 := s6.trans (v7.trans v8)
      have w6 := v8 _ _ (v7 _ _ w6)
      have key8 := fun x hx => ((key6 x hx).same v7).same v8
      clear v7 v8 hu7 hu8 key6
      revert w7 w8 s8 w6 key8
      generalize upd (upd G13 u7 (.tup [V.str "zzzzzzz9", .int 0])) u8 (.lst [V.ref u7]) = G14
      intro w7 w8 s8 w6 key8
      refine ⟨u8, rfl, ⟨_, SqL.of w8⟩, fun D hD => ?_⟩
      refine lc_it walk_list (fun j H' => Same G14 H' ∧ ∃ vs : List V, H' D = some (.lst vs) ∧ vs.length ≤ j ∧ ∀ y ∈ vs, NoL F G14 y) ⟨same_upd0 hD, [], upd_same, Nat.zero_le _, fun _ h => nomatch h⟩ (fun _ _ _ y => SqL.of (y.1 _ _ w8)) ?_ ?_
      · rintro j x Hx H7 hj ⟨s7, vs, hD7, hvl, hv⟩ ⟨rfl, hx⟩
        obtain rfl : x = .ref u7 := by simpa using List.mem_of_getElem? hx
        have hj1 : j < 1 := hj
        refine ⟨rfl, _, rfl, _, rfl, dPt "zzzzzzz9" 0, _, dp_pt (s7 _ _ w7), dl ((s0.trans s8).trans s7), shaped_pt zz, sl, _, rfl, ?_⟩
        rw [any_pt]
        by_cases c : (("zzzzzzz9" : Str), (0 : Int)) ∈ lvs L
        · rw [decide_eq_true c]
          exact iteF ⟨s7, vs, hD7, Nat.le_succ_of_le hvl, hv⟩
        · rw [decide_eq_false c]
          refine iteT ⟨_, rfl, _, hD7, by omega, Same.over s7 hD, vs ++ [.ref u7], upd_same, by rw [List.length_append]; exact Nat.succ_le_succ hvl, fun y hy => ?_⟩
          rcases List.mem_append.mp hy with h | h
          · exact hv y h
          · rw [List.mem_singleton.mp h]
            exact .pair w7 (.str _ (by decide)) (.int _) (by rw [inF_lvs ok]; exact decide_eq_false c)
      rintro H7 ⟨s7, vs, hD7, hvl, hv⟩
      have hvl : vs.length ≤ 1 := hvl
      refine ⟨u6, D, _, _, rfl, rfl, s7 _ _ w6, hD7, by rw [List.length_append, xl]; show 12 + 3 + _ ≤ sizeLine; omega, fun nl hnl => ?_⟩
      have s9 := s7.trans (same_upd0 (o := .lst ((xs ++ [V.ref u1, .ref u3, .ref u4]) ++ vs)) hnl)
      refine ⟨nl, _, rfl, (s0.trans s8).trans s9, upd_same, by rw [List.length_append, List.length_append, xl]; show 12 + 3 + _ ≤ 20; omega, fun x hx => ?_⟩
      rcases List.mem_append.mp hx with h | h
      · exact (key8 x h).same s9
      · exact (hv x h).same s9
    rintro σ' G ⟨q2, xs2, rfl, sG, hq2, hl2, key2⟩
    clear key hq11 s0 s11 xl
    obtain ⟨dx, db, kvb, gL1, gL2, gL3⟩ := id hL
    have hjl := Paired.length hjs
    have hsm := ok.small
    -- life by life
    refine ⟨_, rfl, t, rfl, ⟨_, SqL.of (sG _ _ ht)⟩, ?_⟩
    refine for_it walk_list (fun k σ G => ∃ (q2 : Addr) (xs2 : List V) (y4 y5 y6 y7 : Option V), σ = [some (.ref p), some (.ref a), some (.ref t), some (.ref q2), y4, y5, y6, y7, none] ∧ Same H G ∧ G q2 = some (.lst xs2) ∧ xs2.length ≤ 20 + 8 * k ∧ ∀ x ∈ xs2, NoL F G x)
      ⟨q2, xs2, none, none, none, none, rfl, sG, hq2, hl2, key2⟩ (fun _ _ _ _ ⟨_, _, _, _, _, _, _, s, _⟩ => SqL.of (s _ _ ht)) ?_ ?_
    · rintro k x σ Gx G hk ⟨q2, xs2, y4, y5, y6, y7, rfl, sG, hq2, hl2, key2⟩ ⟨rfl, hx⟩
      rw [List.length_map, hjl] at hk
      rw [List.getElem?_map] at hx
      obtain ⟨j, hj, rfl⟩ : ∃ j, js[k]? = some j ∧ x = .ref j := by
        cases e : js[k]? with
        | none => rw [e] at hx; cases hx
        | some t => rw [e] at hx; exact ⟨t, rfl, (Option.some.inj hx).symm⟩
      obtain ⟨⟨z, n⟩, he, hje⟩ := L2.paired_get hjs hj
      have hjG : G j = some (.tup [.str z, .int n]) := sG _ _ hje
      have hzn : (z, n) ∈ lvs L := List.mem_of_getElem? he
      obtain ⟨ns, hns, hnn⟩ := (lvs_mem' ok).mp hzn
      obtain ⟨hnm, hzl, lat, rfl, _, hbt, _⟩ := ok.ns z ns (lookup_in hns)
      have hnb : 0 ≤ n ∧ n ≤ 1000000000000000000000000000000 := by
        rcases List.mem_cons.mp hnn with h | h
        · omega
        · have : 1 ≤ n ∧ n ≤ 1000000000000000000000000000000 := of_decide_eq_true (hbt n h)
          omega
      have hlog : n.natAbs.log2 < 1920 := by
        have : n.natAbs < 2 ^ 100 := by omega
        exact Nat.lt_of_lt_of_le (PySem.Flt.log2_lt_of (by decide) this) (by decide)
      have hz8 := name_len hnm
      have hzok := name_strOk hnm
      have gz : ∀ G' : Hp, Gv G' (.str z) "str" := fun G' => .str z (Nat.le_trans hz8 (by decide))
      have tl : (Str.ofString (toString n)).length ≤ 1921 := by
        rw [PyProof.Rows.ofString_length]
        exact int_text_length_le (k := 1920) (by decide) hlog
      refine ⟨_, rfl, j, _, rfl, SqT.of hjG, rfl, _, _, rfl, _, _, rfl, rfl, ?_⟩
      refine ⟨_, rfl, _, rfl, _, _, rfl, rfl, by show 2 ≤ sizeLine; omega, fun v1 hv1 => ⟨_, rfl, _, rfl, _, _, rfl, rfl, by show 2 ≤ sizeLine; omega, fun v2 hv2 => ⟨_, rfl, _, rfl, by show 2 ≤ sizeLine; omega, fun v3 hv3 => ⟨_, rfl, _, rfl, n, rfl, hlog, by show 2 ≤ sizeLine; omega, fun v4 hv4 => ⟨_, rfl, _, rfl, by show 2 ≤ sizeLine; omega, fun v5 hv5 => ⟨by show 5 ≤ sizeLine; omega, fun v6 hv6 => ?_⟩⟩⟩⟩⟩⟩
      have a1 := same_upd0 (o := .tup [V.str z, .int (n + 1)]) hv1
      have a2 := same_upd0 (o := .tup [V.str z, .int (n - 1)]) hv2
      have a3 := same_upd0 (o := .lst [V.str z, .int n]) hv3
      have a4 := same_upd0 (o := .tup [V.str z, .str (Str.ofString (toString n))]) hv4
      have a5 := same_upd0 (o := .tup [V.int n, .str z]) hv5
      have a6 := same_upd0 (o := .lst [V.ref v1, .ref v2, .ref v3, .ref v4, .ref v5]) hv6
      have w1 := a6 _ _ (a5 _ _ (a4 _ _ (a3 _ _ (a2 _ _ (upd_same (H := G) (a := v1) (o := .tup [V.str z, .int (n + 1)]))))))
      have w2 := a6 _ _ (a5 _ _ (a4 _ _ (a3 _ _ (upd_same (H := upd G v1 (.tup [V.str z, .int (n + 1)])) (a := v2) (o := .tup [V.str z, .int (n - 1)])))))
      have w3 := a6 _ _ (a5 _ _ (a4 _ _ (upd_same (H := upd (upd G v1 (.tup [V.str z, .int (n + 1)])) v2 (.tup [V.str z, .int (n - 1)])) (a := v3) (o := .lst [V.str z, .int n]))))
      have w4 := a6 _ _ (a5 _ _ (upd_same (H := upd (upd (upd G v1 (.tup [V.str z, .int (n + 1)])) v2 (.tup [V.str z, .int (n - 1)])) v3 (.lst [V.str z, .int n])) (a := v4) (o := .tup [V.str z, .str (Str.ofString (toString n))])))
      have w5 := a6 _ _ (upd_same (H := upd (upd (upd (upd G v1 (.tup [V.str z, .int (n + 1)])) v2 (.tup [V.str z, .int (n - 1)])) v3 (.lst [V.str z, .int n])) v4 (.tup [V.str z, .str (Str.ofString (toString n))])) (a := v5) (o := .tup [V.int n, .str z]))
      have w6 := upd_same (H := upd (upd (upd (upd (upd G v1 (.tup [V.str z, .int (n + 1)])) v2 (.tup [V.str z, .int (n - 1)])) v3 (.lst [V.str z, .int n])) v4 (.tup [V.str z, .str (Str.ofString (toString n))])) v5 (.tup [V.int n, .str z])) (a := v6) (o := .lst [V.ref v1, .ref v2, .ref v3, .ref v4, .ref v5])
      have sv := ((((a1.trans a2).trans a3).trans a4).trans a5).trans a6
      clear a1 a2 a3 a4 a5 a6 hv1 hv2 hv3 hv4 hv5 hv6
      revert w1 w2 w3 w4 w5 w6 sv
      generalize upd (upd (upd (upd (upd (upd G v1 (.tup [V.str z, .int (n + 1)])) v2 (.tup [V.str z, .int (n - 1)])) v3 (.lst [V.str z, .int n])) v4 (.tup [V.str z, .str (Str.ofString (toString n))])) v5 (.tup [V.int n, .str z])) v6 (.lst [V.ref v1, .ref v2, .ref v3, .ref v4, .ref v5]) = G1
      intro w1 w2 w3 w4 w5 w6 sv
      have sG1 := sG.trans sv
      have hq21 := sv _ _ hq2
      have key1 := fun x hx => (key2 x hx).same sv
      have hj1 := sv _ _ hjG
      clear key2 hq2 sv
      refine ⟨fun σ' G' => ∃ (q3 : Addr) (xs3 : List V), σ' = [some (.ref p), some (.ref a), some (.ref t), some (.ref q3), some (.ref j), some (.str z), some (.int n), some (.ref v6), none] ∧ Same G1 G' ∧ G' q3 = some (.lst xs3) ∧ xs3.length ≤ 20 + 8 * (k + 1) ∧ ∀ x ∈ xs3, NoL F G' x, ?_, ?_⟩
      · refine ⟨_, rfl, _, rfl, v6, rfl, ⟨_, SqL.of w6⟩, fun D hD => ?_⟩
        have one : ∀ x ∈ [V.ref v1, V.ref v2, V.ref v3, V.ref v4, V.ref v5], ∀ {G' : Hp} {Q' : VK}, Same G1 G' → (∀ b : Bool, (b = true → NoL F G1 x) → Q' (.bl b) G') → rNotInD K x (.ref t) G' Q' := fun x hx {G'} {Q'} s' q' => by
          simp only [List.mem_cons, List.not_mem_nil, or_false] at hx
          rcases hx with rfl | rfl | rfl | rfl | rfl
          · refine ⟨dPt z (n + 1), _, dp_pt (s' _ _ w1), dl (sG1.trans s'), shaped_pt hzok, sl, ?_⟩
            rw [any_pt]
            refine q' _ fun h => .pair w1 (gz _) (.int _) ?_
            rw [inF_lvs ok]
            simpa using h
          · refine ⟨dPt z (n - 1), _, dp_pt (s' _ _ w2), dl (sG1.trans s'), shaped_pt hzok, sl, ?_⟩
            rw [any_pt]
            refine q' _ fun h => .pair w2 (gz _) (.int _) ?_
            rw [inF_lvs ok]
            simpa using h
          · refine ⟨.list [.str z, .int n], _, .lst (SqL.of (s' _ _ w3)) (.cons (.str z) (.cons (.int n) .nil)), dl (sG1.trans s'), ?_, sl, q' _ fun _ => .flat (.lst w3) (by decide)⟩
            unfold SeqAt.shaped
            simp [PyData.canLay0, PyData.canLayAll0, PyData.depth, PyData.depthAll, hzok]
          · refine ⟨.tuple [.str z, .str (Str.ofString (toString n))], _, .tup (SqT.of (s' _ _ w4)) (.cons (.str z) (.cons (.str _) .nil)), dl (sG1.trans s'), ?_, sl, q' _ fun _ => .pair w4 (gz _) (.str _ (by omega)) rfl⟩
            have h4 := num_strOk hnb.1
            revert h4
            generalize Str.ofString (toString n) = ws
            intro h4
            unfold SeqAt.shaped
            simp [PyData.canLay0, PyData.canLayAll0, PyData.depth, PyData.depthAll, hzok, h4]
          · refine ⟨.tuple [.int n, .str z], _, .tup (SqT.of (s' _ _ w5)) (.cons (.int n) (.cons (.str z) .nil)), dl (sG1.trans s'), ?_, sl, q' _ fun _ => .pair w5 (.int n) (gz _) rfl⟩
            unfold SeqAt.shaped
            simp [PyData.canLay0, PyData.canLayAll0, PyData.depth, PyData.depthAll, hzok]
        refine lc_it walk_list (fun i H' => Same G1 H' ∧ ∃ vs : List V, H' D = some (.lst vs) ∧ vs.length ≤ i ∧ ∀ y ∈ vs, NoL F G1 y) ⟨same_upd0 hD, [], upd_same, Nat.zero_le _, fun _ h => nomatch h⟩ (fun _ _ _ y => SqL.of (y.1 _ _ w6)) ?_ ?_
        · rintro i x Hx H7 hi ⟨s7, vs, hD7, hvl, hv⟩ ⟨rfl, hx⟩
          have hi5 : i < 5 := hi
          refine ⟨rfl, _, rfl, _, rfl, one x (List.mem_of_getElem? hx) s7 fun b hb => ⟨_, rfl, ?_⟩⟩
          cases b with
          | false => exact iteF ⟨s7, vs, hD7, Nat.le_succ_of_le hvl, hv⟩
          | true =>
            refine iteT ⟨_, rfl, _, hD7, by omega, Same.over s7 hD, vs ++ [x], upd_same, by rw [List.length_append]; exact Nat.succ_le_succ hvl, fun y hy => ?_⟩
            rcases List.mem_append.mp hy with h | h
            · exact hv y h
            · rw [List.mem_singleton.mp h]
              exact hb rfl
        rintro H7 ⟨s7, vs, hD7, hvl, hv⟩
        have hvl : vs.length ≤ 5 := hvl
        refine ⟨q2, D, _, _, rfl, rfl, s7 _ _ hq21, hD7, by omega, fun q3 hq3 => ?_⟩
        have b1 := same_upd0 (o := .lst (xs2 ++ vs)) hq3
        refine ⟨_, rfl, by show 2 ≤ sizeLine; omega, fun b2 hb2 => ⟨_, rfl, by show 2 ≤ sizeLine; omega, fun b3 hb3 => ⟨by show 2 ≤ sizeLine; omega, fun b4 hb4 => ?_⟩⟩⟩
        have c2 := same_upd0 (o := .tup [V.str z, .bl false]) hb2
        have c3 := same_upd0 (o := .tup [V.str z, .bl true]) hb3
        have c4 := same_upd0 (o := .lst [V.ref b2, .ref b3]) hb4
        refine ⟨q3, b4, _, _, rfl, rfl, c4 _ _ (c3 _ _ (c2 _ _ upd_same)), upd_same, ?_, fun q4 hq4 => ?_⟩
        · rw [List.length_append]
          show _ + 2 ≤ sizeLine
          omega
        have c5 := same_upd0 (o := .lst ((xs2 ++ vs) ++ [V.ref b2, .ref b3])) hq4
        have e2 := c5 _ _ (c4 _ _ (c3 _ _ (upd_same (H := upd H7 q3 (.lst (xs2 ++ vs))) (a := b2) (o := .tup [V.str z, .bl false]))))
        have e3 := c5 _ _ (c4 _ _ (upd_same (H := upd (upd H7 q3 (.lst (xs2 ++ vs))) b2 (.tup [V.str z, .bl false])) (a := b3) (o := .tup [V.str z, .bl true])))
        have sA := s7.trans ((((b1.trans c2).trans c3).trans c4).trans c5)
        refine ⟨q4, _, rfl, sA, upd_same, ?_, fun x hx => ?_⟩
        · rw [List.length_append, List.length_append]
          show _ + 2 ≤ _
          omega
        · rcases List.mem_append.mp hx with h | h
          · rcases List.mem_append.mp h with h | h
            · exact (key1 x h).same sA
            · exact (hv x h).same sA
          · simp only [List.mem_cons, List.not_mem_nil, or_false] at h
            rcases h with rfl | rfl
            · exact .pair e2 (gz _) (.bl _) rfl
            · exact .pair e3 (gz _) (.bl _) rfl
      rintro σ' G2 ⟨q3, xs3, rfl, s2, hq3, hl3, key3⟩
      have sG2 := sG1.trans s2
      have hj2 := s2 _ _ hj1
      have hL2 := hL.same sG2
      obtain ⟨dx2, db2, kvb2, f1, _, _⟩ := id hL2
      have hin : inF F (some (.str z, .int n)) = true := by
        rw [inF_lvs ok]
        exact decide_eq_true hzn
      refine ⟨_, rfl, _, rfl, a, dx2, _, rfl, f1, a, .ref j, some (.str z, .int n), F, rfl, hL2.lv, .inr ⟨_, _, j, "str", "int", rfl, rfl, hj2, gz _, .int n⟩, _, rfl, _, rfl, ?_⟩
      rw [hin]
      refine iteF ⟨_, rfl, _, rfl, by show 2 ≤ sizeLine; omega, fun w hw => ?_⟩
      have sw := same_upd0 (o := .tup [V.str z, .int n]) hw
      have hL3 := hL2.same sw
      refine ⟨_, rfl, a, dx2, _, rfl, sw _ _ f1, a, .ref w, some (.str z, .int n), F, rfl, hL3.lv, .inr ⟨_, _, w, "str", "int", rfl, rfl, upd_same, gz _, .int n⟩, _, rfl, _, rfl, ?_⟩
      rw [hin]
      exact iteF ⟨q3, xs3, _, _, _, _, rfl, sG2.trans sw, sw _ _ hq3, hl3, fun x hx => (key3 x hx).same sw⟩
    · rintro σ G2 ⟨q2, xs2, y4, y5, y6, y7, rfl, sG2, hq2, hl2, key2⟩
      refine ⟨_, rfl, q2, rfl, ⟨_, SqL.of hq2⟩, fun D hD => ?_⟩
      refine lc_it walk_list (fun i H' => Same G2 H' ∧ H' D = some (.lst [])) ⟨same_upd0 hD, upd_same⟩ (fun _ _ _ y => SqL.of (y.1 _ _ hq2)) ?_ ?_
      · rintro i x Hx H7 hi ⟨s7, hD7⟩ ⟨rfl, hx⟩
        obtain ⟨o, ho1, ho2⟩ := (key2 x (List.mem_of_getElem? hx)).same s7
        have hL7 := hL.same (sG2.trans s7)
        obtain ⟨dx7, db7, kvb7, f1, _, _⟩ := id hL7
        refine ⟨rfl, _, rfl, _, rfl, a, dx7, _, rfl, f1, a, x, o, F, rfl, hL7.lv, ho1, _, rfl, _, rfl, ?_⟩
        rw [ho2]
        exact iteF ⟨s7, hD7⟩
      rintro H7 ⟨s7, hD7⟩
      exact ⟨by show 0 ≤ sizeLine; omega, fun e he => ⟨D, e, [], rfl, rfl, SqL.of (same_upd0 he _ _ hD7), SqL.of upd_same, q _ ((sG2.trans s7).trans (same_upd0 he))⟩⟩
end
end K08

/-! a value as data over a part of memory that stays; text * int -/
namespace So
open PySem PySem.Spec PyProof.Rows L2
section
variable {X : Cx}
theorem op_mul_str : OpR X (binaryOp .Mult) (fun x y H Q => ∃ z n, x = .str z ∧ y = .int n ∧ MulOk z n ∧ Q (.str (Txt.mul z n)) H) := by
  intro pins s σ H x y v u Q I rx ry h
  obtain ⟨z, n, rfl, rfl, ok, q⟩ := h
  obtain ⟨t, rfl⟩ := rx
  obtain ⟨t', rfl⟩ := ry
  exact SB.mul ok fun t' k => ⟨.str (Txt.mul z n), H, I.tok _, ⟨_, rfl⟩, q⟩
end
/-- memory without p -/
def hole (p : Addr) (H : Hp) : Hp := fun b => if b = p then none else H b
theorem hole_ne {p b : Addr} {H : Hp} (h : b ≠ p) : hole p H b = H b := if_neg h
theorem hole_at {p : Addr} {H : Hp} : hole p H p = none := if_pos rfl
theorem hole_same {p : Addr} {H : Hp} : Same (hole p H) H := fun b o e => by
  by_cases z : b = p
  · subst z
    rw [hole_at] at e
    cases e
  · rwa [hole_ne z] at e
/-- v is the data d, by a part of memory that has no p -/
def Kp (K : PySem.W.Frag) (p : Addr) (H : Hp) (v : V) (d : PyData) : Prop := ∃ F, F p = none ∧ Same F H ∧ Dd K F v d
section
variable {K : PySem.W.Frag} {p : Addr} {H H' : Hp} {v : V} {d : PyData}
theorem Kp.same (h : Kp K p H v d) (s : Same H H') : Kp K p H' v d := h.elim fun F e => ⟨F, e.1, e.2.1.trans s, e.2.2⟩
theorem Kp.off (h : Kp K p H v d) (s : ∀ b o, b ≠ p → H b = some o → H' b = some o) : Kp K p H' v d := h.elim fun F e => ⟨F, e.1, fun b o z => s b o (fun y => by
  subst y
  rw [e.1] at z
  cases z) (e.2.1 b o z), e.2.2⟩
theorem Kp.dd (h : Kp K p H v d) : Dd K H v d := h.elim fun F e => Dd.same (fun b o z => e.2.1 b o z) e.2.2
theorem Kp.hole (h : Dd K (So.hole p H) v d) : Kp K p H v d := ⟨So.hole p H, hole_at, hole_same, h⟩
theorem Kp.at (h : Dd K H v d) (e : H p = none) (s : Same H H') : Kp K p H' v d := ⟨H, e, s, h⟩
theorem Kp.non : Kp K p H .non .none := .hole .non
theorem Kp.bl (b : Bool) : Kp K p H (.bl b) (.bool b) := .hole (.bl b)
theorem Kp.int (i : Int) : Kp K p H (.int i) (.int i) := .hole (.int i)
theorem Kp.str (z : Str) : Kp K p H (.str z) (.str z) := .hole (.str z)
end
end So

/-! memory without the tables of code objects -/
namespace So
open PySem PySem.Spec PyProof.Rows L2 LamX
def unt (H : Hp) : Hp := fun b => match H b with
  | some (.tbl _) => none
  | o => o
theorem unt_get {H : Hp} {b : Addr} {o : HO} (h : H b = some o) (n : ∀ ps, o ≠ .tbl ps) : unt H b = some o := by
  unfold unt
  rw [h]
  cases o with
  | tbl ps => exact absurd rfl (n ps)
  | _ => rfl
theorem unt_of {H : Hp} {b : Addr} {o : HO} (h : unt H b = some o) : H b = some o ∧ ∀ ps, o ≠ .tbl ps := by
  unfold unt at h
  cases e : H b with
  | none => rw [e] at h; cases h
  | some u =>
    rw [e] at h
    cases u with
    | tbl ps => cases h
    | _ => cases h; exact ⟨rfl, fun ps z => nomatch z⟩
theorem unt_none {H : Hp} {b : Addr} (h : H b = none) : unt H b = none := by
  unfold unt
  rw [h]
theorem unt_same (H : Hp) : Same (unt H) H := fun b o e => (unt_of e).1
theorem unt_ext {H H' : Hp} (e : ExtN H H') : Same (unt H) H' := fun b o h => e b o (unt_of h).1 (unt_of h).2
theorem unt_mono {F H : Hp} (s : Same F H) : Same (unt F) (unt H) := fun b o h => unt_get (s _ _ (unt_of h).1) (unt_of h).2
theorem rd_unt {H : Hp} {a : Addr} {u : HO} (h : Rd H a u) (n : ∀ ps, u ≠ .tbl ps) : Rd (unt H) a u := by
  rcases h with h | ⟨o, h⟩
  · exact .inl (unt_get h n)
  · exact .inr ⟨o, unt_get h fun ps z => nomatch z⟩
theorem sql_unt {K : PySem.W.Frag} {H : Hp} {a : Addr} {xs : List V} (h : SqL K H a xs) : SqL K (unt H) a xs := by
  rcases h with h | h
  · exact .inl (rd_unt h fun ps z => nomatch z)
  · exact .inr h
theorem sqt_unt {K : PySem.W.Frag} {H : Hp} {a : Addr} {xs : List V} (h : SqT K H a xs) : SqT K (unt H) a xs := by
  rcases h with h | h
  · exact .inl (rd_unt h fun ps z => nomatch z)
  · exact .inr h
mutual
theorem dd_unt {K : PySem.W.Frag} {H : Hp} : ∀ {d : PyData} {v : V}, Dd K H v d → Dd K (unt H) v d
  | _, _, .non => .non
  | _, _, .bl b => .bl b
  | _, _, .int i => .int i
  | _, _, .str x => .str x
  | _, _, .lst e h => .lst (sql_unt e) (ddAll_unt h)
  | _, _, .tup e h => .tup (sqt_unt e) (ddAll_unt h)
  | _, _, .dct e h => .dct (unt_get e fun ps z => nomatch z) (ddKv_unt h)
theorem ddAll_unt {K : PySem.W.Frag} {H : Hp} : ∀ {ds : List PyData} {vs : List V}, DdAll K H vs ds → DdAll K (unt H) vs ds
  | _, _, .nil => .nil
  | _, _, .cons h t => .cons (dd_unt h) (ddAll_unt t)
theorem ddKv_unt {K : PySem.W.Frag} {H : Hp} : ∀ {ds : List (PyData × PyData)} {vs : List (Key × V)}, DdKv K H vs ds → DdKv K (unt H) vs ds
  | _, _, .nil => .nil
  | _, _, .cons h t => .cons (dd_unt h) (ddKv_unt t)
end
theorem Kp.extN {K : PySem.W.Frag} {p : Addr} {H H' : Hp} {v : V} {d : PyData} (h : Kp K p H v d) (e : ExtN H H') : Kp K p H' v d := by
  obtain ⟨F, h1, h2, h3⟩ := h
  exact ⟨unt F, unt_none h1, (unt_mono h2).trans (unt_ext e), dd_unt h3⟩
end So

namespace K08
open PySem PySem.Spec PyProof.Rows L2 So LamX
abbrev sRight : Stmt := topS 33
abbrev rightN : List Str := ["_law_pen_here", "_law_lives", "_law_starts", "_law_listed_here", "_law_tools", "_law_tool", "_law_odd_here"]
theorem scRight : FnScope rightN ["_law_pen_here", "_law_lives", "_law_starts"] (defScope sRight) := ⟨rfl, rfl, rfl, by decide +kernel, rfl, by decide +kernel, by decide +kernel⟩
/-- all that was tracked beside p and the tables is as it was -/
def OffN (p : Addr) (H H' : Hp) : Prop := ∀ b o, b ≠ p → H b = some o → (∀ ps, o ≠ .tbl ps) → H' b = some o
theorem OffN.refl {p : Addr} {H : Hp} : OffN p H H := fun _ _ _ e _ => e
theorem OffN.trans {p : Addr} {H H1 H2 : Hp} (a : OffN p H H1) (b : OffN p H1 H2) : OffN p H H2 := fun c o n e t => b c o n (a c o n e t) t
theorem OffN.same {p : Addr} {H H1 : Hp} (s : Same H H1) : OffN p H H1 := fun c o _ e _ => s c o e
theorem OffN.off {p : Addr} {H H1 : Hp} (s : Off p H H1) : OffN p H H1 := fun c o n e _ => s c o n e
theorem OffN.ext {p : Addr} {H H1 : Hp} (s : ExtN H H1) : OffN p H H1 := fun c o _ e t => s c o e t
theorem lst_ne {xs : List V} : ∀ ps, HO.lst xs ≠ .tbl ps := fun ps z => nomatch z
theorem tup_ne {xs : List V} : ∀ ps, HO.tup xs ≠ .tbl ps := fun ps z => nomatch z
theorem dk_ne {xs : List (Key × V)} : ∀ ps, HO.dK xs ≠ .tbl ps := fun ps z => nomatch z
theorem ins_ne {C : Addr} {dx : Addr} {fs : List (Str × V)} : ∀ ps, HO.ins C dx fs ≠ .tbl ps := fun ps z => nomatch z
theorem Pen.ext {H H' : Hp} {p l : Addr} {ns : List Int} {n : Nat} {g : Int} (h : Pen H p l ns n g) (s : ExtN H H') : Pen H' p l ns n g := ⟨s _ _ h.pen lst_ne, s _ _ h.cells lst_ne, h.left⟩
theorem LsAt.offN {C p : Addr} {H H' : Hp} {a l : Addr} {L : List (Str × List Int)} {ns : List Int} {n : Nat} {g : Int} (h : LsAt C H a L) (pen : Pen H p l ns n g) (s : OffN p H H') : LsAt C H' a L := by
  obtain ⟨dx, d, kvs, h1, h2, h3⟩ := h
  have np : ∀ {b : Addr} {o : HO}, H b = some o → (∀ xs, o ≠ .lst xs) → b ≠ p := fun e ho z => by
    rw [z, pen.pen] at e
    exact ho _ (Option.some.inj e).symm
  refine ⟨dx, d, kvs, s _ _ (np h1 fun _ z => nomatch z) h1 ins_ne, s _ _ (np h2 fun _ z => nomatch z) h2 dk_ne, L2.Paired.mapP h3 fun kv q e => ?_⟩
  obtain ⟨e1, t, e2, e3⟩ := e
  exact ⟨e1, t, e2, s _ _ (np e3 fun _ z => nomatch z) e3 tup_ne⟩
theorem StAt.offN {H H' : Hp} {d p l : Addr} {S : List (Str × List Int)} {ns : List Int} {n : Nat} {g : Int} (h : StAt H d S) (pen : Pen H p l ns n g) (s : OffN p H H') : StAt H' d S := by
  obtain ⟨kvs, h1, h2⟩ := h
  refine ⟨kvs, s _ _ (fun z => by rw [z, pen.pen] at h1; cases h1) h1 dk_ne, L2.Paired.mapP h2 fun kv q e => ?_⟩
  obtain ⟨e1, t, e2, e3⟩ := e
  refine ⟨e1, t, e2, s _ _ (fun z => ?_) e3 lst_ne⟩
  rw [z, pen.pen] at e3
  exact ints_ne (Option.some.inj e3).symm
theorem tabs_off {T : List (Addr × Str)} {H H' : Hp} {p : Addr} {xs : List V} (hp : H p = some (.lst xs)) (t : Tabs T H) (o : Off p H H') : Tabs T H' := by
  intro y hy
  obtain ⟨ps, h1, h2, h3⟩ := t y hy
  refine ⟨ps, o _ _ (ne_of h1 hp (fun z => nomatch z)) h1, h2, fun pos cv hc => ?_⟩
  obtain ⟨c, e1, e2⟩ := h3 pos cv hc
  refine ⟨c, e1, o _ _ (fun z => ?_) e2⟩
  rw [z, hp] at e2
  cases e2
theorem neSame {s : Str} : ¬ ((!decide (V.str s = V.str s)) = true) := by simp
theorem dd_strs {K : PySem.W.Frag} {H : Hp} : ∀ zs : List Str, DdAll K H (zs.map V.str) (zs.map PyData.str)
  | [] => .nil
  | z :: r => .cons (.str z) (dd_strs r)
theorem dd_ints {K : PySem.W.Frag} {H : Hp} : ∀ zs : List Int, DdAll K H (zs.map V.int) (zs.map PyData.int)
  | [] => .nil
  | z :: r => .cons (.int z) (dd_ints r)
theorem dd_pts {K : PySem.W.Frag} {H : Hp} : ∀ {js : List Addr} {es : List (Str × Int)}, Paired (LfAt H) js es → DdAll K H (js.map V.ref) (es.map fun e => dPt e.1 e.2)
  | _, _, .nil => .nil
  | _, _, .cons h t => .cons (.tup (SqT.of h) (.cons (.str _) (.cons (.int _) .nil))) (dd_pts t)
theorem Gv.extN {H H' : Hp} {v : V} {T : String} (h : Gv H v T) (s : ExtN H H') : Gv H' v T := by
  cases h with
  | non => exact .non
  | bl b => exact .bl b
  | int i => exact .int i
  | str z h => exact .str z h
  | lst e => exact .lst (s _ _ e lst_ne)
  | tup e => exact .tup (s _ _ e tup_ne)
  | dK e => exact .dK (s _ _ e fun ps z => nomatch z)
theorem two_in {n m : Nat} {d e : PyData} (h1 : OkD n m d) (h2 : OkD n m e) : ∀ x ∈ [d, e], OkD n m x := fun x hx => by
  rcases List.mem_cons.mp hx with h | h
  · rw [h]
    exact h1
  · rw [List.mem_singleton.mp h]
    exact h2
/-- a tuple of names as data that repr tells -/
theorem tell_names {zs : List Str} (hz : ∀ z ∈ zs, isName z = true) (hl : zs.length ≤ 64) : ∃ d : PyData, (d.showable = true ∧ d.depth ≤ 60 ∧ d.shown.length ≤ sizeLine) ∧ ∀ {K : PySem.W.Frag} (H : Hp) (t : Addr), H t = some (.tup (zs.map V.str)) → Dd K H (.ref t) d := by
  refine ⟨.tuple (zs.map PyData.str), ?_, fun H t h => .tup (SqT.of h) (dd_strs zs)⟩
  have h1 : OkD (2000 * (zs.map PyData.str).length + 2 * (zs.map PyData.str).length + 3) (0 + 2) (.tuple (zs.map PyData.str)) := OkD.tuple fun d hd => by
    obtain ⟨z, hm, rfl⟩ := List.mem_map.mp hd
    exact OkD.str (name_small (hz z hm)) (Nat.le_trans (name_len (hz z hm)) (by decide))
  rw [List.length_map] at h1
  exact h1.repr (by decide) (by omega)
theorem tell_ints {ns : List Int} (hz : ∀ n ∈ ns, n.natAbs < 2 ^ 250) (hl : ns.length ≤ 64) : ∃ d : PyData, (d.showable = true ∧ d.depth ≤ 60 ∧ d.shown.length ≤ sizeLine) ∧ ∀ {K : PySem.W.Frag} (H : Hp) (t : Addr), H t = some (.tup (ns.map V.int)) → Dd K H (.ref t) d := by
  refine ⟨.tuple (ns.map PyData.int), ?_, fun H t h => .tup (SqT.of h) (dd_ints ns)⟩
  have h1 : OkD (2000 * (ns.map PyData.int).length + 2 * (ns.map PyData.int).length + 3) (0 + 2) (.tuple (ns.map PyData.int)) := OkD.tuple fun d hd => by
    obtain ⟨z, hm, rfl⟩ := List.mem_map.mp hd
    exact OkD.int (hz z hm)
  rw [List.length_map] at h1
  exact h1.repr (by decide) (by omega)
theorem tell_pts {es : List (Str × Int)} (hz : ∀ e ∈ es, isName e.1 = true ∧ e.2.natAbs < 2 ^ 250) (hl : es.length ≤ 4096) : ∃ d : PyData, (d.showable = true ∧ d.depth ≤ 60 ∧ d.shown.length ≤ sizeLine) ∧ ∀ {K : PySem.W.Frag} (H : Hp) (t : Addr) (js : List Addr), H t = some (.tup (js.map V.ref)) → Paired (LfAt H) js es → Dd K H (.ref t) d := by
  refine ⟨.tuple (es.map fun e => dPt e.1 e.2), ?_, fun H t js h hp => .tup (SqT.of h) (dd_pts hp)⟩
  have h1 : OkD (4007 * (es.map fun e => dPt e.1 e.2).length + 2 * (es.map fun e => dPt e.1 e.2).length + 3) (2 + 2) (.tuple (es.map fun e => dPt e.1 e.2)) := OkD.tuple fun d hd => by
    obtain ⟨e, hm, rfl⟩ := List.mem_map.mp hd
    obtain ⟨h1, h2⟩ := hz e hm
    have h3 : OkD (2000 * [PyData.str e.1, .int e.2].length + 2 * [PyData.str e.1, .int e.2].length + 3) (0 + 2) (dPt e.1 e.2) := OkD.tuple fun d hd => by
      rcases List.mem_cons.mp hd with h | h
      · rw [h]
        exact OkD.str (name_small h1) (Nat.le_trans (name_len h1) (by decide))
      · rw [List.mem_singleton.mp h]
        exact OkD.int h2
    exact h3
  rw [List.length_map] at h1
  exact h1.repr (by decide) (by omega)
/-- what the law calls of Lives -/
structure LivR (P : Program) (w : World) (K : PySem.W.Frag) (mg : Str → Option Value) (base : Heap) (C CT' pT fT : Addr) (fdT : FuncData) (pL fL : Addr) (fdL : FuncData) (fB : Addr) (fdB : FuncData) (fN : Addr) (fdN : FuncData) (fb : Addr) (fdb : FuncData) : Prop where
  T : Lvs K mg C
  PT : PropOf K C "tools" pT fT
  bT : Binds K fdT ["self"] []
  GT : FnOk P w K mg base CX0 1 fT fdT ["self"] (spLTools C)
  PL : PropOf K C "listed" pL fL
  bL : Binds K fdL ["self"] []
  GL : FnOk P w K mg base CX0 1 fL fdL ["self"] (spListed C)
  B : Meth K C "beginnings" fB
  bB : Binds K fdB ["self", "tool"] []
  GB : FnOk P w K mg base (L2.CX P w) 3 fB fdB ["self", "tool"] (spBeg C CT')
  sN : PySem.W.findIn K (.ref C) "__len__" = some (some (.ref fN))
  iN : PySem.W.isFn K (.ref fN) = true
  bN : Binds K fdN ["self"] []
  GN : FnOk P w K mg base CX0 3 fN fdN ["self"] (spLen C)
  sb : PySem.W.findIn K (.ref C) "__bool__" = some (some (.ref fb))
  ib : PySem.W.isFn K (.ref fb) = true
  bb : Binds K fdb ["self"] []
  Gb : FnOk P w K mg base CX0 1 fb fdb ["self"] (spLBool C)
structure WordsR (mg : Str → Option Value) : Prop where
  srt : mg "sorted" = none
  lst : mg "list" = none
  rpr : mg "repr" = none
  tup : mg "tuple" = none
  set : mg "set" = none
  len : mg "len" = none
  bool : mg "bool" = none
section
variable {P : Program} {w : World} {K : PySem.W.Frag} {mg : Str → Option Value} {base : Heap}
def spRight (C : Addr) (T : List (Addr × Str)) : Sp := fun vs H Q _ => ∃ (p l a d : Addr) (cc : List Int) (n : Nat) (g : Int) (S : List (Str × List Int)), vs = [.ref p, .ref a, .ref d] ∧ Pen H p l cc n g ∧ n < 989000 ∧ LsAt C H a (LS S) ∧ StAt H d S ∧ StOk S ∧ Tabs T H ∧
  ∀ (n' : Nat) (g' : Int) (H' : Hp), n' ≤ n + 1 → OffN p H H' → Pen H' p l cc n' g' → Tabs T H' → Q (.bl true) H'
theorem ok_right {T : List (Addr × Str)} {C CT CN CM CT' CL f c1 P1 pT fT pL fL fB fN fb fW fO fM fH : Addr} {fd fdT fdL fdB fdN fdb fdW fdO fdM fdH : FuncData} (F : Fun K "_law_right" "_law_right" sRight f fd) (hcode : fd.code = .ref c1) (TB : TabB base mg c1 P1)
    (hT1 : ∀ n f' c', (P1, (envOfC "_law_right" (defScope sRight) n f' c').qual ++ "<lambda>") ∈ T) (hT2 : ∀ n f' c', ∀ q ∈ T, q.1 = P1 → q.2 = (envOfC "_law_right" (defScope sRight) n f' c').qual ++ "<lambda>")
    (LV : LivR P w K mg base C CT' pT fT fdT pL fL fdL fB fdB fN fdN fb fdb) (N : WordsR mg) (R : HrL K mg CT CN CM CT' CL)
    (FW : Fun K "_law_listed" "_law_listed" sListedW fW fdW) (bW : Binds K fdW ["_law_starts"] []) (gW : mg "_law_listed" = some (.ref fW)) (GW : FnOk P w K mg base CX0 1 fW fdW ["_law_starts"] spListedW)
    (FO : Fun K "_law_odd" "_law_odd" sOdd fO fdO) (bO : Binds K fdO ["_law_pen_here", "_law_tools"] []) (gO : mg "_law_odd" = some (.ref fO)) (GO : FnOk P w K mg base CX0 3 fO fdO ["_law_pen_here", "_law_tools"] spOdd)
    (FM : Fun K "_law_members_right" "_law_members_right" sMem fM fdM) (bM : Binds K fdM ["_law_pen_here", "_law_lives", "_law_listed_here"] []) (gM : mg "_law_members_right" = some (.ref fM)) (GM : FnOk P w K mg base CX0 3 fM fdM ["_law_pen_here", "_law_lives", "_law_listed_here"] (spMem C))
    (FH : Fun K "_law_heard" "_law_heard" sHeard fH fdH) (bH0 : Binds K fdH ["_law_ask"] []) (gH : mg "_law_heard" = some (.ref fH)) :
    FnG P w K mg base CX0 10 f fd ["_law_pen_here", "_law_lives", "_law_starts"] (spRight C T) := by
  obtain ⟨ocH, odH, kVH, docH, pmH, anH, cdvH, ctH, oslH, efd, lkH, hcH⟩ := FH.ex
  subst efd
  have bH := bH0
  refine fnG_ofC F hcode scRight (fun vs H Q E h => ?_) (fun A outer s H vs Q E hg hr h => ?_)
  · obtain ⟨_, _, _, _, _, _, _, _, rfl, _⟩ := h
    rfl
  · obtain ⟨p, l, a, d, cc, n, g, S, rfl, pen, hn, hL, hst, hS, hT, q⟩ := h
    have hr1 : Room 1 _ := hr.mono (by decide)
    have hr2 : Room 2 _ := hr.mono (by decide)
    have hr3 : Room 3 _ := hr.mono (by decide)
    have hr4 : Room 4 _ := hr.mono (by decide)
    have hss := sizeLine_eq
    refine ⟨_, pss_cons (ps_set (i := 3) scRight.nd rfl (.inl rfl) (pe_call GW hr1 (by rfl) gW FW.kp bW .nil pass0 (pa_cons (pv 2) pa_nil)))
      (pss_cons (ps_cut (ps_set (i := 4) scRight.nd rfl (.inl rfl) (pe_callB cr_sortedS (by rfl) N.srt (by decide +kernel) (pa_cons (pe_callTy (call_listD rfl) (by rfl) N.lst (by decide +kernel) (pa_cons (pv 2) pa_nil)) pa_nil))))
      (pss_cons (ps_cut (ps_if (PW.pt (pw_or (pt_cmpR op_ne (pe_callB (call_reprG hg hr.units) (by rfl) N.rpr (by decide +kernel) (pa_cons (pe_prop (pv 1) LV.T.cl LV.PT LV.GT hr2 LV.bT .nil pass0 rfl) pa_nil)) (pe_callB (call_reprG hg hr.units) (by rfl) N.rpr (by decide +kernel) (pa_cons (pe_callTy call_tuple_of (by rfl) N.tup (by decide +kernel) (pa_cons (pv 4) pa_nil)) pa_nil)) (nomark _))
          (pw_or1 (pt_cmpR op_ne (pe_callB (call_reprG hg hr.units) (by rfl) N.rpr (by decide +kernel) (pa_cons (pe_prop (pv 1) LV.T.cl LV.PL LV.GL hr2 LV.bL .nil pass0 rfl) pa_nil)) (pe_callB (call_reprG hg hr.units) (by rfl) N.rpr (by decide +kernel) (pa_cons (pe_callTy call_tuple_of (by rfl) N.tup (by decide +kernel) (pa_cons (pv 3) pa_nil)) pa_nil)) (nomark _))))) pss_dead pss_nil))
      (pss_cons (ps_for PassesOwn.never rfl (pi_list (pv 4)) (pg_name (i := 5) scRight.nd rfl (Or.inl rfl))
        (pss_one (ps_if (pt_cmpR op_ne (pe_callB (call_reprG hg hr.units) (by rfl) N.rpr (by decide +kernel) (pa_cons (pe_meth (pv 1) LV.T.cl LV.B LV.GB hr3 LV.bB .nil passNo (pa_cons (pv 5) pa_nil)) pa_nil)) (pe_callB (call_reprG hg hr.units) (by rfl) N.rpr (by decide +kernel) (pa_cons (pe_callTy call_tuple_of (by rfl) N.tup (by decide +kernel) (pa_cons (pe_callB (cr_sortedSet rfl) (by rfl) N.srt (by decide +kernel) (pa_cons (pe_callTy (cr_setI rfl) (by rfl) N.set (by decide +kernel) (pa_cons (pe_op op_cat (pe_lst (pa_cons pe_int pa_nil)) (pe_dget (hu_of hr) (pv 2) (pv 5) (fun _ _ => rfl))) pa_nil)) pa_nil)) pa_nil)) pa_nil)) (nomark _)) pss_dead pss_nil)))
      (pss_cons (ps_set (i := 6) scRight.nd rfl (.inr rfl) (pe_call GO hr3 (by rfl) gO FO.kp bO .nil pass0 (pa_cons (pv 0) (pa_cons (pv 4) pa_nil))))
      (pss_cons (ps_if (pt_cmpR op_ne (pe_callB (call_reprG hg hr.units) (by rfl) N.rpr (by decide +kernel) (pa_cons (pe_lamcall (T := T) (TT := TTL CT' CL CM) (t := _) (k := 7) (by rfl) gH FH.kp lkH hcH bH scHeard rfl (Or.inl rfl) (heard_gives R) TB rfl (hT1 _ _ _) (hT2 _ _ _) hr (lamS_by (sc := defScope sRight) (by decide +kernel)) rfl (fun _ _ _ _ _ => rfl)
          (fun A outer s H E f c' hr' => pe_meth (pv 1) LV.T.cl LV.B LV.GB (hr'.mono (by decide)) LV.bB .nil (passes_call (takes_of rfl rfl rfl rfl) (fun _ _ _ _ h => h)) (pa_cons (pv 6) pa_nil))) pa_nil)) (pe_callB (call_reprG hg hr.units) (by rfl) N.rpr (by decide +kernel) (pa_cons (pe_tup (pa_cons pe_str (pa_cons (pv 6) pa_nil))) pa_nil)) (nomark _)) pss_dead pss_nil)
      (pss_cons (ps_if (PW.pt (pw_or (pt_cmpR op_ne (pe_callB (call_lenO LV.GN LV.sN LV.iN LV.bN pass0 hr4) (by rfl) N.len PySem.boot_len (pa_cons (pv 1) pa_nil)) (pe_callB call_len_seq (by rfl) N.len PySem.boot_len (pa_cons (pv 3) pa_nil)) (nomark _))
          (pw_or (pt_cmpR op_ne (pe_callTy (call_boolO LV.Gb LV.sb LV.ib LV.bb pass0 hr3) (by rfl) N.bool (by decide +kernel) (pa_cons (pv 1) pa_nil)) (pe_cmpR (op_neNil hr.units0) (pv 4) (pe_lst pa_nil) (nomark _)) (nomark _))
          (pw_or1 (pt_not (pt_val (pe_call GM hr3 (by rfl) gM FM.kp bM .nil pass0 (pa_cons (pv 0) (pa_cons (pv 1) (pa_cons (pv 3) pa_nil)))))))))) pss_dead pss_nil)
      (pss_one (ps_ret pe_bl)))))))), ?_⟩
    have hbig : ∀ m : Int, 0 ≤ m → m ≤ 1000000000000000000000000000000 → m.natAbs < 2 ^ 250 := fun m h1 h2 => by omega
    have hnm : ∀ z ∈ srtS (S.map (·.1)), isName z = true := fun z hz => by
      obtain ⟨q', hq, rfl⟩ := List.mem_map.mp ((srtS_perm _).mem_iff.mp hz)
      exact hS.nm q' hq
    have hfew := hS.few
    have hLe : (srtS (S.map (·.1))).length = S.length := by rw [(srtS_perm _).length_eq, List.length_map]
    -- listed
    refine ⟨_, rfl, d, S, rfl, hst, hS, fun H1 lw jw s1 hlw hjw => ?_⟩
    obtain ⟨kvs, hd1, hpr1⟩ := hst.same s1
    have hkl := Paired.length hpr1
    -- the tools
    refine ⟨fun σ' G => ∃ tl : Addr, σ' = [some (.ref p), some (.ref a), some (.ref d), some (.ref lw), some (.ref tl), none, none] ∧ Same H1 G ∧ G tl = some (.lst ((srtS (S.map (·.1))).map V.str)), ?_, ?_⟩
    · refine ⟨_, rfl, d, kvs, rfl, .inl hd1, fun p1 hp1 => ?_⟩
      rw [keysS hpr1]
      refine ⟨p1, S.map (·.1), rfl, SqL.of upd_same, by rw [List.length_map]; omega, fun ys p2 hperm hsrt hp2 => ?_⟩
      obtain rfl := srtS_one hS.nd hperm hsrt
      exact ⟨p2, rfl, (same_upd0 hp1).trans (same_upd0 hp2), upd_same⟩
    rintro σ' H2 ⟨tl, rfl, s2, htl⟩
    have s12 := s1.trans s2
    have hlw2 := s2 _ _ hlw
    have hjw2 : Paired (LfAt H2) jw (lvs (LS S)) := L2.Paired.mapP hjw fun r e h => s2 _ _ h
    clear hpr1 hd1 hkl kvs s1 s2 hlw hjw
    have hL2 := hL.same s12
    obtain ⟨d1, k1, hd1⟩ := tell_names hnm (by rw [hLe]; omega)
    obtain ⟨d2, k2, hd2⟩ := tell_pts (es := lvs (LS S)) (fun e he => by
      obtain ⟨ns, h1, h2⟩ := lvs_mem.mp (show (e.1, e.2) ∈ lvs (LS S) from he)
      obtain ⟨ms, h3, rfl⟩ := LS_mem' hS h1
      refine ⟨hS.nm _ h3, ?_⟩
      rcases List.mem_cons.mp h2 with h | h
      · rw [h]
        decide
      · have := hS.ms _ h3 _ (srt_mem.mp h)
        exact hbig _ (by omega) this.2) hS.ok.small
    refine ⟨fun σ' G => σ' = [some (.ref p), some (.ref a), some (.ref d), some (.ref lw), some (.ref tl), none, none] ∧ Same H2 G, ?_, ?_⟩
    · obtain ⟨dx, db, kvb, hi, _, _⟩ := id hL2
      refine ⟨_, rfl, a, dx, _, rfl, hi, ⟨a, LS S, rfl, hL2, fun H3 t3 s3 ht3 => ?_⟩⟩
      dsimp only [tNil, List.append_nil, List.cons_append, List.nil_append]
      rw [LS_fst] at ht3
      refine ⟨_, d1, rfl, hd1 _ _ ht3, k1.1, k1.2.1, k1.2.2, _, rfl, tl, _, rfl, .inl ⟨SqL.of (s3 _ _ htl), fun t4 h4 => ?_⟩⟩
      have s4 := s3.trans (same_upd0 (o := .tup ((srtS (S.map (·.1))).map V.str)) h4)
      refine ⟨_, d1, rfl, hd1 _ _ upd_same, k1.1, k1.2.1, k1.2.2, rfl, _, rfl, ite2 (fun e => absurd e neSame) fun _ => ?_⟩
      generalize upd H3 t4 (.tup ((srtS (S.map (·.1))).map V.str)) = H4 at s4 ⊢
      clear s3 h4 ht3
      refine ⟨_, rfl, a, dx, _, rfl, s4 _ _ hi, ⟨a, LS S, rfl, hL2.same s4, hS.ok, fun H5 t5 j5 s5 ht5 hj5 => ?_⟩⟩
      dsimp only [tNil, List.append_nil, List.cons_append, List.nil_append]
      refine ⟨_, d2, rfl, hd2 _ _ j5 ht5 hj5, k2.1, k2.2.1, k2.2.2, _, rfl, lw, _, rfl, .inl ⟨SqL.of ((s4.trans s5) _ _ hlw2), fun t6 h6 => ?_⟩⟩
      have s6 := same_upd0 (o := .tup (jw.map V.ref)) h6
      have s46 := (s4.trans s5).trans s6
      refine ⟨_, d2, rfl, hd2 _ _ jw upd_same (L2.Paired.mapP hjw2 fun r e h => s46 _ _ h), k2.1, k2.2.1, k2.2.2, rfl, _, rfl, ite2 (fun e => absurd e neSame) fun _ => ?_⟩
      exact ⟨rfl, s46⟩
    rintro σ' H3 ⟨rfl, s3⟩
    have s13 := s12.trans s3
    have hlw3 := s3 _ _ hlw2
    have htl3 := s3 _ _ htl
    have hjw3 : Paired (LfAt H3) jw (lvs (LS S)) := L2.Paired.mapP hjw2 fun r e h => s3 _ _ h
    clear hjw2 htl hlw2 hL2 s12 s3 hd1 k1 hd2 k2 d1 d2
    -- each tool
    refine ⟨_, rfl, tl, rfl, ⟨_, SqL.of htl3⟩, ?_⟩
    refine for_it walk_list (fun k σ G => ∃ (y5 : Option V), σ = [some (.ref p), some (.ref a), some (.ref d), some (.ref lw), some (.ref tl), y5, none] ∧ Same H3 G)
      ⟨none, rfl, Same.refl _⟩ (fun _ _ _ _ ⟨_, _, o⟩ => SqL.of (o _ _ htl3)) ?_ ?_
    · rintro k x σ G' G hk ⟨y5, rfl, sG⟩ ⟨rfl, hx⟩
      rw [List.getElem?_map] at hx
      obtain ⟨z, hz, rfl⟩ : ∃ z, (srtS (S.map (·.1)))[k]? = some z ∧ x = .str z := by
        cases e : (srtS (S.map (·.1)))[k]? with
        | none => rw [e] at hx; cases hx
        | some z => rw [e] at hx; exact ⟨z, rfl, (Option.some.inj hx).symm⟩
      obtain ⟨⟨z', ms⟩, hpS, rfl⟩ := List.mem_map.mp ((srtS_perm _).mem_iff.mp (List.mem_of_getElem? hz))
      have hlk : S.lookup z' = some ms := lookup_mem hS.nd hpS
      have hlL : (LS S).lookup z' = some (0 :: srt ms) := lookup_mem hS.ok.nd (LS_mem hS hpS)
      have hml : ms.length ≤ 6 := hS.len _ hpS
      have hmb := hS.ms _ hpS
      have hsl := srt_len ms
      have hnz : isName z' = true := hS.nm _ hpS
      obtain ⟨kvs, hd', hpr'⟩ := hst.same (s13.trans sG)
      obtain ⟨l0, hv0, hl0⟩ := en_get hpr' hlk
      have hLG := (hL.same s13).same sG
      obtain ⟨dx, db, kvb, hi, _, _⟩ := id hLG
      obtain ⟨d3, k3, hd3⟩ := tell_ints (ns := 0 :: srt ms) (fun n hn => by
        rcases List.mem_cons.mp hn with h | h
        · rw [h]
          decide
        · have := hmb _ (srt_mem.mp h)
          exact hbig _ (by omega) this.2) (by rw [List.length_cons]; omega)
      refine ⟨_, rfl, ?_⟩
      refine ⟨a, dx, _, rfl, hi, rfl, _, rfl, a, .str z', "str", _, rfl, hLG.lv, .str _ (Nat.le_trans (name_len hnz) (by decide)), fun ns' e1 t3 ht3 => ?_, fun e => ?_⟩
      case refine_2 =>
        rw [show K08.fB (fun z => (LS S).lookup z) (.str z') = (LS S).lookup z' from rfl, hlL] at e
        cases e
      rw [show K08.fB (fun z => (LS S).lookup z) (.str z') = (LS S).lookup z' from rfl, hlL] at e1
      cases e1
      dsimp only [tNil, List.append_nil, List.cons_append, List.nil_append]
      refine ⟨_, d3, rfl, hd3 _ _ ht3, k3.1, k3.2.1, k3.2.2, ?_⟩
      refine ⟨by show 1 ≤ sizeLine; omega, fun q0 hq0 => ?_⟩
      have s4 := same_upd0 (o := .lst [V.int 0]) hq0
      refine ⟨_, rfl, _, rfl, d, _, rfl, .inl ⟨kvs, .inr z', .inl (s4 _ _ hd'), rfl, hv0.symm⟩, ?_⟩
      refine ⟨q0, l0, _, _, rfl, rfl, upd_same, s4 _ _ hl0, by show 1 + (ms.map V.int).length ≤ sizeLine; rw [List.length_map]; omega, fun q1 hq1 => ?_⟩
      have s5 := s4.trans (same_upd0 (o := .lst ([V.int 0] ++ ms.map V.int)) hq1)
      have hq5 : upd (upd G q0 (.lst [V.int 0])) q1 (.lst ([V.int 0] ++ ms.map V.int)) q1 = some (.lst ((0 :: ms).map V.int)) := upd_same
      generalize upd (upd G q0 (.lst [V.int 0])) q1 (.lst ([V.int 0] ++ ms.map V.int)) = H5 at s5 hq5 ⊢
      clear s4 hq1 hq0
      refine ⟨q1, 0 :: ms, rfl, .inl (SqL.of hq5), by show ms.length + 1 < 64; omega, fun ps c hps hc => ⟨ps, _, c, rfl, upd_same, ?_, fun later p6 hw hm hlen hp6 => ?_⟩⟩
      · have h1 : (0 :: ms).length = ms.length + 1 := rfl
        omega
      obtain rfl : later = 0 :: srt ms := by
        refine pairwise_ext hw (List.pairwise_cons.mpr ⟨fun n hn => ?_, srt_asc ms⟩) fun n => ?_
        · have := (hmb n (srt_mem.mp hn)).1
          omega
        · rw [hm n, decide_eq_true_eq, List.mem_cons, List.mem_cons, srt_mem]
      generalize e6 : upd (upd H5 ps _) p6 _ = H6
      have s6 : Same H5 H6 := by
        rw [← e6]
        exact (same_upd0 hps).trans (same_upd0 hp6)
      have hp6' : H6 p6 = some (.lst ((0 :: srt ms).map V.int)) := by
        rw [← e6]
        exact upd_same
      have s56 := s5.trans s6
      clear s6 s5 e6 hps hp6
      refine ⟨p6, _, rfl, .inl ⟨SqL.of hp6', fun t7 h7 => ?_⟩⟩
      refine ⟨_, d3, rfl, hd3 _ _ upd_same, k3.1, k3.2.1, k3.2.2, rfl, _, rfl, ite2 (fun e => absurd e neSame) fun _ => ?_⟩
      exact ⟨_, rfl, sG.trans (s56.trans (same_upd0 h7))⟩
    rintro σ G ⟨y5, rfl, sG⟩
    have s0 := s13.trans sG
    have htlG := sG _ _ htl3
    have hlwG := sG _ _ hlw3
    have hjwG : Paired (LfAt G) jw (lvs (LS S)) := L2.Paired.mapP hjw3 fun r e h => sG _ _ h
    have penG := pen.sm s0
    have TG := hT.ext s0
    have hLG := hL.same s0
    have hstG := hst.same s0
    clear hjw3 htl3 hlw3 s13 sG
    -- a value that is no tool
    refine ⟨_, rfl, _, rfl, p, l, tl, cc, n, g, srtS (S.map (·.1)), rfl, penG, by omega, htlG, hnm, fun v n' g' G2 hv hvz hn' off' pen' => ?_⟩
    have N2 : OffN p H G2 := (OffN.same s0).trans (OffN.off off')
    have T2 : Tabs T G2 := tabs_off penG.pen TG off'
    have hLv : (LS S).map (·.1) = srtS (S.map (·.1)) := LS_fst S
    have hno : K08.fB (fun z => (LS S).lookup z) v = none := by
      cases v with
      | str z => exact lookup_not (by rw [hLv]; exact hvz z rfl)
      | _ => rfl
    have hL2 := hLG.offN penG (OffN.off off')
    have nlw : lw ≠ p := fun z => by
      rw [z, penG.pen] at hlwG
      have h1 := HO.lst.inj (Option.some.inj hlwG)
      cases jw with
      | nil => cases h1
      | cons x r =>
        injection h1 with _ h2
        cases r with
        | nil => cases h2
        | cons x r => cases h2
    have ntl : tl ≠ p := fun z => by
      rw [z, penG.pen] at htlG
      have h1 := HO.lst.inj (Option.some.inj htlG)
      revert h1
      generalize srtS (S.map (·.1)) = zs
      intro h1
      cases zs with
      | nil => cases h1
      | cons x r => cases h1
    have hlw2 := off' _ _ nlw hlwG
    have htl2 := off' _ _ ntl htlG
    obtain ⟨d4, k4, hd4⟩ := hv.dat (K := K)
    obtain ⟨Tv, gv⟩ := hv.gv
    obtain ⟨dx, db, kvb, hi, _, _⟩ := id hL2
    dsimp only [tNil, List.append_nil, List.cons_append, List.nil_append]
    refine ⟨T2, fun G3 x3 T3 => ?_⟩
    have N3 := N2.trans (OffN.ext x3)
    have pen3 := pen'.ext x3
    have hL3 := hL2.offN pen' (OffN.ext x3)
    have hlw3 := x3 _ _ hlw2 lst_ne
    have htl3 := x3 _ _ htl2 lst_ne
    have hjw3 : Paired (LfAt G3) jw (lvs (LS S)) := L2.Paired.mapP hjwG fun r e h => by
      have h' : G r = some (.tup [.str e.1, .int e.2]) := h
      exact x3 _ _ (off' _ _ (fun z => by rw [z, penG.pen] at h'; cases h') h') tup_ne
    refine ⟨_, rfl, a, dx, _, rfl, x3 _ _ hi ins_ne, rfl, _, rfl, a, v, Tv, _, rfl, hL3.lv, gv.extN x3, fun ns' e1 => (by rw [hno] at e1; cases e1), fun _ dd H4 s4 hdd => ?_⟩
    refine ⟨"tool", CT', "tool", v, dd, .inl ⟨rfl, rfl, rfl⟩, rfl, rfl, hdd, fun H5 r s5 hr5 => ?_⟩
    have s35 := s4.trans s5
    have dv : ∀ G', Same G3 G' → Dd K G' v d4 := fun G' s' => hd4 G' fun b u nt e => s' _ _ (x3 _ _ e nt)
    obtain ⟨d5, hd5, k5⟩ : ∃ d5, d5 = PyData.tuple [.str "tool", d4] ∧ d5.showable = true ∧ d5.depth ≤ 60 ∧ d5.shown.length ≤ sizeLine :=
      ⟨_, rfl, (OkD.tuple (two_in ((OkD.str (z := "tool") (by decide +kernel) (by decide +kernel)).mono (by decide) (by decide)) k4)).repr (by decide) (by show 4100 * 2 + 2 * 2 + 3 ≤ 16777216; decide)⟩
    have dt : ∀ (G' : Hp) (t : Addr), Same G3 G' → G' t = some (.tup [.str "tool", v]) → Dd K G' (.ref t) d5 := fun G' t s' h => by
      rw [hd5]
      exact .tup (SqT.of h) (.cons (.str _) (.cons (dv G' s') .nil))
    clear hd5
    dsimp only [tNil, List.append_nil, List.cons_append, List.nil_append]
    refine ⟨_, d5, rfl, dt _ _ s35 hr5, k5.1, k5.2.1, k5.2.2, ?_⟩
    refine ⟨_, rfl, by show 2 ≤ sizeLine; omega, fun t6 h6 => ?_⟩
    have s36 := s35.trans (same_upd0 (o := .tup [.str "tool", v]) h6)
    refine ⟨_, d5, rfl, dt _ _ s36 upd_same, k5.1, k5.2.1, k5.2.2, rfl, _, rfl, ite2 (fun e => absurd e neSame) fun _ => ?_⟩
    generalize upd H5 t6 (.tup [.str "tool", v]) = H6 at s36 ⊢
    clear h6 hr5 dt k5 dv s35 s5 s4 hdd
    -- how many, and whether there is one
    have hL6 := hL3.same s36
    have hlw6 := s36 _ _ hlw3
    have htl6 := s36 _ _ htl3
    have hjw6 : Paired (LfAt H6) jw (lvs (LS S)) := L2.Paired.mapP hjw3 fun r e h => s36 _ _ h
    obtain ⟨dx6, db6, kvb6, hi6, _, _⟩ := id hL6
    have hsm := hS.ok.small
    have hjl := Paired.length hjw6
    refine ⟨_, rfl, a, dx6, _, rfl, hi6, a, LS S, rfl, hL6, hS.ok, fun H7 s7 => ⟨_, rfl, by omega, ?_⟩⟩
    dsimp only [tNil, List.append_nil, List.cons_append, List.nil_append]
    refine ⟨_, rfl, lw, _, rfl, .inl (SqL.of (s7 _ _ hlw6)), rfl, _, rfl, ite2 (fun e => ?_) fun _ => ?_⟩
    · rw [List.length_map, hjl] at e
      simp at e
    have hL7 := hL6.same s7
    have htl7 := s7 _ _ htl6
    have hlw7 := s7 _ _ hlw6
    have hjw7 : Paired (LfAt H7) jw (lvs (LS S)) := L2.Paired.mapP hjw6 fun r e h => s7 _ _ h
    refine ⟨_, rfl, a, dx6, _, rfl, s7 _ _ hi6, a, LS S, rfl, hL7, ⟨_, rfl, ?_⟩⟩
    dsimp only [tNil, List.append_nil, List.cons_append, List.nil_append]
    refine ⟨_, rfl, by show 0 ≤ sizeLine; omega, fun t8 h8 => ⟨tl, t8, _, rfl, rfl, SqL.of (same_upd0 h8 _ _ htl7), SqL.of upd_same, ?_⟩⟩
    have s8 := same_upd0 (o := .lst []) h8
    refine ⟨rfl, _, rfl, ite2 (fun e => ?_) fun _ => ?_⟩
    · have e1 : ((srtS (S.map (·.1))).map V.str).isEmpty = (LS S).isEmpty := by
        rw [← LS_fst]
        cases LS S with
        | nil => rfl
        | cons x r => rfl
      rw [e1] at e
      simp at e
    refine ⟨_, rfl, _, rfl, _, rfl, p, a, lw, jw, LS S, rfl, hL7.same s8, hS.ok, s8 _ _ hlw7, L2.Paired.mapP hjw7 fun r e h => s8 _ _ h, fun H9 s9 => ⟨_, rfl, ite2 (fun e => by cases e) fun _ => ?_⟩⟩
    have s39 := s36.trans ((s7.trans s8).trans s9)
    exact q n' g' H9 hn' (N3.trans (OffN.same s39)) (pen3.sm s39) (T3.ext s39)
end
end K08

/-! `not x` of an instance by its own __bool__, as a value; a dict != {} -/
namespace So
open PySem PySem.Spec PyProof.Rows L2
section
variable {X : Cx} {CX : CXT} {k : Nat} {C f : Addr} {fd : FuncData} {ps : List Str} {sp : Sp} {E : XK}
theorem pe_notO {e : Expr} {t : TE} {pos : Pos} (F : FnOk X.prog X.w X.K X.mg X.base CX k f fd ps sp) (hs : PySem.W.findIn X.K (.ref C) "__bool__" = some (some (.ref f))) (hf : PySem.W.isFn X.K (.ref f) = true) (hb : Binds X.K fd ps []) (hx : Passes CX X E) (hr : Room k X.A)
    (h : PE X e t) : PE X (.UnaryOp .Not e pos) (fun σ H Q => t σ H fun x H1 => ∃ a dx fs, x = .ref a ∧ H1 a = some (.ins C dx fs) ∧ sp [.ref a] H1 (fun v H' => ∃ b, v = .bl b ∧ Q (.bl (!b)) H') E) := by
  refine ⟨fun pins s σ H Q I hw => ?_⟩
  refine UnaryOp_ (thn (h.run pins s σ H _ I hw) fun v s1 ⟨x, H1, I1, r1, q1⟩ => ?_)
  obtain ⟨a, dx, fs, rfl, ha, q⟩ := q1
  cases r1
  obtain ⟨mA, J, _⟩ := ins_get I1.hok ha
  obtain ⟨od, J, _⟩ := J.look
  obtain ⟨m, hF⟩ := I1.fr
  refine not_of (PySem.W.truthy_K hF I1.ok.mod.kin J hs hf (wpAny_mono (run_one F hb hx hr rfl I1 q) (fun w s' z => ?_) fun _ _ z => z))
  obtain ⟨v, H', I', rv, b, rfl, q'⟩ := z
  cases rv
  exact ⟨.bl (!b), H', I', rfl, q'⟩
def rNeD0 : R2 := fun x y H Q => ∃ (a b : Addr) (ks : List (Key × V)), x = .ref a ∧ y = .ref b ∧ H a = some (.dK ks) ∧ H b = some (.dK []) ∧ Q (.bl (!ks.isEmpty)) H
theorem op_neD0 (hu : X.A.units < cLine) : OpR X (compareOp .NotEq) rNeD0 := by
  intro pins s σ H x y v u Q I rx ry h
  obtain ⟨a, b, ks, rfl, rfl, ea, eb, q⟩ := h
  obtain rfl : v = Value.ref a := rx
  obtain rfl : u = Value.ref b := ry
  obtain ⟨_, ya, va, ra, da⟩ := (show ObjOk X.prog X.w H s.heap a (.dK ks) from I.hok a _ ea)
  obtain ⟨_, yb, vb, rb, db⟩ := (show ObjOk X.prog X.w H s.heap b (.dK []) from I.hok b _ eb)
  have e1 : va.length = ks.length := ra.length.symm
  have e2 : vb.length = 0 := rb.length.symm
  refine PySem.W.keq_ne (knd := mixKind X.prog X.w) (r := true) ya yb da db hu (fun hl => ?_) ⟨.bl _, H, I, ?_, q⟩
  · have h0 : va.length = 0 := hl.trans e2
    cases va with
    | nil => exact .nil
    | cons x r => cases h0
  · rw [e1, e2]
    cases ks <;> rfl
end
end So

namespace K08
open PySem PySem.Spec PyProof.Rows L2 So
/-- lives in order, and where their dict stands -/
def LsD (C : Addr) (H : Hp) (a dd : Addr) (L : List (Str × List Int)) : Prop := ∃ (dx : Addr) (kvs : List (Key × V)), H a = some (.ins C dx [("_begun", .ref dd)]) ∧ H dd = some (.dK kvs) ∧ Paired (EntL H) kvs L
theorem LsD.ls {C : Addr} {H : Hp} {a dd : Addr} {L : List (Str × List Int)} (h : LsD C H a dd L) : LsAt C H a L := by
  obtain ⟨dx, kvs, h1, h2, h3⟩ := h
  exact ⟨dx, dd, kvs, h1, h2, h3⟩
theorem LsD.same {C : Addr} {H H' : Hp} {a dd : Addr} {L : List (Str × List Int)} (h : LsD C H a dd L) (s : Same H H') : LsD C H' a dd L := by
  obtain ⟨dx, kvs, h1, h2, h3⟩ := h
  exact ⟨dx, kvs, s _ _ h1, s _ _ h2, L2.Paired.mapP h3 fun kv p e => e.same s⟩
theorem LsD.offN {C p : Addr} {H H' : Hp} {a dd l : Addr} {L : List (Str × List Int)} {ns : List Int} {n : Nat} {g : Int} (h : LsD C H a dd L) (pen : Pen H p l ns n g) (s : OffN p H H') : LsD C H' a dd L := by
  obtain ⟨dx, kvs, h1, h2, h3⟩ := h
  have np : ∀ {b : Addr} {o : HO}, H b = some o → (∀ xs, o ≠ .lst xs) → b ≠ p := fun e ho z => by
    rw [z, pen.pen] at e
    exact ho _ (Option.some.inj e).symm
  refine ⟨dx, kvs, s _ _ (np h1 fun _ z => nomatch z) h1 ins_ne, s _ _ (np h2 fun _ z => nomatch z) h2 dk_ne, L2.Paired.mapP h3 fun kv q e => ?_⟩
  obtain ⟨e1, t, e2, e3⟩ := e
  exact ⟨e1, t, e2, s _ _ (np e3 fun _ z => nomatch z) e3 tup_ne⟩
theorem LsD.upd {C : Addr} {H : Hp} {a dd c : Addr} {o : HO} {L : List (Str × List Int)} (h : LsD C H a dd L) (h1 : c ≠ a) (h2 : c ≠ dd) (h3 : ∀ xs, H c ≠ some (.tup xs)) : LsD C (L2.upd H c o) a dd L := by
  obtain ⟨dx, kvs, e1, e2, e3⟩ := h
  refine ⟨dx, kvs, (upd_ne h1.symm).trans e1, (upd_ne h2.symm).trans e2, L2.Paired.mapP e3 fun kv p e => ?_⟩
  obtain ⟨e0, t, e4, e5⟩ := e
  exact ⟨e0, t, e4, (upd_ne (fun z => h3 _ (z ▸ e5))).trans e5⟩
/-- Lives.__init__ again, with the place of the new dict -/
def spLInitF (K : PySem.W.Frag) (C : Addr) : Sp := fun vs H Q _ => ∃ (x dx d : Addr) (L : List (Str × List Int)), vs = [.ref x, .ref d] ∧ H x = some (.ins C dx []) ∧ BgL K H d L ∧ LOk L ∧ ∀ (H' : Hp) (dd : Addr), Off x H H' → H dd = none → LsD C H' x dd L → Q .non H'
section
variable {P : Program} {w : World} {K : PySem.W.Frag} {mg : Str → Option Value} {base : Heap}
theorem ok_linitF {f C fW : Addr} {fd fdW : FuncData} (F : Fun K "__init__" "Lives.__init__" sLInit f fd) (T : Lvs K mg C) (L : WordsL mg) (FW : Fun K "with_first" "with_first" sWith fW fdW) (bW : Binds K fdW ["tool", "moments"] []) (gW : mg "with_first" = some (.ref fW))
    (GW : FnOk P w K mg base CX0 4 fW fdW ["tool", "moments"] (spWith K)) : FnOk P w K mg base CX0 5 f fd ["self", "begun"] (spLInitF K C) := by
  refine F.ok scLInit (fun vs H Q E h => ?_) (fun cdv A outer s H vs Q E hr h => ?_)
  · obtain ⟨x, dx, d, F, rfl, _⟩ := h
    rfl
  · obtain ⟨x, dx, d, L0, rfl, hx, hb, hO, q⟩ := h
    obtain ⟨kvs, ks, hd, hk, hpm, hv⟩ := id hb
    have h64 : ks.length < 64 := by rw [hpm.length_eq, List.length_map]; exact hO.few
    refine ⟨_, pss_one (ps_fld (pv 0) (pe_dc (own := [("tool", 2)]) (g := gName 2) (tt := tYes) rfl scLInit.nd (pi_list (pe_callB (call_sortedD rfl) (by rfl) L.sorted (by decide +kernel) (pa_cons (pv 1) pa_nil))) (blkOk_by (N := ["self", "begun", "tool"]) (sc := defScope sLInit) (by decide +kernel))
        (fun _ _ _ _ _ => pg_name (i := 2) scLInit.nd rfl (Or.inl rfl)) (fun _ _ _ _ _ => pts_nil) (fun _ _ _ _ _ => pv 2)
        (fun _ _ _ _ _ => pe_call GW hr (by rfl) gW FW.kp bW .nil pass0 (pa_cons (pv 2) (pa_cons (pe_dget (hu_of hr) (pv 1) (pv 2) (fun _ _ => rfl)) pa_nil)))) rfl), ?_⟩
    refine ⟨_, rfl, d, kvs, ks, rfl, .inl hd, hk, h64, fun ys p hp hsrt hpn => ⟨p, rfl, ⟨_, SqL.of upd_same⟩, fun D hD => ?_⟩⟩
    have sp : Same H (upd H p (.lst (ys.map V.str))) := same_upd0 hpn
    have hDn : H D = none := by
      cases c : H D with
      | none => rfl
      | some o => rw [sp _ _ c] at hD; cases hD
    obtain rfl : ys = L0.map (·.1) := sortedS_one hsrt hO.srt (((hp.trans hpm).nodup_iff).mpr hO.nd) hO.nd fun k => (hp.trans hpm).mem_iff
    refine dc_it walk_list (fun i H' => Same (upd H p (.lst ((L0.map (·.1)).map V.str))) H' ∧ ∃ kvs' : List (Key × V), H' D = some (.dK kvs') ∧ Paired (EntL H') kvs' (L0.take i)) ⟨same_upd0 hD, [], upd_same, .nil⟩ (fun _ _ _ y => SqL.of (y.1 _ _ upd_same)) ?_ ?_
    · rintro i v H2 H3 hi ⟨s2, kvs', hD2, y2⟩ ⟨rfl, hv2⟩
      rw [List.length_map, List.length_map] at hi
      obtain ⟨⟨z, ns⟩, hz⟩ : ∃ p, L0[i]? = some p := ⟨_, List.getElem?_eq_getElem hi⟩
      rw [List.getElem?_map, List.getElem?_map, hz] at hv2
      obtain rfl : V.str z = v := Option.some.inj hv2
      have hmem := List.mem_of_getElem? hz
      obtain ⟨hn1, hn2, _⟩ := hO.ns z ns hmem
      obtain ⟨l, ms, hl1, hl3, hl4, hl5, rfl⟩ := hv z ns hmem
      have sA := sp.trans s2
      have et : L0.take (i + 1) = L0.take i ++ [(z, 0 :: srt ms)] := by rw [List.take_add_one, hz]; rfl
      have hfresh : valV kvs' (.inr z) = none := by
        refine (ls_get z y2).1 (lookup_not fun hin => ?_)
        have nd := hO.nd
        rw [← List.take_append_drop i L0, List.map_append, List.nodup_append] at nd
        have hdrop : z ∈ (L0.drop i).map (·.1) := by
          refine List.mem_map.mpr ⟨(z, 0 :: srt ms), ?_, rfl⟩
          refine List.mem_of_getElem? (i := 0) ?_
          rw [List.getElem?_drop, Nat.add_zero]
          exact hz
        exact nd.2.2 z hin z hdrop rfl
      have hl2 : kvs'.length ≤ i := by
        rw [Paired.length y2, List.length_take]
        exact Nat.min_le_left _ _
      refine ⟨rfl, _, rfl, _, rfl, _, rfl, _, rfl, d, _, rfl, .inl ⟨kvs, .inr z, .inl (sA _ _ hd), rfl, hl1.symm⟩, ?_⟩
      have few := hO.few
      refine ⟨z, l, ms, rfl, hn1, hn2, sq_same hl3 sA, hl4, hl5, fun t later H4 s4 hw hm ht => ?_⟩
      obtain rfl : later = srt ms := srt_one hw hm
      refine ⟨kvs', .inr z, rfl, s4 _ _ hD2, Nat.lt_of_le_of_lt hl2 (by have := sizeLine_eq; omega), ?_⟩
      have nD : ∀ {t : Addr} {xs : List V}, H4 t = some (.tup xs) → t ≠ D := fun ht z => by rw [z, s4 _ _ hD2] at ht; cases ht
      refine ⟨fun b o e => ?_, _, upd_same, ?_⟩
      · rw [upd_ne (ne_of_none e hD)]
        exact s4 _ _ (s2 _ _ e)
      · rw [putK_new _ hfresh, et]
        refine Paired.snoc (L2.Paired.mapP y2 fun kv p e => ?_) ⟨rfl, t, rfl, (upd_ne (nD ht)).trans ht⟩
        obtain ⟨e0, t2, e1, e2⟩ := e
        have e3 := s4 _ _ e2
        exact ⟨e0, t2, e1, (upd_ne (nD e3)).trans e3⟩
    · rintro H2 ⟨s2, kvs', hD2, y2⟩
      have sA := sp.trans s2
      refine ⟨_, rfl, x, C, dx, [], rfl, sA _ _ hx, T.cl, T.nB, (by show 0 < 1000; decide), ?_⟩
      have nDx : D ≠ x := fun z => by rw [z, sA _ _ hx] at hD2; cases hD2
      rw [List.length_map, List.length_map, List.take_length] at y2
      refine q _ D (fun b o n e => (upd_ne n).trans (sA _ _ e)) hDn ⟨dx, kvs', upd_same, (upd_ne nDx).trans hD2, L2.Paired.mapP y2 fun kv p e => ?_⟩
      obtain ⟨e0, t2, e1, e2⟩ := e
      exact ⟨e0, t2, e1, (upd_ne (fun y => by rw [y, sA _ _ hx] at e2; cases e2)).trans e2⟩
end
/-! ### dicts that lives are made of -/
/-- beginnings that may stand, a few more than the law draws -/
structure StW (S : List (Str × List Int)) : Prop where
  nd : (S.map (·.1)).Nodup
  few : S.length ≤ 13
  nm : ∀ p ∈ S, isName p.1 = true
  len : ∀ p ∈ S, p.2.length ≤ 7
  ms : ∀ p ∈ S, ∀ n ∈ p.2, 1 ≤ n ∧ n ≤ 1000000000000000000000000000000
theorem StOk.w {S : List (Str × List Int)} (h : StOk S) : StW S := ⟨h.nd, Nat.le_trans h.few (by decide), h.nm, fun p hp => Nat.le_trans (h.len p hp) (by decide), h.ms⟩
theorem LS_len (S : List (Str × List Int)) : (LS S).length = S.length := by
  unfold LS
  rw [List.length_map, (srtS_perm _).length_eq, List.length_map]
theorem StW.ok {S : List (Str × List Int)} (h : StW S) : LOk (LS S) := by
  refine ⟨by rw [LS_fst]; exact srtS_sorted _, by rw [LS_fst]; exact (srtS_perm _).nodup_iff.mpr h.nd, by have := h.few; have := LS_len S; omega, fun z ns hm => ?_⟩
  obtain ⟨z', hz, e⟩ := List.mem_map.mp hm
  obtain ⟨rfl, rfl⟩ := Prod.mk.inj e
  obtain ⟨p, hp, rfl⟩ := List.mem_map.mp ((srtS_perm _).mem_iff.mp hz)
  have hl : S.lookup p.1 = some p.2 := lookup_mem h.nd hp
  rw [hl]
  have hn := h.nm p hp
  refine ⟨hn, Nat.le_trans (name_len hn) (by decide), srt p.2, rfl, ?_, fun n hn => ?_, srt_asc _⟩
  · have h1 := srt_len p.2
    have h2 := h.len p hp
    show (srt p.2).length < 64
    omega
  · exact decide_eq_true (h.ms p hp n (srt_mem.mp hn))
theorem StW.mem {S : List (Str × List Int)} (h : StW S) {p : Str × List Int} (hp : p ∈ S) : (p.1, 0 :: srt p.2) ∈ LS S := by
  refine List.mem_map.mpr ⟨p.1, (srtS_perm _).mem_iff.mpr (List.mem_map_of_mem (f := (·.1)) hp), ?_⟩
  rw [show S.lookup p.1 = some p.2 from lookup_mem h.nd hp]
  rfl
theorem StW.mem' {S : List (Str × List Int)} (h : StW S) {z : Str} {ns : List Int} (hm : (z, ns) ∈ LS S) : ∃ ms, (z, ms) ∈ S ∧ ns = 0 :: srt ms := by
  obtain ⟨z', hz, e⟩ := List.mem_map.mp hm
  obtain ⟨rfl, rfl⟩ := Prod.mk.inj e
  obtain ⟨p, hp, rfl⟩ := List.mem_map.mp ((srtS_perm _).mem_iff.mp hz)
  exact ⟨p.2, hp, by rw [show S.lookup p.1 = some p.2 from lookup_mem h.nd hp]; rfl⟩
/-- an item of such a dict: a list or a tuple -/
def EnH (H : Hp) (kv : Key × V) (p : Str × List Int) : Prop := kv.1 = Sum.inr p.1 ∧ ∃ l, kv.2 = .ref l ∧ (H l = some (.lst (p.2.map V.int)) ∨ H l = some (.tup (p.2.map V.int)))
theorem EnH.same {H H' : Hp} {kv : Key × V} {p : Str × List Int} (h : EnH H kv p) (s : Same H H') : EnH H' kv p := by
  obtain ⟨e1, l, e2, e3⟩ := h
  exact ⟨e1, l, e2, e3.imp (s _ _) (s _ _)⟩
theorem EnS.h {H : Hp} {kv : Key × V} {p : Str × List Int} (h : EnS H kv p) : EnH H kv p := by
  obtain ⟨e1, l, e2, e3⟩ := h
  exact ⟨e1, l, e2, .inl e3⟩
theorem enh_keys {H : Hp} : ∀ {kvs : List (Key × V)} {S : List (Str × List Int)}, Paired (EnH H) kvs S → kvs.map (·.1) = (S.map (·.1)).map Sum.inr
  | _, _, .nil => rfl
  | _, _, .cons h t => by
    obtain ⟨e, _⟩ := h
    simp only [List.map_cons, e, enh_keys t]
theorem enh_get {H : Hp} {z : Str} {ms : List Int} : ∀ {kvs : List (Key × V)} {S : List (Str × List Int)}, Paired (EnH H) kvs S → S.lookup z = some ms → ∃ l, valV kvs (.inr z) = some (.ref l) ∧ (H l = some (.lst (ms.map V.int)) ∨ H l = some (.tup (ms.map V.int)))
  | _, _, .nil, h => nomatch h
  | _, _, .cons (a := kv) (b := p) h t, hl => by
    obtain ⟨e, l, e1, e2⟩ := h
    obtain ⟨y, ns⟩ := p
    obtain ⟨k, v⟩ := kv
    have e : k = Sum.inr y := e
    have e1 : v = .ref l := e1
    subst e e1
    rw [List.lookup_cons] at hl
    by_cases c : z = y
    · subst c
      rw [show (z == z) = true from beq_self_eq_true z] at hl
      cases hl
      exact ⟨l, by unfold valV; simp, e2⟩
    · have hne : (z == y) = false := by simpa using c
      rw [hne] at hl
      obtain ⟨l2, h1, h2⟩ := enh_get t hl
      refine ⟨l2, ?_, h2⟩
      rw [← h1]
      unfold valV
      simp [Ne.symm c]
theorem bgl_of {K : PySem.W.Frag} {H : Hp} {d : Addr} {kvs : List (Key × V)} {S' L : List (Str × List Int)} (hd : H d = some (.dK kvs)) (hp : Paired (EnH H) kvs S') (nd : (S'.map (·.1)).Nodup) (pm : (S'.map (·.1)).Perm (L.map (·.1)))
    (hL : ∀ z ns, (z, ns) ∈ L → ∃ ms, (z, ms) ∈ S' ∧ ms.length ≤ 7 ∧ (∀ n ∈ ms, 1 ≤ n ∧ n ≤ 1000000000000000000000000000000) ∧ ns = 0 :: srt ms) : BgL K H d L := by
  refine ⟨kvs, S'.map (·.1), hd, enh_keys hp, pm, fun z ns hm => ?_⟩
  obtain ⟨ms, h1, h2, h3, h4⟩ := hL z ns hm
  obtain ⟨l, e1, e2⟩ := enh_get hp (lookup_mem nd h1)
  exact ⟨l, ms, e1, e2.imp SqL.of SqT.of, by omega, fun n hn => decide_eq_true (h3 n hn), h4⟩
theorem bgl_w {K : PySem.W.Frag} {H : Hp} {d : Addr} {kvs : List (Key × V)} {S : List (Str × List Int)} (hd : H d = some (.dK kvs)) (hp : Paired (EnH H) kvs S) (h : StW S) : BgL K H d (LS S) :=
  bgl_of hd hp h.nd (by rw [LS_fst]; exact (srtS_perm _).symm) fun z ns hm => by
    obtain ⟨ms, h1, h2⟩ := h.mem' hm
    exact ⟨ms, h1, h.len _ h1, h.ms _ h1, h2⟩
theorem srt_rev (ms : List Int) : srt ms.reverse = srt ms := srt_one (srt_asc _) fun k => by rw [srt_mem, List.mem_reverse]
/-- turned about, and each list turned about -/
def revS (S : List (Str × List Int)) : List (Str × List Int) := S.reverse.map fun p => (p.1, p.2.reverse)
theorem revS_names (S : List (Str × List Int)) : (revS S).map (·.1) = (S.map (·.1)).reverse := by
  unfold revS
  rw [List.map_map, ← List.map_reverse]
  rfl
theorem bgl_rev {K : PySem.W.Frag} {H : Hp} {d : Addr} {kvs : List (Key × V)} {S : List (Str × List Int)} (hd : H d = some (.dK kvs)) (hp : Paired (EnH H) kvs (revS S)) (h : StW S) : BgL K H d (LS S) :=
  bgl_of hd hp (by rw [revS_names]; exact (List.reverse_perm _).nodup_iff.mpr h.nd) (by rw [revS_names, LS_fst]; exact (List.reverse_perm _).trans (srtS_perm _).symm) fun z ns hm => by
    obtain ⟨ms, h1, h2⟩ := h.mem' hm
    refine ⟨ms.reverse, List.mem_map.mpr ⟨(z, ms), List.mem_reverse.mpr h1, rfl⟩, by rw [List.length_reverse]; exact h.len _ h1, fun n hn => h.ms _ h1 n (List.mem_reverse.mp hn), by rw [srt_rev]; exact h2⟩
theorem lok_nil : LOk [] := ⟨rfl, List.nodup_nil, by decide, fun _ _ h => nomatch h⟩
theorem bgl_nil {K : PySem.W.Frag} {H : Hp} {d : Addr} (hd : H d = some (.dK [])) : BgL K H d [] := ⟨[], [], hd, rfl, .nil, fun _ _ h => nomatch h⟩
/-- one more tool -/
theorem StOk.plus {S : List (Str × List Int)} (h : StOk S) {z : Str} (hz : isName z = true) (hn : z ∉ S.map (·.1)) : StW (S ++ [(z, [])]) := by
  refine ⟨?_, by rw [List.length_append]; exact Nat.succ_le_succ h.few, fun p hp => ?_, fun p hp => ?_, fun p hp => ?_⟩
  · rw [List.map_append, List.nodup_append]
    exact ⟨h.nd, by simp, fun a ha b hb e => by
      rw [List.mem_singleton.mp hb] at e
      have e : a = z := e
      exact hn (e ▸ ha)⟩
  all_goals rcases List.mem_append.mp hp with c | c
  · exact h.nm p c
  · rw [List.mem_singleton.mp c]
    exact hz
  · exact Nat.le_trans (h.len p c) (by decide)
  · rw [List.mem_singleton.mp c]
    exact Nat.zero_le _
  · exact h.ms p c
  · rw [List.mem_singleton.mp c]
    exact fun _ h => nomatch h
/-- one more beginning each -/
inductive More1 : List (Str × List Int) → List (Str × List Int) → Prop
  | nil : More1 [] []
  | snoc {S S' : List (Str × List Int)} {z : Str} {ms : List Int} {k : Int} : More1 S S' → 1 ≤ k → k ≤ 98 → k ∉ ms → More1 (S ++ [(z, ms)]) (S' ++ [(z, ms ++ [k])])
theorem More1.names {S S' : List (Str × List Int)} (h : More1 S S') : S'.map (·.1) = S.map (·.1) := by
  induction h with
  | nil => rfl
  | snoc _ _ _ _ ih => rw [List.map_append, List.map_append, ih]; rfl
theorem More1.mem {S S' : List (Str × List Int)} (h : More1 S S') : ∀ p ∈ S', ∃ ms k, (p.1, ms) ∈ S ∧ p.2 = ms ++ [k] ∧ 1 ≤ k ∧ k ≤ 98 ∧ k ∉ ms := by
  induction h with
  | nil => exact fun p h => nomatch h
  | @snoc S S' z ms k _ h1 h2 h3 ih =>
    intro p hp
    rcases List.mem_append.mp hp with c | c
    · obtain ⟨ms', k', e1, e2⟩ := ih p c
      exact ⟨ms', k', List.mem_append_left _ e1, e2⟩
    · rw [List.mem_singleton.mp c]
      exact ⟨ms, k, List.mem_append_right _ (List.mem_singleton.mpr rfl), rfl, h1, h2, h3⟩
theorem More1.w {S S' : List (Str × List Int)} (h : More1 S S') (hS : StOk S) : StW S' := by
  have hl : S'.length = S.length := by
    have := congrArg List.length h.names
    simpa using this
  refine ⟨by rw [h.names]; exact hS.nd, by rw [hl]; exact Nat.le_trans hS.few (by decide), fun p hp => ?_, fun p hp => ?_, fun p hp n hn => ?_⟩
  · obtain ⟨ms, k, e, _⟩ := h.mem p hp
    exact hS.nm (p.1, ms) e
  · obtain ⟨ms, k, e, e2, _⟩ := h.mem p hp
    have : ms.length ≤ 6 := hS.len _ e
    rw [e2, List.length_append]
    exact Nat.succ_le_succ this
  · obtain ⟨ms, k, e, e2, h1, h2, _⟩ := h.mem p hp
    rw [e2] at hn
    rcases List.mem_append.mp hn with c | c
    · exact hS.ms _ e n c
    · rw [List.mem_singleton.mp c]
      omega
theorem more_ne {S S' : List (Str × List Int)} (h : More1 S S') (hS : StOk S) (hne : S ≠ []) : sameL (LS S) (LS S') = false := by
  have hl : S'.length = S.length := by
    have := congrArg List.length h.names
    simpa using this
  obtain ⟨p, r, e⟩ : ∃ p r, S' = p :: r := by
    cases S' with
    | nil =>
      cases S with
      | nil => exact absurd rfl hne
      | cons a b => cases hl
    | cons a b => exact ⟨a, b, rfl⟩
  have hp : p ∈ S' := by rw [e]; exact List.mem_cons_self
  obtain ⟨ms, k, e1, e2, h1, h2, h3⟩ := h.mem p hp
  have m1 : (p.1, 0 :: srt ms) ∈ LS S := hS.w.mem e1
  have m2 : (LS S').lookup p.1 = some (0 :: srt p.2) := lookup_mem (h.w hS).ok.nd ((h.w hS).mem hp)
  unfold sameL
  refine List.all_eq_false.mpr ⟨_, m1, ?_⟩
  rw [decide_eq_true_eq, m2]
  intro z
  have z2 : srt p.2 = srt ms := (List.cons.inj (Option.some.inj z)).2
  rw [e2] at z2
  have : k ∈ srt (ms ++ [k]) := srt_mem.mpr (List.mem_append_right _ (List.mem_singleton.mpr rfl))
  rw [z2] at this
  exact h3 (srt_mem.mp this)
theorem valV_out {κ : Type} [DecidableEq κ] {k : κ} {kvs : List (κ × V)} (h : k ∉ kvs.map (·.1)) : valV kvs k = none := by
  cases hc : valV kvs k with
  | none => rfl
  | some v => exact absurd (valV_in hc) h
theorem inr_in {z : Str} {l : List Str} (h : (Sum.inr z : Key) ∈ l.map Sum.inr) : z ∈ l := by
  obtain ⟨y, hy, e⟩ := List.mem_map.mp h
  exact Sum.inr.inj e ▸ hy
theorem upd_back {H : Hp} {d : Addr} {o u : HO} (h : H d = some u) : L2.upd (L2.upd H d o) d u = H := funext fun b => by
  by_cases c : b = d
  · subst c
    rw [upd_same, h]
  · rw [upd_ne c, upd_ne c]
theorem upd_comm {H : Hp} {a b : Addr} {o u : HO} (h : a ≠ b) : L2.upd (L2.upd H a o) b u = L2.upd (L2.upd H b u) a o := funext fun c => by
  by_cases c1 : c = b
  · subst c1
    rw [upd_same, upd_ne h.symm, upd_same]
  · rw [upd_ne c1]
    by_cases c2 : c = a
    · subst c2
      rw [upd_same, upd_same]
    · rw [upd_ne c2, upd_ne c2, upd_ne c1]
theorem same_both {G G' : Hp} {d : Addr} {X : HO} (s : Same G G') : Same (L2.upd G d X) (L2.upd G' d X) := fun b o e => by
  by_cases c : b = d
  · subst c
    rw [upd_same] at e ⊢
    exact e
  · rw [upd_ne c] at e ⊢
    exact s b o e
theorem off_both {p : Addr} {G G' : Hp} {d : Addr} {X : HO} (s : Off p G G') : Off p (L2.upd G d X) (L2.upd G' d X) := fun b o n e => by
  by_cases c : b = d
  · subst c
    rw [upd_same] at e ⊢
    exact e
  · rw [upd_ne c] at e ⊢
    exact s b o n e
/-- not there yet (the tables apart) -/
def New (F0 : Hp) (c : Addr) : Prop := ∀ o, F0 c = some o → ∃ ps, o = .tbl ps
theorem New.of {F0 : Hp} {c : Addr} (h : F0 c = none) : New F0 c := fun o e => by rw [h] at e; cases e
theorem New.ne {F0 : Hp} {c b : Addr} {o : HO} (h : New F0 c) (e : F0 b = some o) (t : ∀ ps, o ≠ .tbl ps) : c ≠ b := fun z => by
  obtain ⟨ps, z2⟩ := h o (z ▸ e)
  exact t ps z2
theorem OffN.new {p c : Addr} {H0 H : Hp} {o : HO} (s : OffN p H0 H) (hp : H p = some o) (h : H c = none) : New H0 c := fun u e => Classical.byContradiction fun hn => by
  have n : c ≠ p := fun z => by rw [z, hp] at h; cases h
  have := s c u n e (fun ps z => hn ⟨ps, z⟩)
  rw [h] at this
  cases this
/-- an item of what the law hands over: its list was made behind F0 -/
def EnF (F0 H : Hp) (kv : Key × V) (p : Str × List Int) : Prop := kv.1 = Sum.inr p.1 ∧ ∃ l, kv.2 = .ref l ∧ New F0 l ∧ (H l = some (.lst (p.2.map V.int)) ∨ H l = some (.tup (p.2.map V.int)))
theorem EnF.h {F0 H : Hp} {kv : Key × V} {p : Str × List Int} (h : EnF F0 H kv p) : EnH H kv p := by
  obtain ⟨e1, l, e2, _, e3⟩ := h
  exact ⟨e1, l, e2, e3⟩
theorem enf_keys {F0 H : Hp} {kvs : List (Key × V)} {S : List (Str × List Int)} (h : Paired (EnF F0 H) kvs S) : kvs.map (·.1) = (S.map (·.1)).map Sum.inr :=
  enh_keys (L2.Paired.mapP h fun _ _ e => e.h)
theorem enf_none {F0 H : Hp} {kvs : List (Key × V)} {S : List (Str × List Int)} {z : Str} (h : Paired (EnF F0 H) kvs S) (hz : z ∉ S.map (·.1)) : valV kvs (.inr z) = none := valV_out fun hm => by
  rw [enf_keys h] at hm
  exact hz (inr_in hm)
theorem not_before {S : List (Str × List Int)} {k : Nat} {z : Str} {ms : List Int} (nd : (S.map (·.1)).Nodup) (h : S[k]? = some (z, ms)) : z ∉ (S.take k).map (·.1) := by
  intro hin
  rw [← List.take_append_drop k S, List.map_append, List.nodup_append] at nd
  have hdrop : z ∈ (S.drop k).map (·.1) := by
    refine List.mem_map.mpr ⟨(z, ms), ?_, rfl⟩
    refine List.mem_of_getElem? (i := 0) ?_
    rw [List.getElem?_drop, Nat.add_zero]
    exact h
  exact nd.2.2 z hin z hdrop rfl
theorem newS {H : Hp} {x dx C : Addr} (h1 : H x = none) (h2 : H dx = none) : Same H (L2.upd (L2.upd H dx (.own x)) x (.ins C dx [])) := fun c o e => by
  rw [upd_ne (ne_of_none e h1), upd_ne (ne_of_none e h2)]
  exact e
theorem mergeK_nodup : ∀ (more acc : List (Key × V)), ((acc ++ more).map (·.1)).Nodup → mergeK acc more = acc ++ more
  | [], acc, _ => by simp [mergeK]
  | p :: r, acc, nd => by
    have hf : valV acc p.1 = none := valV_out fun hin => by
      rw [List.map_append, List.map_cons, List.nodup_append] at nd
      exact nd.2.2 p.1 hin p.1 List.mem_cons_self rfl
    show mergeK (putK acc p.1 p.2) r = _
    rw [putK_new _ hf, mergeK_nodup r _ (by rw [List.append_assoc]; exact nd), List.append_assoc]
    rfl
/-- a pair (name, list), for dict(pairs) -/
def PrS (D : Addr) (H : Hp) (j : Addr) (p : Str × List Int) : Prop := ∃ q, q ≠ D ∧ H j = some (.tup [.str p.1, .ref q]) ∧ H q = some (.lst (p.2.map V.int))
theorem PrS.same {D j : Addr} {H H' : Hp} {p : Str × List Int} (h : PrS D H j p) (s : Same H H') : PrS D H' j p := by
  obtain ⟨q, h1, h2, h3⟩ := h
  exact ⟨q, h1, s _ _ h2, s _ _ h3⟩
theorem PrS.up {D j : Addr} {H : Hp} {p : Str × List Int} {xs ys : List V} (h : PrS D H j p) (hD : H D = some (.lst xs)) : PrS D (L2.upd H D (.lst ys)) j p := by
  obtain ⟨q, h1, h2, h3⟩ := h
  exact ⟨q, h1, (upd_ne (fun z => by rw [z, hD] at h2; cases h2)).trans h2, (upd_ne h1).trans h3⟩
theorem prS_snoc {D nt q : Addr} {H : Hp} {js : List Addr} {S : List (Str × List Int)} {z : Str} {ms : List Int} {xs ys : List V} (h : Paired (PrS D H) js S) (hD : H D = some (.lst xs)) (h1 : q ≠ D) (h2 : H nt = some (.tup [.str z, .ref q])) (h3 : H q = some (.lst (ms.map V.int))) :
    Paired (PrS D (L2.upd H D (.lst ys))) (js ++ [nt]) (S ++ [(z, ms)]) :=
  Paired.snoc (L2.Paired.mapP h fun _ _ e => e.up hD) (PrS.up ⟨q, h1, h2, h3⟩ hD)
theorem prS_ent {K : PySem.W.Frag} {D : Addr} {H : Hp} : ∀ {js : List Addr} {S : List (Str × List Int)}, Paired (PrS D H) js S → ∃ kvl : List (Key × V), Paired (fun p kv => SqT K H p [kV kv.1, kv.2]) js kvl ∧ Paired (EnS H) kvl S
  | _, _, .nil => ⟨[], .nil, .nil⟩
  | _, _, .cons (a := j) (b := p) h t => by
    obtain ⟨q, h1, h2, h3⟩ := h
    obtain ⟨kvl, k1, k2⟩ := prS_ent t
    exact ⟨(.inr p.1, .ref q) :: kvl, .cons (SqT.of h2) k1, .cons ⟨rfl, q, rfl, h3⟩ k2⟩
/-- dict(pairs) is the dict of them -/
theorem merge_ent {H : Hp} {kvl : List (Key × V)} {S : List (Str × List Int)} (h : Paired (EnS H) kvl S) (nd : (S.map (·.1)).Nodup) : mergeK [] kvl = kvl := by
  have knd : (kvl.map (·.1)).Nodup := by
    rw [en_keys h]
    exact List.Pairwise.map _ (fun _ _ h e => h (Sum.inr.inj e)) nd
  rw [mergeK_nodup kvl [] (by rw [List.nil_append]; exact knd), List.nil_append]
theorem PrS.unl {D j d : Addr} {H : Hp} {p : Str × List Int} {o : Obj} {u w : HO} (h : PrS D H j p) (hd : H d = some (.frz o u)) : PrS D (L2.upd H d w) j p := by
  obtain ⟨q, h1, h2, h3⟩ := h
  exact ⟨q, h1, (upd_ne (fun z => by rw [z, hd] at h2; cases h2)).trans h2, (upd_ne (fun z => by rw [z, hd] at h3; cases h3)).trans h3⟩
theorem fitsS : ∀ (l ms : List Str), l.Nodup → (∀ x ∈ l, x ∈ ms) → l.length ≤ ms.length
  | [], _, _, _ => Nat.zero_le _
  | x :: r, ms, nd, h => by
    rw [List.nodup_cons] at nd
    have hx := h x List.mem_cons_self
    have ih := fitsS r (ms.erase x) nd.2 fun y hy => (List.mem_erase_of_ne (fun e => nd.1 (by rw [← e]; exact hy))).mpr (h y (List.mem_cons_of_mem _ hy))
    rw [List.length_erase_of_mem hx] at ih
    have : 0 < ms.length := List.length_pos_of_mem hx
    rw [List.length_cons]
    omega
/-- the thirteen names that the law looks through -/
def n13 : List Str := ["n0", "n1", "n2", "n3", "n4", "n5", "n6", "n7", "n8", "n9", "n10", "n11", "n12"]
theorem n13_name : ∀ z ∈ n13, isName z = true := by decide +kernel
theorem n13_is : ∀ j : Nat, j < 13 → n13[j]? = some (("n" : Str) ++ Str.ofString (toString ((0 : Int) + (j : Int)))) := by decide +kernel
theorem n13_len : ∀ z ∈ n13, z.length ≤ 8 := by decide +kernel
theorem n13_nodup : n13.Nodup := by decide +kernel
end K08

/-! == and != of two dicts with tuple keys that hold the same -/
namespace So
open PySem PySem.Spec PyProof.Rows L2
section
variable {prog : Program} {w : World} {K : Type} [DecidableEq K] {knd : HeapKind prog w K} {A : Around} {E : Value → Shared → Prop} {s : Shared}
theorem samePairsH {nm : String} {a b : Addr} {ka kb : List (K × Addr × Value)} {Q : Bool → Shared → Prop} (ha : (a == sysModules) = false) (hb : (b == sysModules) = false)
    (da : s.heap.DictOfH knd a ka) (db : s.heap.DictOfH knd b kb) (hu : knd.room A) (hlen : ka.length = kb.length) (hits : ∀ x ∈ ka, ∃ p : Addr × Value, (x.1, p) ∈ kb ∧ SeqAt.EqAt A s x.2.2 p.2 true) (h : Q true s) :
    wpAny (model prog w) A (Builtin.Dict.samePairs nm a b) Q E s := by
  obtain ⟨oa, es, ep, hoa, _, hda, hea, hia, hna⟩ := da
  obtain ⟨ob, es', ep', hob, _, hdb, heb, hib, hnb⟩ := db
  have hla : es.size = ka.length := size_of_entries hea
  have hlb : es'.size = kb.length := size_of_entries heb
  have hsz : es.size = es'.size := by omega
  unfold Builtin.Dict.samePairs Builtin.Dict.showsAll
  rw [if_neg (show ¬ (a == sysModules) = true by rw [ha]; exact Bool.false_ne_true), if_neg (show ¬ (b == sysModules) = true by rw [hb]; exact Bool.false_ne_true)]
  refine wpAny_bind (wpAny_pure (wpAny_bind (wpAny_pure ?_)))
  refine wpAny_bind (wpAny_dictEntries hoa hda ?_)
  dsimp only
  refine wpAny_bind (wpAny_dictEntries hob hdb ?_)
  rw [if_neg (by rw [hsz]; simp)]
  refine wpAny_bind (wpAny_dictEpoch hoa hda ?_)
  refine wpAny_bind ?_
  rw [Std.Legacy.Range.forIn_eq_forIn_range']
  simp only [Std.Legacy.Range.size, Nat.sub_zero, Nat.add_sub_cancel, Nat.div_one]
  refine wpAny_forIn_list _
    (fun rest q s' => s' = s ∧ q = (none, ()) ∧ ∃ i, rest = List.range' i (es.size - i) ∧ i ≤ es.size)
    _ ?_ ?_ _ _ ⟨rfl, rfl, 0, by simp, Nat.zero_le _⟩
  · rintro x rest q s' ⟨rfl, rfl, i, hr, hi⟩
    have hlt : i < es.size := by
      rcases Nat.lt_or_ge i es.size with h | h
      · exact h
      · rw [Nat.sub_eq_zero_of_le h] at hr; simp at hr
    obtain ⟨rfl, hrest⟩ : x = i ∧ rest = List.range' (i + 1) (es.size - (i + 1)) := by
      have e : es.size - i = (es.size - (i + 1)) + 1 := by omega
      rw [e, List.range'_succ] at hr
      injection hr with h1 h2
      exact ⟨h1, h2⟩
    refine wpAny_bind (wpAny_dictEntries hoa hda ?_)
    have hlt' : x < ka.length := by rw [← hla]; exact hlt
    obtain ⟨⟨k, c, v⟩, hkv⟩ : ∃ y, ka[x]? = some y := ⟨ka[x], List.getElem?_eq_getElem hlt'⟩
    have hmem : (k, c, v) ∈ ka := List.mem_of_getElem? hkv
    have hex : es[x]? = some ⟨knd.hash k, .ref c, v⟩ := by rw [entry_at hea x, hkv]; rfl
    rw [hex]
    obtain ⟨⟨c2, y⟩, hin, heq⟩ := hits _ hmem
    show wpAny _ _ (holding [Value.ref c, v] _ >>= _) _ _ _
    refine wpAny_bind (wpAny_holding (wpAny_bind (wpAny_dictFind_heap hu (hia _ hmem) hob hdb heb hib hnb ?_ ?_)))
    · intro hno
      obtain ⟨j, hj⟩ := List.mem_iff_getElem?.mp hin
      exact absurd hj (hno j (c2, y))
    · intro j p hj
      obtain ⟨j0, hj0⟩ := List.mem_iff_getElem?.mp hin
      have ep2 : p = (c2, y) := by
        have h1 : (k, p) ∈ kb := List.mem_of_getElem? hj
        have key : ∀ {l : List (K × Addr × Value)}, (l.map (·.1)).Nodup → (k, p) ∈ l → (k, (c2, y)) ∈ l → p = (c2, y) := by
          intro l
          induction l with
          | nil => intro _ h; cases h
          | cons q r ih =>
            intro nd m1 m2
            rw [List.map_cons, List.nodup_cons] at nd
            rcases List.mem_cons.mp m1 with e1 | m1 <;> rcases List.mem_cons.mp m2 with e2 | m2
            · exact (Prod.mk.inj (e1.trans e2.symm)).2
            · exact absurd (List.mem_map.mpr ⟨_, m2, rfl⟩) (by rw [← e1] at nd; exact nd.1)
            · exact absurd (List.mem_map.mpr ⟨_, m1, rfl⟩) (by rw [← e2] at nd; exact nd.1)
            · exact ih nd.2 m1 m2
        exact key hnb h1 hin
      subst ep2
      have hey : es'[j]? = some ⟨knd.hash k, .ref c2, y⟩ := by rw [entry_at heb j, hj]; rfl
      refine wpAny_bind (wpAny_dictEntries hob hdb ?_)
      rw [hey]
      refine wpAny_holding (heq prog w _ _ ?_)
      show wpAny _ _ (if (!true) = true then _ else _) _ _ _
      rw [if_neg (by decide)]
      refine wpAny_bind (wpAny_dictEpoch hoa hda ?_)
      rw [if_neg (by simp)]
      exact wpAny_pure ⟨rfl, rfl, x + 1, hrest, hlt⟩
  · rintro q s' ⟨rfl, rfl, i, hr, hi⟩
    exact wpAny_pure h
theorem eqH_ne {a b : Addr} {ka kb : List (K × Addr × Value)} {Q : Value → Shared → Prop} (ha : (a == sysModules) = false) (hb : (b == sysModules) = false)
    (da : s.heap.DictOfH knd a ka) (db : s.heap.DictOfH knd b kb) (hu : A.units < cLine) (hr : knd.room A.in1) (hlen : ka.length = kb.length) (hits : ∀ x ∈ ka, ∃ p : Addr × Value, (x.1, p) ∈ kb ∧ SeqAt.EqAt A.in1 s x.2.2 p.2 true) (h : Q (.bool false) s) :
    wpAny (model prog w) A (compareOp .NotEq (.ref a) (.ref b)) Q E s := by
  refine wpAny_richCompare_same_room (op := .NotEq) da.typeIs db.typeIs PySem.F.slot_dict_ne (wpAny_call_entry PySem.F.slot_dict_ne da.typeIs PySem.F.entry_dict_ne ?_ (PySem.F.args_dict_ne_2 _ _)) hu
  show wpAny _ _ (Builtin.Dict.dictSlotArgs "__ne__" ⟨[.ref a, .ref b], []⟩ >>= _) _ _ s
  refine wpAny_bind ?_
  unfold Builtin.Dict.dictSlotArgs
  refine wpAny_bind (wpAny_notOrdered_dict da.typeIs ?_)
  show wpAny _ _ (pure (Value.ref a, Value.ref b)) _ _ s
  refine wpAny_pure ?_
  refine wpAny_bind (wpAny_isInstance (T := "dict") db.typeIs PySem.F.sub_dict_dict ?_)
  simp only [Bool.not_true, Bool.false_eq_true, if_false]
  refine wpAny_bind (wpAny_pure (wpAny_bind (wpAny_pure ?_)))
  refine wpAny_bind (samePairsH ha hb da db hr hlen hits ?_)
  refine wpAny_pure ⟨_, rfl, ?_, ?_⟩
  · exact fun x => nomatch x
  · simpa using h
theorem eqH_eq {a b : Addr} {ka kb : List (K × Addr × Value)} {Q : Value → Shared → Prop} (ha : (a == sysModules) = false) (hb : (b == sysModules) = false)
    (da : s.heap.DictOfH knd a ka) (db : s.heap.DictOfH knd b kb) (hu : A.units < cLine) (hr : knd.room A.in1) (hlen : ka.length = kb.length) (hits : ∀ x ∈ ka, ∃ p : Addr × Value, (x.1, p) ∈ kb ∧ SeqAt.EqAt A.in1 s x.2.2 p.2 true) (h : Q (.bool true) s) :
    wpAny (model prog w) A (compareOp .Eq (.ref a) (.ref b)) Q E s := by
  refine wpAny_richCompare_same_room (op := .Eq) da.typeIs db.typeIs PySem.F.slot_dict_eq (wpAny_call_entry PySem.F.slot_dict_eq da.typeIs PySem.F.entry_dict_eq ?_ (PySem.F.args_dict_eq_2 _ _)) hu
  show wpAny _ _ (Builtin.Dict.dictSlotArgs "__eq__" ⟨[.ref a, .ref b], []⟩ >>= _) _ _ s
  refine wpAny_bind ?_
  unfold Builtin.Dict.dictSlotArgs
  refine wpAny_bind (wpAny_notOrdered_dict da.typeIs ?_)
  show wpAny _ _ (pure (Value.ref a, Value.ref b)) _ _ s
  refine wpAny_pure ?_
  refine wpAny_bind (wpAny_isInstance (T := "dict") db.typeIs PySem.F.sub_dict_dict ?_)
  simp only [Bool.not_true, Bool.false_eq_true, if_false]
  refine wpAny_bind (wpAny_pure (wpAny_bind (wpAny_pure ?_)))
  refine wpAny_bind (samePairsH ha hb da db hr hlen hits ?_)
  refine wpAny_pure ⟨_, rfl, ?_, ?_⟩
  · exact fun x => nomatch x
  · simpa using h
end
section
variable {X : Cx}
theorem valV_pair {κ : Type} [DecidableEq κ] {k : κ} {v : V} : ∀ {kvs : List (κ × V)}, valV kvs k = some v → (k, v) ∈ kvs
  | [], h => by simp [valV] at h
  | p :: r, h => by
    by_cases c : p.1 = k
    · have h : some p.2 = some v := by rw [← h]; simp [valV, c]
      rw [← c, ← Option.some.inj h]
      exact List.mem_cons_self
    · exact List.mem_cons_of_mem _ (valV_pair (by rw [← h]; simp [valV, c]))
/-- two dicts with tuple keys and flat values that hold the same -/
def AlikeT (H : Hp) (a b : Addr) : Prop := ∃ (ks ls : List (List Key × V)), H a = some (.dT ks) ∧ H b = some (.dT ls) ∧ ks.length = ls.length ∧ ∀ p ∈ ks, valV ls p.1 = some p.2 ∧ flatB p.2 = true
def rEqT (r : Bool) : R2 := fun x y H Q => ∃ a b, x = .ref a ∧ y = .ref b ∧ AlikeT H a b ∧ Q (.bl r) H
theorem kt_hit {H : Hp} {A : Around} {s : Shared} {ls : List (List Key × V)} {xb : List (List Key × Addr × Value)} (rb : KT H ls xb) : ∀ {ks : List (List Key × V)} {xa : List (List Key × Addr × Value)}, KT H ks xa → (∀ p ∈ ks, valV ls p.1 = some p.2 ∧ flatB p.2 = true) →
    ∀ x ∈ xa, ∃ p : Addr × Value, (x.1, p) ∈ xb ∧ SeqAt.EqAt A s x.2.2 p.2 true := by
  have inb : ∀ {ls : List (List Key × V)} {xb : List (List Key × Addr × Value)}, KT H ls xb → ∀ {k : List Key} {v : V}, (k, v) ∈ ls → ∃ c y, (k, c, y) ∈ xb ∧ RelV v y := by
    intro ls xb r
    induction r with
    | nil => intro k v h; cases h
    | @cons p q ps qs h t ih =>
      intro k v hm
      rcases List.mem_cons.mp hm with e | hm
      · subst e
        obtain ⟨q1, q2, q3⟩ := q
        exact ⟨q2, q3, by rw [show q1 = k from h.1.symm]; exact List.mem_cons_self, h.2.2⟩
      · obtain ⟨c, y, h1, h2⟩ := ih hm
        exact ⟨c, y, List.mem_cons_of_mem _ h1, h2⟩
  intro ks xa ra
  induction ra with
  | nil => intro _ x hx; cases hx
  | @cons p q ps qs h t ih =>
    intro hp x hx
    rcases List.mem_cons.mp hx with e | hx
    · subst e
      obtain ⟨e1, e2⟩ := hp p List.mem_cons_self
      obtain ⟨c, y, h1, h2⟩ := inb rb (valV_pair e1)
      exact ⟨(c, y), by rw [← h.1]; exact h1, eqAt_same h.2.2 h2 e2⟩
    · exact ih (fun p' hm => hp p' (List.mem_cons_of_mem _ hm)) x hx
theorem op_neT (hu : X.A.units + 2 < cLine) : OpR X (compareOp .NotEq) (rEqT false) := by
  intro pins s σ H x y v u Q I rx ry h
  obtain ⟨a, b, rfl, rfl, ⟨ks, ls, ea, eb, hlen, hp⟩, q⟩ := h
  obtain rfl : v = Value.ref a := rx
  obtain rfl : u = Value.ref b := ry
  obtain ⟨_, ya, xa, ra, da⟩ := dt_of I.hok ea
  obtain ⟨_, yb, xb, rb, db⟩ := dt_of I.hok eb
  have hl : xa.length = xb.length := by rw [← Paired.length ra, ← Paired.length rb]; exact hlen
  exact eqH_ne ya yb da db (by omega) (tupleKind_room_in1 (by omega)) hl (kt_hit rb ra hp) ⟨.bl false, H, I, rfl, q⟩
theorem op_eqT (hu : X.A.units + 2 < cLine) : OpR X (compareOp .Eq) (rEqT true) := by
  intro pins s σ H x y v u Q I rx ry h
  obtain ⟨a, b, rfl, rfl, ⟨ks, ls, ea, eb, hlen, hp⟩, q⟩ := h
  obtain rfl : v = Value.ref a := rx
  obtain rfl : u = Value.ref b := ry
  obtain ⟨_, ya, xa, ra, da⟩ := dt_of I.hok ea
  obtain ⟨_, yb, xb, rb, db⟩ := dt_of I.hok eb
  have hl : xa.length = xb.length := by rw [← Paired.length ra, ← Paired.length rb]; exact hlen
  exact eqH_eq ya yb da db (by omega) (tupleKind_room_in1 (by omega)) hl (kt_hit rb ra hp) ⟨.bl true, H, I, rfl, q⟩
end
end So

namespace So
open PySem PySem.Spec PyProof.Rows L2
/-! a list turned about, inside a block -/
theorem pe_revLK {X : Cx} {K : PySem.W.Frag} {e : Expr} {te : TE} {k : Nat} {p1 p2 p3 pos : Pos} (h : X.K = K) (he : PE X e te) : PE X (.Subscript e (.Slice none none (some (.UnaryOp .USub (.Constant (.int 1) k p1) p2)) p3) pos) (tRevL K te) := by
  subst h
  exact pe_revL he
end So

/-! a part of an expression walked by itself: what follows it is said once -/
namespace So
open PySem PySem.Spec PyProof.Rows L2
theorem pe_cut {X : Cx} {e : Expr} {t : TE} (h : PE X e t) : PE X e (fun σ H Q => ∃ Q0 : VK, t σ H Q0 ∧ ∀ v H', Q0 v H' → Q v H') :=
  ⟨fun pins s σ H Q I ⟨Q0, h1, h2⟩ => thn (h.run pins s σ H Q0 I h1) fun u s' ⟨v, H', I', r, q⟩ => ⟨v, H', I', r, h2 v H' q⟩⟩
end So

/-! list(range(a, b)) where the ints are beyond a machine word -/
namespace So
open PySem
section
variable {P : Program} {w : World} {A : Around} {E : Value → Shared → Prop} {s : Shared}
/-- the list at S grown by a great range -/
theorem ext_long {R : Result → Shared → Prop} {r S : Addr} {a b c : Int} {t u v : Tok} {n k0 : Nat} {z : Value} (hh : A.handled = none) (hr : IsRange s.heap r a b c t u v) (big : Builtin.Range.small a b c = false) (hn : Builtin.Range.rangeSize a b c = n) (hl : n ≤ 2 ^ 24)
    (hS : s.heap.get? S = some { cls := .type "list", data := .seq #[] k0 })
    (hR : ∀ h' tk acc k, (∀ y o, y ≠ S → s.heap.get? y = some o → h'.get? y = some o) → h'.get? S = some { cls := .type "list", dict := none, data := .seq acc k, slots := #[] } → ItemsOf (fun i x => ∃ t, x = .int (a + i * c) t) acc n → R (.ok (.ret z)) { s with heap := h', toks := tk }) :
    wpAny (model P w) A.in1 (Builtin.List.listExtendWith (.ref S) (.ref r) z) (fun fin s' => match fin with | .done f => R (.ok f) s' | .again d => d.quiet = true ∧ codeAny (model P w) A d R s') (fun e s' => R (.error e) s') s := by
  have ne : S ≠ r := fun e => by
    rw [e, hr] at hS
    simp at hS
  have lt : S < s.heap.objs.size := Heap.lt_size hS
  have nI : S ≠ s.heap.objs.size := Nat.ne_of_lt lt
  have nf : S ∉ [s.heap.objs.size] := fun hm => nI (List.mem_singleton.mp hm)
  have W := (Walks.longrange (prog := P) (w := w) (A := A.in1) hh s.heap.objs.size a c n).toS
  have go : ∀ (h : Heap) (k1 tk : Nat), IsLongIter h s.heap.objs.size (a + ((0 : Nat) : Int) * c) ((n : Int) - ((0 : Nat) : Int)) c → (∀ y o, y ≠ S → s.heap.get? y = some o → h.get? y = some o) →
      h.get? S = some { cls := .type "list", data := .seq #[] k1 } → codeAny (model P w) A (.builtin "list.extend.loop" ⟨[.ref S, .ref s.heap.objs.size, z], []⟩) R { s with heap := h, toks := tk } := by
    intro h k1 tk it hk h1
    refine codeAny_extend_loopS W (by rw [sizeLine_eq]; omega) S nf z n 0 _ #[] k1 rfl (Nat.zero_le _) it h1 (ItemsOf.nil _) fun s2 acc k mv h2 its => ?_
    rw [Moved.eq_with mv]
    refine hR s2.heap s2.toks acc k (fun y o hy e => mv.heap y o (fun m => ?_) (hk y o hy e)) h2 its
    rcases List.mem_cons.mp m with e2 | m
    · exact hy e2
    · rw [List.mem_singleton.mp m] at e
      exact absurd (Heap.lt_size e) (Nat.lt_irrefl _)
  unfold Builtin.List.listExtendWith
  refine wpAny_bind (wpAny_typeOf (T := "range") ⟨_, hr, rfl⟩ ?_)
  have e1 : Builtin.List.listSameRef (.ref S) (.ref r) = false := by simp [Builtin.List.listSameRef, ne]
  have e2 : (Value.type "range" == .type "list") = false := by decide
  have e3 : (Value.type "range" == .type "tuple") = false := by decide
  simp only [e1, e2, e3, Bool.or_false, Bool.false_eq_true, if_false]
  refine wpAny_bind (wpAny_pyIter_longrange hr big ?_)
  refine wpAny_bind (wpAny_holding (wpAny_hint_range (n := n) (Heap.get?_push_of_some _ hr) hn hl ?_))
  have it1 : IsLongIter (s.heap.push { cls := .type "longrange_iterator", data := .fields #[rawInt a, rawInt (Builtin.Range.rangeSize a b c), rawInt c] }) s.heap.objs.size (a + ((0 : Nat) : Int) * c) ((n : Int) - ((0 : Nat) : Int)) c := by
    show IsLongIter _ _ _ _ _
    rw [hn]
    simpa using Heap.get?_push_size _ rfl
  have k1 := Heap.get?_push_of_some { cls := .type "longrange_iterator", data := .fields #[rawInt a, rawInt (Builtin.Range.rangeSize a b c), rawInt c] } hS
  refine wpAny_ite_split (fun _ => ?_) fun _ => wpAny_pure ⟨plainId_quiet F.plain_extend_loop _, go _ k0 _ it1 (fun y o _ e => Heap.get?_push_of_some _ e) k1⟩
  refine wpAny_bind (wpAny_rule (wpAny_bind ?_))
  show wpAny _ _ (updateSeq S (·.push .none) >>= fun _ => updateSeq S (·.pop)) _ _ _
  refine wpAny_bind (wpAny_updateSeq k1 rfl ?_)
  have k2 := Heap.get?_update_self (Obj.mapSeq (·.push Value.none)) k1 rfl
  refine wpAny_updateSeq (hz := by seq_fits) k2 rfl ?_
  have k3 := Heap.get?_update_self (Obj.mapSeq (·.pop)) k2 rfl
  refine wpAny_pure ⟨plainId_quiet F.plain_extend_loop _, go _ _ _ ?_ (fun y o hy e => ?_) k3⟩
  · exact (Heap.get?_update_other _ _ nI).trans ((Heap.get?_update_other _ _ nI).trans it1)
  · exact (Heap.get?_update_other _ _ (Ne.symm hy)).trans ((Heap.get?_update_other _ _ (Ne.symm hy)).trans (Heap.get?_push_of_some _ e))
/-- list(a great range) -/
theorem list_long {Q : Value → Shared → Prop} {r : Addr} {a b c : Int} {t u v : Tok} {n : Nat} (hh : A.handled = none) (hr : IsRange s.heap r a b c t u v) (big : Builtin.Range.small a b c = false) (hn : Builtin.Range.rangeSize a b c = n) (hl : n ≤ 2 ^ 24)
    (hQ : ∀ h' tk acc k, (∀ y o, s.heap.get? y = some o → h'.get? y = some o) → h'.get? s.heap.objs.size = some { cls := .type "list", dict := none, data := .seq acc k, slots := #[] } → ItemsOf (fun i x => ∃ t, x = .int (a + i * c) t) acc n → Q (.ref s.heap.objs.size) { s with heap := h', toks := tk }) :
    wpAny (model P w) A (call (.type "list") [.ref r]) Q E s := by
  refine callType_codes (Q₁ := fun x s1 => x = .ref s.heap.objs.size ∧ s1 = { s with heap := s.heap.push { cls := .type "list", data := .seq #[] } }) F.called_list (F.typeCall_list_1 _) F.entry_list_init (code_list_new _ ⟨rfl, rfl⟩) fun x s1 h1 => ?_
  obtain ⟨rfl, rfl⟩ := h1
  have k1 : (s.heap.push { cls := .type "list", data := .seq #[] }).get? s.heap.objs.size = some { cls := .type "list", data := .seq #[] } := Heap.get?_push_size _ rfl
  have hr1 : IsRange (s.heap.push { cls := .type "list", data := .seq #[] }) r a b c t u v := Heap.get?_push_of_some _ hr
  refine ⟨⟨_, k1, rfl⟩, F.args_list_init_2 _ _, ?_⟩
  have ne : s.heap.objs.size ≠ r := fun e => absurd (Heap.lt_size hr) (by rw [e]; exact Nat.lt_irrefl _)
  show wpAny _ _ (do let old ← Builtin.List.listItems (.ref s.heap.objs.size); Builtin.List.listUpdate (.ref s.heap.objs.size) (fun _ => #[]); letGo old.toList.reverse; Builtin.List.listExtendWith (.ref s.heap.objs.size) (.ref r) .none) _ _ _
  refine wpAny_bind ?_
  unfold Builtin.List.listItems
  refine wpAny_bind (wpAny_seqItems k1 rfl (wpAny_pure ?_))
  show wpAny _ _ (updateSeq s.heap.objs.size (fun _ => #[]) >>= fun _ => letGo (#[] : Array Value).toList.reverse >>= fun _ => Builtin.List.listExtendWith (.ref s.heap.objs.size) (.ref r) .none) _ _ _
  refine wpAny_bind (wpAny_updateSeq k1 rfl ?_)
  have k2 := Heap.get?_update_self (Obj.mapSeq (fun _ => (#[] : Array Value))) k1 rfl
  have oth : ∀ y o, y ≠ s.heap.objs.size → (s.heap.push { cls := .type "list", data := .seq #[] }).get? y = some o → ((s.heap.push { cls := .type "list", data := .seq #[] }).update s.heap.objs.size (Obj.mapSeq (fun _ => (#[] : Array Value)))).get? y = some o :=
    fun y o hy e => (Heap.get?_update_other _ _ (Ne.symm hy)).trans e
  refine wpAny_bind (wpAny_letGo ?_)
  refine ext_long hh (oth r _ (Ne.symm ne) hr1) big hn hl k2 fun h' tk acc k hk h2 its => ?_
  exact ⟨rfl, hQ h' tk acc k (fun y o e => hk y o (Nat.ne_of_lt (Heap.lt_size e)) (oth y o (Nat.ne_of_lt (Heap.lt_size e)) (Heap.get?_push_of_some _ e))) h2 its⟩
end
end So

/-! range(a, b) of ints of any size: walked by for and by a comprehension, list of it -/
namespace So
open PySem PySem.Spec PyProof.Rows L2
theorem turn_long {P : Program} {w : World} {K : PySem.W.Frag} {tg : Expr} (it : Addr) (lo : Int) (n : Nat) : Turn P w K tg (Itr lo n) [it] it (fun i h => IsLongIter h it (lo + (i : Nat) * 1) ((n : Int) - (i : Nat)) 1) where
  mem := by simp
  obj := fun i h st b hb => by
    obtain rfl : b = it := by simpa using hb
    exact ⟨_, st, fun v z => by cases (show Data.fields _ = Data.cell v from z)⟩
  keep := fun i h h' st k => k it (by simp) _ st
  item := by
    intro X hP hw hK hc i pins s σ H E I hf st hg
    subst hP hw hK
    obtain ⟨f0, f1, f2, f3, f4, f5⟩ := hf it (by simp)
    refine (Walks.longrange (prog := X.prog) (w := X.w) (I.ok.hd hc) it lo 1 n).item i s _ _ hg st fun v h' tk hv st2 kk => ?_
    obtain ⟨t, rfl⟩ := hv
    have I1 : Inv X pins σ H { s with heap := h', toks := tk } := I.turned (fun b o hb e => kk b o (by simpa using hb) e) f0 f1 f3 f4 f5
    exact ⟨_, rfl, go_of (s := { s with heap := h', toks := tk }) (n := "longrange_iterator") st2 rfl rfl (by decide) ⟨.int (lo + i), H, I1, ⟨t, by rw [Int.mul_one]⟩, ⟨rfl, rfl⟩, st2, fun b hb => (hf b hb).1⟩⟩
  done := by
    intro X hP hw hK hc i pins s σ H E I hf st hg
    subst hP hw hK
    obtain ⟨f0, f1, f2, f3, f4, f5⟩ := hf it (by simp)
    have hi : n ≤ i := hg
    exact wpAny_pyNext_long_end (I.ok.hd hc) st (by omega) fun h' eb => ⟨rfl, I.turned (t' := s.toks) (fun b o hb e => eb b o hb e) f0 f1 f3 f4 f5⟩
  self := fun _ _ _ _ _ st h => wpAny_pyIter_longiter st h
section
variable {X : Cx} {tg e : Expr} {te : L2.St → Hp → (Int → Int → Hp → Prop) → Prop}
/-- what a for over range(a, b) asks -/
def iRgW (te : L2.St → Hp → (Int → Int → Hp → Prop) → Prop) : TI := fun σ H R => te σ H fun a b H1 => R (Itr a (b - a).toNat) H1
theorem pi_rgW (he : PRg X e te) : PI X tg e (iRgW te) := by
  refine ⟨fun pins s σ H R I h => ?_⟩
  refine thn (he pins s σ H _ I h) fun x s1 ⟨r, a, b, t, u, v, H1, ex, hr, I1, q⟩ => ?_
  subst ex
  have e1 : a + ((0 : Nat) : Int) * 1 = a := by simp
  have e2 : (((b - a).toNat : Nat) : Int) - ((0 : Nat) : Int) = Builtin.Range.rangeSize a b 1 := by rw [rangeSize_nat]; simp
  have fp : ∀ (h' : Heap), h' = s1.heap → ∀ y ∈ [h'.objs.size], FpOk X pins H1 y := fun h' eh y hy => by
    rw [List.mem_singleton.mp hy, eh]
    exact I1.fpOk (Nat.le_refl _) (I1.hok.fresh (Nat.le_refl _))
  cases sm : Builtin.Range.small a b 1 with
  | true =>
    refine wpAny_pyIter_range hr sm ⟨s1.heap.objs.size, [s1.heap.objs.size], _, _, H1, rfl, I1.kept (t' := s1.toks) fun y o e => Heap.get?_push_of_some _ e, turn_range _ a (b - a).toNat, ?_, fp _ rfl, q⟩
    show IsRangeIter _ _ (a + ((0 : Nat) : Int) * 1) ((((b - a).toNat : Nat) : Int) - ((0 : Nat) : Int)) 1
    rw [e1, e2]
    exact Heap.get?_push_size _ rfl
  | false =>
    refine wpAny_pyIter_longrange hr sm ⟨s1.heap.objs.size, [s1.heap.objs.size], _, _, H1, rfl, I1.kept (t' := s1.toks) fun y o e => Heap.get?_push_of_some _ e, turn_long _ a (b - a).toNat, ?_, fp _ rfl, q⟩
    show IsLongIter _ _ (a + ((0 : Nat) : Int) * 1) ((((b - a).toNat : Nat) : Int) - ((0 : Nat) : Int)) 1
    rw [e1, e2]
    exact Heap.get?_push_size _ rfl
/-- list(range(a, b)) -/
def tLstRgW (te : L2.St → Hp → (Int → Int → Hp → Prop) → Prop) : TE := fun σ H Q => te σ H fun a b H1 => (b - a).toNat ≤ 2 ^ 24 ∧ ∀ q, H1 q = none → Q (.ref q) (upd H1 q (.lst (rgV a b)))
theorem pe_listRgW {p pos : Pos} (hc : X.calm = true) (hg : Gl X "list") (hm : X.mg "list" = none) (he : PRg X e te) (na : starEach [e] X.env = (false, eval e X.env) :: starEach [] X.env := by rfl) : PE X (.Call (.Name "list" p) [e] [] pos) (tLstRgW te) := by
  refine ⟨fun pins s σ H Q I h => ?_⟩
  refine Call_ (ld_blt I hg hm boot_list (PyProof.Rows.callWith_type1 (args_cons (thn (he pins s σ H _ I h) fun x s1 ⟨r, a, b, t, u, v, H1, ex, hr, I1, ok, q⟩ => args_nil ?_) na) na))
  subst ex
  have fin : ∀ h' tk acc k, (∀ y o, s1.heap.get? y = some o → h'.get? y = some o) → h'.get? s1.heap.objs.size = some { cls := .type "list", dict := none, data := .seq acc k, slots := #[] } → ItemsOf (fun i x => ∃ t, x = .int (a + i * 1) t) acc (b - a).toNat →
      EP X pins σ Q (.ref s1.heap.objs.size) { s1 with heap := h', toks := tk } := fun h' tk acc k hk e' hi => by
    refine ⟨.ref s1.heap.objs.size, upd H1 s1.heap.objs.size (.lst (rgV a b)), I1.laid hk (Nat.le_refl _) (show ObjOk X.prog X.w _ _ _ (.lst (rgV a b)) from ⟨?_, acc.toList, k, vals_rg hi, ?_⟩), rfl, q _ (I1.hok.fresh (Nat.le_refl _))⟩
    · rw [rgV_length, sizeLine_eq]
      omega
    · rw [Array.toArray_toList]
      exact e'
  cases sm : Builtin.Range.small a b 1 with
  | true => exact call_list_range (n := (b - a).toNat) (I1.ok.hd hc) hr sm (rangeSize_nat a b) ok fin
  | false => exact list_long (n := (b - a).toNat) (I1.ok.hd hc) hr sm (rangeSize_nat a b) ok fin
end
end So

namespace K08
open PySem PySem.Spec PyProof.Rows L2 So LamX
abbrev sLaw : Stmt := topS 34
abbrev lawN : List Str := ["_law_script", "_law_pen_here", "_law_turn", "_law_starts", "_law_handed", "_law_tool", "_law_lives", "_law_twin", "_law_other", "_law_more", "_law_word", "_law_k"]
theorem scLaw : FnScope lawN ["_law_script"] (defScope sLaw) := ⟨rfl, rfl, rfl, by decide +kernel, rfl, by decide +kernel, by decide +kernel⟩
theorem tabs_offG {T : List (Addr × Str)} {H H' : Hp} {p : Addr} {o : HO} (hp : H p = some o) (ht : ∀ ps, o ≠ .tbl ps) (hc : ∀ c x, o ≠ CodeO c x) (t : Tabs T H) (f : Off p H H') : Tabs T H' := by
  intro y hy
  obtain ⟨ps, h1, h2, h3⟩ := t y hy
  refine ⟨ps, f _ _ (fun z => ?_) h1, h2, fun pos cv hcv => ?_⟩
  · rw [z, hp] at h1
    exact ht ps (Option.some.inj h1)
  · obtain ⟨c, e1, e2⟩ := h3 pos cv hcv
    refine ⟨c, e1, f _ _ (fun z => ?_) e2⟩
    rw [z, hp] at e2
    exact hc _ _ (Option.some.inj e2)
theorem off_upd {H : Hp} {c : Addr} {o : HO} : Off c H (upd H c o) := fun b u n e => (upd_ne n).trans e
/-- what stands while the law walks: all that stood when the beginnings were drawn, but for the pen and the tables -/
structure Inv0 (T : List (Addr × Str)) (p l : Addr) (cc : List Int) (b : Nat) (H0 H : Hp) : Prop where
  off : OffN p H0 H
  pen : ∃ n g, n ≤ b ∧ Pen H p l cc n g
  tabs : Tabs T H
theorem Inv0.same {T : List (Addr × Str)} {p l : Addr} {cc : List Int} {b : Nat} {H0 H H' : Hp} (h : Inv0 T p l cc b H0 H) (s : Same H H') : Inv0 T p l cc b H0 H' := by
  obtain ⟨h1, ⟨n, g, h2, h3⟩, h4⟩ := h
  exact ⟨h1.trans (OffN.same s), ⟨n, g, h2, h3.sm s⟩, h4.ext s⟩
/-- a thing that was not there is changed -/
theorem Inv0.upd {T : List (Addr × Str)} {p l c : Addr} {cc : List Int} {b : Nat} {H0 H : Hp} {o o' : HO} (h : Inv0 T p l cc b H0 H) (hp : ∃ n g, Pen H0 p l cc n g) (hc : New H0 c) (ho : H c = some o) (ht : ∀ ps, o ≠ .tbl ps) (hcd : ∀ c x, o ≠ CodeO c x) : Inv0 T p l cc b H0 (L2.upd H c o') := by
  obtain ⟨h1, ⟨n, g, h2, h3⟩, h4⟩ := h
  obtain ⟨n0, g0, hp⟩ := hp
  have n1 : c ≠ p := hc.ne hp.pen lst_ne
  have n2 : c ≠ l := hc.ne hp.cells lst_ne
  exact ⟨fun d u nd e t => (upd_ne (hc.ne e t).symm).trans (h1 d u nd e t), ⟨n, g, h2, h3.up n1 n2⟩, tabs_offG ho ht hcd h4 off_upd⟩
def kOne {α : Type} : List α → List α → List α
  | [u], [b] => [u, b]
  | _, _ => []
structure LivX (P : Program) (w : World) (K : PySem.W.Frag) (mg : Str → Option Value) (base : Heap) (C fI : Addr) (fdI : FuncData) (fE : Addr) (fdE : FuncData) : Prop where
  M : Mk K C fI
  b : Binds K fdI ["self", "begun"] []
  kb : KBn K fdI ["self", "begun"] 1 ["begun"] kOne kOne
  G : FnOk P w K mg base CX0 5 fI fdI ["self", "begun"] (spLInitF K C)
  sE : PySem.W.findIn K (.ref C) "__eq__" = some (some (.ref fE))
  iE : PySem.W.isFn K (.ref fE) = true
  bE : Binds K fdE ["self", "other"] []
  GE : FnOk P w K mg base CX0 2 fE fdE ["self", "other"] (spLEq C)
  I : LvsI K C
  nf : PySem.W.notFirst K C (.ref C) = true
structure WordsQ (mg : Str → Option Value) : Prop where
  R : WordsR mg
  rng : mg "range" = none
  isi : mg "isinstance" = none
  dct : mg "dict" = none
  str : mg "str" = none
section
variable {P : Program} {w : World} {K : PySem.W.Frag} {mg : Str → Option Value} {base : Heap}
def spLaw (K : PySem.W.Frag) (T : List (Addr × Str)) : Sp := fun vs H Q _ => ∃ (a : Addr) (ns : List Int), vs = [.ref a] ∧ SqL K H a (ns.map V.int) ∧ Tabs T H ∧ ∀ H', Q (.bl true) H'
theorem ok_law {T : List (Addr × Str)} {C CT' f pT fT pL fL fB fN fb fI fE fPen fBe fD fR fF : Addr} {fd fdT fdL fdB fdN fdb fdI fdE fdPen fdBe fdD fdR fdF : FuncData} (F : Fun K "law" "law" sLaw f fd)
    (LV : LivR P w K mg base C CT' pT fT fdT pL fL fdL fB fdB fN fdN fb fdb) (LX : LivX P w K mg base C fI fdI fE fdE) (N : WordsQ mg)
    (FPen : Fun K "_law_pen" "_law_pen" sPen fPen fdPen) (bPen : Binds K fdPen ["_law_script"] []) (gPen : mg "_law_pen" = some (.ref fPen)) (GPen : FnOk P w K mg base CX0 1 fPen fdPen ["_law_script"] (spPen K))
    (FBe : Fun K "_law_begun" "_law_begun" sBegun fBe fdBe) (bBe : Binds K fdBe ["_law_pen_here"] []) (gBe : mg "_law_begun" = some (.ref fBe)) (GBe : FnOk P w K mg base CX0 4 fBe fdBe ["_law_pen_here"] spBegun)
    (FD : Fun K "_law_draw" "_law_draw" sDraw fD fdD) (bD : Binds K fdD ["_law_pen_here", "_law_many"] []) (gD : mg "_law_draw" = some (.ref fD)) (GD : FnOk P w K mg base CX0 1 fD fdD ["_law_pen_here", "_law_many"] spDraw)
    (FR : Fun K "_law_right" "_law_right" sRight fR fdR) (bR : Binds K fdR ["_law_pen_here", "_law_lives", "_law_starts"] []) (gR : mg "_law_right" = some (.ref fR)) (GR : FnG P w K mg base CX0 10 fR fdR ["_law_pen_here", "_law_lives", "_law_starts"] (spRight C T))
    (FF : Fun K "_law_fresh" "_law_fresh" sFresh fF fdF) (bF : Binds K fdF ["_law_some"] []) (gF : mg "_law_fresh" = some (.ref fF)) (GF : FnOk P w K mg base CX0 1 fF fdF ["_law_some"] spFresh) :
    FnG P w K mg base CX0 12 f fd ["_law_script"] (spLaw K T) := by
  refine fnG_of F scLaw (fun vs H Q E h => ?_) (fun cdv A outer s H vs Q E hg hr h => ?_)
  · obtain ⟨a, ns, rfl, _⟩ := h
    rfl
  · obtain ⟨a0, sns, rfl, hS0, hT, q⟩ := h
    have hr1 : Room 1 _ := hr.mono (by decide)
    have hr2 : Room 2 _ := hr.mono (by decide)
    have hr3 : Room 3 _ := hr.mono (by decide)
    have hr4 : Room 4 _ := hr.mono (by decide)
    have hr6 : Room 6 _ := hr.mono (by decide)
    have hr10 : Room 10 _ := hr.mono (by decide)
    have hss := sizeLine_eq
    refine ⟨_, (pss_cons (ps_set (i := 1) scLaw.nd rfl (.inl rfl) (pe_call GPen hr1 (by rfl) gPen FPen.kp bPen .nil pass0 (pa_cons (pv 0) pa_nil)))
      (pss_cons (ps_for PassesOwn.never rfl (pi_range1 (by rfl) N.rng (pa_cons pe_int pa_nil)) (pg_name (i := 2) scLaw.nd rfl (Or.inl rfl))
        (pss_cons (ps_set (i := 3) scLaw.nd rfl (.inr rfl) (pe_call GBe hr4 (by rfl) gBe FBe.kp bBe .nil pass0 (pa_cons (pv 1) pa_nil)))
        (pss_cons (ps_set (i := 4) scLaw.nd rfl (.inl rfl) pe_dnewK)
        (pss_cons (ps_cut (ps_lock (ps_for PassesOwn.never rfl (pi_keys (pv 3)) (pg_name (i := 5) scLaw.nd rfl (Or.inl rfl))
          (pss_one (ps_dput (hu_of hr) (pv 4) (pv 5) (pe_cut (pe_ifExp (pt_cmpR op_eq (pe_call GD hr1 (by rfl) gD FD.kp bD .nil pass0 (pa_cons (pv 1) (pa_cons pe_int pa_nil))) pe_int (nomark _))
            (pe_callTy call_tuple_of (by rfl) N.R.tup (by decide +kernel) (pa_cons (pe_dget (hu_of hr) (pv 3) (pv 5) (fun _ _ => rfl)) pa_nil)) (pe_callTy call_list_of (by rfl) N.R.lst (by decide +kernel) (pa_cons (pe_dget (hu_of hr) (pv 3) (pv 5) (fun _ _ => rfl)) pa_nil)))) rfl)))))
        (pss_cons (ps_cut (ps_par (i := 6) (j := 7) rfl scLaw.nd rfl rfl (by decide) rfl rfl (pa_cons (pe_make LX.M LX.G hr6 (by rfl) LV.T.mgC LX.b .nil pass0 (pa_cons (pv 4) pa_nil)) (pa_cons (pe_makeK0 LX.M LX.G hr6 (by rfl) LV.T.mgC LX.kb pass0 (pk_cons (pe_cut (pe_callTy (call_dictP rfl) (by rfl) N.dct (by decide +kernel) (pa_cons (pe_lc (own := [("_law_tool", 5)]) (g := gName 5) (tt := tYes) rfl scLaw.nd (pi_list (pe_revL (pe_callTy (call_listD rfl) (by rfl) N.R.lst (by decide +kernel) (pa_cons (pv 3) pa_nil))))
            (blkOk_by (N := lawN) (sc := defScope sLaw) (by decide +kernel)) (fun _ _ _ _ _ => pg_name (i := 5) scLaw.nd rfl (Or.inl rfl)) (fun _ _ _ _ _ => pts_nil) (fun _ _ _ _ _ => pe_tup (pa_cons (pv 5) (pa_cons (pe_revLK (K := K) rfl (pe_dget (hu_of hr) (pv 3) (pv 5) (fun _ _ => rfl))) pa_nil)))) pa_nil))) pk_nil)) pa_nil)) (by rfl)))
        (pss_cons (ps_cut (ps_if (PW.pt (pw_or (pt_not (pt_val (pe_callG GR hg hr10 (by rfl) gR FR.kp bR .nil pass0 (pa_cons (pv 1) (pa_cons (pv 6) (pa_cons (pv 3) pa_nil)))))) (pw_or1 (pt_not (pt_cmpR (op_eqOwn LX.GE LX.sE LX.iE LX.bE pass0 hr2) (pv 6) (pv 7) (nomark _)))))) pss_dead pss_nil))
        (pss_cons (ps_cut (ps_lock (ps_for PassesOwn.never rfl (pi_keys (pv 4)) (pg_name (i := 5) scLaw.nd rfl (Or.inl rfl))
          (pss_one (ps_if (pt_val (pe_callB call_isi (by rfl) N.isi (by decide +kernel) (pa_cons (pe_dget (hu_of hr) (pv 4) (pv 5) (fun _ _ => rfl)) (pa_cons (pe_bltn (v := .ty "list") (by rfl) N.R.lst (by decide +kernel) rfl) pa_nil)))) (pss_one (ps_expr (pe_bm PySem.F.plainAttrs_list PySem.F.slot_list_append PySem.F.type_list_append mt_append (pe_dget (hu_of hr) (pv 4) (pv 5) (fun _ _ => rfl)) (pa_cons pe_int pa_nil)))) pss_nil)))))
        (pss_cons (ps_cut (ps_dput (hu_of hr) (pv 4) pe_str (pe_lst (pa_cons pe_int pa_nil)) rfl))
        (pss_cons (ps_cut (ps_if (PW.pt (pw_or (pt_not (pt_val (pe_callG GR hg hr10 (by rfl) gR FR.kp bR .nil pass0 (pa_cons (pv 1) (pa_cons (pv 6) (pa_cons (pv 3) pa_nil)))))) (pw_or (pt_cmpR (op_eqOwn LX.GE LX.sE LX.iE LX.bE pass0 hr2) (pv 6) (pe_prop (pv 6) LV.T.cl LV.PL LV.GL hr2 LV.bL .nil pass0 rfl) (nomark _)) (pw_or1 (pt_cmpR (op_eqOwn LX.GE LX.sE LX.iE LX.bE pass0 hr2) (pv 6) (pv 3) (nomark _)))))) pss_dead pss_nil))
        (pss_cons (ps_set (i := 8) scLaw.nd rfl (.inl rfl) (pe_cut (pe_callTy (call_dictP rfl) (by rfl) N.dct (by decide +kernel) (pa_cons (pe_lock (pe_lc (own := [("_law_tool", 5)]) (g := gName 5) (tt := tYes) rfl scLaw.nd (pi_keys (pv 3)) (blkOk_by (N := lawN) (sc := defScope sLaw) (by decide +kernel)) (fun _ _ _ _ _ => pg_name (i := 5) scLaw.nd rfl (Or.inl rfl)) (fun _ _ _ _ _ => pts_nil) (fun _ _ _ _ _ => pe_tup (pa_cons (pv 5) (pa_cons (pe_dget (hu_of hr) (pv 3) (pv 5) (fun _ _ => rfl)) pa_nil))))) pa_nil))))
        (pss_cons (ps_cut (ps_dput (hu_of hr) (pv 8) (pe_ix ix_list (pe_lc (own := [("_law_word", 10)]) (g := gName 10) rfl scLaw.nd (pi_list (pe_lc (own := [("_law_k", 11)]) (g := gName 11) (tt := tYes) rfl scLaw.nd (pi_range1 (by rfl) N.rng (pa_cons pe_int pa_nil)) (blkOk_by (N := lawN) (sc := defScope sLaw) (by decide +kernel)) (fun _ _ _ _ _ => pg_name (i := 11) scLaw.nd rfl (Or.inl rfl)) (fun _ _ _ _ _ => pts_nil) (fun _ _ _ _ _ => pe_op op_add_str pe_str (pe_callTy call_str_int (by rfl) N.str (by decide +kernel) (pa_cons (pv 11) pa_nil)))))
            (blkOk_by (N := lawN) (sc := defScope sLaw) (by decide +kernel)) (fun _ _ _ _ _ => pg_name (i := 10) scLaw.nd rfl (Or.inl rfl)) (fun _ _ _ _ _ => pts_one (pt_cmp (pc_dnotin (hu_of hr) (pv 10) (pv 3)))) (fun _ _ _ _ _ => pv 10)) pe_int (fun _ _ => rfl)) (pe_lst pa_nil) rfl))
        (pss_cons (ps_set (i := 9) scLaw.nd rfl (.inl rfl) (pe_cut (pe_callTy (call_dictP rfl) (by rfl) N.dct (by decide +kernel) (pa_cons (pe_lock (pe_lc (own := [("_law_tool", 5)]) (g := gName 5) (tt := tYes) rfl scLaw.nd (pi_keys (pv 3)) (blkOk_by (N := lawN) (sc := defScope sLaw) (by decide +kernel)) (fun _ _ _ _ _ => pg_name (i := 5) scLaw.nd rfl (Or.inl rfl)) (fun _ _ _ _ _ => pts_nil) (fun _ _ _ _ _ => pe_tup (pa_cons (pv 5) (pa_cons (pe_op op_cat (pe_dget (hu_of hr) (pv 3) (pv 5) (fun _ _ => rfl)) (pe_call GF hr1 (by rfl) gF FF.kp bF .nil pass0 (pa_cons (pe_dget (hu_of hr) (pv 3) (pv 5) (fun _ _ => rfl)) pa_nil))) pa_nil))))) pa_nil))))
        (pss_one (ps_if (PW.pt (pw_or (pt_cmpR (op_eqOwn LX.GE LX.sE LX.iE LX.bE pass0 hr2) (pv 6) (pe_make LX.M LX.G hr6 (by rfl) LV.T.mgC LX.b .nil pass0 (pa_cons (pv 8) pa_nil)) (nomark _)) (pw_or1 (PW.pt (pw_and (pt_cmpR (op_neD0 hr.units0) (pv 3) pe_dnewK (nomark _)) (pw_and1 (pt_cmpR (op_eqOwn LX.GE LX.sE LX.iE LX.bE pass0 hr2) (pv 6) (pe_make LX.M LX.G hr6 (by rfl) LV.T.mgC LX.b .nil pass0 (pa_cons (pv 9) pa_nil)) (nomark _)))))))) pss_dead pss_nil))))))))))))))
      (pss_one (ps_ret (pe_and (pe_cmpR op_eq (pe_callB (call_lenO LV.GN LV.sN LV.iN LV.bN pass0 hr4) (by rfl) N.R.len PySem.boot_len (pa_cons (pe_make LX.M LX.G hr6 (by rfl) LV.T.mgC LX.b .nil pass0 (pa_cons pe_dnewK pa_nil)) pa_nil)) pe_int (nomark _)) (pe_one (pe_notO LV.Gb LV.sb LV.ib LV.bb pass0 hr1 (pe_make LX.M LX.G hr6 (by rfl) LV.T.mgC LX.b .nil pass0 (pa_cons pe_dnewK pa_nil))))))))), ?_⟩
    refine ⟨_, rfl, a0, sns, rfl, hS0, fun H1 p l cc s1 pen1 => ?_⟩
    have t1 : Tabs T H1 := hT.ext s1
    refine ⟨5, rfl, by decide, by decide, for_range (lo := 0) (n := 5) (fun i σ H' => ∃ x2 x3 x4 x5 x6 x7 x8 x9 n' g', σ = [some (.ref a0), some (.ref p), x2, x3, x4, x5, x6, x7, x8, x9, none, none] ∧ Pen H' p l cc n' g' ∧ n' ≤ 400 * i ∧ Tabs T H')
      ⟨none, none, none, none, none, none, none, none, 0, 0, rfl, pen1, Nat.le_refl _, t1⟩ ?_ ?_⟩
    case refine_2 =>
      rintro σ H2 ⟨x2, x3, x4, x5, x6, x7, x8, x9, n', g', rfl, _⟩
      intro em hem x dx e1 e2 e3
      have s0 := newS (C := C) e1 e2
      refine ⟨x, dx, em, [], rfl, upd_same, bgl_nil (s0 _ _ upd_same), lok_nil, fun H3 dd o3 hdd ls3 => ⟨rfl, ?_⟩⟩
      dsimp only [tNil, List.append_nil, List.cons_append, List.nil_append]
      obtain ⟨dxx, kvx, hix, _, _⟩ := id ls3
      refine ⟨x, dxx, _, rfl, hix, x, [], rfl, ls3.ls, lok_nil, fun H4 s4 => ⟨0, rfl, by decide, ?_⟩⟩
      refine ⟨rfl, true, rfl, iteT ?_⟩
      clear s0 o3 hdd e1 e2 e3
      intro em2 hem2 x' dx' e1 e2 e3
      have s0 := newS (C := C) e1 e2
      refine ⟨x', dx', em2, [], rfl, upd_same, bgl_nil (s0 _ _ upd_same), lok_nil, fun H5 dd5 o5 hdd5 ls5 => ⟨rfl, ?_⟩⟩
      obtain ⟨dxy, kvy, hiy, _, _⟩ := id ls5
      exact ⟨x', dxy, _, rfl, hiy, x', [], rfl, ls5.ls, _, rfl, q _⟩
    rintro i σ H2 hi ⟨x2, x3, x4, x5, x6, x7, x8, x9, n2, g2, rfl, pen2, hn2, t2⟩
    -- the beginnings
    refine ⟨_, rfl, p, l, cc, n2, g2, rfl, pen2, by omega, fun S d n3 g3 H3 hS hst hn3 off3 pen3 => ?_⟩
    have t3 := tabs_off pen2.pen t2 off3
    clear off3
    have i3 : Inv0 T p l cc (n2 + 300) H3 H3 := ⟨OffN.refl, ⟨n3, g3, hn3, pen3⟩, t3⟩
    intro hd hhd
    have pen30 : ∃ n g, Pen H3 p l cc n g := ⟨n3, g3, pen3⟩
    have i4 := i3.same (same_upd0 (o := .dK []) hhd)
    have hh4 : upd H3 hd (.dK []) hd = some (.dK []) := upd_same
    obtain ⟨kvs, hd3, hpr3⟩ := id hst
    have hd4 := same_upd0 (o := .dK []) hhd _ _ hd3
    have nhd : hd ≠ d := fun z => by rw [z, hd3] at hhd; cases hhd
    have ndp : d ≠ p := fun z => by rw [z, pen3.pen] at hd3; cases hd3
    generalize upd H3 hd (.dK []) = H4 at i4 hh4 hd4 ⊢
    have hkl := Paired.length hpr3
    have hfew := hS.few
    -- what is handed over
    refine ⟨fun σ' G => ∃ (y5 : Option V) (kv2 : List (Key × V)), σ' = [some (.ref a0), some (.ref p), some (.int (0 + (i : Nat))), some (.ref d), some (.ref hd), y5, x6, x7, x8, x9, none, none] ∧ Inv0 T p l cc (n2 + 312) H3 G ∧ G hd = some (.dK kv2) ∧ Paired (EnF H3 G) kv2 S, ?_, ?_⟩
    · refine ⟨d, .dK kvs, hd4, trivial, fun od => ?_⟩
      have fz : (L2.upd H4 d (.frz od (.dK kvs))) d = some (.frz od (.dK kvs)) := upd_same
      have fb : L2.upd (L2.upd H4 d (.frz od (.dK kvs))) d (.dK kvs) = H4 := upd_back hd4
      generalize L2.upd H4 d (.frz od (.dK kvs)) = HF at fz fb ⊢
      refine ⟨_, rfl, d, od, rfl, .inl ⟨kvs, fz, ?_⟩⟩
      refine for_it (walk_keys (d := d) (o := od) (kvs := kvs)) (fun k σ G => ∃ (y5 : Option V) (kv2 : List (Key × V)), σ = [some (.ref a0), some (.ref p), some (.int (0 + (i : Nat))), some (.ref d), some (.ref hd), y5, x6, x7, x8, x9, none, none] ∧ G d = some (.frz od (.dK kvs)) ∧ Inv0 T p l cc (n2 + 300 + k) H3 (upd G d (.dK kvs)) ∧ upd G d (.dK kvs) hd = some (.dK kv2) ∧ Paired (EnF H3 (upd G d (.dK kvs))) kv2 (S.take k))
        ⟨x5, [], rfl, fz, by rw [fb]; exact i4, by rw [fb]; exact hh4, .nil⟩ (fun _ _ _ _ ⟨_, _, _, o, _⟩ => o) ?_ ?_
      case refine_2 =>
        rintro σ G ⟨y5, kv2, rfl, hf, iU, hU, pU⟩
        rw [hkl, List.take_length] at pU
        refine ⟨hf, y5, kv2, rfl, ⟨iU.off, ?_, iU.tabs⟩, hU, pU⟩
        obtain ⟨n, g, h1, h2⟩ := iU.pen
        exact ⟨n, g, by omega, h2⟩
      rintro k x σ G' G hk ⟨y5, kv2, rfl, hf, iU, hU, pU⟩ ⟨rfl, k0, v0, hkv, rfl⟩
      have hk12 : k < 12 := by omega
      obtain ⟨⟨z, ms⟩, hz, hEn⟩ := L2.paired_get hpr3 hkv
      obtain rfl : k0 = Sum.inr z := hEn.1
      clear hEn
      have hzS : (z, ms) ∈ S := List.mem_of_getElem? hz
      have hml : ms.length ≤ 6 := hS.len _ hzS
      obtain ⟨l0, hv0, hl0⟩ := en_get hpr3 (lookup_mem hS.nd hzS)
      have nl0p : l0 ≠ p := fun y => by
        rw [y, pen3.pen] at hl0
        exact ints_ne (Option.some.inj hl0).symm
      have nl0d : l0 ≠ d := fun y => by rw [y, hd3] at hl0; cases hl0
      obtain ⟨n, g, hn, penU⟩ := iU.pen
      have nld : l ≠ d := fun y => by
        have h1 := penU.cells
        rw [y, upd_same] at h1
        cases h1
      have penG : Pen G p l cc n g := ⟨(upd_ne ndp.symm).symm.trans penU.pen, (upd_ne nld).symm.trans penU.cells, penU.left⟩
      refine ⟨fun v G2 => ∃ nl : Addr, v = .ref nl ∧ G2 d = some (.frz od (.dK kvs)) ∧ Inv0 T p l cc (n2 + 300 + (k + 1)) H3 (upd G2 d (.dK kvs)) ∧ upd G2 d (.dK kvs) hd = some (.dK kv2) ∧ Paired (EnF H3 (upd G2 d (.dK kvs))) kv2 (S.take k) ∧ New H3 nl ∧ (upd G2 d (.dK kvs) nl = some (.lst (ms.map V.int)) ∨ upd G2 d (.dK kvs) nl = some (.tup (ms.map V.int))), ?_, ?_⟩
      · refine ⟨_, rfl, p, l, cc, n, g, _, rfl, penG, by omega, by decide, by decide, fun dr n4 g4 G2 d0 d1 hn4 off4 pen4 => ?_⟩
        have offU : Off p (upd G d (.dK kvs)) (upd G2 d (.dK kvs)) := off_both off4
        have penU2 : Pen (upd G2 d (.dK kvs)) p l cc n4 g4 := pen4.up ndp nld.symm
        have i2 : Inv0 T p l cc (n2 + 300 + (k + 1)) H3 (upd G2 d (.dK kvs)) := ⟨iU.off.trans (OffN.off offU), ⟨n4, g4, by omega, penU2⟩, tabs_off penU.pen iU.tabs offU⟩
        have fz2 := off4 _ _ ndp hf
        have nhp : hd ≠ p := fun y => by rw [y, pen3.pen] at hhd; cases hhd
        have hU2 := offU _ _ nhp hU
        have nFp : ∀ {c : Addr}, New H3 c → c ≠ p := fun hc => hc.ne pen3.pen lst_ne
        have pU2 : Paired (EnF H3 (upd G2 d (.dK kvs))) kv2 (S.take k) := L2.Paired.mapP pU fun kv q e => by
          obtain ⟨e1, c, e2, e3, e4⟩ := e
          exact ⟨e1, c, e2, e3, e4.imp (offU _ _ (nFp e3)) (offU _ _ (nFp e3))⟩
        have hl2 : G2 l0 = some (.lst (ms.map V.int)) := by
          have h1 := i2.off _ _ nl0p hl0 lst_ne
          rwa [upd_ne nl0d] at h1
        have fin : ∀ (nl : Addr) (o : HO), G2 nl = none → (o = .lst (ms.map V.int) ∨ o = .tup (ms.map V.int)) → ∃ nl' : Addr, V.ref nl = .ref nl' ∧ upd G2 nl o d = some (.frz od (.dK kvs)) ∧ Inv0 T p l cc (n2 + 300 + (k + 1)) H3 (upd (upd G2 nl o) d (.dK kvs)) ∧ upd (upd G2 nl o) d (.dK kvs) hd = some (.dK kv2) ∧ Paired (EnF H3 (upd (upd G2 nl o) d (.dK kvs))) kv2 (S.take k) ∧ New H3 nl' ∧ (upd (upd G2 nl o) d (.dK kvs) nl' = some (.lst (ms.map V.int)) ∨ upd (upd G2 nl o) d (.dK kvs) nl' = some (.tup (ms.map V.int))) := fun nl o hnl ho => by
          have sG := same_upd0 (o := o) hnl
          have sU : Same (upd G2 d (.dK kvs)) (upd (upd G2 nl o) d (.dK kvs)) := same_both sG
          have nnd : nl ≠ d := fun y => by rw [y, fz2] at hnl; cases hnl
          have hn3 : New H3 nl := i2.off.new penU2.pen (by rw [upd_ne nnd]; exact hnl)
          refine ⟨nl, rfl, sG _ _ fz2, i2.same sU, sU _ _ hU2, L2.Paired.mapP pU2 fun kv q e => ?_, hn3, ?_⟩
          · obtain ⟨e1, c, e2, e3, e4⟩ := e
            exact ⟨e1, c, e2, e3, e4.imp (sU _ _) (sU _ _)⟩
          · rw [upd_ne nnd, upd_same]
            exact ho.imp (congrArg some) (congrArg some)
        have nlen : (ms.map V.int).length ≤ sizeLine := by rw [List.length_map]; omega
        refine ⟨rfl, _, rfl, ite2 (fun _ => ?_) fun _ => ?_⟩
        · exact ⟨_, rfl, _, rfl, d, _, rfl, .inl ⟨kvs, .inr z, .inr ⟨od, fz2⟩, rfl, hv0.symm⟩, l0, _, rfl, .inl ⟨SqL.of hl2, fun nl hnl => fin nl _ hnl (.inr rfl)⟩⟩
        · exact ⟨_, rfl, _, rfl, d, _, rfl, .inl ⟨kvs, .inr z, .inr ⟨od, fz2⟩, rfl, hv0.symm⟩, l0, _, rfl, .inl (SqL.of hl2), fun nl hnl => fin nl _ hnl (.inl rfl)⟩
      rintro v G2 ⟨nl, rfl, fz2, i2, hU2, pU2, hnew, hnl⟩
      have hG2 : G2 hd = some (.dK kv2) := by rwa [upd_ne nhd] at hU2
      have hkl2 := Paired.length pU2
      have hnone : valV kv2 (.inr z) = none := enf_none pU2 (not_before hS.nd hz)
      refine ⟨_, rfl, _, rfl, hd, _, rfl, DPut.k (k := .inr z) hG2 (by rw [hkl2, List.length_take]; omega), ?_⟩
      have eU : upd (upd G2 hd (.dK (putK kv2 (.inr z) (.ref nl)))) d (.dK kvs) = upd (upd G2 d (.dK kvs)) hd (.dK (putK kv2 (.inr z) (.ref nl))) := upd_comm nhd
      have kp : ∀ {c : Addr} {o : HO}, upd G2 d (.dK kvs) c = some o → (∀ x, o ≠ .dK x) → upd (upd G2 d (.dK kvs)) hd (.dK (putK kv2 (.inr z) (.ref nl))) c = some o := fun hc hne => (upd_ne (fun y => hne kv2 (Option.some.inj ((y ▸ hc : upd G2 d (.dK kvs) hd = some _).symm.trans hU2)))).trans hc
      have kl : ∀ {c : Addr} {ns : List Int}, upd G2 d (.dK kvs) c = some (.lst (ns.map V.int)) ∨ upd G2 d (.dK kvs) c = some (.tup (ns.map V.int)) → upd (upd G2 d (.dK kvs)) hd (.dK (putK kv2 (.inr z) (.ref nl))) c = some (.lst (ns.map V.int)) ∨ upd (upd G2 d (.dK kvs)) hd (.dK (putK kv2 (.inr z) (.ref nl))) c = some (.tup (ns.map V.int)) := fun h => h.imp (fun h => kp h fun _ z => nomatch z) (fun h => kp h fun _ z => nomatch z)
      refine ⟨_, _, rfl, (upd_ne nhd.symm).trans fz2, by rw [eU]; exact i2.upd pen30 (New.of hhd) hU2 dk_ne (fun _ _ y => nomatch y), by rw [eU]; exact upd_same, ?_⟩
      rw [eU, List.take_add_one, hz, putK_new _ hnone]
      rw [putK_new _ hnone] at kl
      exact Paired.snoc (L2.Paired.mapP pU2 fun kv q e => by
        obtain ⟨e1, c, e2, e3, e4⟩ := e
        exact ⟨e1, c, e2, e3, kl e4⟩) ⟨rfl, nl, rfl, hnew, kl hnl⟩
    rintro σ' H5 ⟨y5, kv2, rfl, i5, hh5, pr5⟩
    clear i4 hh4 hd4 H4
    -- the lives, and their twin
    refine ⟨fun σ' G => ∃ (a dd t : Addr), σ' = [some (.ref a0), some (.ref p), some (.int (0 + (i : Nat))), some (.ref d), some (.ref hd), y5, some (.ref a), some (.ref t), x8, x9, none, none] ∧ Inv0 T p l cc (n2 + 312) H3 G ∧ G hd = some (.dK kv2) ∧ Paired (EnF H3 G) kv2 S ∧ dd ≠ hd ∧ LsD C G a dd (LS S) ∧ LsAt C G t (LS S), ?_, ?_⟩
    · refine ⟨_, rfl, fun a dx e1 e2 e3 => ?_⟩
      have s0 := newS (C := C) e1 e2
      refine ⟨a, dx, hd, LS S, rfl, upd_same, (bgl_w hh5 (L2.Paired.mapP pr5 fun _ _ e => e.h) hS.w).same s0, hS.ok, fun H6 dd o6 hdd ls6 => ⟨rfl, ?_⟩⟩
      have s6 : Same H5 H6 := fun c u g => o6 c u (ne_of_none g e1) (s0 c u g)
      have ndd : dd ≠ hd := fun y => by rw [y, s0 _ _ hh5] at hdd; cases hdd
      have i6 := i5.same s6
      have hh6 := s6 _ _ hh5
      have pr6 : Paired (EnF H3 H6) kv2 S := L2.Paired.mapP pr5 fun kv r e => by
        obtain ⟨f1, c, f2, f3, f4⟩ := e
        exact ⟨f1, c, f2, f3, f4.imp (s6 _ _) (s6 _ _)⟩
      clear s6 o6 s0 e1 e2 e3 hdd
      refine ⟨fun v G => ∃ (t2 : Addr) (kv3 : List (Key × V)), v = .ref t2 ∧ Same H6 G ∧ G t2 = some (.dK kv3) ∧ Paired (EnS G) kv3 (revS S), ?_, ?_⟩
      · have hst6 : StAt H6 d S := hst.offN pen3 i6.off
        obtain ⟨kvs6, hd6, hpr6⟩ := id hst6
        refine ⟨_, rfl, d, kvs6, rfl, .inl hd6, fun p1 hp1 => ?_⟩
        rw [keysS hpr6]
        refine ⟨p1, _, rfl, SqL.of upd_same, fun p2 hp2 => ?_⟩
        have s7 := (same_upd0 (o := .lst ((S.map (·.1)).map V.str)) hp1).trans (same_upd0 (o := .lst ((S.map (·.1)).map V.str).reverse) hp2)
        have hp7 : upd (upd H6 p1 (.lst ((S.map (·.1)).map V.str))) p2 (.lst ((S.map (·.1)).map V.str).reverse) p2 = some (.lst ((S.reverse.map (·.1)).map V.str)) := by rw [upd_same, List.map_reverse, List.map_reverse]
        generalize upd (upd H6 p1 (.lst ((S.map (·.1)).map V.str))) p2 (.lst ((S.map (·.1)).map V.str).reverse) = H7 at s7 hp7 ⊢
        clear hp1 hp2
        refine ⟨p2, rfl, ⟨_, SqL.of hp7⟩, fun D hD => ?_⟩
        refine lc_it walk_list (fun j H' => Same H7 H' ∧ ∃ js : List Addr, H' D = some (.lst (js.map V.ref)) ∧ Paired (PrS D H') js ((revS S).take j)) ⟨same_upd0 hD, [], upd_same, .nil⟩ (fun _ _ _ y => SqL.of (y.1 _ _ hp7)) ?_ ?_
        · rintro j x Hx H8 hj ⟨s8, js, hD8, hjs⟩ ⟨rfl, hx⟩
          obtain ⟨⟨z, ms⟩, hz, rfl⟩ : ∃ e, S.reverse[j]? = some e ∧ x = .str e.1 := by
            rw [List.getElem?_map, List.getElem?_map] at hx
            cases e : S.reverse[j]? with
            | none => rw [e] at hx; cases hx
            | some z => rw [e] at hx; exact ⟨z, rfl, (Option.some.inj hx).symm⟩
          have hzS : (z, ms) ∈ S := List.mem_reverse.mp (List.mem_of_getElem? hz)
          have s68 := s7.trans s8
          obtain ⟨l0, hv0, hl0⟩ := en_get (L2.Paired.mapP hpr6 fun _ _ e => e.same s68) (lookup_mem hS.nd hzS)
          refine ⟨rfl, _, rfl, _, rfl, _, rfl, d, _, rfl, .inl ⟨kvs6, .inr z, .inl (s68 _ _ hd6), rfl, hv0.symm⟩, l0, _, rfl, SqL.of hl0, fun q1 hq1 => ⟨by show 2 ≤ sizeLine; omega, fun tn htn => ?_⟩⟩
          have s9 := (same_upd0 (o := .lst (ms.map V.int).reverse) hq1).trans (same_upd0 (o := .tup [.str z, .ref q1]) htn)
          have b1 : upd (upd H8 q1 (.lst (ms.map V.int).reverse)) tn (.tup [.str z, .ref q1]) tn = some (.tup [.str z, .ref q1]) := upd_same
          have b2 : upd (upd H8 q1 (.lst (ms.map V.int).reverse)) tn (.tup [.str z, .ref q1]) q1 = some (.lst (ms.reverse.map V.int)) := by
            rw [List.map_reverse]
            exact same_upd0 htn _ _ upd_same
          have nqD : q1 ≠ D := fun y => by rw [y, hD8] at hq1; cases hq1
          generalize upd (upd H8 q1 (.lst (ms.map V.int).reverse)) tn (.tup [.str z, .ref q1]) = H9 at s9 b1 b2 ⊢
          have hD9 := s9 _ _ hD8
          have hjl := Paired.length hjs
          rw [List.length_take] at hjl
          have hj12 : j < 12 := by
            have h1 : S.reverse.length = S.length := List.length_reverse
            have h2 := (List.getElem?_eq_some_iff.mp hz).1
            omega
          have hzr : (revS S)[j]? = some (z, ms.reverse) := by
            unfold revS
            rw [List.getElem?_map, hz]
            rfl
          refine ⟨_, hD9, by rw [List.length_map]; omega, Same.over (s8.trans s9) hD, js ++ [tn], by rw [upd_same, List.map_append]; rfl, ?_⟩
          rw [List.take_add_one, hzr]
          exact prS_snoc (L2.Paired.mapP hjs fun _ _ e => e.same s9) hD9 nqD b1 b2
        rintro H8 ⟨s8, js, hD8, hjs⟩
        have el : (revS S).length = ((S.reverse.map (·.1)).map V.str).length := by
          unfold revS
          simp
        rw [← el, List.take_length] at hjs
        obtain ⟨kvl, k1, k2⟩ := prS_ent (K := K) hjs
        refine ⟨D, js, kvl, rfl, SqL.of hD8, k1, fun t2 ht2 => ?_⟩
        rw [merge_ent k2 (by rw [revS_names]; exact (List.reverse_perm _).nodup_iff.mpr hS.nd)]
        have s9 := same_upd0 (o := .dK kvl) ht2
        exact ⟨t2, kvl, rfl, (s7.trans s8).trans s9, upd_same, L2.Paired.mapP k2 fun _ _ e => e.same s9⟩
      rintro v G ⟨t2, kv3, rfl, s7, ht2, pr7⟩
      refine ⟨rfl, rfl, fun t dx2 e1 e2 e3 => ?_⟩
      have s0 := newS (C := C) e1 e2
      refine ⟨t, dx2, t2, LS S, rfl, upd_same, (bgl_rev ht2 (L2.Paired.mapP pr7 fun _ _ e => e.h) hS.w).same s0, hS.ok, fun H8 dd2 o8 hdd2 ls8 => ⟨rfl, ?_⟩⟩
      have s8 : Same G H8 := fun c u g => o8 c u (ne_of_none g e1) (s0 c u g)
      have s68 := s7.trans s8
      refine ⟨_, _, rfl, a, dd, t, rfl, i6.same s68, s68 _ _ hh6, L2.Paired.mapP pr6 fun kv r e => ?_, ndd, ls6.same s68, ls8.ls⟩
      obtain ⟨f1, c, f2, f3, f4⟩ := e
      exact ⟨f1, c, f2, f3, f4.imp (s68 _ _) (s68 _ _)⟩
    rintro σ' H6 ⟨a, dd, t, rfl, i6, hh6, pr6, ndd, ls6, lt6⟩
    -- they are right, and the same
    refine ⟨fun σ' G => σ' = [some (.ref a0), some (.ref p), some (.int (0 + (i : Nat))), some (.ref d), some (.ref hd), y5, some (.ref a), some (.ref t), x8, x9, none, none] ∧ Inv0 T p l cc (n2 + 313) H3 G ∧ G hd = some (.dK kv2) ∧ Paired (EnF H3 G) kv2 S ∧ LsD C G a dd (LS S), ?_, ?_⟩
    · obtain ⟨n6, g6, hn6, pen6⟩ := i6.pen
      refine ⟨_, rfl, _, rfl, _, rfl, p, l, a, d, cc, n6, g6, S, rfl, pen6, by omega, ls6.ls, hst.offN pen3 i6.off, hS, i6.tabs, fun n7 g7 H7 hn7 off7 pen7 tab7 => ⟨_, rfl, ite2 (fun e => by cases e) fun _ => ?_⟩⟩
      have i7 : Inv0 T p l cc (n2 + 313) H3 H7 := ⟨i6.off.trans off7, ⟨n7, g7, by omega, pen7⟩, tab7⟩
      have hh7 : H7 hd = some (.dK kv2) := off7 _ _ (fun y => by rw [y, pen3.pen] at hhd; cases hhd) hh6 dk_ne
      have ls7 := ls6.offN pen6 off7
      have lt7 := lt6.offN pen6 off7
      have pr7 : Paired (EnF H3 H7) kv2 S := L2.Paired.mapP pr6 fun kv r e => by
        obtain ⟨f1, c, f2, f3, f4⟩ := e
        have nc : c ≠ p := f3.ne pen3.pen lst_ne
        exact ⟨f1, c, f2, f3, f4.imp (fun h => off7 _ _ nc h lst_ne) (fun h => off7 _ _ nc h tup_ne)⟩
      obtain ⟨dx7, kva, hi7, _, _⟩ := id ls7
      obtain ⟨dxt, ddt, kvt, hit, _, _⟩ := id lt7
      have eqT : ((LS S).length == (LS S).length && sameL (LS S) (LS S)) = true := by
        rw [sameL_self hS.ok.nd]
        simp
      refine ⟨_, rfl, _, rfl, a, dx7, _, _, rfl, hi7, .base (.ins hit LV.T.cl LX.I.ha LX.I.hn LX.I.htk LX.I.hm), LX.nf, a, .ref t, LS S, rfl, ls7.ls, .inl ⟨t, LS S, rfl, lt7, ?_⟩⟩
      rw [eqT]
      exact ⟨_, rfl, _, rfl, ite2 (fun e => by cases e) fun _ => ⟨rfl, i7, hh7, pr7, ls7⟩⟩
    rintro σ' H7 ⟨rfl, i7, hh7, pr7, ls7⟩
    clear i6 hh6 pr6 ls6 lt6 i5 hh5 pr5 H5 H6
    -- what was handed over is changed
    have hkl2 := Paired.length pr7
    refine ⟨fun σ' G => ∃ y5 : Option V, σ' = [some (.ref a0), some (.ref p), some (.int (0 + (i : Nat))), some (.ref d), some (.ref hd), y5, some (.ref a), some (.ref t), x8, x9, none, none] ∧ Inv0 T p l cc (n2 + 313) H3 G ∧ G hd = some (.dK kv2) ∧ LsD C G a dd (LS S), ?_, ?_⟩
    · refine ⟨hd, .dK kv2, hh7, trivial, fun od => ?_⟩
      have fz : (L2.upd H7 hd (.frz od (.dK kv2))) hd = some (.frz od (.dK kv2)) := upd_same
      have fb : L2.upd (L2.upd H7 hd (.frz od (.dK kv2))) hd (.dK kv2) = H7 := upd_back hh7
      generalize L2.upd H7 hd (.frz od (.dK kv2)) = HF at fz fb ⊢
      refine ⟨_, rfl, hd, od, rfl, .inl ⟨kv2, fz, ?_⟩⟩
      refine for_it (walk_keys (d := hd) (o := od) (kvs := kv2)) (fun k σ G => ∃ (y5 : Option V), σ = [some (.ref a0), some (.ref p), some (.int (0 + (i : Nat))), some (.ref d), some (.ref hd), y5, some (.ref a), some (.ref t), x8, x9, none, none] ∧ G hd = some (.frz od (.dK kv2)) ∧ Inv0 T p l cc (n2 + 313) H3 (upd G hd (.dK kv2)) ∧ LsD C (upd G hd (.dK kv2)) a dd (LS S) ∧
          ∀ kv ∈ kv2, ∃ c, kv.2 = .ref c ∧ New H3 c ∧ ((∃ xs : List V, xs.length ≤ 6 + k ∧ upd G hd (.dK kv2) c = some (.lst xs)) ∨ ∃ xs, upd G hd (.dK kv2) c = some (.tup xs)))
        ⟨y5, rfl, fz, by rw [fb]; exact i7, by rw [fb]; exact ls7, ?_⟩ (fun _ _ _ _ ⟨_, _, o, _⟩ => o) ?_ ?_
      case refine_1 =>
        rw [fb]
        intro kv hkv
        obtain ⟨j, hj⟩ := List.mem_iff_getElem?.mp hkv
        obtain ⟨⟨z, ms⟩, hz, f1, c, f2, f3, f4⟩ := L2.paired_get pr7 hj
        have hml : ms.length ≤ 6 := hS.len _ (List.mem_of_getElem? hz)
        exact ⟨c, f2, f3, f4.imp (fun h => ⟨_, by rw [List.length_map]; omega, h⟩) fun h => ⟨_, h⟩⟩
      case refine_3 =>
        rintro σ G ⟨y5, rfl, hf, iU, lU, _⟩
        exact ⟨hf, y5, rfl, iU, upd_same, lU⟩
      rintro k x σ G' G hk ⟨y5, rfl, hf, iU, lU, vU⟩ ⟨rfl, k0, v0, hkv, rfl⟩
      obtain ⟨v1, hv1⟩ : ∃ v1, valV kv2 k0 = some v1 := by
        cases c : valV kv2 k0 with
        | none => exact absurd (List.mem_map_of_mem (f := (·.1)) (List.mem_of_getElem? hkv)) (valV_not c)
        | some v => exact ⟨v, rfl⟩
      obtain ⟨c, e1, e2, e3⟩ := vU _ (valV_pair hv1)
      obtain rfl : v1 = .ref c := e1
      have nch : c ≠ hd := fun y => by
        rw [y, upd_same] at e3
        rcases e3 with ⟨_, _, h⟩ | ⟨_, h⟩ <;> cases h
      have vU1 : ∀ kv ∈ kv2, ∃ c, kv.2 = .ref c ∧ New H3 c ∧ ((∃ xs : List V, xs.length ≤ 6 + (k + 1) ∧ upd G hd (.dK kv2) c = some (.lst xs)) ∨ ∃ xs, upd G hd (.dK kv2) c = some (.tup xs)) := fun kv hkv => by
        obtain ⟨c, f1, f2, f3⟩ := vU kv hkv
        exact ⟨c, f1, f2, f3.imp_left fun ⟨xs, f4, f5⟩ => ⟨xs, by omega, f5⟩⟩
      refine ⟨_, rfl, _, rfl, hd, _, rfl, .inl ⟨kv2, k0, .inr ⟨od, hf⟩, rfl, hv1.symm⟩, ?_⟩
      rcases e3 with ⟨xs, hxl, hc⟩ | ⟨xs, hc⟩
      · have hcG : G c = some (.lst xs) := by rwa [upd_ne nch] at hc
        refine ⟨_, _, _, _, _, rfl, .ty "list", .base (.lst hcG), kit_ty (by decide +kernel), _, rfl, iteT ?_⟩
        refine ⟨_, rfl, _, rfl, hd, _, rfl, .inl ⟨kv2, k0, .inr ⟨od, hf⟩, rfl, hv1.symm⟩, ?_⟩
        have eU : upd (upd G c (.lst (xs ++ [V.int 5]))) hd (.dK kv2) = upd (upd G hd (.dK kv2)) c (.lst (xs ++ [V.int 5])) := upd_comm nch
        have nca : c ≠ a := fun y => by
          obtain ⟨_, _, h1, _⟩ := id lU
          rw [y, h1] at hc
          cases hc
        have ncd : c ≠ dd := fun y => by
          obtain ⟨_, _, _, h1, _⟩ := id lU
          rw [y, h1] at hc
          cases hc
        refine ⟨.inl ⟨rfl, _, SqL.of hcG⟩, c, xs, _, rfl, rfl, hcG, by omega, _, rfl, (upd_ne nch.symm).trans hf, by rw [eU]; exact iU.upd pen30 e2 hc lst_ne (fun _ _ y => nomatch y), by rw [eU]; exact lU.upd nca ncd (fun xs2 y => by rw [hc] at y; cases y), fun kv hkv => ?_⟩
        rw [eU]
        obtain ⟨b, f1, f2, f3⟩ := vU1 kv hkv
        refine ⟨b, f1, f2, ?_⟩
        by_cases cb : b = c
        · subst cb
          rw [upd_same]
          exact .inl ⟨_, by rw [List.length_append]; show xs.length + 1 ≤ _; omega, rfl⟩
        · rw [upd_ne cb]
          exact f3
      · have hcG : G c = some (.tup xs) := by rwa [upd_ne nch] at hc
        exact ⟨_, _, _, _, _, rfl, .ty "list", .base (.tup hcG), kit_ty (by decide +kernel), _, rfl, iteF ⟨_, rfl, hf, iU, lU, vU1⟩⟩
    rintro σ' H8 ⟨y5', rfl, i8, hh8, ls8⟩
    clear i7 hh7 pr7 ls7 H7
    refine ⟨fun σ' G => σ' = [some (.ref a0), some (.ref p), some (.int (0 + (i : Nat))), some (.ref d), some (.ref hd), y5', some (.ref a), some (.ref t), x8, x9, none, none] ∧ Inv0 T p l cc (n2 + 313) H3 G ∧ LsD C G a dd (LS S), ?_, ?_⟩
    · refine ⟨by show 1 ≤ sizeLine; omega, fun q3 hq3 => ?_⟩
      have s9 := same_upd0 (o := .lst [V.int 3]) hq3
      refine ⟨_, rfl, hd, _, rfl, DPut.k (k := .inr "zz") (s9 _ _ hh8) (by omega), ?_⟩
      refine ⟨rfl, (i8.same s9).upd pen30 (New.of hhd) (s9 _ _ hh8) dk_ne (fun _ _ y => nomatch y), (ls8.same s9).upd (fun y => ?_) ndd.symm (fun xs y => by rw [s9 _ _ hh8] at y; cases y)⟩
      obtain ⟨_, _, h1, _⟩ := id ls8
      rw [y] at hh8
      rw [h1] at hh8
      cases hh8
    rintro σ' H9 ⟨rfl, i9, ls9⟩
    clear i8 hh8 ls8 H8
    -- they are right behind the changes, and nothing else is the same
    refine ⟨fun σ' G => σ' = [some (.ref a0), some (.ref p), some (.int (0 + (i : Nat))), some (.ref d), some (.ref hd), y5', some (.ref a), some (.ref t), x8, x9, none, none] ∧ Inv0 T p l cc (n2 + 314) H3 G ∧ LsD C G a dd (LS S), ?_, ?_⟩
    · obtain ⟨n6, g6, hn6, pen6⟩ := i9.pen
      refine ⟨_, rfl, _, rfl, _, rfl, p, l, a, d, cc, n6, g6, S, rfl, pen6, by omega, ls9.ls, hst.offN pen3 i9.off, hS, i9.tabs, fun n7 g7 H7 hn7 off7 pen7 tab7 => ⟨_, rfl, ite2 (fun e => by cases e) fun _ => ?_⟩⟩
      have i7 : Inv0 T p l cc (n2 + 314) H3 H7 := ⟨i9.off.trans off7, ⟨n7, g7, by omega, pen7⟩, tab7⟩
      have ls7 := ls9.offN pen6 off7
      obtain ⟨dx7, kva, hi7, _, _⟩ := id ls7
      refine ⟨_, rfl, _, rfl, a, dx7, _, rfl, hi7, a, LS S, rfl, ls7.ls, hS.ok, fun H10 tt js s10 htt hjs => ?_⟩
      dsimp only [tNil, List.append_nil, List.cons_append, List.nil_append]
      refine ⟨a, dx7, _, _, rfl, s10 _ _ hi7, .base (.tup htt), (LV.T.no "tuple" (by simp)).2, a, .ref tt, LS S, rfl, (ls7.same s10).ls, .inr ⟨"tuple", .tup htt, ?_⟩⟩
      refine ⟨_, rfl, _, rfl, ite2 (fun e => by cases e) fun _ => ?_⟩
      obtain ⟨kvs10, hd10, _⟩ := hst.offN pen3 (i7.same s10).off
      refine ⟨_, rfl, _, rfl, a, dx7, _, _, rfl, s10 _ _ hi7, .base (.dK hd10), (LV.T.no "dict" (by simp)).2, a, .ref d, LS S, rfl, (ls7.same s10).ls, .inr ⟨"dict", .dK hd10, ?_⟩⟩
      refine ⟨_, rfl, _, rfl, ite2 (fun e => by cases e) fun _ => ?_⟩
      exact ⟨rfl, i7.same s10, ls7.same s10⟩
    rintro σ' H10 ⟨rfl, i10, ls10⟩
    clear i9 ls9 H9
    -- one more tool
    refine ⟨fun v G => ∃ (ot : Addr) (kvo : List (Key × V)), v = .ref ot ∧ Same H10 G ∧ H10 ot = none ∧ G ot = some (.dK kvo) ∧ Paired (EnS G) kvo S, ?_, ?_⟩
    · obtain ⟨kvsA, hdA, hprA⟩ := hst.offN pen3 i10.off
      refine ⟨d, .dK kvsA, hdA, trivial, fun od => ?_⟩
      have fz : (L2.upd H10 d (.frz od (.dK kvsA))) d = some (.frz od (.dK kvsA)) := upd_same
      have sU : ∀ G, Same (L2.upd H10 d (.frz od (.dK kvsA))) G → Same H10 (L2.upd G d (.dK kvsA)) := fun G s => unlock_same hdA s
      have fl : ∀ {c : Addr} {xs : List V}, H10 c = some (.lst xs) → (L2.upd H10 d (.frz od (.dK kvsA))) c = some (.lst xs) := fun h => (upd_ne (fun y => by rw [y, hdA] at h; cases h)).trans h
      generalize L2.upd H10 d (.frz od (.dK kvsA)) = HF at fz sU fl ⊢
      refine ⟨_, rfl, d, od, rfl, .inl ⟨kvsA, fz, fun D hD => ?_⟩⟩
      refine lc_it (walk_keys (d := d) (o := od) (kvs := kvsA)) (fun j H' => Same HF H' ∧ ∃ js : List Addr, H' D = some (.lst (js.map V.ref)) ∧ Paired (PrS D H') js (S.take j)) ⟨same_upd0 hD, [], upd_same, .nil⟩ (fun _ _ _ y => y.1 _ _ fz) ?_ ?_
      · rintro j x Hx H8 hj ⟨s8, js, hD8, hjs⟩ ⟨rfl, k0, v0, hkv, rfl⟩
        obtain ⟨⟨z, ms⟩, hz, hEn⟩ := L2.paired_get hprA hkv
        obtain rfl : k0 = Sum.inr z := hEn.1
        clear hEn
        have hzS : (z, ms) ∈ S := List.mem_of_getElem? hz
        obtain ⟨l0, hv0, hl0⟩ := en_get hprA (lookup_mem hS.nd hzS)
        have hj12 : j < 12 := by
          have h2 := (List.getElem?_eq_some_iff.mp hz).1
          omega
        refine ⟨rfl, _, rfl, _, rfl, _, rfl, d, _, rfl, .inl ⟨kvsA, .inr z, .inr ⟨od, s8 _ _ fz⟩, rfl, hv0.symm⟩, by show 2 ≤ sizeLine; omega, fun tn htn => ?_⟩
        have s9 := same_upd0 (o := .tup [kV (.inr z), .ref l0]) htn
        have b1 : upd H8 tn (.tup [kV (.inr z), .ref l0]) tn = some (.tup [.str z, .ref l0]) := upd_same
        have b2 := s9 _ _ (s8 _ _ (fl hl0))
        have nqD : l0 ≠ D := ne_of_none (fl hl0) hD
        generalize upd H8 tn (.tup [kV (.inr z), .ref l0]) = H9 at s9 b1 b2 ⊢
        have hD9 := s9 _ _ hD8
        have hjl := Paired.length hjs
        rw [List.length_take] at hjl
        refine ⟨_, hD9, by rw [List.length_map]; omega, Same.over (s8.trans s9) hD, js ++ [tn], by rw [upd_same, List.map_append]; rfl, ?_⟩
        rw [List.take_add_one, hz]
        exact prS_snoc (L2.Paired.mapP hjs fun _ _ e => e.same s9) hD9 nqD b1 b2
      rintro H8 ⟨s8, js, hD8, hjs⟩
      rw [Paired.length hprA, List.take_length] at hjs
      have fz8 := s8 _ _ fz
      refine ⟨fz8, ?_⟩
      obtain ⟨kvl, k1, k2⟩ := prS_ent (K := K) (L2.Paired.mapP hjs fun _ _ e => e.unl (w := .dK kvsA) fz8)
      have nDd : D ≠ d := fun y => by rw [y, fz] at hD; cases hD
      dsimp only [tNil, List.append_nil, List.cons_append, List.nil_append]
      refine ⟨D, js, kvl, rfl, SqL.of ((upd_ne nDd).trans hD8), k1, fun t2 ht2 => ?_⟩
      rw [merge_ent k2 hS.nd]
      have s9 := same_upd0 (o := .dK kvl) ht2
      have ht10 : H10 t2 = none := by
        cases c : H10 t2 with
        | none => rfl
        | some o => rw [sU _ s8 _ _ c] at ht2; cases ht2
      exact ⟨t2, kvl, rfl, (sU _ s8).trans s9, ht10, upd_same, L2.Paired.mapP k2 fun _ _ e => e.same s9⟩
    rintro v H11 ⟨ot, kvo, rfl, s11, hot10, hot, pro⟩
    have hko : New H3 ot := by
      obtain ⟨_, _, _, h1⟩ := i10.pen
      exact i10.off.new h1.pen hot10
    have nota : ot ≠ a := by
      obtain ⟨_, _, h1, _⟩ := id ls10
      exact (ne_of_none h1 hot10).symm
    have notd : ot ≠ dd := by
      obtain ⟨_, _, _, h1, _⟩ := id ls10
      exact (ne_of_none h1 hot10).symm
    have i11 := i10.same s11
    have ls11 := ls10.same s11
    clear i10 ls10 s11 hot10 H10
    refine ⟨fun σ' G => ∃ (kvo2 : List (Key × V)) (zw : Str), σ' = [some (.ref a0), some (.ref p), some (.int (0 + (i : Nat))), some (.ref d), some (.ref hd), y5', some (.ref a), some (.ref t), some (.ref ot), x9, none, none] ∧ Inv0 T p l cc (n2 + 314) H3 G ∧ LsD C G a dd (LS S) ∧ isName zw = true ∧ zw ∉ S.map (·.1) ∧ G ot = some (.dK kvo2) ∧ Paired (EnS G) kvo2 (S ++ [(zw, [])]), ?_, ?_⟩
    · refine ⟨by show 0 ≤ sizeLine; omega, fun e0 he0 => ?_⟩
      have sA := same_upd0 (o := .lst []) he0
      have he1 : upd H11 e0 (.lst []) e0 = some (.lst ([] : List V)) := upd_same
      generalize upd H11 e0 (.lst []) = HA at sA he1 ⊢
      obtain ⟨kvsA, hdA, hprA⟩ := hst.offN pen3 (i11.same sA).off
      refine ⟨_, rfl, 13, rfl, by decide, by decide, fun D hD => ?_⟩
      refine lc_it (walk_range (lo := 0) (n := ((13 : Int)).toNat)) (fun j G => Same HA G ∧ G D = some (.lst ((n13.take j).map V.str))) ⟨same_upd0 hD, upd_same⟩ (fun _ _ _ _ => trivial) ?_ ?_
      · rintro j x Hx H8 hj ⟨s8, hD8⟩ ⟨rfl, rfl⟩
        have hj13 : j < 13 := hj
        have hn := n13_is j hj13
        have hlen : (("n" : Str) ++ Str.ofString (toString ((0 : Int) + (j : Int)))).length ≤ 8 := n13_len _ (List.mem_of_getElem? hn)
        refine ⟨rfl, _, rfl, _, rfl, ?_, _, _, rfl, rfl, ?_, ?_⟩
        · have h1 : ((0 : Int) + (j : Int)).natAbs < 2 ^ 4 := by omega
          exact Nat.lt_of_lt_of_le (PySem.Flt.log2_lt_of (by decide) h1) (by decide)
        · have h1 : (("n" : Str) ++ Str.ofString (toString ((0 : Int) + (j : Int)))).length = ("n" : Str).length + (Str.ofString (toString ((0 : Int) + (j : Int)))).length := Str.length_append _ _
          omega
        · refine ⟨_, hD8, by rw [List.length_map, List.length_take]; omega, Same.over s8 hD, ?_⟩
          rw [upd_same, List.take_add_one, hn, List.map_append]
          rfl
      rintro H8 ⟨s8, hD8⟩
      have hD8 : H8 D = some (.lst (n13.map V.str)) := hD8
      refine ⟨D, rfl, ⟨_, SqL.of hD8⟩, fun D2 hD2 => ?_⟩
      refine lc_it walk_list (fun j G => Same H8 G ∧ ∃ ws : List Str, G D2 = some (.lst (ws.map V.str)) ∧ ws.length ≤ j ∧ (∀ z ∈ ws, z ∈ n13 ∧ z ∉ S.map (·.1)) ∧ ∀ z ∈ n13.take j, z ∉ S.map (·.1) → z ∈ ws) ⟨same_upd0 hD2, [], upd_same, Nat.zero_le _, (fun _ h => nomatch h), fun _ h => nomatch h⟩ (fun _ _ _ y => SqL.of (y.1 _ _ hD8)) ?_ ?_
      · rintro j x Hx H9 hj ⟨s9, ws, hw, hwl, hw1, hw2⟩ ⟨rfl, hx⟩
        rw [List.length_map] at hj
        have hj13 : j < 13 := hj
        rw [List.getElem?_map] at hx
        obtain ⟨z, hz, rfl⟩ : ∃ z, n13[j]? = some z ∧ x = .str z := by
          cases e : n13[j]? with
          | none => rw [e] at hx; cases hx
          | some z => rw [e] at hx; exact ⟨z, rfl, (Option.some.inj hx).symm⟩
        have hd9 := s9 _ _ (s8 _ _ hdA)
        have hks : (valV kvsA (.inr z)).isSome = decide (z ∈ S.map (·.1)) := by
          cases c : valV kvsA (.inr z) with
          | none =>
            refine (decide_eq_false fun hm => valV_not c ?_).symm
            rw [en_keys hprA]
            exact List.mem_map_of_mem (f := Sum.inr) hm
          | some v =>
            refine (decide_eq_true ?_).symm
            have := valV_in c
            rw [en_keys hprA] at this
            exact inr_in this
        refine ⟨rfl, _, rfl, _, rfl, d, _, rfl, DGet.k (k := .inr z) hd9, _, rfl, ?_⟩
        rw [hks]
        by_cases c : z ∈ S.map (·.1)
        · rw [decide_eq_true c]
          refine iteF ⟨s9, ws, hw, Nat.le_succ_of_le hwl, hw1, fun y hy hny => ?_⟩
          rw [List.take_add_one, hz] at hy
          rcases List.mem_append.mp hy with h | h
          · exact hw2 y h hny
          · exact absurd (List.mem_singleton.mp h ▸ c) hny
        · rw [decide_eq_false c]
          refine iteT ⟨_, rfl, _, hw, by rw [List.length_map]; omega, Same.over s9 hD2, ws ++ [z], by rw [upd_same, List.map_append]; rfl, by rw [List.length_append]; exact Nat.succ_le_succ hwl, fun y hy => ?_, fun y hy hny => ?_⟩
          · rcases List.mem_append.mp hy with h | h
            · exact hw1 y h
            · rw [List.mem_singleton.mp h]
              exact ⟨List.mem_of_getElem? hz, c⟩
          · rw [List.take_add_one, hz] at hy
            rcases List.mem_append.mp hy with h | h
            · exact List.mem_append_left _ (hw2 y h hny)
            · exact List.mem_append_right _ h
      rintro H9 ⟨s9, ws, hw, hwl, hw1, hw2⟩
      have hne : ws ≠ [] := fun e => by
        subst e
        have h1 := fitsS n13 (S.map (·.1)) n13_nodup fun x hx => Classical.byContradiction fun hn => nomatch hw2 x hx hn
        rw [List.length_map] at h1
        have h2 : n13.length = 13 := rfl
        omega
      obtain ⟨zw, wr, rfl⟩ := List.exists_cons_of_ne_nil hne
      obtain ⟨hzn, hzS⟩ := hw1 zw List.mem_cons_self
      refine ⟨D2, _, 0, _, rfl, rfl, SqL.of hw, atI_nat (j := 0) rfl, ot, _, rfl, DPut.k (k := .inr zw) (s9 _ _ (s8 _ _ (sA _ _ hot))) ?_, ?_⟩
      · have := Paired.length pro
        omega
      · have s1 := (sA.trans s8).trans s9
        have hot9 := s1 _ _ hot
        have hnone : valV kvo (.inr zw) = none := valV_out fun hm => by
          rw [en_keys pro] at hm
          exact hzS (inr_in hm)
        refine ⟨_, zw, rfl, (i11.same s1).upd pen30 hko hot9 dk_ne (fun _ _ y => nomatch y), (ls11.same s1).upd nota notd (fun xs y => by rw [hot9] at y; cases y), n13_name _ hzn, hzS, upd_same, ?_⟩
        rw [putK_new _ hnone]
        have kp : ∀ {c : Addr} {xs : List V} {o : HO}, H9 c = some (.lst xs) → upd H9 ot o c = some (.lst xs) := fun h => (upd_ne (fun y => by rw [y, hot9] at h; cases h)).trans h
        exact Paired.snoc (L2.Paired.mapP pro fun kv r e => by
          obtain ⟨f1, c, f2, f3⟩ := e
          exact ⟨f1, c, f2, kp (s1 _ _ f3)⟩) ⟨rfl, e0, rfl, kp (s9 _ _ (s8 _ _ he1))⟩
    rintro σ' H12 ⟨kvo2, zw, rfl, i12, ls12, hzn, hzS, hot, pro2⟩
    clear i11 ls11 hko nota notd
    -- one more beginning each
    refine ⟨fun v G => ∃ (mt : Addr) (kvm : List (Key × V)) (Sm : List (Str × List Int)), v = .ref mt ∧ Same H12 G ∧ G mt = some (.dK kvm) ∧ Paired (EnS G) kvm Sm ∧ More1 S Sm, ?_, ?_⟩
    · obtain ⟨kvsA, hdA, hprA⟩ := hst.offN pen3 i12.off
      refine ⟨d, .dK kvsA, hdA, trivial, fun od => ?_⟩
      have fz : (L2.upd H12 d (.frz od (.dK kvsA))) d = some (.frz od (.dK kvsA)) := upd_same
      have sU : ∀ G, Same (L2.upd H12 d (.frz od (.dK kvsA))) G → Same H12 (L2.upd G d (.dK kvsA)) := fun G s => unlock_same hdA s
      have fl : ∀ {c : Addr} {xs : List V}, H12 c = some (.lst xs) → (L2.upd H12 d (.frz od (.dK kvsA))) c = some (.lst xs) := fun h => (upd_ne (fun y => by rw [y, hdA] at h; cases h)).trans h
      generalize L2.upd H12 d (.frz od (.dK kvsA)) = HF at fz sU fl ⊢
      refine ⟨_, rfl, d, od, rfl, .inl ⟨kvsA, fz, fun D hD => ?_⟩⟩
      refine lc_it (walk_keys (d := d) (o := od) (kvs := kvsA)) (fun j H' => Same HF H' ∧ ∃ (js : List Addr) (Sm : List (Str × List Int)), H' D = some (.lst (js.map V.ref)) ∧ Paired (PrS D H') js Sm ∧ js.length = j ∧ More1 (S.take j) Sm) ⟨same_upd0 hD, [], [], upd_same, .nil, rfl, .nil⟩ (fun _ _ _ y => y.1 _ _ fz) ?_ ?_
      · rintro j x Hx H8 hj ⟨s8, js, Sm, hD8, hjs, hjl, hm⟩ ⟨rfl, k0, v0, hkv, rfl⟩
        obtain ⟨⟨z, ms⟩, hz, hEn⟩ := L2.paired_get hprA hkv
        obtain rfl : k0 = Sum.inr z := hEn.1
        clear hEn
        have hzS' : (z, ms) ∈ S := List.mem_of_getElem? hz
        have hml : ms.length ≤ 6 := hS.len _ hzS'
        obtain ⟨l0, hv0, hl0⟩ := en_get hprA (lookup_mem hS.nd hzS')
        have hj12 : j < 12 := by
          have h2 := (List.getElem?_eq_some_iff.mp hz).1
          omega
        have hl8 := s8 _ _ (fl hl0)
        refine ⟨rfl, _, rfl, _, rfl, _, rfl, d, _, rfl, .inl ⟨kvsA, .inr z, .inr ⟨od, s8 _ _ fz⟩, rfl, hv0.symm⟩, _, rfl, _, rfl, d, _, rfl, .inl ⟨kvsA, .inr z, .inr ⟨od, s8 _ _ fz⟩, rfl, hv0.symm⟩, l0, ms, rfl, hl8, hml, fun k tk H9 k1 k2 k3 s9 htk => ?_⟩
        refine ⟨l0, tk, _, _, rfl, rfl, s9 _ _ hl8, htk, by rw [List.length_map]; show ms.length + 1 ≤ sizeLine; omega, fun q1 hq1 => ⟨by show 2 ≤ sizeLine; omega, fun tn htn => ?_⟩⟩
        have sB := (s9.trans (same_upd0 (o := .lst (ms.map V.int ++ [V.int k])) hq1)).trans (same_upd0 (o := .tup [kV (.inr z), .ref q1]) htn)
        have b1 : upd (upd H9 q1 (.lst (ms.map V.int ++ [V.int k]))) tn (.tup [kV (.inr z), .ref q1]) tn = some (.tup [.str z, .ref q1]) := upd_same
        have b2 : upd (upd H9 q1 (.lst (ms.map V.int ++ [V.int k]))) tn (.tup [kV (.inr z), .ref q1]) q1 = some (.lst ((ms ++ [k]).map V.int)) := by
          rw [List.map_append]
          exact same_upd0 htn _ _ upd_same
        have nqD : q1 ≠ D := fun y => by rw [y, s9 _ _ hD8] at hq1; cases hq1
        generalize upd (upd H9 q1 (.lst (ms.map V.int ++ [V.int k]))) tn (.tup [kV (.inr z), .ref q1]) = HB at sB b1 b2 ⊢
        have hDB := sB _ _ hD8
        refine ⟨_, hDB, by rw [List.length_map]; omega, Same.over (s8.trans sB) hD, js ++ [tn], Sm ++ [(z, ms ++ [k])], by rw [upd_same, List.map_append]; rfl, prS_snoc (L2.Paired.mapP hjs fun _ _ e => e.same sB) hDB nqD b1 b2, by rw [List.length_append, hjl]; rfl, ?_⟩
        rw [List.take_add_one, hz]
        exact hm.snoc k1 k2 k3
      rintro H8 ⟨s8, js, Sm, hD8, hjs, hjl, hm⟩
      rw [Paired.length hprA, List.take_length] at hm
      have fz8 := s8 _ _ fz
      refine ⟨fz8, ?_⟩
      obtain ⟨kvl, k1, k2⟩ := prS_ent (K := K) (L2.Paired.mapP hjs fun _ _ e => e.unl (w := .dK kvsA) fz8)
      have nDd : D ≠ d := fun y => by rw [y, fz] at hD; cases hD
      dsimp only [tNil, List.append_nil, List.cons_append, List.nil_append]
      refine ⟨D, js, kvl, rfl, SqL.of ((upd_ne nDd).trans hD8), k1, fun t2 ht2 => ?_⟩
      rw [merge_ent k2 (by rw [hm.names]; exact hS.nd)]
      have s9 := same_upd0 (o := .dK kvl) ht2
      exact ⟨t2, kvl, Sm, rfl, (sU _ s8).trans s9, upd_same, L2.Paired.mapP k2 fun _ _ e => e.same s9, hm⟩
    rintro v H13 ⟨mt, kvm, Sm, rfl, s13, hmt, prm, hm⟩
    have i13 := i12.same s13
    have ls13 := ls12.same s13
    have hot13 := s13 _ _ hot
    have pro13 : Paired (EnS H13) kvo2 (S ++ [(zw, [])]) := L2.Paired.mapP pro2 fun _ _ e => e.same s13
    clear i12 ls12 s13 hot pro2 H12
    have wO := hS.plus hzn hzS
    have wM := hm.w hS
    refine ⟨_, rfl, _, rfl, fun x dx e1 e2 e3 => ?_⟩
    have s0 := newS (C := C) e1 e2
    refine ⟨x, dx, ot, LS (S ++ [(zw, [])]), rfl, upd_same, (bgl_w hot13 (L2.Paired.mapP pro13 fun _ _ e => e.h) wO).same s0, wO.ok, fun H14 dd2 o8 hdd2 ls8 => ⟨rfl, ?_⟩⟩
    have s14 : Same H13 H14 := fun c u g => o8 c u (ne_of_none g e1) (s0 c u g)
    clear s0 o8 e1 e2 e3
    dsimp only [tNil, List.append_nil, List.cons_append, List.nil_append]
    have ls14 := ls13.same s14
    obtain ⟨dxa, kva, hia, _, _⟩ := id ls14
    obtain ⟨dxx, kvx, hix, _, _⟩ := id ls8
    refine ⟨a, dxa, _, _, rfl, hia, .base (.ins hix LV.T.cl LX.I.ha LX.I.hn LX.I.htk LX.I.hm), LX.nf, a, .ref x, LS S, rfl, ls14.ls, .inl ⟨x, LS (S ++ [(zw, [])]), rfl, ls8.ls, ?_⟩⟩
    have neO : ((LS S).length == (LS (S ++ [(zw, [])])).length && sameL (LS S) (LS (S ++ [(zw, [])]))) = false := by
      rw [LS_len, LS_len, List.length_append]
      have : (S.length == S.length + [(zw, ([] : List Int))].length) = false := by simp
      rw [this, Bool.false_and]
    rw [neO]
    refine ⟨_, rfl, _, rfl, ite2 (fun e => by cases e) fun _ => ?_⟩
    have i14 := i13.same s14
    have pr14 : Paired (EnS H14) kvm Sm := L2.Paired.mapP prm fun _ _ e => e.same s14
    have hm14 := s14 _ _ hmt
    clear i13 ls13 hot13 pro13 prm hmt s14 ls8 hix hia
    obtain ⟨kvsB, hdB, hprB⟩ := hst.offN pen3 i14.off
    refine ⟨_, rfl, fun em hem => ⟨d, em, kvsB, rfl, rfl, same_upd0 hem _ _ hdB, upd_same, _, rfl, ?_⟩⟩
    have s15 := same_upd0 (o := .dK []) hem
    have done : ∀ (G : Hp) (b5 b8 b9 : Option V), Inv0 T p l cc (n2 + 314) H3 G → ∃ x2 x3 x4 x5 x6 x7 x8 x9 n' g', [some (.ref a0), some (.ref p), some (.int (0 + (i : Nat))), some (.ref d), some (.ref hd), b5, some (.ref a), some (.ref t), b8, b9, none, none] = [some (.ref a0), some (.ref p), x2, x3, x4, x5, x6, x7, x8, x9, none, none] ∧ Pen G p l cc n' g' ∧ n' ≤ 400 * (i + 1) ∧ Tabs T G := fun G b5 b8 b9 iG => by
      obtain ⟨n, g, h1, h2⟩ := iG.pen
      exact ⟨_, _, _, _, _, _, _, _, n, g, rfl, h2, by omega, iG.tabs⟩
    have hlB := Paired.length hprB
    by_cases hne : S = []
    · rw [hne] at hlB
      have e : kvsB = [] := List.length_eq_zero_iff.mp hlB
      subst e
      exact iteF (iteF (done _ _ _ _ (i14.same s15)))
    · have e : (!kvsB.isEmpty) = true := by
        cases kvsB with
        | nil => exact absurd (List.length_eq_zero_iff.mp hlB.symm) hne
        | cons x r => rfl
      rw [e]
      refine iteT ?_
      have ls15 := ls14.same s15
      have i15 := i14.same s15
      have pr15 : Paired (EnS (upd H14 em (.dK []))) kvm Sm := L2.Paired.mapP pr14 fun _ _ e => e.same s15
      have hm15 := s15 _ _ hm14
      generalize upd H14 em (.dK []) = H15 at ls15 i15 pr15 hm15 ⊢
      clear s15 hem ls14 i14 pr14 hm14
      refine ⟨_, rfl, _, rfl, fun x dx e1 e2 e3 => ?_⟩
      have s0 := newS (C := C) e1 e2
      refine ⟨x, dx, mt, LS Sm, rfl, upd_same, (bgl_w hm15 (L2.Paired.mapP pr15 fun _ _ e => e.h) wM).same s0, wM.ok, fun H16 dd3 o8 hdd3 ls8 => ⟨rfl, ?_⟩⟩
      have s16 : Same H15 H16 := fun c u g => o8 c u (ne_of_none g e1) (s0 c u g)
      clear s0 o8 e1 e2 e3
      dsimp only [tNil, List.append_nil, List.cons_append, List.nil_append]
      have ls16 := ls15.same s16
      obtain ⟨dxa, kva, hia, _, _⟩ := id ls16
      obtain ⟨dxx, kvx, hix, _, _⟩ := id ls8
      refine ⟨a, dxa, _, _, rfl, hia, .base (.ins hix LV.T.cl LX.I.ha LX.I.hn LX.I.htk LX.I.hm), LX.nf, a, .ref x, LS S, rfl, ls16.ls, .inl ⟨x, LS Sm, rfl, ls8.ls, ?_⟩⟩
      rw [more_ne hm hS hne, Bool.and_false]
      refine ⟨_, rfl, _, rfl, ite2 (fun e => by cases e) fun _ => ?_⟩
      exact done _ _ _ _ (i15.same s16)
end
end K08

namespace So
open PySem PySem.Spec PyProof.Rows L2 LamX
/-- the law's call, its tables of code objects and the guards told -/
theorem law_callTGs {P : Program} {w : World} {K : PySem.W.Frag} {mg mb : Str → Option Value} {CX : CXT} {k : Nat} {fa a : Addr} {cs : List (Addr × Addr)} {fd : FuncData} {x : Str} {sp : Sp} {s₁ : Shared} {vs : List Value} {ns : List Int}
    (KX : K.In s₁.heap) (hns : s₁.heap.Ns mainGlobals mg) (hb : s₁.heap.Ns builtinsNs mb) (hbb : ∀ x : Str, x ≠ "__name__" → mb x = bootBuiltins x) (hlim : s₁.heap.NoLimit) (hg : s₁.gens = #[])
    (tabs : ∀ q ∈ cs, s₁.heap.get? q.2 = some { cls := .none, data := .fields #[] } ∧ K.lookup q.2 = none ∧ PySem.W.CodeHd s₁.heap q.1 q.2)
    (mod : ∃ (bm : Addr) (ob : Obj), mg "__builtins__" = some (.ref bm) ∧ bm ≠ builtinsNs ∧ s₁.heap.get? bm = some ob ∧ ob.cls = .type "module" ∧ ob.dict = some builtinsNs ∧ ob.data = .plain)
    (ha : s₁.heap.get? a = some { cls := .type "list", data := .seq vs.toArray }) (hi : IntsAre vs ns) (hl : ns.length ≤ sizeLine) (hr : Room k callerA)
    (F : ∀ base : Heap, K.In base → base.Ns mainGlobals mg → (∀ q ∈ cs, TabB base mg q.1 q.2) → FnG P w K mg base CX k fa fd [x] sp) (hbind : ∀ (s : Shared) (u : Value), BindsTo s fd ⟨[u], []⟩ [(x, u)])
    (hsp : ∀ H : Hp, (∀ q ∈ cs, H q.2 = some (.tbl #[])) → SqL K H a (ns.map V.int) → sp [.ref a] H (fun v _ => v = .bl true) fun _ _ _ => False)
    (hCX : ∀ H e s', CX [] H s₁ (fun _ _ _ => False) e s' → False) :
    codeAny (model P w) callerA (.call (.ref fa) ⟨[.ref a], []⟩) (fun r s' => r = .ok (.ret (.bool true)) ∧ OldK s₁.heap s'.heap ∧ s'.os = s₁.os ∧ AllBare s'.gens) s₁ := by
  have tab : ∀ {T : Addr}, (∃ q ∈ cs, q.2 = T) → s₁.heap.get? T = some { cls := .none, data := .fields #[] } := fun ⟨q, hq, e⟩ => e ▸ (tabs q hq).1
  have noT : ∀ {T : Addr}, (∃ q ∈ cs, q.2 = T) → K.lookup T = none := fun ⟨q, hq, e⟩ => e ▸ (tabs q hq).2.1
  have aT : ¬ ∃ q ∈ cs, q.2 = a := fun z => by
    rw [tab z] at ha
    have := congrArg Obj.data (Option.some.inj ha)
    cases this
  -- what may be tracked at the start: the table, and the script where the written part does not hold it
  have go : ∀ H : Hp, (∀ q ∈ cs, H q.2 = some (.tbl #[])) → (∀ b u, H b = some u → (∃ q ∈ cs, q.2 = b) ∨ (b = a ∧ K.lookup a = none ∧ ∃ o xs, u = .frz o (.lst xs))) → SqL K H a (ns.map V.int) → HOk P w H s₁.heap →
      codeAny (model P w) callerA (.call (.ref fa) ⟨[.ref a], []⟩) (fun r s' => r = .ok (.ret (.bool true)) ∧ OldK s₁.heap s'.heap ∧ s'.os = s₁.os ∧ AllBare s'.gens) s₁ := by
    intro H hT hA hS hok
    -- an object that is neither the script's list nor the table stands in the base
    have free : ∀ {b : Addr} {o : Obj}, s₁.heap.get? b = some o → (∀ vs n, o.data ≠ .seq vs n) → o.data ≠ .fields #[] → H b = none := by
      intro b o e h1 h2
      cases q : H b with
      | none => rfl
      | some u =>
        rcases hA b u q with hb | ⟨rfl, _⟩
        · rw [tab hb] at e
          cases e
          exact absurd rfl h2
        · rw [ha] at e
          cases e
          exact absurd rfl (h1 _ _)
    have toBase : ∀ {b : Addr} {o : Obj}, s₁.heap.get? b = some o → H b = none → (hidT s₁.heap H).get? b = some o := fun e n => hidT_get e n
    have nsB : ∀ {b : Addr} {m : Str → Option Value}, s₁.heap.Ns b m → (hidT s₁.heap H).Ns b m := by
      rintro b m ⟨o, es, ep, e, d, r⟩
      have n : H b = none := by
        refine free e ?_ ?_
        · intro vs n z
          rw [d] at z
          cases z
        · intro z
          rw [d] at z
          cases z
      exact ⟨o, es, ep, toBase e n, d, r⟩
    have kin : K.In (hidT s₁.heap H) := by
      intro b o e
      refine toBase (KX b o e) ?_
      cases q : H b with
      | none => rfl
      | some u =>
        rcases hA b u q with hb | ⟨rfl, z, _⟩
        · rw [noT hb] at e
          cases e
        · rw [z] at e
          cases e
    have lim2 : (hidT s₁.heap H).NoLimit := by
      obtain ⟨mc, h1, h2⟩ := hlim
      exact ⟨mc, nsB h1, h2⟩
    have TB : ∀ q ∈ cs, TabB (hidT s₁.heap H) mg q.1 q.2 := by
      rintro ⟨c, T⟩ hq
      have tab' : s₁.heap.get? T = some { cls := .none, data := .fields #[] } := tab ⟨_, hq, rfl⟩
      have cd : PySem.W.CodeHd s₁.heap c T := (tabs _ hq).2.2
      have gT : mainGlobals ≠ T := fun z => by
        obtain ⟨o, es, ep, e, d, _⟩ := hns
        rw [z, tab'] at e
        cases e
        cases d
      have cd2 : PySem.W.CodeHd (hidT s₁.heap H) c T := by
        obtain ⟨o, us, fl, tf, fg, tg, inF, tx, tt, e1, r1, r2, r3, r⟩ := cd
        refine ⟨o, us, fl, tf, fg, tg, inF, tx, tt, toBase e1 (free e1 ?_ ?_), r1, r2, r3, r⟩
        · intro vs n z
          rw [r2] at z
          cases z
        · intro z
          rw [r2] at z
          cases z
          simp at r3
      have bm2 : (hidT s₁.heap H).BuiltinsAt mg T := by
        obtain ⟨bm, ob, b1, b2, b3, b4, b5, b6⟩ := mod
        have n1 : bm ≠ mainGlobals := fun z => by
          obtain ⟨o, es, ep, e, d, _⟩ := hns
          rw [z, e] at b3
          cases b3
          rw [d] at b6
          cases b6
        have n2 : bm ≠ T := fun z => by
          rw [z, tab'] at b3
          cases b3
          cases b6
        refine ⟨bm, ob, b1, b2, n1, n2, toBase b3 (free b3 ?_ ?_), b4, b5, b6⟩
        · intro vs n z
          rw [b6] at z
          cases z
        · intro z
          rw [b6] at z
          cases z
      exact ⟨cd2, bm2, gT⟩
    have e0 : Env0 P w K mg (hidT s₁.heap H) callerA [] s₁ H := by
      refine ⟨rfl, ⟨kin, nsB hns, ⟨mb, nsB hb, hbb⟩, lim2⟩, fun b o e => of_hidT e, Nat.le_of_eq (hidT_size _ _), True.intro, ?_, hok, .of_eq hg⟩
      intro b hb
      cases hb
    refine codeAny_mono ((F _ kin (nsB hns) TB).runG callerA [] s₁ H ⟨[.ref a], []⟩ [.ref a] [.ref a] _ _ rfl hr e0 (hbind s₁ (.ref a)) (.cons rfl .nil) (hsp H hT hS)) fun r s' h => ?_
    match r, h with
    | .error e, h => exact (hCX H e s' h).elim
    | .ok .next, h => exact h.elim
    | .ok .brk, h => exact h.elim
    | .ok .cont, h => exact h.elim
    | .ok (.ret u), ⟨v, H', os, bare, un, hok', rv, q⟩ =>
      have q2 : v = .bl true := q
      subst q2
      cases rv
      have grown : ∀ {T : Addr}, (∃ q ∈ cs, q.2 = T) → ∃ more : Array Value, s'.heap.get? T = some { cls := .none, data := .fields (#[] ++ more) } := by
        rintro T ⟨q, hq, rfl⟩
        obtain ⟨more, hm⟩ := un.tbls q.2 #[] (hT q hq)
        exact ⟨more, hok' q.2 _ hm⟩
      have stay : ∀ b o, (¬ ∃ q ∈ cs, q.2 = b) → s₁.heap.get? b = some o → s'.heap.get? b = some o := by
        intro b o n e
        cases q : H b with
        | none => exact un.keep b o e q (fun z => nomatch z) (fun z => nomatch z)
        | some u =>
          rcases hA b u q with z | ⟨_, _, ob, xs, rfl⟩
          · exact absurd z n
          · have z1 := (hok b _ q).1
            have z2 := (hok' b _ (un.frzs b ob _ q)).1
            rw [z1] at e
            rw [z2, e]
      refine ⟨rfl, ⟨fun b o e => ?_, fun b o e => ?_⟩, os, bare⟩
      · by_cases n : ∃ q ∈ cs, q.2 = b
        · obtain ⟨more, hg⟩ := grown n
          have tb := tab n
          obtain ⟨q, hq, rfl⟩ := n
          rw [tb] at e
          cases e
          exact .inr (.inl ⟨((tabs q hq).2.2.tab tb).isCodeTable, rfl, #[], more, rfl, hg⟩)
        · exact .inl (stay b o n e)
      · by_cases n : ∃ q ∈ cs, q.2 = b
        · obtain ⟨more, hg⟩ := grown n
          exact ⟨_, hg⟩
        · exact ⟨o, stay b o n e⟩
  have rv := vals_ints hi
  have hlen : (ns.map V.int).length ≤ sizeLine := by rw [List.length_map]; exact hl
  cases hk : K.lookup a with
  | some o =>
    have e := KX a o hk
    rw [ha] at e
    cases e
    refine go (fun b => open Classical in if ∃ q ∈ cs, q.2 = b then some (.tbl #[]) else none) (fun q hq => if_pos ⟨q, hq, rfl⟩) (fun b u z => ?_) (Or.inr ⟨_, vs.toArray, _, hk, rfl, rfl, rfl, by rw [List.size_toArray, hi.length]; exact hl, by simpa using rv⟩) fun b u z => ?_
    · try dsimp only at z
      by_cases n : ∃ q ∈ cs, q.2 = b
      · exact Or.inl n
      · rw [if_neg n] at z
        cases z
    · try dsimp only at z
      by_cases n : ∃ q ∈ cs, q.2 = b
      · rw [if_pos n] at z
        cases z
        exact tab n
      · rw [if_neg n] at z
        cases z
  | none =>
    refine go (fun b => open Classical in if ∃ q ∈ cs, q.2 = b then some (.tbl #[]) else if b = a then some (.frz { cls := .type "list", data := .seq vs.toArray } (.lst (ns.map V.int))) else none) (fun q hq => if_pos ⟨q, hq, rfl⟩) (fun b u z => ?_) (Or.inl (Or.inr ⟨_, (if_neg aT).trans (if_pos rfl)⟩)) fun b u z => ?_
    · try dsimp only at z
      by_cases n : ∃ q ∈ cs, q.2 = b
      · exact Or.inl n
      · rw [if_neg n] at z
        by_cases n2 : b = a
        · rw [if_pos n2] at z
          cases z
          exact Or.inr ⟨n2, hk, _, _, rfl⟩
        · rw [if_neg n2] at z
          cases z
    · try dsimp only at z
      by_cases n : ∃ q ∈ cs, q.2 = b
      · rw [if_pos n] at z
        cases z
        exact tab n
      · rw [if_neg n] at z
        by_cases n2 : b = a
        · rw [if_pos n2] at z
          cases z
          rw [n2]
          exact ⟨ha, hlen, vs, _, rv, ha⟩
        · rw [if_neg n2] at z
          cases z
end So

namespace K08
open PySem PySem.Spec PyProof.Rows L2 So LamX
def strOf? : Value → Option Str
  | .str x _ => some x
  | _ => none
theorem vals_strs : ∀ {ss : List Str} {us : List Value}, us.map strOf? = ss.map some → Vals (ss.map V.str) us
  | [], [], _ => .nil
  | [], _ :: _, h => by simp at h
  | _ :: _, [], h => by simp at h
  | x :: ss, u :: us, h => by
    simp only [List.map_cons, List.cons.injEq] at h
    refine .cons ?_ (vals_strs h.2)
    cases u <;> simp [strOf?] at h
    rename_i y t
    exact ⟨t, by rw [h.1]⟩
theorem tab_seq {K : PySem.W.Frag} {a : Addr} {od : Option Addr} {its : Array Value} {n : Nat} {sl : Array (Option Value)} {ss : List Str} (l : K.lookup a = some ⟨.type "tuple", od, .seq its n, sl⟩) (v : its.toList.map strOf? = ss.map some) (hz : ss.length ≤ 1000) (H : Hp) : SqT K H a (ss.map V.str) := by
  have hv := vals_strs v
  refine .inr ⟨_, its, n, l, rfl, rfl, ?_, hv⟩
  have := hv.length
  rw [List.length_map] at this
  rw [← Array.length_toList, ← this]
  exact Nat.le_trans hz (by decide)
section
variable {K : PySem.W.Frag}
theorem exm_own {D S : Addr} (h2 : PySem.W.isClsIn K S = true) (h3 : PySem.W.typeIn K (.ref S) = some (.type "type")) (h1 : PySem.W.subIn K (.ref S) (.type "BaseException") = some true) (h4 : PySem.W.subIn K (.ref D) (.ref S) = some true) (_ : PySem.W.subIn K (.ref S) (.ref S) = some true) : PySem.W.exmOne K (.ref D) (.ref S) = some true := by
  unfold PySem.W.exmOne PySem.W.kitCls
  unfold PySem.W.isClsIn at h2
  simp [h1, h2, h3, h4]
theorem tab_by {x : Str} {f c P : Addr} {o1 u1 : Value} {o2 u2 : Option Addr} {o3 u3 : Array (Option Value)} {fd : FuncData} {vs : Array Value} (a : PySem.W.nsIn K mainGlobals x = some (some (.ref f))) (l : K.lookup f = some ⟨o1, o2, .func fd, o3⟩) (hc : fd.code = .ref c)
    (lc : K.lookup c = some ⟨u1, u2, .fields vs, u3⟩) (hv : (vs[11]? : Option Value) = some (.ref P)) : PySem.W.tabIn K x = some (c, P) := by
  unfold PySem.W.tabIn
  rw [a]
  simp only [l, hc, lc, hv]
theorem kit_VE {D : Addr} (h : PySem.W.subIn K (.ref D) (.type "ValueError") = some true) : PySem.W.kitOne K (.ref D) (.type "ValueError") = some true := by
  unfold PySem.W.kitOne PySem.W.kitCls
  have e : PySem.W.kitMeta "ValueError" = true := by decide +kernel
  simp [h, e]
theorem kit_own {D C : Addr} {b : Bool} (hc : PySem.W.isClsIn K C = true) (ht : PySem.W.typeIn K (.ref C) = some (.type "type")) (hs : PySem.W.subIn K (.ref D) (.ref C) = some b) (self : PySem.W.subIn K (.ref C) (.ref C) = some true) : PySem.W.kitOne K (.ref D) (.ref C) = some b := by
  by_cases e : D = C
  · subst e
    rw [self] at hs
    rw [kit_self, hs]
  · unfold PySem.W.kitOne PySem.W.kitCls
    unfold PySem.W.isClsIn at hc
    simp [hc, ht, hs, e]
end
def TT (P0 : Addr) : List (Addr × Str) := [(P0, (envOfC "_law_right" (defScope sRight) 0 0 .none).qual ++ "<lambda>")]
theorem TT_in0 {P0 : Addr} : ∀ n f' c', (P0, (envOfC "_law_right" (defScope sRight) n f' c').qual ++ "<lambda>") ∈ TT P0 := fun _ _ _ => List.mem_cons_self
theorem TT_un0 {P0 : Addr}  : ∀ n f' c', ∀ q ∈ TT P0, q.1 = P0 → q.2 = (envOfC "_law_right" (defScope sRight) n f' c').qual ++ "<lambda>" := by
  intro n f' c' q hq h
  unfold TT at hq
  simp only [List.mem_cons, List.not_mem_nil, or_false] at hq
  subst hq
  · rfl
theorem kb_in {K : PySem.W.Frag} {fd : FuncData} (h : ∀ (s : Shared) (u b : Value), BindsTo s fd ⟨[u], [("begun", b)]⟩ [("self", u), ("begun", b)]) : KBn K fd ["self", "begun"] 1 ["begun"] kOne kOne := by
  refine ⟨fun s us ws _ h1 h2 => ?_, fun {vs us zs ws} r rz => ?_⟩
  · match us, h1, ws, h2 with
    | [u], _, [b], _ => exact h s u b
  · cases r with
    | nil => exact .nil
    | cons r1 r =>
      cases r with
      | cons _ _ => exact .nil
      | nil =>
        cases rz with
        | nil => exact .nil
        | cons r2 rz =>
          cases rz with
          | nil => exact .cons r1 (.cons r2 .nil)
          | cons _ _ => exact .nil
theorem all_mk {l : PySem.W.OpenLaw} {w : World} {K : PySem.W.Frag} {h : Heap} {mg : Str → Option Value} {fa fpen fdraw fpick fwords flname fbegun fheard flistedw fodd ffresh fmem fright c_right P_right flaw fwhole fmoment fisname fcheck fwithf CV fvinit fvbeg fvcont fvlen fveq fvbool pvto fvto pvli fvli aNo CT CN feN CM feM CS feS CO feO CL feL : Addr} (X : K.In h) (G : h.Ns mainGlobals mg) (hfa : mg "law" = some (.ref fa))
    {odpen anpen oddraw andraw odpick anpick odwords anwords odlname anlname odbegun anbegun odheard anheard odlistedw anlistedw ododd anodd odfresh anfresh odmem anmem odright anright odlaw anlaw odwhole anwhole odmoment anmoment odisname anisname odcheck ancheck odwithf anwithf odvinit anvinit odvbeg anvbeg odvcont anvcont odvlen anvlen odveq anveq odvbool anvbool odvto anvto odvli anvli odN odeN aneN odeM aneM odeS aneS odeO aneO odeL aneL odcright : Option Addr} {slpen sldraw slpick slwords sllname slbegun slheard sllistedw slodd slfresh slmem slright sllaw slwhole slmoment slisname slcheck slwithf slvinit slvbeg slvcont slvlen slveq slvbool slvto slvli slN sleN sleM sleS sleO sleL slcright : Array (Option Value)} {ocpen kVpen dcpen pmpen ctpen cdpen ocdraw kVdraw dcdraw pmdraw ctdraw cddraw ocpick kVpick dcpick pmpick ctpick cdpick ocwords kVwords dcwords pmwords ctwords cdwords oclname kVlname dclname pmlname ctlname cdlname ocbegun kVbegun dcbegun pmbegun ctbegun cdbegun ocheard kVheard dcheard pmheard ctheard cdheard oclistedw kVlistedw dclistedw pmlistedw ctlistedw cdlistedw ocodd kVodd dcodd pmodd ctodd cdodd ocfresh kVfresh dcfresh pmfresh ctfresh cdfresh ocmem kVmem dcmem pmmem ctmem cdmem ocright kVright dcright pmright ctright oclaw kVlaw dclaw pmlaw ctlaw cdlaw ocwhole kVwhole dcwhole pmwhole ctwhole cdwhole ocmoment kVmoment dcmoment pmmoment ctmoment cdmoment ocisname kVisname dcisname pmisname ctisname cdisname occheck kVcheck dccheck pmcheck ctcheck cdcheck ocwithf kVwithf dcwithf pmwithf ctwithf cdwithf ocvinit kVvinit dcvinit pmvinit ctvinit cdvinit ocvbeg kVvbeg dcvbeg pmvbeg ctvbeg cdvbeg ocvcont kVvcont dcvcont pmvcont ctvcont cdvcont ocvlen kVvlen dcvlen pmvlen ctvlen cdvlen ocveq kVveq dcveq pmveq ctveq cdveq ocvbool kVvbool dcvbool pmvbool ctvbool cdvbool ocvto kVvto dcvto pmvto ctvto cdvto ocvli kVvli dcvli pmvli ctvli cdvli oceN kVeN dceN pmeN cteN cdeN oceM kVeM dceM pmeM cteM cdeM oceS kVeS dceS pmeS cteS cdeS oceO kVeO dceO pmeO cteO cdeO oceL kVeL dceL pmeL cteL cdeL occright : Value} {restvto restvli : List Value}  {tG tL tA tD : Tok} {itsN : Array Value} {nN : Nat} {vsright : Array Value} {nmN qN : Str} {NN : Addr} {bsN subN : List Value} {snN : List Str} {abN : Bool} {colN : Option Bool} {ddN : Option Addr} {m0N m1N m2N m3N m5N : Option Value} {nmM qM : Str} {NM : Addr} {bsM subM : List Value} {snM : List Str} {abM : Bool} {colM : Option Bool} {ddM : Option Addr} {m0M m1M m2M m3M m5M : Option Value} {nmS qS : Str} {NS : Addr} {bsS subS : List Value} {snS : List Str} {abS : Bool} {colS : Option Bool} {ddS : Option Addr} {m0S m1S m2S m3S m5S : Option Value} {nmO qO : Str} {NO : Addr} {bsO subO : List Value} {snO : List Str} {abO : Bool} {colO : Option Bool} {ddO : Option Addr} {m0O m1O m2O m3O m5O : Option Value} {nmL qL : Str} {NL : Addr} {bsL subL : List Value} {snL : List Str} {abL : Bool} {colL : Option Bool} {ddL : Option Addr} {m0L m1L m2L m3L m5L : Option Value}
    (apen : PySem.W.nsIn K mainGlobals "_law_pen" = some (some (.ref fpen)))
    (lpen : K.lookup fpen = some ⟨ocpen, odpen, .func (PySem.W.fnOf "_law_pen" "_law_pen" (defArgs sPen) (defBody sPen) (defScope sPen) .none kVpen dcpen pmpen anpen cdpen ctpen), slpen⟩)
    (cpen : PySem.W.codeIn K cdpen "_law_pen" = true)
    (kpen : PySem.W.keepIn K (.ref fpen) = true)
    (adraw : PySem.W.nsIn K mainGlobals "_law_draw" = some (some (.ref fdraw)))
    (ldraw : K.lookup fdraw = some ⟨ocdraw, oddraw, .func (PySem.W.fnOf "_law_draw" "_law_draw" (defArgs sDraw) (defBody sDraw) (defScope sDraw) .none kVdraw dcdraw pmdraw andraw cddraw ctdraw), sldraw⟩)
    (cdraw : PySem.W.codeIn K cddraw "_law_draw" = true)
    (kdraw : PySem.W.keepIn K (.ref fdraw) = true)
    (apick : PySem.W.nsIn K mainGlobals "_law_pick" = some (some (.ref fpick)))
    (lpick : K.lookup fpick = some ⟨ocpick, odpick, .func (PySem.W.fnOf "_law_pick" "_law_pick" (defArgs sPick) (defBody sPick) (defScope sPick) .none kVpick dcpick pmpick anpick cdpick ctpick), slpick⟩)
    (cpick : PySem.W.codeIn K cdpick "_law_pick" = true)
    (kpick : PySem.W.keepIn K (.ref fpick) = true)
    (awords : PySem.W.nsIn K mainGlobals "_law_words" = some (some (.ref fwords)))
    (lwords : K.lookup fwords = some ⟨ocwords, odwords, .func (PySem.W.fnOf "_law_words" "_law_words" (defArgs sWords) (defBody sWords) (defScope sWords) .none kVwords dcwords pmwords anwords cdwords ctwords), slwords⟩)
    (cwords : PySem.W.codeIn K cdwords "_law_words" = true)
    (kwords : PySem.W.keepIn K (.ref fwords) = true)
    (alname : PySem.W.nsIn K mainGlobals "_law_name" = some (some (.ref flname)))
    (llname : K.lookup flname = some ⟨oclname, odlname, .func (PySem.W.fnOf "_law_name" "_law_name" (defArgs sLName) (defBody sLName) (defScope sLName) .none kVlname dclname pmlname anlname cdlname ctlname), sllname⟩)
    (clname : PySem.W.codeIn K cdlname "_law_name" = true)
    (klname : PySem.W.keepIn K (.ref flname) = true)
    (abegun : PySem.W.nsIn K mainGlobals "_law_begun" = some (some (.ref fbegun)))
    (lbegun : K.lookup fbegun = some ⟨ocbegun, odbegun, .func (PySem.W.fnOf "_law_begun" "_law_begun" (defArgs sBegun) (defBody sBegun) (defScope sBegun) .none kVbegun dcbegun pmbegun anbegun cdbegun ctbegun), slbegun⟩)
    (cbegun : PySem.W.codeIn K cdbegun "_law_begun" = true)
    (kbegun : PySem.W.keepIn K (.ref fbegun) = true)
    (aheard : PySem.W.nsIn K mainGlobals "_law_heard" = some (some (.ref fheard)))
    (lheard : K.lookup fheard = some ⟨ocheard, odheard, .func (PySem.W.fnOf "_law_heard" "_law_heard" (defArgs sHeard) (defBody sHeard) (defScope sHeard) .none kVheard dcheard pmheard anheard cdheard ctheard), slheard⟩)
    (cheard : PySem.W.codeIn K cdheard "_law_heard" = true)
    (kheard : PySem.W.keepIn K (.ref fheard) = true)
    (alistedw : PySem.W.nsIn K mainGlobals "_law_listed" = some (some (.ref flistedw)))
    (llistedw : K.lookup flistedw = some ⟨oclistedw, odlistedw, .func (PySem.W.fnOf "_law_listed" "_law_listed" (defArgs sListedW) (defBody sListedW) (defScope sListedW) .none kVlistedw dclistedw pmlistedw anlistedw cdlistedw ctlistedw), sllistedw⟩)
    (clistedw : PySem.W.codeIn K cdlistedw "_law_listed" = true)
    (klistedw : PySem.W.keepIn K (.ref flistedw) = true)
    (aodd : PySem.W.nsIn K mainGlobals "_law_odd" = some (some (.ref fodd)))
    (lodd : K.lookup fodd = some ⟨ocodd, ododd, .func (PySem.W.fnOf "_law_odd" "_law_odd" (defArgs sOdd) (defBody sOdd) (defScope sOdd) .none kVodd dcodd pmodd anodd cdodd ctodd), slodd⟩)
    (codd : PySem.W.codeIn K cdodd "_law_odd" = true)
    (kodd : PySem.W.keepIn K (.ref fodd) = true)
    (afresh : PySem.W.nsIn K mainGlobals "_law_fresh" = some (some (.ref ffresh)))
    (lfresh : K.lookup ffresh = some ⟨ocfresh, odfresh, .func (PySem.W.fnOf "_law_fresh" "_law_fresh" (defArgs sFresh) (defBody sFresh) (defScope sFresh) .none kVfresh dcfresh pmfresh anfresh cdfresh ctfresh), slfresh⟩)
    (cfresh : PySem.W.codeIn K cdfresh "_law_fresh" = true)
    (kfresh : PySem.W.keepIn K (.ref ffresh) = true)
    (amem : PySem.W.nsIn K mainGlobals "_law_members_right" = some (some (.ref fmem)))
    (lmem : K.lookup fmem = some ⟨ocmem, odmem, .func (PySem.W.fnOf "_law_members_right" "_law_members_right" (defArgs sMem) (defBody sMem) (defScope sMem) .none kVmem dcmem pmmem anmem cdmem ctmem), slmem⟩)
    (cmem : PySem.W.codeIn K cdmem "_law_members_right" = true)
    (kmem : PySem.W.keepIn K (.ref fmem) = true)
    (aright : PySem.W.nsIn K mainGlobals "_law_right" = some (some (.ref fright)))
    (lright : K.lookup fright = some ⟨ocright, odright, .func (PySem.W.fnOf "_law_right" "_law_right" (defArgs sRight) (defBody sRight) (defScope sRight) .none kVright dcright pmright anright (.ref c_right) ctright), slright⟩)
    (cright : PySem.W.codeIn K (.ref c_right) "_law_right" = true)
    (kright : PySem.W.keepIn K (.ref fright) = true)
    (alaw : PySem.W.nsIn K mainGlobals "law" = some (some (.ref flaw)))
    (llaw : K.lookup flaw = some ⟨oclaw, odlaw, .func (PySem.W.fnOf "law" "law" (defArgs sLaw) (defBody sLaw) (defScope sLaw) .none kVlaw dclaw pmlaw anlaw cdlaw ctlaw), sllaw⟩)
    (claw : PySem.W.codeIn K cdlaw "law" = true)
    (klaw : PySem.W.keepIn K (.ref flaw) = true)
    (awhole : PySem.W.nsIn K mainGlobals "is_whole" = some (some (.ref fwhole)))
    (lwhole : K.lookup fwhole = some ⟨ocwhole, odwhole, .func (PySem.W.fnOf "is_whole" "is_whole" (defArgs sWhole) (defBody sWhole) (defScope sWhole) .none kVwhole dcwhole pmwhole anwhole cdwhole ctwhole), slwhole⟩)
    (cwhole : PySem.W.codeIn K cdwhole "is_whole" = true)
    (kwhole : PySem.W.keepIn K (.ref fwhole) = true)
    (amoment : PySem.W.nsIn K mainGlobals "is_moment" = some (some (.ref fmoment)))
    (lmoment : K.lookup fmoment = some ⟨ocmoment, odmoment, .func (PySem.W.fnOf "is_moment" "is_moment" (defArgs sMoment) (defBody sMoment) (defScope sMoment) .none kVmoment dcmoment pmmoment anmoment cdmoment ctmoment), slmoment⟩)
    (cmoment : PySem.W.codeIn K cdmoment "is_moment" = true)
    (kmoment : PySem.W.keepIn K (.ref fmoment) = true)
    (aisname : PySem.W.nsIn K mainGlobals "is_name" = some (some (.ref fisname)))
    (lisname : K.lookup fisname = some ⟨ocisname, odisname, .func (PySem.W.fnOf "is_name" "is_name" (defArgs sName) (defBody sName) (defScope sName) .none kVisname dcisname pmisname anisname cdisname ctisname), slisname⟩)
    (cisname : PySem.W.codeIn K cdisname "is_name" = true)
    (kisname : PySem.W.keepIn K (.ref fisname) = true)
    (acheck : PySem.W.nsIn K mainGlobals "check_form" = some (some (.ref fcheck)))
    (lcheck : K.lookup fcheck = some ⟨occheck, odcheck, .func (PySem.W.fnOf "check_form" "check_form" (defArgs sCheck) (defBody sCheck) (defScope sCheck) .none kVcheck dccheck pmcheck ancheck cdcheck ctcheck), slcheck⟩)
    (ccheck : PySem.W.codeIn K cdcheck "check_form" = true)
    (kcheck : PySem.W.keepIn K (.ref fcheck) = true)
    (awithf : PySem.W.nsIn K mainGlobals "with_first" = some (some (.ref fwithf)))
    (lwithf : K.lookup fwithf = some ⟨ocwithf, odwithf, .func (PySem.W.fnOf "with_first" "with_first" (defArgs sWith) (defBody sWith) (defScope sWith) .none kVwithf dcwithf pmwithf anwithf cdwithf ctwithf), slwithf⟩)
    (cwithf : PySem.W.codeIn K cdwithf "with_first" = true)
    (kwithf : PySem.W.keepIn K (.ref fwithf) = true)
    (thn : PySem.W.specialIn K (.builtin "object.__class__") "__get__" = some (some (.builtin "getset_descriptor.__get__")))
    (tht : PySem.W.takesIn K (.builtin "object.__class__") = some true)
    (aCV : PySem.W.nsIn K mainGlobals "Lives" = some (some (.ref CV)))
    (pgCV : PySem.W.plainGet K CV Str.empty = true)
    (hdCV : PySem.W.hasDictIn K CV = true)
    (poCV : PySem.W.plainOver K CV = true)
    (saCV : PySem.W.findIn K (.ref CV) "__setattr__" = some (some (.builtin "object.__setattr__")))
    (mkCV : PySem.W.makesIn K CV = true)
    (kcCV : PySem.W.keepIn K (.ref CV) = true)
    (nCV__begun : PySem.W.findIn K (.ref CV) "_begun" = some none)
    (thaCV : PySem.W.findIn K (.ref CV) "__class__" = some (some (.builtin "object.__class__")))
    (thmCV : PySem.W.mroIn K CV (.type "object") = some true)
    (hclsCV : PySem.W.isClsIn K CV = true)
    (htypCV : PySem.W.typeIn K (.ref CV) = some (.type "type"))
    (avinit : PySem.W.findIn K (.ref CV) "__init__" = some (some (.ref fvinit)))
    (ivinit : PySem.W.isFn K (.ref fvinit) = true)
    (lvinit : K.lookup fvinit = some ⟨ocvinit, odvinit, .func (PySem.W.fnOf "__init__" "Lives.__init__" (defArgs sLInit) (defBody sLInit) (defScope sLInit) .none kVvinit dcvinit pmvinit anvinit cdvinit ctvinit), slvinit⟩)
    (cvinit : PySem.W.codeIn K cdvinit "Lives.__init__" = true)
    (kvinit : PySem.W.keepIn K (.ref fvinit) = true)
    (avbeg : PySem.W.findIn K (.ref CV) "beginnings" = some (some (.ref fvbeg)))
    (ivbeg : PySem.W.isFn K (.ref fvbeg) = true)
    (lvbeg : K.lookup fvbeg = some ⟨ocvbeg, odvbeg, .func (PySem.W.fnOf "beginnings" "Lives.beginnings" (defArgs sBeg) (defBody sBeg) (defScope sBeg) .none kVvbeg dcvbeg pmvbeg anvbeg cdvbeg ctvbeg), slvbeg⟩)
    (cvbeg : PySem.W.codeIn K cdvbeg "Lives.beginnings" = true)
    (kvbeg : PySem.W.keepIn K (.ref fvbeg) = true)
    (avcont : PySem.W.findIn K (.ref CV) "__contains__" = some (some (.ref fvcont)))
    (ivcont : PySem.W.isFn K (.ref fvcont) = true)
    (lvcont : K.lookup fvcont = some ⟨ocvcont, odvcont, .func (PySem.W.fnOf "__contains__" "Lives.__contains__" (defArgs sCont) (defBody sCont) (defScope sCont) .none kVvcont dcvcont pmvcont anvcont cdvcont ctvcont), slvcont⟩)
    (cvcont : PySem.W.codeIn K cdvcont "Lives.__contains__" = true)
    (kvcont : PySem.W.keepIn K (.ref fvcont) = true)
    (avlen : PySem.W.findIn K (.ref CV) "__len__" = some (some (.ref fvlen)))
    (ivlen : PySem.W.isFn K (.ref fvlen) = true)
    (lvlen : K.lookup fvlen = some ⟨ocvlen, odvlen, .func (PySem.W.fnOf "__len__" "Lives.__len__" (defArgs sLen) (defBody sLen) (defScope sLen) .none kVvlen dcvlen pmvlen anvlen cdvlen ctvlen), slvlen⟩)
    (cvlen : PySem.W.codeIn K cdvlen "Lives.__len__" = true)
    (kvlen : PySem.W.keepIn K (.ref fvlen) = true)
    (aveq : PySem.W.findIn K (.ref CV) "__eq__" = some (some (.ref fveq)))
    (iveq : PySem.W.isFn K (.ref fveq) = true)
    (lveq : K.lookup fveq = some ⟨ocveq, odveq, .func (PySem.W.fnOf "__eq__" "Lives.__eq__" (defArgs sLEq) (defBody sLEq) (defScope sLEq) .none kVveq dcveq pmveq anveq cdveq ctveq), slveq⟩)
    (cveq : PySem.W.codeIn K cdveq "Lives.__eq__" = true)
    (kveq : PySem.W.keepIn K (.ref fveq) = true)
    (avbool : PySem.W.findIn K (.ref CV) "__bool__" = some (some (.ref fvbool)))
    (ivbool : PySem.W.isFn K (.ref fvbool) = true)
    (lvbool : K.lookup fvbool = some ⟨ocvbool, odvbool, .func (PySem.W.fnOf "__bool__" "Lives.__bool__" (defArgs sLBool) (defBody sLBool) (defScope sLBool) .none kVvbool dcvbool pmvbool anvbool cdvbool ctvbool), slvbool⟩)
    (cvbool : PySem.W.codeIn K cdvbool "Lives.__bool__" = true)
    (kvbool : PySem.W.keepIn K (.ref fvbool) = true)
    (avto : PySem.W.findIn K (.ref CV) "tools" = some (some (.ref pvto)))
    (gvto : PySem.W.specialIn K (.ref pvto) "__get__" = some (some (.builtin "property.__get__")))
    (tvto : PySem.W.takesIn K (.ref pvto) = some true)
    (rvto : PySem.W.recIn K pvto "property" = some (.ref fvto :: restvto))
    (lvto : K.lookup fvto = some ⟨ocvto, odvto, .func (PySem.W.fnOf "tools" "Lives.tools" (defArgs sLTools) (defBody sLTools) (defScope sLTools) .none kVvto dcvto pmvto anvto cdvto ctvto), slvto⟩)
    (cvto : PySem.W.codeIn K cdvto "Lives.tools" = true)
    (kvto : PySem.W.keepIn K (.ref fvto) = true)
    (avli : PySem.W.findIn K (.ref CV) "listed" = some (some (.ref pvli)))
    (gvli : PySem.W.specialIn K (.ref pvli) "__get__" = some (some (.builtin "property.__get__")))
    (tvli : PySem.W.takesIn K (.ref pvli) = some true)
    (rvli : PySem.W.recIn K pvli "property" = some (.ref fvli :: restvli))
    (lvli : K.lookup fvli = some ⟨ocvli, odvli, .func (PySem.W.fnOf "listed" "Lives.listed" (defArgs sListed) (defBody sListed) (defScope sListed) .none kVvli dcvli pmvli anvli cdvli ctvli), slvli⟩)
    (cvli : PySem.W.codeIn K cdvli "Lives.listed" = true)
    (kvli : PySem.W.keepIn K (.ref fvli) = true)
    (nfV : PySem.W.notFirst K CV (.ref CV) = true)
    (gG : PySem.W.nsIn K mainGlobals "GREATEST" = some (some (.int 1000000000000000000000000000000 tG)))
    (gL : PySem.W.nsIn K mainGlobals "LONGEST_NAME" = some (some (.int 8 tL)))
    (gA : PySem.W.nsIn K mainGlobals "LETTERS" = some (some (.str letters tA)))
    (gD : PySem.W.nsIn K mainGlobals "DIGITS" = some (some (.str digits tD)))
    (gN : PySem.W.nsIn K mainGlobals "NO_NAMES" = some (some (.ref aNo)))
    (lN : K.lookup aNo = some ⟨.type "tuple", odN, .seq itsN nN, slN⟩)
    (vN : itsN.toList.map strOf? = noNames.map some)
    (b_isinstance : PySem.W.nsIn K mainGlobals "isinstance" = some none)
    (b_int : PySem.W.nsIn K mainGlobals "int" = some none)
    (b_bool : PySem.W.nsIn K mainGlobals "bool" = some none)
    (b_str : PySem.W.nsIn K mainGlobals "str" = some none)
    (b_len : PySem.W.nsIn K mainGlobals "len" = some none)
    (b_all : PySem.W.nsIn K mainGlobals "all" = some none)
    (b_list : PySem.W.nsIn K mainGlobals "list" = some none)
    (b_tuple : PySem.W.nsIn K mainGlobals "tuple" = some none)
    (b_dict : PySem.W.nsIn K mainGlobals "dict" = some none)
    (b_abs : PySem.W.nsIn K mainGlobals "abs" = some none)
    (b_repr : PySem.W.nsIn K mainGlobals "repr" = some none)
    (b_range : PySem.W.nsIn K mainGlobals "range" = some none)
    (b_sorted : PySem.W.nsIn K mainGlobals "sorted" = some none)
    (b_set : PySem.W.nsIn K mainGlobals "set" = some none)
    (b_max : PySem.W.nsIn K mainGlobals "max" = some none)
    (b_min : PySem.W.nsIn K mainGlobals "min" = some none)
    (b_ValueError : PySem.W.nsIn K mainGlobals "ValueError" = some none)
    (aT : PySem.W.nsIn K mainGlobals "TillError" = some (some (.ref CT)))
    (iT : PySem.W.isClsIn K CT = true)
    (tT : PySem.W.typeIn K (.ref CT) = some (.type "type"))
    (eT : PySem.W.subIn K (.ref CT) (.type "BaseException") = some true)
    (sT : PySem.W.subIn K (.ref CT) (.ref CT) = some true)
    (aN : PySem.W.nsIn K mainGlobals "BadName" = some (some (.ref CN)))
    (xN : K.lookup CN = some (excClassObj nmN qN CN NN bsN [.ref CT, .type "ValueError", .type "Exception", .type "BaseException", .type "object"] true snN subN abN colN ddN m0N m1N m2N m3N m5N "ValueError.__new__"))
    (seN : PySem.W.findIn K (.ref CN) "__setattr__" = some (some (.builtin "object.__setattr__")))
    (geN : PySem.W.findIn K (.ref CN) "__getattribute__" = some (some (.builtin "BaseException.__getattribute__")))
    (heN : PySem.W.findIn K (.ref CN) "__getattr__" = some none)
    (neN : PySem.W.findIn K (.ref CN) "name" = some none)
    (aeN : PySem.W.findIn K (.ref CN) "__init__" = some (some (.ref feN)))
    (teN : PySem.W.typeIn K (.ref feN) = some (.type "function"))
    (leN : K.lookup feN = some ⟨oceN, odeN, .func (PySem.W.fnOf "__init__" "BadName.__init__" (defArgs sEN) (defBody sEN) (defScope sEN) .none kVeN dceN pmeN aneN cdeN cteN), sleN⟩)
    (ceN : PySem.W.codeIn K cdeN "BadName.__init__" = true)
    (keN : PySem.W.keepIn K (.ref feN) = true)
    (kkeN : PySem.W.keepIn K (.ref CN) = true)
    (exeN : PySem.W.subIn K (.ref CN) (.type "BaseException") = some true)
    (tyeN : PySem.W.typeIn K (.ref CN) = some (.type "type"))
    (hdeN : PySem.W.hasDictIn K CN = true)
    (iceN : PySem.W.isClsIn K CN = true)
    (veeN : PySem.W.subIn K (.ref CN) (.type "ValueError") = some true)
    (uteN : PySem.W.subIn K (.ref CN) (.ref CT) = some true)
    (caeN : PySem.W.findIn K (.ref CN) "__class__" = some (some (.builtin "object.__class__")))
    (cmeN : PySem.W.mroIn K CN (.type "object") = some true)
    (aM : PySem.W.nsIn K mainGlobals "BadMoment" = some (some (.ref CM)))
    (xM : K.lookup CM = some (excClassObj nmM qM CM NM bsM [.ref CT, .type "ValueError", .type "Exception", .type "BaseException", .type "object"] true snM subM abM colM ddM m0M m1M m2M m3M m5M "ValueError.__new__"))
    (seM : PySem.W.findIn K (.ref CM) "__setattr__" = some (some (.builtin "object.__setattr__")))
    (geM : PySem.W.findIn K (.ref CM) "__getattribute__" = some (some (.builtin "BaseException.__getattribute__")))
    (heM : PySem.W.findIn K (.ref CM) "__getattr__" = some none)
    (neM : PySem.W.findIn K (.ref CM) "moment" = some none)
    (aeM : PySem.W.findIn K (.ref CM) "__init__" = some (some (.ref feM)))
    (teM : PySem.W.typeIn K (.ref feM) = some (.type "function"))
    (leM : K.lookup feM = some ⟨oceM, odeM, .func (PySem.W.fnOf "__init__" "BadMoment.__init__" (defArgs sEM) (defBody sEM) (defScope sEM) .none kVeM dceM pmeM aneM cdeM cteM), sleM⟩)
    (ceM : PySem.W.codeIn K cdeM "BadMoment.__init__" = true)
    (keM : PySem.W.keepIn K (.ref feM) = true)
    (kkeM : PySem.W.keepIn K (.ref CM) = true)
    (exeM : PySem.W.subIn K (.ref CM) (.type "BaseException") = some true)
    (tyeM : PySem.W.typeIn K (.ref CM) = some (.type "type"))
    (hdeM : PySem.W.hasDictIn K CM = true)
    (iceM : PySem.W.isClsIn K CM = true)
    (veeM : PySem.W.subIn K (.ref CM) (.type "ValueError") = some true)
    (uteM : PySem.W.subIn K (.ref CM) (.ref CT) = some true)
    (caeM : PySem.W.findIn K (.ref CM) "__class__" = some (some (.builtin "object.__class__")))
    (cmeM : PySem.W.mroIn K CM (.type "object") = some true)
    (aS : PySem.W.nsIn K mainGlobals "BadSaying" = some (some (.ref CS)))
    (xS : K.lookup CS = some (excClassObj nmS qS CS NS bsS [.ref CT, .type "ValueError", .type "Exception", .type "BaseException", .type "object"] true snS subS abS colS ddS m0S m1S m2S m3S m5S "ValueError.__new__"))
    (seS : PySem.W.findIn K (.ref CS) "__setattr__" = some (some (.builtin "object.__setattr__")))
    (geS : PySem.W.findIn K (.ref CS) "__getattribute__" = some (some (.builtin "BaseException.__getattribute__")))
    (heS : PySem.W.findIn K (.ref CS) "__getattr__" = some none)
    (neS : PySem.W.findIn K (.ref CS) "value" = some none)
    (aeS : PySem.W.findIn K (.ref CS) "__init__" = some (some (.ref feS)))
    (teS : PySem.W.typeIn K (.ref feS) = some (.type "function"))
    (leS : K.lookup feS = some ⟨oceS, odeS, .func (PySem.W.fnOf "__init__" "BadSaying.__init__" (defArgs sES) (defBody sES) (defScope sES) .none kVeS dceS pmeS aneS cdeS cteS), sleS⟩)
    (ceS : PySem.W.codeIn K cdeS "BadSaying.__init__" = true)
    (keS : PySem.W.keepIn K (.ref feS) = true)
    (kkeS : PySem.W.keepIn K (.ref CS) = true)
    (exeS : PySem.W.subIn K (.ref CS) (.type "BaseException") = some true)
    (tyeS : PySem.W.typeIn K (.ref CS) = some (.type "type"))
    (hdeS : PySem.W.hasDictIn K CS = true)
    (iceS : PySem.W.isClsIn K CS = true)
    (veeS : PySem.W.subIn K (.ref CS) (.type "ValueError") = some true)
    (uteS : PySem.W.subIn K (.ref CS) (.ref CT) = some true)
    (caeS : PySem.W.findIn K (.ref CS) "__class__" = some (some (.builtin "object.__class__")))
    (cmeS : PySem.W.mroIn K CS (.type "object") = some true)
    (aO : PySem.W.nsIn K mainGlobals "NoTool" = some (some (.ref CO)))
    (xO : K.lookup CO = some (excClassObj nmO qO CO NO bsO [.ref CT, .type "ValueError", .type "Exception", .type "BaseException", .type "object"] true snO subO abO colO ddO m0O m1O m2O m3O m5O "ValueError.__new__"))
    (seO : PySem.W.findIn K (.ref CO) "__setattr__" = some (some (.builtin "object.__setattr__")))
    (geO : PySem.W.findIn K (.ref CO) "__getattribute__" = some (some (.builtin "BaseException.__getattribute__")))
    (heO : PySem.W.findIn K (.ref CO) "__getattr__" = some none)
    (neO : PySem.W.findIn K (.ref CO) "tool" = some none)
    (aeO : PySem.W.findIn K (.ref CO) "__init__" = some (some (.ref feO)))
    (teO : PySem.W.typeIn K (.ref feO) = some (.type "function"))
    (leO : K.lookup feO = some ⟨oceO, odeO, .func (PySem.W.fnOf "__init__" "NoTool.__init__" (defArgs sET) (defBody sET) (defScope sET) .none kVeO dceO pmeO aneO cdeO cteO), sleO⟩)
    (ceO : PySem.W.codeIn K cdeO "NoTool.__init__" = true)
    (keO : PySem.W.keepIn K (.ref feO) = true)
    (kkeO : PySem.W.keepIn K (.ref CO) = true)
    (exeO : PySem.W.subIn K (.ref CO) (.type "BaseException") = some true)
    (tyeO : PySem.W.typeIn K (.ref CO) = some (.type "type"))
    (hdeO : PySem.W.hasDictIn K CO = true)
    (iceO : PySem.W.isClsIn K CO = true)
    (veeO : PySem.W.subIn K (.ref CO) (.type "ValueError") = some true)
    (uteO : PySem.W.subIn K (.ref CO) (.ref CT) = some true)
    (caeO : PySem.W.findIn K (.ref CO) "__class__" = some (some (.builtin "object.__class__")))
    (cmeO : PySem.W.mroIn K CO (.type "object") = some true)
    (aL : PySem.W.nsIn K mainGlobals "NoLife" = some (some (.ref CL)))
    (xL : K.lookup CL = some (excClassObj nmL qL CL NL bsL [.ref CT, .type "ValueError", .type "Exception", .type "BaseException", .type "object"] true snL subL abL colL ddL m0L m1L m2L m3L m5L "ValueError.__new__"))
    (seL : PySem.W.findIn K (.ref CL) "__setattr__" = some (some (.builtin "object.__setattr__")))
    (geL : PySem.W.findIn K (.ref CL) "__getattribute__" = some (some (.builtin "BaseException.__getattribute__")))
    (heL : PySem.W.findIn K (.ref CL) "__getattr__" = some none)
    (neL : PySem.W.findIn K (.ref CL) "value" = some none)
    (aeL : PySem.W.findIn K (.ref CL) "__init__" = some (some (.ref feL)))
    (teL : PySem.W.typeIn K (.ref feL) = some (.type "function"))
    (leL : K.lookup feL = some ⟨oceL, odeL, .func (PySem.W.fnOf "__init__" "NoLife.__init__" (defArgs sEL) (defBody sEL) (defScope sEL) .none kVeL dceL pmeL aneL cdeL cteL), sleL⟩)
    (ceL : PySem.W.codeIn K cdeL "NoLife.__init__" = true)
    (keL : PySem.W.keepIn K (.ref feL) = true)
    (kkeL : PySem.W.keepIn K (.ref CL) = true)
    (exeL : PySem.W.subIn K (.ref CL) (.type "BaseException") = some true)
    (tyeL : PySem.W.typeIn K (.ref CL) = some (.type "type"))
    (hdeL : PySem.W.hasDictIn K CL = true)
    (iceL : PySem.W.isClsIn K CL = true)
    (veeL : PySem.W.subIn K (.ref CL) (.type "ValueError") = some true)
    (uteL : PySem.W.subIn K (.ref CL) (.ref CT) = some true)
    (caeL : PySem.W.findIn K (.ref CL) "__class__" = some (some (.builtin "object.__class__")))
    (cmeL : PySem.W.mroIn K CL (.type "object") = some true)
    (uOO : PySem.W.subIn K (.ref CO) (.ref CO) = some true)
    (uOL : PySem.W.subIn K (.ref CO) (.ref CL) = some false)
    (uON : PySem.W.subIn K (.ref CO) (.ref CN) = some false)
    (uOM : PySem.W.subIn K (.ref CO) (.ref CM) = some false)
    (uLO : PySem.W.subIn K (.ref CL) (.ref CO) = some false)
    (uLL : PySem.W.subIn K (.ref CL) (.ref CL) = some true)
    (uLN : PySem.W.subIn K (.ref CL) (.ref CN) = some false)
    (uLM : PySem.W.subIn K (.ref CL) (.ref CM) = some false)
    (uNO : PySem.W.subIn K (.ref CN) (.ref CO) = some false)
    (uNL : PySem.W.subIn K (.ref CN) (.ref CL) = some false)
    (uNN : PySem.W.subIn K (.ref CN) (.ref CN) = some true)
    (uNM : PySem.W.subIn K (.ref CN) (.ref CM) = some false)
    (uMO : PySem.W.subIn K (.ref CM) (.ref CO) = some false)
    (uML : PySem.W.subIn K (.ref CM) (.ref CL) = some false)
    (uMN : PySem.W.subIn K (.ref CM) (.ref CN) = some false)
    (uMM : PySem.W.subIn K (.ref CM) (.ref CM) = some true)
    (lcright : K.lookup c_right = some ⟨occright, odcright, .fields vsright, slcright⟩)
    (vcright : (vsright[11]? : Option Value) = some (.ref P_right))
    (nTright : K.lookup P_right = none)
    : ∃ (fd : FuncData) (c0 P0 : Addr), PySem.W.tabIn K "_law_right" = some (c0, P0) ∧ K.lookup P0 = none ∧ (∀ (s : Shared) (v : Value), BindsTo s fd ⟨[v], []⟩ [("_law_script", v)]) ∧
      ∀ base : Heap, K.In base → base.Ns mainGlobals mg → (∀ q ∈ [(c0, P0)], TabB base mg q.1 q.2) → FnG l.prog w K mg base CX0 12 fa fd ["_law_script"] (spLaw K (TT P0)) := by
  have e := hfa.symm.trans (PySem.W.mg_of X G alaw)
  cases e
  have g1 := fun {n : Str} {v : Value} (e : PySem.W.nsIn K mainGlobals n = some (some v)) => PySem.W.mg_of X G e
  have g0 := fun {n : Str} (e : PySem.W.nsIn K mainGlobals n = some none) => PySem.W.mg_none_of X G e
  have F_pen := fun_mk (st := sPen) lpen cpen kpen
  have F_draw := fun_mk (st := sDraw) ldraw cdraw kdraw
  have F_pick := fun_mk (st := sPick) lpick cpick kpick
  have F_words := fun_mk (st := sWords) lwords cwords kwords
  have F_lname := fun_mk (st := sLName) llname clname klname
  have F_begun := fun_mk (st := sBegun) lbegun cbegun kbegun
  have F_heard := fun_mk (st := sHeard) lheard cheard kheard
  have F_listedw := fun_mk (st := sListedW) llistedw clistedw klistedw
  have F_odd := fun_mk (st := sOdd) lodd codd kodd
  have F_fresh := fun_mk (st := sFresh) lfresh cfresh kfresh
  have F_mem := fun_mk (st := sMem) lmem cmem kmem
  have F_right := fun_mk (st := sRight) lright cright kright
  have F_law := fun_mk (st := sLaw) llaw claw klaw
  have F_whole := fun_mk (st := sWhole) lwhole cwhole kwhole
  have F_moment := fun_mk (st := sMoment) lmoment cmoment kmoment
  have F_isname := fun_mk (st := sName) lisname cisname kisname
  have F_check := fun_mk (st := sCheck) lcheck ccheck kcheck
  have F_withf := fun_mk (st := sWith) lwithf cwithf kwithf
  have F_vinit := fun_mk (st := sLInit) lvinit cvinit kvinit
  have F_vbeg := fun_mk (st := sBeg) lvbeg cvbeg kvbeg
  have F_vcont := fun_mk (st := sCont) lvcont cvcont kvcont
  have F_vlen := fun_mk (st := sLen) lvlen cvlen kvlen
  have F_veq := fun_mk (st := sLEq) lveq cveq kveq
  have F_vbool := fun_mk (st := sLBool) lvbool cvbool kvbool
  have F_vto := fun_mk (st := sLTools) lvto cvto kvto
  have F_vli := fun_mk (st := sListed) lvli cvli kvli
  have F_eN := fun_mk (st := sEN) leN ceN keN
  have F_eM := fun_mk (st := sEM) leM ceM keM
  have F_eS := fun_mk (st := sES) leS ceS keS
  have F_eO := fun_mk (st := sET) leO ceO keO
  have F_eL := fun_mk (st := sEL) leL ceL keL
  have b_pen_ := F_pen.binds (ps := ["_law_script"]) fun _ _ _ _ _ _ us hl => match us, hl with | [_], _ => rfl
  have b_draw_ := F_draw.binds (ps := ["_law_pen_here", "_law_many"]) fun _ _ _ _ _ _ us hl => match us, hl with | [_, _], _ => rfl
  have b_pick_ := F_pick.binds (ps := ["_law_pen_here", "_law_some"]) fun _ _ _ _ _ _ us hl => match us, hl with | [_, _], _ => rfl
  have b_words_ := F_words.binds (ps := []) fun _ _ _ _ _ _ us hl => match us, hl with | [], _ => rfl
  have b_lname_ := F_lname.binds (ps := ["_law_pen_here"]) fun _ _ _ _ _ _ us hl => match us, hl with | [_], _ => rfl
  have b_begun_ := F_begun.binds (ps := ["_law_pen_here"]) fun _ _ _ _ _ _ us hl => match us, hl with | [_], _ => rfl
  have b_heard_ := F_heard.binds (ps := ["_law_ask"]) fun _ _ _ _ _ _ us hl => match us, hl with | [_], _ => rfl
  have b_listedw_ := F_listedw.binds (ps := ["_law_starts"]) fun _ _ _ _ _ _ us hl => match us, hl with | [_], _ => rfl
  have b_odd_ := F_odd.binds (ps := ["_law_pen_here", "_law_tools"]) fun _ _ _ _ _ _ us hl => match us, hl with | [_, _], _ => rfl
  have b_fresh_ := F_fresh.binds (ps := ["_law_some"]) fun _ _ _ _ _ _ us hl => match us, hl with | [_], _ => rfl
  have b_mem_ := F_mem.binds (ps := ["_law_pen_here", "_law_lives", "_law_listed_here"]) fun _ _ _ _ _ _ us hl => match us, hl with | [_, _, _], _ => rfl
  have b_right_ := F_right.binds (ps := ["_law_pen_here", "_law_lives", "_law_starts"]) fun _ _ _ _ _ _ us hl => match us, hl with | [_, _, _], _ => rfl
  have b_law_ := F_law.binds (ps := ["_law_script"]) fun _ _ _ _ _ _ us hl => match us, hl with | [_], _ => rfl
  have b_whole_ := F_whole.binds (ps := ["value"]) fun _ _ _ _ _ _ us hl => match us, hl with | [_], _ => rfl
  have b_moment_ := F_moment.binds (ps := ["value"]) fun _ _ _ _ _ _ us hl => match us, hl with | [_], _ => rfl
  have b_isname_ := F_isname.binds (ps := ["value"]) fun _ _ _ _ _ _ us hl => match us, hl with | [_], _ => rfl
  have b_check_ := F_check.binds (ps := ["value", "form"]) fun _ _ _ _ _ _ us hl => match us, hl with | [_, _], _ => rfl
  have b_withf_ := F_withf.binds (ps := ["tool", "moments"]) fun _ _ _ _ _ _ us hl => match us, hl with | [_, _], _ => rfl
  have b_vinit_ := F_vinit.binds (ps := ["self", "begun"]) fun _ _ _ _ _ _ us hl => match us, hl with | [_, _], _ => rfl
  have b_vbeg_ := F_vbeg.binds (ps := ["self", "tool"]) fun _ _ _ _ _ _ us hl => match us, hl with | [_, _], _ => rfl
  have b_vcont_ := F_vcont.binds (ps := ["self", "life"]) fun _ _ _ _ _ _ us hl => match us, hl with | [_, _], _ => rfl
  have b_vlen_ := F_vlen.binds (ps := ["self"]) fun _ _ _ _ _ _ us hl => match us, hl with | [_], _ => rfl
  have b_veq_ := F_veq.binds (ps := ["self", "other"]) fun _ _ _ _ _ _ us hl => match us, hl with | [_, _], _ => rfl
  have b_vbool_ := F_vbool.binds (ps := ["self"]) fun _ _ _ _ _ _ us hl => match us, hl with | [_], _ => rfl
  have b_vto_ := F_vto.binds (ps := ["self"]) fun _ _ _ _ _ _ us hl => match us, hl with | [_], _ => rfl
  have b_vli_ := F_vli.binds (ps := ["self"]) fun _ _ _ _ _ _ us hl => match us, hl with | [_], _ => rfl
  have b_eN_ := F_eN.binds (ps := ["self", "name"]) fun _ _ _ _ _ _ us hl => match us, hl with | [_, _], _ => rfl
  have b_eM_ := F_eM.binds (ps := ["self", "moment"]) fun _ _ _ _ _ _ us hl => match us, hl with | [_, _], _ => rfl
  have b_eS_ := F_eS.binds (ps := ["self", "value"]) fun _ _ _ _ _ _ us hl => match us, hl with | [_, _], _ => rfl
  have b_eO_ := F_eO.binds (ps := ["self", "tool"]) fun _ _ _ _ _ _ us hl => match us, hl with | [_, _], _ => rfl
  have b_eL_ := F_eL.binds (ps := ["self", "value"]) fun _ _ _ _ _ _ us hl => match us, hl with | [_, _], _ => rfl
  have L_CV : Cls K CV := ⟨pgCV, hdCV, poCV, saCV⟩
  have P_vto : PropOf K CV "tools" pvto fvto := ⟨avto, gvto, tvto, ⟨_, rvto⟩⟩
  have P_vli : PropOf K CV "listed" pvli fvli := ⟨avli, gvli, tvli, ⟨_, rvli⟩⟩
  have RN : Err K CN := ⟨geN, heN, exeN, hdeN, caeN, thn, tht, cmeN⟩
  have ON : OneE K mg "BadName" "name" CN feN _ := ⟨⟨⟨_, _, _, _, _, _, _, _, _, _, _, _, _, _, _, xN, by rfl⟩, seN, exeN, tyeN, kkeN⟩, aeN, teN, g1 aN, neN, RN, b_eN_⟩
  have RM : Err K CM := ⟨geM, heM, exeM, hdeM, caeM, thn, tht, cmeM⟩
  have OM : OneE K mg "BadMoment" "moment" CM feM _ := ⟨⟨⟨_, _, _, _, _, _, _, _, _, _, _, _, _, _, _, xM, by rfl⟩, seM, exeM, tyeM, kkeM⟩, aeM, teM, g1 aM, neM, RM, b_eM_⟩
  have RS : Err K CS := ⟨geS, heS, exeS, hdeS, caeS, thn, tht, cmeS⟩
  have OS : OneE K mg "BadSaying" "value" CS feS _ := ⟨⟨⟨_, _, _, _, _, _, _, _, _, _, _, _, _, _, _, xS, by rfl⟩, seS, exeS, tyeS, kkeS⟩, aeS, teS, g1 aS, neS, RS, b_eS_⟩
  have RO : Err K CO := ⟨geO, heO, exeO, hdeO, caeO, thn, tht, cmeO⟩
  have OO : OneE K mg "NoTool" "tool" CO feO _ := ⟨⟨⟨_, _, _, _, _, _, _, _, _, _, _, _, _, _, _, xO, by rfl⟩, seO, exeO, tyeO, kkeO⟩, aeO, teO, g1 aO, neO, RO, b_eO_⟩
  have RL : Err K CL := ⟨geL, heL, exeL, hdeL, caeL, thn, tht, cmeL⟩
  have OL : OneE K mg "NoLife" "value" CL feL _ := ⟨⟨⟨_, _, _, _, _, _, _, _, _, _, _, _, _, _, _, xL, by rfl⟩, seL, exeL, tyeL, kkeL⟩, aeL, teL, g1 aL, neL, RL, b_eL_⟩
  have W : Words K mg := ⟨⟨_, g1 gG⟩, ⟨_, g1 gL⟩, ⟨_, g1 gA⟩, ⟨_, g1 gD⟩, ⟨aNo, g1 gN, fun H => tab_seq lN vN (by decide) H⟩, g0 b_isinstance, g0 b_int, g0 b_bool, g0 b_str, g0 b_len, g0 b_all⟩
  have WL : WordsL mg := ⟨g0 b_sorted, g0 b_set, g0 b_max, g0 b_min, g0 b_tuple⟩
  have NR : WordsR mg := ⟨g0 b_sorted, g0 b_list, g0 b_repr, g0 b_tuple, g0 b_set, g0 b_len, g0 b_bool⟩
  have NQ : WordsQ mg := ⟨NR, g0 b_range, g0 b_isinstance, g0 b_dict, g0 b_str⟩
  have RR : Errs K mg CN CM CS CO CL := ⟨⟨_, _, ON, F_eN⟩, ⟨_, _, OM, F_eM⟩, ⟨_, _, OS, F_eS⟩, ⟨_, _, OO, F_eO⟩, ⟨_, _, OL, F_eL⟩⟩
  have TV : Lvs K mg CV := ⟨L_CV, nCV__begun, g1 aCV, fun T hT => by
    simp only [List.mem_cons, List.not_mem_nil, or_false] at hT
    rcases hT with h | h | h | h | h | h | h <;> subst h <;> exact ⟨kit_no hclsCV htypCV (by decide +kernel), notFirst_ty (by decide +kernel)⟩⟩
  have TI : LvsI K CV := ⟨thaCV, thn, tht, thmCV, kit_self⟩
  have HR : HrL K mg CT CN CM CO CL := {
    gT := g1 aT, gN := g1 aN, gM := g1 aM, gTo := g1 aO, gL := g1 aL, gV := g0 b_ValueError, isi := g0 b_isinstance, len := g0 b_len
    te := fun C hC => by
      simp only [List.mem_cons, List.not_mem_nil, or_false] at hC
      rcases hC with rfl | rfl | rfl
      · exact ⟨exm_own iT tT eT uteO sT, kit_VE veeO, RO⟩
      · exact ⟨exm_own iT tT eT uteL sT, kit_VE veeL, RL⟩
      · exact ⟨exm_own iT tT eT uteM sT, kit_VE veeM, RM⟩
    eN := RN
    no := fun C hC => by
      simp only [List.mem_cons, List.not_mem_nil, or_false] at hC
      rcases hC with rfl | rfl | rfl | rfl
      · exact kit_no iceO tyeO (by decide +kernel)
      · exact kit_no iceL tyeL (by decide +kernel)
      · exact kit_no iceN tyeN (by decide +kernel)
      · exact kit_no iceM tyeM (by decide +kernel)
    tt := kit_self
    tl := kit_own iceL tyeL uOL uLL
    tn := kit_own iceN tyeN uON uNN
    tm := kit_own iceM tyeM uOM uMM
    lt := kit_own iceO tyeO uLO uOO
    ll := kit_self
    ln := kit_own iceN tyeN uLN uNN
    lm := kit_own iceM tyeM uLM uMM
    mt := kit_own iceO tyeO uMO uOO
    ml := kit_own iceL tyeL uML uLL
    mn := kit_own iceN tyeN uMN uNN
    mm := kit_self
    fN := neN, fM := neM, fT := neO, fL := neL }
  refine ⟨PySem.W.fnOf "law" "law" (defArgs sLaw) (defBody sLaw) (defScope sLaw) .none kVlaw dclaw pmlaw anlaw cdlaw ctlaw, c_right, P_right, tab_by aright lright rfl lcright vcright, nTright, fun s v => .of_eq rfl, fun base _ _ TB => ?_⟩
  have GD := ok_draw (P := l.prog) (w := w) (base := base) F_draw (g0 b_len) (g0 b_int) (g0 b_abs)
  have GPk := ok_pick (P := l.prog) (w := w) (base := base) F_pick (g0 b_len) F_draw b_draw_ (g1 adraw) GD
  have GPen := ok_pen (P := l.prog) (w := w) (base := base) F_pen (g0 b_list)
  have GWo := ok_words (P := l.prog) (w := w) (base := base) (mg := mg) F_words
  have GLn0 := ok_lname (P := l.prog) (w := w) (base := base) F_lname (g0 b_range) F_pick b_pick_ (g1 apick) GPk F_words b_words_ (g1 awords) GWo
  have GBe := ok_begun (P := l.prog) (w := w) (base := base) F_begun (g0 b_range) F_draw b_draw_ (g1 adraw) GD F_pick b_pick_ (g1 apick) GPk F_lname b_lname_ (g1 alname) GLn0
  have GLw := ok_listedW (P := l.prog) (w := w) (base := base) F_listedw (g0 b_sorted) (g0 b_list) (g0 b_set)
  have GOd := ok_odd (P := l.prog) (w := w) (base := base) F_odd F_pick b_pick_ (g1 apick) GPk
  have GFr := ok_fresh (P := l.prog) (w := w) (base := base) F_fresh (g0 b_range)
  have GM := ok_moment (P := l.prog) (w := w) (base := base) F_moment W F_whole b_whole_ (g1 awhole)
  have GNm := ok_name (P := l.prog) (w := w) (base := base) F_isname W
  have GC := ok_check (P := l.prog) (w := w) (base := base) F_check W RR F_moment b_moment_ (g1 amoment) GM F_isname b_isname_ (g1 aisname) GNm
  have GW := ok_with (P := l.prog) (w := w) (base := base) F_withf WL F_check b_check_ (g1 acheck) GC
  have GVi := ok_linitF (P := l.prog) (w := w) (base := base) F_vinit TV WL F_withf b_withf_ (g1 awithf) GW
  have GLd := ok_listed (P := l.prog) (w := w) (base := base) F_vli TV WL
  have GTo := ok_ltools (P := l.prog) (w := w) (base := base) F_vto TV (g0 b_tuple)
  have GBg := ok_beg (P := l.prog) (w := w) (base := base) F_vbeg TV W RR
  have GCt := ok_cont (P := l.prog) (w := w) (base := base) F_vcont TV W WL F_whole b_whole_ (g1 awhole)
  have GLn := ok_len (P := l.prog) (w := w) (base := base) F_vlen TV W pvli P_vli b_vli_ GLd
  have GEq := ok_leq (P := l.prog) (w := w) (base := base) F_veq TV TI W
  have GBo := ok_lbool (P := l.prog) (w := w) (base := base) F_vbool TV W
  have GMe := ok_mem (P := l.prog) (w := w) (base := base) F_mem (g0 b_str) avcont ivcont b_vcont_ GCt
  have LR : LivR l.prog w K mg base CV CO pvto fvto _ pvli fvli _ fvbeg _ fvlen _ fvbool _ := ⟨TV, P_vto, b_vto_, GTo, P_vli, b_vli_, GLd, ⟨avbeg, ivbeg, kvbeg⟩, b_vbeg_, GBg, avlen, ivlen, b_vlen_, GLn, avbool, ivbool, b_vbool_, GBo⟩
  have LX : LivX l.prog w K mg base CV fvinit _ fveq _ := ⟨⟨mkCV, avinit, ivinit, kcCV⟩, b_vinit_, kb_in fun s a b => .of_eq rfl, GVi, aveq, iveq, b_veq_, GEq, TI, nfV⟩
  have GRi := ok_right (P := l.prog) (w := w) (base := base) (T := TT P_right) F_right rfl (TB _ List.mem_cons_self) TT_in0 (TT_un0 ) LR NR HR F_listedw b_listedw_ (g1 alistedw) GLw F_odd b_odd_ (g1 aodd) GOd F_mem b_mem_ (g1 amem) GMe F_heard b_heard_ (g1 aheard)
  exact ok_law (T := TT P_right) F_law LR LX NQ F_pen b_pen_ (g1 apen) GPen F_begun b_begun_ (g1 abegun) GBe F_draw b_draw_ (g1 adraw) GD F_right b_right_ (g1 aright) GRi F_fresh b_fresh_ (g1 afresh) GFr
theorem walk {l : PySem.W.OpenLaw} {q : Program} {loose : List Str} {XP : (Str → Option Value) → Heap → Prop} {YP : World → Heap → Prop} {d : DefRec} {K : Params → PySem.W.Frag} (hn : l.most = some 63) (hdf : d.params.defaults = []) (hnm : d.name = "law")
    (hrec0 : ((recsOf q).find? (fun e => e.name == ("_law_right" : Str))).isSome = true) (hY : ∀ (w : World) (h : Heap), YP w h → (K w.params).In h)
    (F : ∀ (w : World) (mg : Str → Option Value) (fa : Addr) (h : Heap), (K w.params).In h → h.Ns mainGlobals mg → mg "law" = some (.ref fa) →
      ∃ (fd : FuncData) (c0 P0 : Addr), PySem.W.tabIn (K w.params) "_law_right" = some (c0, P0) ∧ (K w.params).lookup P0 = none ∧ (∀ (s : Shared) (u : Value), BindsTo s fd ⟨[u], []⟩ [("_law_script", u)]) ∧
        ∀ base : Heap, (K w.params).In base → base.Ns mainGlobals mg → (∀ q ∈ [(c0, P0)], TabB base mg q.1 q.2) → FnG l.prog w (K w.params) mg base CX0 12 fa fd ["_law_script"] (spLaw (K w.params) (TT P0))) :
    PySem.W.WalkO q loose XP YP l.row.toRowW d [] (fun f vs => PySem.call f vs) := by
  apply Att.attach_callB hn hdf
  intro w s₀ s₁ mg mb fa o pm cd doc a vs ns G Y _ _ _ hmg hobj hints hlen hbits hg
  have KX := hY w _ Y
  rw [hnm] at hmg
  obtain ⟨fd, c0, P0, ht0, nT0, hb, hF⟩ := F w mg fa _ KX G.T.g hmg
  obtain ⟨d0, hd0⟩ := Option.isSome_iff_exists.mp hrec0
  obtain ⟨C0, tb0⟩ := PySem.W.tab_of G.T KX hd0 ht0
  refine law_callTGs (cs := [(c0, P0)]) KX G.T.g G.T.b G.T.builtins G.T.nolimit hg (fun q hq => ?_) G.T.bmain hobj hints (Nat.le_trans hlen (by decide)) ⟨rfl, by decide, by decide⟩ hF hb (fun H hT hS => ⟨a, ns, rfl, hS, fun q hq => ?_, fun _ => rfl⟩) fun _ _ _ z => z
  · simp only [List.mem_cons, List.not_mem_nil, or_false] at hq
    subst hq
    · exact ⟨tb0, nT0, C0⟩
  · unfold TT at hq
    simp only [List.mem_cons, List.not_mem_nil, or_false] at hq
    subst hq
    · exact TabS.nil (hT (c0, P0) (by simp))
end K08

open PySem PySem.W PyProof.Rows in
set_option maxRecDepth 100000 in
set_option maxHeartbeats 0 in
theorem PySem.Challenge.cw_soundtill_k08_lives_made_holds : PySem.Challenge.rw_soundtill_k08_lives_made.Holds := by
  w_on; o_law; k_head; (case hw => w_witness2)
  k_fill
  refine K08.walk (l := PySem.Challenge.rw_soundtill_k08_lives_made) rfl rfl rfl (by decide +kernel) (fun w h Y => PySem.W.km_in_of Y) ?F
  case F =>
    intro w mg fa h KX G hmg
    refine' K08.all_mk KX G hmg ?apen ?lpen ?cpen ?kpen ?adraw ?ldraw ?cdraw ?kdraw ?apick ?lpick ?cpick ?kpick ?awords ?lwords ?cwords ?kwords ?alname ?llname ?clname ?klname ?abegun ?lbegun ?cbegun ?kbegun ?aheard ?lheard ?cheard ?kheard ?alistedw ?llistedw ?clistedw ?klistedw ?aodd ?lodd ?codd ?kodd ?afresh ?lfresh ?cfresh ?kfresh ?amem ?lmem ?cmem ?kmem ?aright ?lright ?cright ?kright ?alaw ?llaw ?claw ?klaw ?awhole ?lwhole ?cwhole ?kwhole ?amoment ?lmoment ?cmoment ?kmoment ?aisname ?lisname ?cisname ?kisname ?acheck ?lcheck ?ccheck ?kcheck ?awithf ?lwithf ?cwithf ?kwithf ?thn ?tht ?aCV ?pgCV ?hdCV ?poCV ?saCV ?mkCV ?kcCV ?nCV__begun ?thaCV ?thmCV ?hclsCV ?htypCV ?avinit ?ivinit ?lvinit ?cvinit ?kvinit ?avbeg ?ivbeg ?lvbeg ?cvbeg ?kvbeg ?avcont ?ivcont ?lvcont ?cvcont ?kvcont ?avlen ?ivlen ?lvlen ?cvlen ?kvlen ?aveq ?iveq ?lveq ?cveq ?kveq ?avbool ?ivbool ?lvbool ?cvbool ?kvbool ?avto ?gvto ?tvto ?rvto ?lvto ?cvto ?kvto ?avli ?gvli ?tvli ?rvli ?lvli ?cvli ?kvli ?nfV ?gG ?gL ?gA ?gD ?gN ?lN ?vN ?b_isinstance ?b_int ?b_bool ?b_str ?b_len ?b_all ?b_list ?b_tuple ?b_dict ?b_abs ?b_repr ?b_range ?b_sorted ?b_set ?b_max ?b_min ?b_ValueError ?aT ?iT ?tT ?eT ?sT ?aN ?xN ?seN ?geN ?heN ?neN ?aeN ?teN ?leN ?ceN ?keN ?kkeN ?exeN ?tyeN ?hdeN ?iceN ?veeN ?uteN ?caeN ?cmeN ?aM ?xM ?seM ?geM ?heM ?neM ?aeM ?teM ?leM ?ceM ?keM ?kkeM ?exeM ?tyeM ?hdeM ?iceM ?veeM ?uteM ?caeM ?cmeM ?aS ?xS ?seS ?geS ?heS ?neS ?aeS ?teS ?leS ?ceS ?keS ?kkeS ?exeS ?tyeS ?hdeS ?iceS ?veeS ?uteS ?caeS ?cmeS ?aO ?xO ?seO ?geO ?heO ?neO ?aeO ?teO ?leO ?ceO ?keO ?kkeO ?exeO ?tyeO ?hdeO ?iceO ?veeO ?uteO ?caeO ?cmeO ?aL ?xL ?seL ?geL ?heL ?neL ?aeL ?teL ?leL ?ceL ?keL ?kkeL ?exeL ?tyeL ?hdeL ?iceL ?veeL ?uteL ?caeL ?cmeL ?uOO ?uOL ?uON ?uOM ?uLO ?uLL ?uLN ?uLM ?uNO ?uNL ?uNN ?uNM ?uMO ?uML ?uMN ?uMM ?lcright ?vcright ?nTright
    (case apen => k_is)
    (case lpen => k_is)
    (case cpen => k_is)
    (case kpen => k_is)
    (case adraw => k_is)
    (case ldraw => k_is)
    (case cdraw => k_is)
    (case kdraw => k_is)
    (case apick => k_is)
    (case lpick => k_is)
    (case cpick => k_is)
    (case kpick => k_is)
    (case awords => k_is)
    (case lwords => k_is)
    (case cwords => k_is)
    (case kwords => k_is)
    (case alname => k_is)
    (case llname => k_is)
    (case clname => k_is)
    (case klname => k_is)
    (case abegun => k_is)
    (case lbegun => k_is)
    (case cbegun => k_is)
    (case kbegun => k_is)
    (case aheard => k_is)
    (case lheard => k_is)
    (case cheard => k_is)
    (case kheard => k_is)
    (case alistedw => k_is)
    (case llistedw => k_is)
    (case clistedw => k_is)
    (case klistedw => k_is)
    (case aodd => k_is)
    (case lodd => k_is)
    (case codd => k_is)
    (case kodd => k_is)
    (case afresh => k_is)
    (case lfresh => k_is)
    (case cfresh => k_is)
    (case kfresh => k_is)
    (case amem => k_is)
    (case lmem => k_is)
    (case cmem => k_is)
    (case kmem => k_is)
    (case aright => k_is)
    (case lright => k_is)
    (case cright => k_is)
    (case kright => k_is)
    (case alaw => k_is)
    (case llaw => k_is)
    (case claw => k_is)
    (case klaw => k_is)
    (case awhole => k_is)
    (case lwhole => k_is)
    (case cwhole => k_is)
    (case kwhole => k_is)
    (case amoment => k_is)
    (case lmoment => k_is)
    (case cmoment => k_is)
    (case kmoment => k_is)
    (case aisname => k_is)
    (case lisname => k_is)
    (case cisname => k_is)
    (case kisname => k_is)
    (case acheck => k_is)
    (case lcheck => k_is)
    (case ccheck => k_is)
    (case kcheck => k_is)
    (case awithf => k_is)
    (case lwithf => k_is)
    (case cwithf => k_is)
    (case kwithf => k_is)
    (case thn => k_is)
    (case tht => k_is)
    (case aCV => k_is)
    (case pgCV => k_is)
    (case hdCV => k_is)
    (case poCV => k_is)
    (case saCV => k_is)
    (case mkCV => k_is)
    (case kcCV => k_is)
    (case nCV__begun => k_is)
    (case thaCV => k_is)
    (case thmCV => k_is)
    (case hclsCV => k_is)
    (case htypCV => k_is)
    (case avinit => k_is)
    (case ivinit => k_is)
    (case lvinit => k_is)
    (case cvinit => k_is)
    (case kvinit => k_is)
    (case avbeg => k_is)
    (case ivbeg => k_is)
    (case lvbeg => k_is)
    (case cvbeg => k_is)
    (case kvbeg => k_is)
    (case avcont => k_is)
    (case ivcont => k_is)
    (case lvcont => k_is)
    (case cvcont => k_is)
    (case kvcont => k_is)
    (case avlen => k_is)
    (case ivlen => k_is)
    (case lvlen => k_is)
    (case cvlen => k_is)
    (case kvlen => k_is)
    (case aveq => k_is)
    (case iveq => k_is)
    (case lveq => k_is)
    (case cveq => k_is)
    (case kveq => k_is)
    (case avbool => k_is)
    (case ivbool => k_is)
    (case lvbool => k_is)
    (case cvbool => k_is)
    (case kvbool => k_is)
    (case avto => k_is)
    (case gvto => k_is)
    (case tvto => k_is)
    (case rvto => k_is)
    (case lvto => k_is)
    (case cvto => k_is)
    (case kvto => k_is)
    (case avli => k_is)
    (case gvli => k_is)
    (case tvli => k_is)
    (case rvli => k_is)
    (case lvli => k_is)
    (case cvli => k_is)
    (case kvli => k_is)
    (case nfV => k_is)
    (case gG => k_is)
    (case gL => k_is)
    (case gA => k_is)
    (case gD => k_is)
    (case gN => k_is)
    (case lN => k_is)
    (case vN => rfl)
    (case b_isinstance => k_is)
    (case b_int => k_is)
    (case b_bool => k_is)
    (case b_str => k_is)
    (case b_len => k_is)
    (case b_all => k_is)
    (case b_list => k_is)
    (case b_tuple => k_is)
    (case b_dict => k_is)
    (case b_abs => k_is)
    (case b_repr => k_is)
    (case b_range => k_is)
    (case b_sorted => k_is)
    (case b_set => k_is)
    (case b_max => k_is)
    (case b_min => k_is)
    (case b_ValueError => k_is)
    (case aT => k_is)
    (case iT => k_is)
    (case tT => k_is)
    (case eT => k_is)
    (case sT => k_is)
    (case aN => k_is)
    (case xN => k_is)
    (case seN => k_is)
    (case geN => k_is)
    (case heN => k_is)
    (case neN => k_is)
    (case aeN => k_is)
    (case teN => k_is)
    (case leN => k_is)
    (case ceN => k_is)
    (case keN => k_is)
    (case kkeN => k_is)
    (case exeN => k_is)
    (case tyeN => k_is)
    (case hdeN => k_is)
    (case iceN => k_is)
    (case veeN => k_is)
    (case uteN => k_is)
    (case caeN => k_is)
    (case cmeN => k_is)
    (case aM => k_is)
    (case xM => k_is)
    (case seM => k_is)
    (case geM => k_is)
    (case heM => k_is)
    (case neM => k_is)
    (case aeM => k_is)
    (case teM => k_is)
    (case leM => k_is)
    (case ceM => k_is)
    (case keM => k_is)
    (case kkeM => k_is)
    (case exeM => k_is)
    (case tyeM => k_is)
    (case hdeM => k_is)
    (case iceM => k_is)
    (case veeM => k_is)
    (case uteM => k_is)
    (case caeM => k_is)
    (case cmeM => k_is)
    (case aS => k_is)
    (case xS => k_is)
    (case seS => k_is)
    (case geS => k_is)
    (case heS => k_is)
    (case neS => k_is)
    (case aeS => k_is)
    (case teS => k_is)
    (case leS => k_is)
    (case ceS => k_is)
    (case keS => k_is)
    (case kkeS => k_is)
    (case exeS => k_is)
    (case tyeS => k_is)
    (case hdeS => k_is)
    (case iceS => k_is)
    (case veeS => k_is)
    (case uteS => k_is)
    (case caeS => k_is)
    (case cmeS => k_is)
    (case aO => k_is)
    (case xO => k_is)
    (case seO => k_is)
    (case geO => k_is)
    (case heO => k_is)
    (case neO => k_is)
    (case aeO => k_is)
    (case teO => k_is)
    (case leO => k_is)
    (case ceO => k_is)
    (case keO => k_is)
    (case kkeO => k_is)
    (case exeO => k_is)
    (case tyeO => k_is)
    (case hdeO => k_is)
    (case iceO => k_is)
    (case veeO => k_is)
    (case uteO => k_is)
    (case caeO => k_is)
    (case cmeO => k_is)
    (case aL => k_is)
    (case xL => k_is)
    (case seL => k_is)
    (case geL => k_is)
    (case heL => k_is)
    (case neL => k_is)
    (case aeL => k_is)
    (case teL => k_is)
    (case leL => k_is)
    (case ceL => k_is)
    (case keL => k_is)
    (case kkeL => k_is)
    (case exeL => k_is)
    (case tyeL => k_is)
    (case hdeL => k_is)
    (case iceL => k_is)
    (case veeL => k_is)
    (case uteL => k_is)
    (case caeL => k_is)
    (case cmeL => k_is)
    (case uOO => k_is)
    (case uOL => k_is)
    (case uON => k_is)
    (case uOM => k_is)
    (case uLO => k_is)
    (case uLL => k_is)
    (case uLN => k_is)
    (case uLM => k_is)
    (case uNO => k_is)
    (case uNL => k_is)
    (case uNN => k_is)
    (case uNM => k_is)
    (case uMO => k_is)
    (case uML => k_is)
    (case uMN => k_is)
    (case uMM => k_is)
    (case lcright => k_is)
    (case vcright => rfl)
    (case nTright => first | kernel_rfl | rfl)
