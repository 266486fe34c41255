import PyProof.Rows.All
import Wide.All
import OpenK.AllK
import Wide.FinOn
import HandS.ForMost
import HandS.OwnEq
import HandS.IsInst
import HandS.Wide
import HandS.EndBits
import HandS.Property
import KE.LtData
import HandS.NamedTupSort
import HandS.Exc
import HandS.ExcInit
import HandS.ExcIs
import HandS.ExcField
import HandS.TryOnly
import HandS.Lambda
import HandS.ClsMeth
import HandS.MakeKwOnly
import KE.KOpsOwn
import HandS.WordsExc
import HandS.WordsDict
import HandS.Codes
import HandS.Walk
import HandS.Base
import HandS.Iter
import HandS.SortRule
import KE.SortCalls
import KE.GoesEnum
import KE.GoesMore
import PyProof.ListNew
import PyProof.Conv_bool
import OpenK.KOps
import HandS.List
import PyProof.ReprRoads
import HandS.Words
import PyProof.StrLawsRepr
import HandS.Defaults
import HandS.Small
import HandS.LawCells
import HandS.FStr
import OpenK.KMeth
import KE.DataMinMax
import HandS.Star
import PyProof.Rows.TupMore
import HandS.Flow
import HandS.Text
import PyProof.Rows.StrPins3
import HandS.Dict
import HandS.More
import PyProof.ListRange
import PyProof.LongRange
import HandS.Conv
import HandS.SetFor
import HandS.Strs
import HandS.Sort
import PyProof.ListMulAny
import PyProof.Rows.ListMulArg
import KE.KCallOwn
import HandS.Call
import HandS.Comp
import HandS.TupAny
import HandS.Zip
import HandS.EndTab
import PyProof.StrBlock2
import HandS.MakeKw
import PySem.Challenge.RW_soundtill_k48_turns_joined
set_option Elab.async false
set_option linter.all false
set_option maxRecDepth 100000
set_option maxHeartbeats 8000000
/-! So: rules of our own over the hand layer. Runs whose guards are known (for repr), repr of data, == and != by an own __eq__ with both answers, < of data, a method's call with keywords. -/
namespace So
open PySem PySem.Spec PyProof.Rows L2

/-! ### repr of data -/
mutual
theorem dp_noDict {K : PySem.W.Frag} {H : Hp} : ∀ (d : PyData) (v : V), Dp K H v d → d.hasDict = false
  | .none, _, _ => rfl
  | .bool _, _, _ => rfl
  | .int _, _, _ => rfl
  | .str _, _, _ => rfl
  | .list ds, _, h => by
    cases h with
    | lst _ ha => simpa [PyData.hasDict] using dp_noDictAll ds _ ha
  | .tuple ds, _, h => by
    cases h with
    | tup _ ha => simpa [PyData.hasDict] using dp_noDictAll ds _ ha
  | .dict _, _, h => by cases h
theorem dp_noDictAll {K : PySem.W.Frag} {H : Hp} : ∀ (ds : List PyData) (vs : List V), DpAll K H vs ds → PyData.hasDictAll ds = false
  | [], _, _ => rfl
  | d :: ds, _, h => by
    cases h with
    | cons h1 h2 => simp [PyData.hasDictAll, dp_noDict d _ h1, dp_noDictAll ds _ h2]
end

/-- repr(x): what it asks -/
def rRepr (K : PySem.W.Frag) : List V → Hp → VK → Prop := fun xs H Q => ∃ v d, xs = [v] ∧ Dp K H v d ∧ d.showable = true ∧ d.depth ≤ 60 ∧ d.shown.length ≤ sizeLine ∧ Q (.str d.shown) H
section
variable {X : Cx}
theorem call_reprD (hg : X.A.guards = some []) (hu : X.A.units + 64 < cLine) : CallR X (.builtin "repr") (rRepr X.K) := by
  intro pins s σ H xs us Q I r h
  obtain ⟨v, d, rfl, hd, hs, hdep, hz, q⟩ := h
  obtain ⟨u, rfl, rv⟩ := vals1 r
  obtain ⟨as, rd⟩ := Dp.reads I d v u hd rv
  have nd : d.hasDict = false := dp_noDict d v hd
  cases v with
  | ref a =>
    cases rv
    refine repr_of_reads' rd hs (fun z => by rw [nd] at z; cases z) hg (by omega) (fun _ _ e => e) (fun h' t tk k => ?_) hz
    exact ⟨.str d.shown, H, I.kept k, ⟨t, rfl⟩, q⟩
  | non =>
    cases hd
    cases rv
    exact PySem.P.repr_of_none ⟨.str _, H, I.tok _, ⟨_, rfl⟩, q⟩
  | bl b =>
    cases hd
    cases rv
    refine PySem.P.repr_of_bool ⟨.str (PyData.shown (.bool b)), H, I.tok _, ⟨s.toks, ?_⟩, q⟩
    cases b <;> rfl
  | int i =>
    cases hd
    obtain ⟨t, rfl⟩ := rv
    exact PySem.P.repr_of_int (by simpa [PyData.showable] using hs) ⟨.str _, H, I.tok _, ⟨_, rfl⟩, q⟩
  | str x =>
    cases hd
    obtain ⟨t, rfl⟩ := rv
    exact PySem.P.repr_of_str ⟨.str _, H, I.tok _, ⟨_, rfl⟩, q⟩ hz
  | byt b => cases hd
  | flt b => cases hd
  | ty n => cases hd

/-! ### < of data -/
def rLtD (K : PySem.W.Frag) : R2 := fun x y H Q => ∃ d e, Dp K H x d ∧ Dp K H y e ∧ PySem.W.alike d e = true ∧ d ≠ .none ∧ d.depth ≤ 60 ∧ Q (.bl (PySem.W.dataLt d e)) H
theorem op_ltD (hu : X.A.units + 64 < cLine) : OpR X (compareOp .Lt) (rLtD X.K) := by
  intro pins s σ H x y v u Q I rx ry h
  obtain ⟨d, e, hd, he, al, nn, dep, q⟩ := h
  obtain ⟨as, r1⟩ := Dp.reads I d x v hd rx
  obtain ⟨bs, r2⟩ := Dp.reads I e y u he ry
  have hm : min d.depth e.depth ≤ d.depth := Nat.min_le_left _ _
  exact PySem.W.rcLt_alike d e X.A s v u as bs r1 r2 al nn (by omega) _ _ _ _ ⟨.bl _, H, I, rfl, q⟩
end
end So

namespace So
open PySem PySem.Spec PyProof.Rows L2

/-! ### == and != by an own __eq__, both answers -/
/-- x is an instance of C, y of a type that is no class below C; the own __eq__ answers b -/
def rOwn (C : Addr) (K : PySem.W.Frag) (sp : Sp) (E : XK) (g : Bool → Bool) : R2 := fun x y H Q => ∃ a dx fs t, x = .ref a ∧ H a = some (.ins C dx fs) ∧ TyX K H y t ∧ PySem.W.notFirst K C t = true ∧
  sp [.ref a, y] H (fun v H' => ∃ b, v = .bl b ∧ Q (.bl (g b)) H') E
section
variable {X : Cx} {CX : CXT} {k : Nat} {C f : Addr} {fd : FuncData} {ps : List Str} {sp : Sp} {E : XK}
/-- what is wanted of a comparison's answer -/
def BlP (X : Cx) (pins : List (Addr × Obj)) (σ : L2.St) (g : Bool → Bool) (Q : VK) (v : Value) (s' : Shared) : Prop := ∃ b H', v = .bool b ∧ Inv X pins σ H' s' ∧ Q (.bl (g b)) H'
theorem run_eq {pins : List (Addr × Obj)} {s : Shared} {σ : L2.St} {H : Hp} {a dx : Addr} {fs : List (Str × V)} {y : V} {u : Value} {Q : VK} {g : Bool → Bool} {A : Around} (F : FnOk X.prog X.w X.K X.mg X.base CX k f fd ps sp) (hb : Binds X.K fd ps [])
    (hx : Passes CX X E) (hr : Room k A) (hf : A.frames = X.A.frames) (I : Inv X pins σ H s) (ry : RelV y u) (h : sp [.ref a, y] H (fun v H' => ∃ b, v = .bl b ∧ Q (.bl (g b)) H') E) :
    wpAny (model X.prog X.w) A (call (.ref f) [.ref a, u]) (fun v s' => BlP X pins σ g Q v s') X.xe s := by
  have e0 : Env0 X.prog X.w X.K X.mg X.base A X.stack s H := by
    have e := I.env0
    exact ⟨hf.trans e.frames, e.mod, e.bs, e.bsz, e.funs, e.frf, e.hok, e.bare⟩
  have hl : ([Value.ref a, u] ++ ([] : List Value)).length = ps.length := (F.len _ _ _ _ h : [V.ref a, y].length = ps.length)
  refine wpAny_call (codeAny_mono (F.run A X.stack s H ⟨[.ref a, u], []⟩ ([.ref a, u] ++ []) [.ref a, y] _ E hr e0 (hb s [.ref a, u] I.kIn hl) (.cons rfl (.cons ry .nil)) h) fun r s' hq => ?_)
  cases r with
  | error e => exact hx pins σ H s e s' I hq
  | ok fl =>
    cases fl with
    | ret w =>
      obtain ⟨z, H', I', rz, b, ez, q⟩ := I.after hq
      subst ez
      cases rz
      exact ⟨b, H', rfl, I', q⟩
    | next => exact False.elim hq
    | brk => exact False.elim hq
    | cont => exact False.elim hq

theorem op_eqOwn (F : FnOk X.prog X.w X.K X.mg X.base CX k f fd ps sp) (hs : PySem.W.findIn X.K (.ref C) "__eq__" = some (some (.ref f))) (hf : PySem.W.isFn X.K (.ref f) = true) (hb : Binds X.K fd ps []) (hx : Passes CX X E) (hr : Room k X.A) :
    OpR X (compareOp .Eq) (rOwn C X.K sp E id) := by
  intro pins s σ H x y v u Q I rx ry h
  obtain ⟨a, dx, fs, t, rfl, ha, ty, nf, q⟩ := h
  cases rx
  obtain ⟨mA, J, _⟩ := ins_get I.hok ha
  obtain ⟨od, J, _⟩ := J.look
  obtain ⟨P, Z, p, _⟩ := kit_of I ry ty
  obtain ⟨m, hF⟩ := I.fr
  show wpAny _ _ (richCompare .Eq (.ref a) u) _ _ s
  refine PySem.W.cmp_K (op := .Eq) (tb := t) hr.units0 hF I.ok.mod.kin J (Z.ty _ _ I.kIn p) nf hs hf ?_
  refine wpAny_mono (run_eq (dx := dx) (fs := fs) F hb hx hr rfl I ry q) (fun w s' z => ?_) fun _ _ z => z
  obtain ⟨b, H', rfl, I', q'⟩ := z
  exact ⟨.bl b, H', I', rfl, q'⟩

/-- != where the class has an own __eq__ and object's __ne__ -/
theorem op_neOwn (F : FnOk X.prog X.w X.K X.mg X.base CX k f fd ps sp) (hs : PySem.W.findIn X.K (.ref C) "__eq__" = some (some (.ref f))) (hf : PySem.W.isFn X.K (.ref f) = true) (hb : Binds X.K fd ps []) (hx : Passes CX X E) (hr : Room (k + 1) X.A)
    (hn : PySem.W.findIn X.K (.ref C) "__ne__" = some (some (.builtin "object.__ne__"))) (hm : PySem.W.mroIn X.K C (.type "object") = some true) : OpR X (compareOp .NotEq) (rOwn C X.K sp E not) := by
  intro pins s σ H x y v u Q I rx ry h
  obtain ⟨a, dx, fs, t, rfl, ha, ty, nf, q⟩ := h
  cases rx
  obtain ⟨mA, J, _⟩ := ins_get I.hok ha
  obtain ⟨od, J, _⟩ := J.look
  obtain ⟨P, Z, p, _⟩ := kit_of I ry ty
  have KI := I.kIn
  have hb' := Z.ty (model X.prog X.w) _ I.kIn p
  have hu : X.A.units < cLine := hr.units0
  show wpAny _ _ (richCompare .NotEq (.ref a) u) _ _ s
  have one : wpAny (model X.prog X.w) X.A (tryCompare (.ref a) "__ne__" u) (fun r s' => ∃ v, r = some v ∧ EP X pins σ Q v s') X.xe s := by
    unfold tryCompare
    refine wpAny_bind (NtL.csib (J.type.andThen (PySem.W.looks_findIn KI hn)) (PySem.F.cmp_object.ne.bind _) (wpAny_call (codeAny_call_builtin PySem.F.cmp_object.ne.plain PySem.F.cmpEntry_ne (PySem.W.check_slot PySem.F.cmpKind_ne PySem.F.cmpSplit_ne (J.type.andThen (PySem.W.looks_mroIn KI hm)) (PySem.F.cmpArgs_ne _ _) ?_))))
    unfold Builtin.«object.__ne__»
    refine wpAny_bind (wpAny_of_eq (a := ((Value.ref a : Value), [u])) (by first | rfl | (simp only [slotArgs]; rfl)) ?_)
    refine wpAny_bind (wpAny_cRoomFor (by show X.A.units + 1 < cLine; have := hr.units; omega) ?_)
    refine wpAny_bind (PySem.W.ifBound_K KI J hs hf (wpAny_mono (run_eq (dx := dx) (fs := fs) F hb hx hr.in1 rfl I ry q) (fun w s' z => ?_) fun _ _ z => z))
    obtain ⟨b, H', rfl, I', q'⟩ := z
    refine wpAny_bind (wpAny_truthy_bool ?_)
    refine wpAny_pure ?_
    exact wpAny_pure ⟨_, rfl, .bl (!b), H', I', rfl, q'⟩
  unfold richCompare
  simp only [oneThing_ref]
  refine wpAny_holding (wpAny_bind (wpAny_cRoomFor hu ?_))
  refine wpAny_bind (J.type.here (wpAny_bind (hb'.here ?_)))
  have fin : wpAny (model X.prog X.w) X.A (tryCompare (.ref a) "__ne__" u) (fun r s' => ∃ v, r = some v ∧ EP X pins σ Q v s') X.xe s := one
  split
  · rename_i z
    have e : PySem.W.subIn X.K t (.ref C) = some false := by
      rcases Bool.or_eq_true_iff.mp nf with e | e
      · rw [beq_iff_eq.mp e] at z; simp at z
      · exact beq_iff_eq.mp e
    refine wpAny_bind ((PySem.W.looks_subIn KI e).here ?_)
    simp only [Bool.false_eq_true, if_false]
    exact wpAny_bind (wpAny_mono fin (fun r s' z => by obtain ⟨v, rfl, hq⟩ := z; exact wpAny_pure hq) fun _ _ e => e)
  · refine wpAny_bind (wpAny_pure ?_)
    simp only [Bool.false_eq_true, if_false]
    exact wpAny_bind (wpAny_mono fin (fun r s' z => by obtain ⟨v, rfl, hq⟩ := z; exact wpAny_pure hq) fun _ _ e => e)
end
end So

namespace So
open PySem PySem.Spec PyProof.Rows L2

/-! ### runs in which no repr is under way -/
/-- as FnOk, where no repr is under way at the call -/
structure FnG (P : Program) (w : World) (K : PySem.W.Frag) (mg : Str → Option Value) (base : Heap) (CX : CXT) (k : Nat) (f : Addr) (fd : FuncData) (ps : List Str) (sp : Sp) : Prop where
  lenG : ∀ (vs : List V) (H : Hp) (Q : VK) (E : XK), sp vs H Q E → vs.length = ps.length
  runG : ∀ (A : Around) (outer : List Env) (s : Shared) (H : Hp) (args : Args) (us : List Value) (vs : List V) (Q : VK) (E : XK), A.guards = some [] → Room k A → Env0 P w K mg base A outer s H →
    BindsTo s fd args (ps.zip us) → Vals vs us → sp vs H Q E → codeAny (model P w) A (.call (.ref f) args) (CR CX outer P w H s Q E) s
section
variable {P : Program} {w : World} {K : PySem.W.Frag} {mg : Str → Option Value} {base : Heap} {CX : CXT} {sp : Sp} {fd : FuncData} {ps N : List Str} {k : Nat} {f : Addr}
theorem FnG.ofOk (F : FnOk P w K mg base CX k f fd ps sp) : FnG P w K mg base CX k f fd ps sp :=
  ⟨F.len, fun A outer s H args us vs Q E _ => F.run A outer s H args us vs Q E⟩
/-- a def by its body, as the layer's rule, the guards told -/
theorem fnG_of {x qual : Str} {st : Stmt} (F : Fun K x qual st f fd) (S : FnScope N ps (defScope st)) (len : ∀ vs H Q E, sp vs H Q E → vs.length = ps.length)
    (hbody : ∀ (cdv : Value) (A : Around) (outer : List Env) (s : Shared) (H : Hp) (vs : List V) (Q : VK) (E : XK), A.guards = some [] → Room k (A.deeper (envOfC qual (defScope st) s.heap.objs.size f cdv)) → sp vs H Q E →
      ∃ t, PSs (cxOf CX P w K mg base N qual (defScope st) f cdv A outer s H E).nox (defBody st) t ∧ t { nx := fun _ H' => Q .non H', rt := Q } (start N vs) H) : FnG P w K mg base CX (k + 1) f fd ps sp := by
  obtain ⟨oc, od, kV, doc, pm, an, cdv, ct, osl, rfl, lk, hcd⟩ := F.ex
  constructor
  · exact len
  intro A outer s H args us vs Q E hg hr e0 hb r hsp
  have old : ∀ b o, base.get? b = some o → s.heap.get? b = some o := fun b o e => (e0.bs b o e).1
  have KX := e0.mod.kin.keeps old
  have lim := e0.mod.nolimit.keeps old
  refine codeAny_call_function hr.depth (KX _ _ lk) rfl S.co S.gen rfl (PySem.W.codeRec_of KX hcd) (hb _ _ _ _ ?_)
  refine wpAny_newFunctionEnv_cells S.kind (fun y hy => ?_) fun env he s1 x => ?_
  · rcases S.par y.1 (List.of_mem_zip (show (y.1, y.2) ∈ ps.zip us from hy)).1 with q | q
    · exact Or.inl q
    · exact Or.inr (And.intro q (PySem.W.cellsFrom_some _ _ _ (Or.inl q)))
  subst he
  refine And.intro (lim.keeps x.toInCall.keep) (codeAny_func ?_)
  obtain ⟨t, ht, hq⟩ := hbody cdv A outer s H vs Q E hg (hr.deeper _) hsp
  refine wpAny_mono (ht.nox.run [] s1 (start N vs) H _ (inv_start S hr.hd e0 (len _ _ _ _ hsp) r x) hq) (fun fl s' hs => ?_) fun _ _ hs => hs
  match fl, hs with
  | .ret u, ⟨v, σ', H', J, rv, q⟩ => exact ⟨v, H', J.os, J.bare, J.base, J.hok, rv, q⟩
  | .next, ⟨σ', H', J, q⟩ => exact ⟨V.non, H', J.os, J.bare, J.base, J.hok, rfl, q⟩
  | .brk, ⟨_, _, _, q⟩ => exact q.elim
  | .cont, ⟨_, _, _, q⟩ => exact q.elim
end

/-! ### calls -/
section
variable {X : Cx} {CX : CXT} {k : Nat} {f C : Addr} {fd : FuncData} {ps ks : List Str} {sp : Sp} {E : XK} {x m : Str} {p pos apos : Pos} {e o : Expr} {es : List Expr} {kws : List Keyword} {ta : TE} {t tk : TA} {dvs : List V} {ds : List Value}
theorem run_fnG {pins : List (Addr × Obj)} {σ : L2.St} {H : Hp} {s : Shared} {Q : VK} {us : List Value} {vs : List V} (F : FnG X.prog X.w X.K X.mg X.base CX k f fd ps sp) (hg : X.A.guards = some []) (hr : Room k X.A) (hb : Binds X.K fd ps ds) (hd : Vals dvs ds)
    (hx : Passes CX X E) (I : Inv X pins σ H s) (r : Vals vs us) (h : sp (vs ++ dvs) H Q E) : wpAny (model X.prog X.w) X.A (call (.ref f) us) (EP X pins σ Q) X.xe s := by
  have r2 := r.append hd
  have hl : (us ++ ds).length = ps.length := r2.length.symm.trans (F.lenG _ _ _ _ h)
  refine wpAny_call (codeAny_mono (F.runG X.A X.stack s H ⟨us, []⟩ (us ++ ds) (vs ++ dvs) Q E hg hr I.env0 (hb s us I.kIn hl) r2 h) fun r s' hq => ?_)
  match r, hq with
  | .error e, hq => exact hx pins σ H s e s' I hq
  | .ok (.ret u), hq => exact I.after hq
  | .ok .next, hq => exact hq.elim
  | .ok .brk, hq => exact hq.elim
  | .ok .cont, hq => exact hq.elim
/-- f(e, ..), f by FnG -/
theorem pe_callG (F : FnG X.prog X.w X.K X.mg X.base CX k f fd ps sp) (hg : X.A.guards = some []) (hr : Room k X.A) (hgl : Gl X x) (hm : X.mg x = some (.ref f)) (hk : PySem.W.keepIn X.K (.ref f) = true) (hb : Binds X.K fd ps ds) (hd : Vals dvs ds) (hx : Passes CX X E)
    (ha : PA X (e :: es) t) (hdb : (x == ("__debug__" : Str)) = false := by decide) (he : starEach (e :: es) X.env = (false, eval e X.env) :: starEach es X.env := by rfl) (hpl : (backTo pos (starEach es X.env)).any (·.1) = false := by rfl) :
    PE X (.Call (.Name x p) (e :: es) [] pos) (tCall sp dvs E t) := by
  constructor
  intro pins s σ H Q I h
  refine wpAny_Call_Name_kw (ld_glob I hgl hm (PySem.W.callWith_K (h₀ := X.base) I.ok.mod.kin hk (thn (ha.run pos pins s σ H _ I h) fun us s1 q => ?_) he hpl) hdb)
  obtain ⟨vs, H1, I1, r, q⟩ := q
  exact ⟨I1.kIn, run_fnG F hg hr hb hd hx I1 r q⟩
/-- o.m(k = v, ..): keywords alone -/
theorem pe_methK {g : List Value → List Value → List Value} {gV : List V → List V → List V} {pl : Sem Bool} (he : PE X o ta) (c : Cls X.K C) (hm : Meth X.K C m f) (F : FnOk X.prog X.w X.K X.mg X.base CX k f fd ps sp) (hr : Room k X.A) (hb : KBinds X.K fd ps ks g gV)
    (hx : Passes CX X E) (hkw : PK X kws tk) (hall : (backToKw pos (keywordEach kws X.env)).all (·.1.isSome) = true := by rfl) (hks : (backToKw pos (keywordEach kws X.env)).filterMap (·.1) = ks := by rfl)
    (hpl : ((backTo pos (starEach [] X.env)).any (·.1) || (backToKw pos (keywordEach kws X.env)).any (·.1.isNone)) = false := by rfl)
    (ht : eval (.Call (.Attribute o m apos) [] kws pos) X.env = (do
      let ov ← eval o X.env
      standAt apos.atName
      let fx ← holding [ov] (getMethod ov m pl)
      callWith pos fx.1 fx.2 (backTo pos (starEach [] X.env)) (backToKw pos (keywordEach kws X.env))) := by rfl) :
    PE X (.Call (.Attribute o m apos) [] kws pos) (fun σ H Q => ta σ H fun x H1 => ∃ a dx fs, x = .ref a ∧ H1 a = some (.ins C dx fs) ∧ fs.lookup m = none ∧ tk σ H1 fun zs H2 => sp (gV [x] zs) H2 Q E) := by
  constructor
  intro pins s σ H Q I h
  refine PySem.W.methodCall_KW (pl := pl) (thn (he.run pins s σ H _ I h) fun u s1 z => ?_) ht
  obtain ⟨x, H1, I1, rx, a, dx, fs, ex, ea, l, q⟩ := z
  subst ex
  cases rx
  refine getmeth_ok I1 ea c hm l ?_
  refine PySem.W.callWith_KW0 (first := [.ref a]) (h₀ := X.base) I.ok.mod.kin hm.kp hall (thn (hkw.run pos pins s1 σ H1 _ I1 q) fun ws s2 z => ?_) hpl
  obtain ⟨zs, H2, I2, rz, q2⟩ := z
  refine ⟨I2.kIn, ?_⟩
  rw [hks]
  exact run_fnk (us := [.ref a]) (vs := [.ref a]) F hr hb hx I2 (.cons rfl .nil) rz q2
end

/-! ### the end of a law -/
theorem law_callG {P : Program} {w : World} {K : PySem.W.Frag} {mg mb : Str → Option Value} {CX : CXT} {k : Nat} {fa a : Addr} {fd : FuncData} {x : Str} {sp : Sp} {s₁ : Shared} {vs : List Value} {ns : List Int}
    (KX : K.In s₁.heap) (hns : s₁.heap.Ns mainGlobals mg) (hb : s₁.heap.Ns builtinsNs mb) (hbb : ∀ x : Str, x ≠ "__name__" → mb x = bootBuiltins x) (hlim : s₁.heap.NoLimit) (hg : s₁.gens = #[])
    (ha : s₁.heap.get? a = some { cls := .type "list", data := .seq vs.toArray }) (hi : IntsAre vs ns) (hl : ns.length ≤ sizeLine) (hr : Room k callerA)
    (F : ∀ base : Heap, K.In base → base.Ns mainGlobals mg → FnG P w K mg base CX k fa fd [x] sp) (hbind : ∀ (s : Shared) (u : Value), BindsTo s fd ⟨[u], []⟩ [(x, u)])
    (hsp : ∀ H : Hp, Only H → SqL K H a (ns.map V.int) → sp [.ref a] H (fun v _ => v = .bl true) fun _ _ _ => False)
    (hCX : ∀ H e s', CX [] H s₁ (fun _ _ _ => False) e s' → False) :
    codeAny (model P w) callerA (.call (.ref fa) ⟨[.ref a], []⟩) (fun r s' => r = .ok (.ret (.bool true)) ∧ OldK s₁.heap s'.heap ∧ s'.os = s₁.os ∧ AllBare s'.gens) s₁ := by
  -- the call itself, for a heap in which the script alone may be tracked
  have go : ∀ H : Hp, Only H → SqL K H a (ns.map V.int) → HOk P w H s₁.heap → (∀ b u, H b = some u → b = a ∧ K.lookup a = none) →
      codeAny (model P w) callerA (.call (.ref fa) ⟨[.ref a], []⟩) (fun r s' => r = .ok (.ret (.bool true)) ∧ OldK s₁.heap s'.heap ∧ s'.os = s₁.os ∧ AllBare s'.gens) s₁ := by
    intro H hO hS hok hA
    have free : ∀ b : Addr, (b ≠ a ∨ K.lookup a ≠ none) → H b = none := by
      intro b z
      cases q : H b with
      | none => rfl
      | some u => exact (z.elim (fun z => z (hA b u q).1) fun z => z (hA b u q).2).elim
    have notSeq : ∀ {b : Addr} {m : Str → Option Value}, s₁.heap.Ns b m → b ≠ a := by
      rintro b m ⟨o, es, ep, e, d, _⟩ rfl
      rw [ha] at e
      cases e
      cases d
    have inH : ∀ {b : Addr} {m : Str → Option Value}, s₁.heap.Ns b m → (hidT s₁.heap H).Ns b m := by
      intro b m n
      have nb := free b (Or.inl (notSeq n))
      obtain ⟨o, es, ep, e, r⟩ := n
      exact ⟨o, es, ep, hidT_get e nb, r⟩
    have kin : K.In (hidT s₁.heap H) := by
      intro b o e
      refine hidT_get (KX b o e) ?_
      by_cases hb : b = a
      · exact free b (Or.inr (by rw [← hb, e]; exact fun z => nomatch z))
      · exact free b (Or.inl hb)
    have lim2 : (hidT s₁.heap H).NoLimit := by
      obtain ⟨mc, h1, h2⟩ := hlim
      exact ⟨mc, inH h1, h2⟩
    have e0 : Env0 P w K mg (hidT s₁.heap H) callerA [] s₁ H := by
      refine ⟨rfl, ⟨kin, inH hns, ⟨mb, inH hb, hbb⟩, lim2⟩, fun b o e => of_hidT e, Nat.le_of_eq (hidT_size _ _), True.intro, ?_, hok, .of_eq hg⟩
      intro b hb
      cases hb
    refine codeAny_mono ((F _ kin (inH hns)).runG callerA [] s₁ H ⟨[.ref a], []⟩ [.ref a] [.ref a] _ _ rfl hr e0 (hbind s₁ (.ref a)) (.cons rfl .nil) (hsp H hO hS)) fun r s' h => ?_
    match r, h with
    | .error e, h => exact (hCX H e s' h).elim
    | .ok .next, h => exact h.elim
    | .ok .brk, h => exact h.elim
    | .ok .cont, h => exact h.elim
    | .ok (.ret u), ⟨v, H', os, bare, un, hok', rv, q⟩ =>
      have q2 : v = .bl true := q
      subst q2
      cases rv
      refine ⟨rfl, OldK.of_keep (fun b o e => ?_), os, bare⟩
      rcases hO b with z | ⟨ob, xs, z⟩
      · exact un.keep b o e z (fun z => nomatch z) (fun z => nomatch z)
      · have z1 := (hok b _ z).1
        have z2 := (hok' b _ (un.frzs b ob _ z)).1
        rw [z1] at e
        rw [z2, e]
  have rv := vals_ints hi
  have hlen : (ns.map V.int).length ≤ sizeLine := by rw [List.length_map]; exact hl
  cases hk : K.lookup a with
  | some o =>
    have e := KX a o hk
    rw [ha] at e
    cases e
    exact go (fun _ => none) (fun _ => Or.inl rfl) (Or.inr ⟨_, vs.toArray, _, hk, rfl, rfl, rfl, by rw [List.size_toArray, hi.length]; exact hl, by simpa using rv⟩) (fun b u z => nomatch z) fun b u z => nomatch z
  | none =>
    have at_ : ∀ b u, (if b = a then some (HO.frz { cls := .type "list", data := .seq vs.toArray } (.lst (ns.map V.int))) else none) = some u → b = a ∧ u = .frz { cls := .type "list", data := .seq vs.toArray } (.lst (ns.map V.int)) := by
      intro b u z
      split at z
      · rename_i hb
        exact ⟨hb, (Option.some.inj z).symm⟩
      · cases z
    refine go (fun b => if b = a then some (.frz { cls := .type "list", data := .seq vs.toArray } (.lst (ns.map V.int))) else none) (fun b => ?_) (Or.inl (Or.inr ⟨_, if_pos rfl⟩)) (fun b u z => ?_) fun b u z => ⟨(at_ b u z).1, hk⟩
    · by_cases hb : b = a
      · exact Or.inr ⟨_, _, if_pos hb⟩
      · exact Or.inl (if_neg hb)
    · obtain ⟨rfl, rfl⟩ := at_ b u z
      exact ⟨ha, hlen, vs, _, rv, ha⟩

theorem walk_ofG {l : PySem.W.OpenLaw} {n k : Nat} {q : Program} {loose : List Str} {XP : (Str → Option Value) → Heap → Prop} {YP : World → Heap → Prop} {d : DefRec} {K : Params → PySem.W.Frag} {CX : World → CXT} {sp : World → Sp} {x : Str}
    (hn : l.most = some n) (hn2 : n ≤ sizeLine) (hdf : d.params.defaults = []) (hr : Room k callerA) (hY : ∀ (w : World) (h : Heap), YP w h → (K w.params).In h)
    (F : ∀ (w : World) (mg : Str → Option Value) (fa : Addr) (h : Heap), (K w.params).In h → h.Ns mainGlobals mg → mg d.name = some (.ref fa) →
      ∃ fd : FuncData, (∀ (s : Shared) (u : Value), BindsTo s fd ⟨[u], []⟩ [(x, u)]) ∧ ∀ base : Heap, (K w.params).In base → base.Ns mainGlobals mg → FnG l.prog w (K w.params) mg base (CX w) k fa fd [x] (sp w))
    (hsp : ∀ (w : World) (H : Hp) (a : Addr) (ns : List Int), ns.length ≤ n → (∀ z ∈ ns, Builtin.Int.intBits z ≤ 1048576) → Only H → SqL (K w.params) H a (ns.map V.int) → sp w [.ref a] H (fun v _ => v = .bl true) fun _ _ _ => False)
    (hCX : ∀ (w : World) (H : Hp) (s : Shared) (e : Value) (s' : Shared), CX w [] H s (fun _ _ _ => False) e s' → False) :
    PySem.W.WalkO q loose XP YP l.row.toRowW d [] (fun f vs => PySem.call f vs) := by
  apply Att.attach_callB hn hdf
  intro w s₀ s₁ mg mb fa o pm cd doc a vs ns G Y _ _ _ hmg hobj hints hlen hbits hg
  obtain ⟨fd, hb, hF⟩ := F w mg fa _ (hY w _ Y) G.T.g hmg
  exact law_callG (hY w _ Y) G.T.g G.T.b G.T.builtins G.T.nolimit hg hobj hints (Nat.le_trans hlen hn2) hr hF hb (fun H hO hS => hsp w H a ns hlen hbits hO hS) fun H e s' => hCX w H s₁ e s'
end So

namespace So
open PySem PySem.Spec PyProof.Rows L2
section
variable {K : PySem.W.Frag} {C : Addr}
theorem kit_self : PySem.W.kitOne K (.ref C) (.ref C) = some true := by
  unfold PySem.W.kitOne
  rw [if_pos]
  simp
/-- no built-in type stands below an own class -/
theorem sub_ty {T : String} (h : (fastBuiltinMro T).map (fun l => l.all fun v => match v with | .type _ => true | _ => false) = some true) : PySem.W.subIn K (.type T) (.ref C) = some false := by
  show (fastBuiltinMro T).map (·.contains (.ref C)) = some false
  cases e : fastBuiltinMro T with
  | none => rw [e] at h; cases h
  | some l =>
    rw [e] at h
    have h2 : (l.all fun v => match v with | .type _ => true | _ => false) = true := Option.some.inj h
    show some (l.contains (.ref C)) = some false
    congr 1
    cases c : l.contains (.ref C) with
    | false => rfl
    | true =>
      have m : (Value.ref C) ∈ l := by simpa using c
      have := List.all_eq_true.mp h2 _ m
      cases this
theorem notFirst_ty {T : String} (h : (fastBuiltinMro T).map (fun l => l.all fun v => match v with | .type _ => true | _ => false) = some true) : PySem.W.notFirst K C (.type T) = true := by
  unfold PySem.W.notFirst
  rw [sub_ty h]
  simp
theorem kit_no {T : String} (hc : PySem.W.isClsIn K C = true) (ht : PySem.W.typeIn K (.ref C) = some (.type "type")) (h : (fastBuiltinMro T).map (fun l => l.all fun v => match v with | .type _ => true | _ => false) = some true) : PySem.W.kitOne K (.type T) (.ref C) = some false := by
  unfold PySem.W.kitOne PySem.W.kitCls
  unfold PySem.W.isClsIn at hc
  have hb : ((PySem.W.clsIn K C).isSome && PySem.W.typeIn K (.ref C) == some (.type "type")) = true := by
    rw [hc, ht]
    simp
  have sb := sub_ty (K := K) (C := C) h
  simp [hb, sb]
end
end So

/-! So, on: exceptions that are kept as values. -/
namespace So
open PySem PySem.Spec PyProof.Rows L2
/-- an exception object of the class cls, its dict at d, that stands at a and is nobody's news -/
def Xo (cls : Value) (d : Option Addr) (a : Addr) : HO := .ext fun h => ∃ (oe : Obj) (vs : Array Value), h.get? a = some oe ∧ Zc cls d oe ∧ oe.data = .fields vs
theorem xo_ok {P : Program} {w : World} {H : Hp} {h : Heap} {a : Addr} {cls : Value} {d : Option Addr} {oe : Obj} {vs : Array Value} (e : h.get? a = some oe) (z : Zc cls d oe) (f : oe.data = .fields vs) : ObjOk P w H h a (Xo cls d a) := by
  refine ⟨⟨oe, vs, e, z, f⟩, ⟨oe, e⟩, ?_⟩
  rintro h1 h2 ⟨o, v, q, r⟩ k
  exact ⟨o, v, k o q, r⟩
theorem xo_at {P : Program} {w : World} {H : Hp} {h : Heap} {a : Addr} {cls : Value} {d : Option Addr} (hok : HOk P w H h) (e : H a = some (Xo cls d a)) : ∃ (oe : Obj) (vs : Array Value), h.get? a = some oe ∧ Zc cls d oe ∧ oe.data = .fields vs := by
  have x : ObjOk P w H h a (.ext fun h => ∃ (oe : Obj) (vs : Array Value), h.get? a = some oe ∧ Zc cls d oe ∧ oe.data = .fields vs) := hok a _ e
  exact x.1
section
variable {X : Cx} {pins : List (Addr × Obj)} {σ : L2.St} {H : Hp} {s sI : Shared} {a : Addr} {cls : Value} {d : Option Addr} {oe : Obj} {vs : Array Value}
/-- an exception that has landed is tracked from now on -/
theorem track (J : Inv X pins σ H sI) (hex : X.ex = []) (hI : sI.heap.get? a = none) (I : Inv X pins σ H s) (he : s.heap.get? a = some oe) (hz : Zc cls d oe) (hd : oe.data = .fields vs) (na : H a = none) (nL : a ≠ X.env.locals) :
    Inv X pins σ (upd H a (Xo cls d a)) s := by
  have h0 : ∀ b o, X.s_0.heap.get? b = some o → b ≠ a := by
    rintro b o e rfl
    obtain ⟨o', e'⟩ := J.base.there b o e (by rw [hex]; exact fun z => nomatch z)
    rw [hI] at e'
    cases e'
  have hs : ∀ {b : Addr} {u : HO}, H b = some u → (upd H a (Xo cls d a)) b = some u := fun e => (upd_ne (ne_of_none e na)).trans e
  refine ⟨I.ok, I.os, I.bare, ⟨I.base.keep, I.base.slot, fun b o e n hx => (upd_ne (h0 b o e)).trans (I.base.free b o e n hx), I.base.there, fun b xs q => hs (I.base.tups b xs q), fun b o u q => hs (I.base.frzs b o u q), fun b ps q => ?_⟩,
    I.loc, I.cell, (upd_ne nL.symm).trans I.free, fun x c e => ?_, fun p hp => ?_, fun b u e => ?_, I.len⟩
  · obtain ⟨m, q'⟩ := I.base.tbls b ps q
    exact ⟨m, hs q'⟩
  · refine (upd_ne ?_).trans (I.freeC x c e)
    rintro rfl
    obtain ⟨v, o, ho, hc⟩ := I.cell x c e
    rw [he] at ho
    cases ho
    rw [hd] at hc
    cases hc
  · obtain ⟨p1, p2, p3, p4, p5⟩ := I.pin p hp
    refine ⟨p1, (upd_ne ?_).trans p2, p3, p4, p5⟩
    intro z
    have := (J.pin p hp).1
    rw [z, hI] at this
    cases this
  · by_cases hb : b = a
    · subst hb
      rw [upd_same] at e
      cases e
      exact xo_ok he hz hd
    · rw [upd_ne hb] at e
      exact (I.hok b u e).stay (fun _ _ _ q => q) (fun c q => hs q) fun c xs q => hs q
end

/-! ### try: body, except x as n: suite, the exception kept as a value -/
/-- what such a clause wishes of an exception of the body -/
def wKeep (K : PySem.W.Frag) (c : Value) (i : Nat) (ts : TS) (Wout : WX) (D : Ends) : WX := fun cls d σ H =>
  ∃ b, PySem.W.exmOne K cls c = some b ∧ (b = true → ∀ a, H a = none → ts { nx := fun σ' H' => D.nx (σ'.set i none) H', rt := D.rt, bk := fun σ' H' => D.bk (σ'.set i none) H', ct := fun σ' H' => D.ct (σ'.set i none) H' } (σ.set i (some (.ref a))) (upd H a (Xo cls d a))) ∧
    (b = false → Wout cls d σ H)
section
variable {X : Cx} {x n : Str} {c : Value} {i : Nat} {body suite : List Stmt} {b₀ : Stmt} {np pos pos' : Pos} {tb : WX → TS} {ts : TS} {Wout : WX}
theorem ps_try_keep (hs : X.stack = X.env :: X.outer) (hf : X.env.frame = some X.env.locals) (hex : X.ex = []) (hN : X.N.Nodup) (hi : X.N[i]? = some n) (hln : X.env.kindOf n = some .local) (hc : Names X x c) (tk : Takes X Wout)
    (hb : ∀ (W : WX) (pn : List (Addr × Obj)) (xe : Value → Shared → Prop), Takes (X.tr pn xe) W → PassesOwn (model X.prog X.w) X.A X.env xe → PSs (X.tr pn xe) body (tb W))
    (hsu : ∀ (a : Addr) (pn : List (Addr × Obj)), PSs (X.suite a pn) (b₀ :: suite) ts) :
    PS X (.Try body [.ExceptHandler (some (.Name x np)) (some n) (b₀ :: suite) pos'] [] [] pos) (fun D σ H => tb (wKeep X.K c i ts Wout D) D σ H) := by
  constructor
  intro pins s σ H D I h
  have ok := I.ok
  have hfr : X.A.frames = some (X.env :: X.outer) := ok.frames.trans (congrArg some hs)
  refine wpAny_Try_except (wpAny_mono ((hb (wKeep X.K c i ts Wout D) (X.pn ++ pins) (fun e s₁ => wpAny (model X.prog X.w) X.A (noteFrame e X.env) (fun _ s₂ => wpAny (model X.prog X.w) X.A (setFlight e none) (fun _ s₃ =>
    wpAny (model X.prog X.w) X.A (handleBy e X.env [.ExceptHandler (some (.Name x np)) (some n) (b₀ :: suite) pos']) (SP X pins D) X.xe s₃) X.xe s₂) X.xe s₁) (fun u s' xx => ?_) PassesOwn.looking).run [] s σ H D (I.toTry _) h) (fun f s1 hsp => ?_) fun e s1 he => he)
  · obtain ⟨a, B, sI, pins', σ', H', cls, d, rfl, J', nb, up, sky, na, os, ag, b, hb1, hyes, hno⟩ := xx
    have J : Inv X pins σ' H' sI := J'.ofTry ok
    have sky' : Sky B (X.env :: X.outer) a (Zc cls d) X.env.locals s'.heap := hs ▸ sky
    refine Sky.land Zc.steady hfr hf sky' fun h3 fl3 up3 => ?_
    have J3 : Inv X pins σ' H' { s' with heap := h3 } := J.landed nb fl3.1 (up.trans up3) os ag
    obtain ⟨oe3, vs3, he3, hz3, hd3⟩ := fl3.there
    have nfr : a ∉ frs (X.env :: X.outer) := fun hm => by
      obtain ⟨_, o', e', hnf⟩ := fl3.2.2.1.mem hm
      rw [he3] at e'
      cases e'
      exact hnf _ hd3
    have nL : a ≠ X.env.locals := fun z => nfr (by
      refine List.mem_filterMap.mpr ⟨X.env, List.mem_cons_self, ?_⟩
      rw [hf, z])
    have hBa : B.get? a = none := fl3.2.1
    have hIa : sI.heap.get? a = none := by
      cases e : sI.heap.get? a with
      | none => rfl
      | some o =>
        have := nb a o e (by rw [hs]; exact nfr)
        rw [hBa] at this
        cases this
    refine wpAny_handleBy_cons (codeAny_handlers_test ?_) (by intro q; cases q)
    have LT : PySem.W.Looks (model X.prog X.w) h3 (typeOf (.ref a)) cls := by
      intro A Q E s k q
      refine wpAny_typeOf_ref (k _ _ he3) ?_
      rw [hz3.1]
      exact q
    have LM := PySem.W.exm_one (M := model X.prog X.w) (J3.kIn) LT hb1
    have S0 : ∀ {h4 : Heap}, Inv X pins σ' H' { s' with heap := h4 } → ∀ {o : Obj} {v : Array Value}, h4.get? a = some o → Zc cls d o → o.data = .fields v → Inv (X.suite a (X.pn ++ pins)) [] σ' (upd H' a (Xo cls d a)) { s' with heap := h4 } := by
      intro h4 J4 o v e z dt
      have T := track J hex hIa J4 e z dt na nL
      exact ⟨T.ok.suite _ _, T.os, T.bare, T.base, T.loc, T.cell, T.free, T.freeC, fun p hp => T.pin p (by rwa [List.append_nil] at hp), T.hok, T.len⟩
    have S3 := S0 J3 he3 hz3 hd3
    have test : ∀ {Q : Value → Shared → Prop} {E : Value → Shared → Prop}, Q c { s' with heap := h3 } → wpAny (model X.prog X.w) (X.A.mark (some (.ref a))) (eval (.Name x np) X.env) Q E { s' with heap := h3 } := by
      intro Q E q
      rcases hc with ⟨hg, hdbg, hm | ⟨hm, hv, hnn⟩⟩
      · exact ld_glob (X := X.suite a (X.pn ++ pins)) S3 hg hm q hdbg
      · exact ld_blt (X := X.suite a (X.pn ++ pins)) S3 hg hm hv q hnn hdbg
    refine test (LM.here ?_)
    cases b with
    | true =>
      refine codeAny_handlers_suite_as (HandSPX.lands_againZ fl3 fun h4 fl4 up4 => ?_)
      have J4 : Inv X pins σ' H' { s' with heap := h4 } := J.landed nb fl4.1 ((up.trans up3).trans up4) os ag
      obtain ⟨oe4, vs4, he4, hz4, hd4⟩ := fl4.there
      have S4 := S0 J4 he4 hz4 hd4
      refine store_ok (X := X.suite a (X.pn ++ pins)) (v := .ref a) S4 hN hi (.inl hln) rfl (fun s5 S5 => ?_) (.inr hln)
      refine wpAny_mono ((hsu a (X.pn ++ pins)).run [] s5 _ _ _ S5 (hyes rfl a na)) (fun f s6 hsp => ?_) (fun _ _ z => z.elim)
      have out : ∀ {σ6 : L2.St} {H6 : Hp}, Inv (X.suite a (X.pn ++ pins)) [] σ6 H6 s6 → Inv X pins σ6 H6 s6 := fun S6 =>
        ⟨ok, S6.os, S6.bare, S6.base, S6.loc, S6.cell, S6.free, S6.freeC, fun p hp => S6.pin p (List.mem_append_left _ hp), S6.hok, S6.len⟩
      match f, hsp with
      | .next, ⟨σ6, H6, S6, q6⟩ => exact gone_ok (out S6) hN hi hln fun s7 J7 => ⟨_, _, J7, q6⟩
      | .brk, ⟨σ6, H6, S6, q6⟩ => exact gone_ok (out S6) hN hi hln fun s7 J7 => ⟨_, _, J7, q6⟩
      | .cont, ⟨σ6, H6, S6, q6⟩ => exact gone_ok (out S6) hN hi hln fun s7 J7 => ⟨_, _, J7, q6⟩
      | .ret u, ⟨v6, σ6, H6, S6, r6, q6⟩ => exact gone_ok (out S6) hN hi hln fun s7 J7 => ⟨_, _, _, J7, r6, q6⟩
    | false =>
      refine wpAny_handleBy_nil ?_
      obtain ⟨_, _, _, oe, vs, T, _, _, he, _, hd, h1, _⟩ := id fl3
      unfold PySem.passOn
      refine wpAny_bind (wpAny_field he hd h1 ?_)
      have nn : ¬ ((Value.ref T == Value.none) = true) := by simp
      rw [if_neg nn]
      have fin : wpAny (model X.prog X.w) X.A (setFlight (.ref a) X.env.frame) (fun _ s4 => wpAny (model X.prog X.w) X.A (throw (.ref a) : Sem Flow) (SP X pins D) X.xe s4) X.xe { s' with heap := h3 } := by
        rw [hf]
        refine HandSPX.setFlight_upZ fl3 fun h4 hh4 up4 => wpAny_throw (tk _ _ ⟨a, B, sI, pins, σ', H', cls, d, rfl, J, nb, (up.trans up3).trans up4, ?_, na, os, ag, hno rfl⟩)
        exact Or.inr (Or.inr (hs ▸ hh4))
      first
        | exact wpAny_bind (wpAny_pure (wpAny_bind fin))
        | exact wpAny_bind fin
  · match f, hsp with
    | .next, ⟨σ', H', J', q⟩ => exact wpAny_execs_nil ⟨σ', H', J'.ofTry ok, q⟩
    | .brk, ⟨σ', H', J', q⟩ => exact ⟨σ', H', J'.ofTry ok, q⟩
    | .cont, ⟨σ', H', J', q⟩ => exact ⟨σ', H', J'.ofTry ok, q⟩
    | .ret u, ⟨v, σ', H', J', r, q⟩ => exact ⟨v, σ', H', J'.ofTry ok, r, q⟩
end
end So

namespace So
open PySem PySem.Spec PyProof.Rows L2
/-- what an error class of the program's own says of its instances -/
structure Err (K : PySem.W.Frag) (C : Addr) : Prop where
  ga : PySem.W.findIn K (.ref C) "__getattribute__" = some (some (.builtin "BaseException.__getattribute__"))
  gg : PySem.W.findIn K (.ref C) "__getattr__" = some none
  exC : PySem.W.subIn K (.ref C) (.type "BaseException") = some true
  hdC : PySem.W.hasDictIn K C = true
  ca : PySem.W.findIn K (.ref C) "__class__" = some (some (.builtin "object.__class__"))
  cn : PySem.W.specialIn K (.builtin "object.__class__") "__get__" = some (some (.builtin "getset_descriptor.__get__"))
  ct : PySem.W.takesIn K (.builtin "object.__class__") = some true
  cm : PySem.W.mroIn K C (.type "object") = some true
section
variable {X : Cx}
/-- e.n, e an exception that is kept -/
theorem pe_xo {C : Addr} {e : Expr} {te : TE} {pos : Pos} {n : Str} (T : Err X.K C) (hno : PySem.W.findIn X.K (.ref C) n = some none) (he : PE X e te) (hb : attributeBase e n X.env (eval e X.env) = eval e X.env := by rfl) :
    PE X (.Attribute e n pos) (fun σ H Q => te σ H fun x H1 => ∃ (a dd : Addr) (fs : List (Str × V)) (v : V), x = .ref a ∧ H1 a = some (Xo (.ref C) (some dd) a) ∧ H1 dd = some (.xd fs) ∧ fs.lookup n = some v ∧ Q v H1) := by
  constructor
  intro pins s σ H Q I h
  refine attr_of hb (thn (he.run pins s σ H _ I h) fun u s1 hh => ?_)
  obtain ⟨x, H1, I1, rx, a, dd, fs, v, rfl, ha, ea, l, q⟩ := hh
  cases rx
  obtain ⟨oe, vs, hg, hz, hd⟩ := xo_at I1.hok ha
  obtain ⟨mA, hns, hr⟩ := (show ObjOk X.prog X.w H1 s1.heap dd (.xd fs) from I1.hok dd _ ea)
  obtain ⟨od, ho, hl⟩ := lookIn_ns hns
  have hrn := hr n
  rw [l] at hrn
  obtain ⟨u, hu, ru⟩ := RelO.some_of hrn
  have nc : PySem.W.notCls oe = true := by
    unfold PySem.W.notCls
    rw [hd]
  have J : PySem.W.InstAt s1.heap a oe C (some od) := by
    refine ⟨hg, hz.1, nc, ?_⟩
    rw [hz.2]
    exact ho
  have fo := PySem.W.findObj_own (K := X.K) (C := C) (od := od) (name := n) (v := u) T.hdC hno rfl (by rw [hl, hu])
  exact HandSPX.exc_get I1.kIn J T.ga T.gg T.exC fo (handed_of ru) ⟨v, H1, I1.tok _, ru, q⟩
end
/-! ### isinstance of a kept exception -/
section
open PySem.W PySem.Calls
variable {prog : Program} {w : World} {A : Around} {E : Value → Shared → Prop} {K : Frag} {x D : Addr} {ox : Obj} {od : Option Obj}
theorem err_class {Q : Option Value → Shared → Prop} (T : Err K D) (hp : Heap) (g : Array GenState) (dr : Drawn) (t : Nat) (os : OsState) (X : K.In hp) (I : InstAt hp x ox D od)
    (h : Q (some (.ref D)) ⟨hp, g, dr, t + 1, os⟩) : wpAny (model prog w) A (getAttr? (.ref x) "__class__") Q E ⟨hp, g, dr, t, os⟩ := by
  have isc : (clsIn K D).isSome = true := by
    obtain ⟨cd, hc, _⟩ := any_some T.hdC
    rw [hc]
    rfl
  have hf : findObj K D od "__class__" = some (.bind (.builtin "getset_descriptor.__get__") (.builtin "object.__class__")) := by
    cases od with
    | none => exact findObj_dataN isc T.ca T.cn T.ct
    | some o => exact findObj_data isc T.ca T.cn T.ct
  have k0 := I.type (M := model prog w)
  have k1 := looks_findIn (M := model prog w) X T.ga
  have k2 := looks_findIn (M := model prog w) X T.gg
  have k3 := looks_find (M := model prog w) X I hf
  have below : Looks (model prog w) hp (isInstance (.ref x) (.type "BaseException")) true := k0.andThen (looks_subIn X T.exC)
  have ne : (Value.builtin "BaseException.__getattribute__" == Value.builtin "object.__getattribute__") = false := by decide +kernel
  have both : (onTheHeap (Value.ref D) && Value.builtin "BaseException.__getattribute__" == Value.builtin "object.__getattribute__") = false := by
    rw [ne]
    exact Bool.and_false _
  have own : onTheHeap (Value.ref D) = true := rfl
  have noheap : (false && onTheHeap (Value.builtin "BaseException.__getattribute__")) = false := rfl
  unfold getAttr? getAttrBy? getAttrBy
  apply wpAny_bind
  apply wpAny_mkText
  apply wpAny_bind
  apply wpAny_attempt
  apply wpAny_holding
  apply wpAny_bind
  apply k0.at
  apply wpAny_bind
  apply k1.at
  show wpAny _ _ (ite ((onTheHeap (Value.ref D) && Value.builtin "BaseException.__getattribute__" == Value.builtin "object.__getattribute__") = true) _ _) _ _ _
  rw [both, if_neg (by decide)]
  unfold getAttrByItsOwn hookBefore
  apply wpAny_bind
  rw [if_pos own]
  apply k2.at
  apply wpAny_bind
  apply wpAny_attempt
  apply wpAny_holding
  unfold callGetattribute
  rw [noheap, if_neg (by decide)]
  unfold boundAndCalled
  rw [F.excAttr_ValueError.ga.bind (.ref x)]
  apply wpAny_bind
  apply wpAny_pure
  show wpAny _ _ (call (.builtin "BaseException.__getattribute__") [.ref x, .str "__class__" t]) _ _ _
  apply wpAny_call
  refine codeAny_call_builtin F.excAttr_ValueError.ga.plain F.entry_bexc_ga (@check_slot (model prog w) _ _ ⟨hp, g, dr, t + 1, os⟩ "BaseException.__getattribute__" "BaseException" "__getattribute__" (.ref x) [.str "__class__" t] [] _ (by decide +kernel) (by decide +kernel) below (F.args_bexc_ga (.ref x) (.str "__class__" t)) ?_)
  unfold Builtin.«object.__getattribute__»
  apply wpAny_bind
  refine wpAny_of_eq (a := ((Value.ref x : Value), [Value.str "__class__" t])) (by first | rfl | (simp only [slotArgs]; rfl)) ?_
  apply wpAny_bind
  apply wpAny_pure
  apply wpAny_bind
  apply k0.at
  apply wpAny_bind
  apply k3.at
  show wpAny _ _ (holding [Value.builtin "object.__class__"] (call (.builtin "getset_descriptor.__get__") [.builtin "object.__class__", .ref x, .ref D]) >>= ret) _ _ _
  apply wpAny_bind
  apply wpAny_holding
  apply wpAny_call
  refine class_get (s := ⟨hp, g, dr, t + 1, os⟩) (ox := ox) (od := od) X I T.cm (wpAny_pure ?_)
  show wpAny _ _ (handedOut (.ref D)) _ _ _
  rw [handedOut_of (v := .ref D) rfl]
  first
    | exact wpAny_pure (wpAny_pure h)
    | exact wpAny_pure h
    | exact wpAny_pure (wpAny_bind (wpAny_pure (wpAny_pure h)))
theorem kitx_err (T : Err K D) : KitX K (.ref x) (.ref D) (fun h => ∃ ox od, InstAt h x ox D od) where
  ty := fun _ _ _ ⟨_, _, I⟩ => I.type
  it := fun _ _ X _ => by
    obtain ⟨cd, hc, _⟩ := any_some T.hdC
    unfold clsIn at hc
    split at hc
    · rename_i ho
      intro A' Q' E' s' k q
      unfold isType loadHead
      exact wpAny_bind (wpAny_loadPart (k _ _ (X _ _ ho)) (wpAny_pure q))
    · cases hc
  ne := fun h tp dd its n sl X htp => by
    cases q : (Value.ref D == Value.ref tp) with
    | false => rfl
    | true =>
      have e : D = tp := Value.ref.inj (beq_iff_eq.mp q)
      subst e
      obtain ⟨cd, hc, _⟩ := any_some T.hdC
      unfold clsIn at hc
      split at hc
      · rename_i ho
        have z := (X _ _ ho).symm.trans htp
        cases z
      · cases hc
  ca := fun {prog w A E Q s} X I k => by
    obtain ⟨ox, od, I⟩ := I
    obtain ⟨hp, g, dr, t, os⟩ := s
    exact err_class T hp g dr t os X I k
end
section
variable {X : Cx}
/-- isinstance(e, c), e a kept exception, c one class -/
theorem call_isXo : CallR X (.builtin "isinstance") (fun xs H Q => ∃ (a D dd : Addr) (fs : List (Str × V)) (c : V) (u : Value) (b : Bool), xs = [.ref a, c] ∧ H a = some (Xo (.ref D) (some dd) a) ∧ H dd = some (.xd fs) ∧ Err X.K D ∧ ClsV c u ∧ PySem.W.kitOne X.K (.ref D) u = some b ∧ Q (.bl b) H) := by
  intro pins s σ H xs us Q I r h
  obtain ⟨a, D, dd, fs, c, u, b, rfl, ha, hd, T, cv, e, q⟩ := h
  obtain ⟨u1, u2, rfl, r1, r2⟩ := vals2 r
  cases r1
  have e2 := cv.eq r2
  subst e2
  obtain ⟨oe, vs, hg, hz, hdat⟩ := xo_at I.hok ha
  obtain ⟨mA, hns, _⟩ := (show ObjOk X.prog X.w H s.heap dd (.xd fs) from I.hok dd _ hd)
  obtain ⟨od, ho, _⟩ := lookIn_ns hns
  have nc : PySem.W.notCls oe = true := by
    unfold PySem.W.notCls
    rw [hdat]
  have J : PySem.W.InstAt s.heap a oe D (some od) := by
    refine ⟨hg, hz.1, nc, ?_⟩
    rw [hz.2]
    exact ho
  exact PySem.W.kia_one (kitx_err T) I.kIn ⟨oe, some od, J⟩ e (fun z => nomatch z) fun tk => ⟨.bl b, H, I.tok tk, rfl, q⟩
end
end So

namespace So
open PySem PySem.Spec PyProof.Rows L2
/-- C.m is a static method: its record at p, its def at g -/
structure Sta (K : PySem.W.Frag) (C : Addr) (mc : Value) (m : Str) (p g : Addr) : Prop where
  rd : PySem.W.readsIn K C mc = true
  ga : PySem.W.specialIn K (.ref C) "__getattribute__" = some (some (.builtin "type.__getattribute__"))
  at_ : PySem.W.findCls K (.ref C) mc m = some (.get (.builtin "staticmethod.__get__") (.ref p) .none (.ref C))
  rc : ∃ rest, PySem.W.recIn K p "staticmethod" = some (.ref g :: rest)
  kp : PySem.W.keepIn K (.ref g) = true
section
variable {X : Cx} {CX : CXT} {k : Nat} {C f p0 : Addr} {mc : Value} {fd : FuncData} {ps ks : List Str} {sp : Sp} {E : XK} {m : Str} {pos apos : Pos} {e o : Expr} {es : List Expr} {kws : List Keyword} {ta : TE} {t tk : TA}
theorem getsta_ok {pins : List (Addr × Obj)} {σ : L2.St} {H : Hp} {s : Shared} {pl : Sem Bool} {A : Around} {E' : Value → Shared → Prop} {Q : Value × List Value → Shared → Prop} (I : Inv X pins σ H s) (S : Sta X.K C mc m p0 f) (h : ∀ s', Inv X pins σ H s' → Q (.ref f, []) s') :
    wpAny (model X.prog X.w) A (getMethod (.ref C) m pl) Q E' s := by
  obtain ⟨rest, hp⟩ := S.rc
  refine PySem.W.method_cls I.kIn S.ga (PySem.W.cls_bind I.kIn S.rd S.at_ (wpAny_call (PySem.W.sm_get (s := { s with toks := s.toks + 1 }) I.kIn hp (PySem.W.handed_on rfl ?_))))
  exact h _ (I.tok _)
/-- C.m(e, ..), m static -/
theorem pe_sta {pl : Sem Bool} (he : PE X o ta) (S : Sta X.K C mc m p0 f) (F : FnOk X.prog X.w X.K X.mg X.base CX k f fd ps sp) (hr : Room k X.A) (hb : Binds X.K fd ps []) (hx : Passes CX X E) (ha : PA X (e :: es) t)
    (hst : starEach (e :: es) X.env = (false, eval e X.env) :: starEach es X.env := by rfl) (hpl : (backTo pos (starEach es X.env)).any (·.1) = false := by rfl)
    (ht : eval (.Call (.Attribute o m apos) (e :: es) [] pos) X.env = (do
      let ov ← eval o X.env
      standAt apos.atName
      let fx ← holding [ov] (getMethod ov m pl)
      callWith pos fx.1 fx.2 (backTo pos (starEach (e :: es) X.env)) (backToKw pos (keywordEach [] X.env))) := by rfl) :
    PE X (.Call (.Attribute o m apos) (e :: es) [] pos) (fun σ H Q => ta σ H fun x H1 => x = .ref C ∧ t σ H1 fun vs H2 => sp vs H2 Q E) := by
  constructor
  intro pins s σ H Q I h
  refine PySem.W.methodCall_KW (pl := pl) (thn (he.run pins s σ H _ I h) fun u s1 z => ?_) ht
  obtain ⟨x, H1, I1, rx, rfl, q⟩ := z
  cases rx
  refine getsta_ok I1 S fun s2 I2 => PySem.W.callWith_K (first := []) (h₀ := X.base) I2.ok.mod.kin S.kp (thn (ha.run pos pins s2 σ H1 _ I2 q) fun us s3 z => ?_) hst hpl
  obtain ⟨vs, H2, I3, r, q2⟩ := z
  refine ⟨I3.kIn, ?_⟩
  have q3 : sp (vs ++ []) H2 Q E := by
    rw [List.append_nil]
    exact q2
  exact run_fn F hr hb .nil hx I3 r q3
/-- C.m(k = v, ..), m static, keywords alone -/
theorem pe_staK {g : List Value → List Value → List Value} {gV : List V → List V → List V} {pl : Sem Bool} (he : PE X o ta) (S : Sta X.K C mc m p0 f) (F : FnOk X.prog X.w X.K X.mg X.base CX k f fd ps sp) (hr : Room k X.A) (hb : KBinds X.K fd ps ks g gV) (hx : Passes CX X E)
    (hkw : PK X kws tk) (hall : (backToKw pos (keywordEach kws X.env)).all (·.1.isSome) = true := by rfl) (hks : (backToKw pos (keywordEach kws X.env)).filterMap (·.1) = ks := by rfl)
    (hpl : ((backTo pos (starEach [] X.env)).any (·.1) || (backToKw pos (keywordEach kws X.env)).any (·.1.isNone)) = false := by rfl)
    (ht : eval (.Call (.Attribute o m apos) [] kws pos) X.env = (do
      let ov ← eval o X.env
      standAt apos.atName
      let fx ← holding [ov] (getMethod ov m pl)
      callWith pos fx.1 fx.2 (backTo pos (starEach [] X.env)) (backToKw pos (keywordEach kws X.env))) := by rfl) :
    PE X (.Call (.Attribute o m apos) [] kws pos) (fun σ H Q => ta σ H fun x H1 => x = .ref C ∧ tk σ H1 fun zs H2 => sp (gV [] zs) H2 Q E) := by
  constructor
  intro pins s σ H Q I h
  refine PySem.W.methodCall_KW (pl := pl) (thn (he.run pins s σ H _ I h) fun u s1 z => ?_) ht
  obtain ⟨x, H1, I1, rx, rfl, q⟩ := z
  cases rx
  refine getsta_ok I1 S fun s2 I2 => PySem.W.callWith_KW0 (first := []) (h₀ := X.base) I2.ok.mod.kin S.kp hall (thn (hkw.run pos pins s2 σ H1 _ I2 q) fun ws s3 z => ?_) hpl
  obtain ⟨zs, H2, I3, rz, q2⟩ := z
  refine ⟨I3.kIn, ?_⟩
  rw [hks]
  exact run_fnk (us := []) (vs := []) F hr hb hx I3 .nil rz q2
/-- ~o by an own __invert__ -/
theorem un_invOwn (F : FnOk X.prog X.w X.K X.mg X.base CX k f fd ps sp) (hs : PySem.W.findIn X.K (.ref C) "__invert__" = some (some (.ref f))) (hf : PySem.W.isFn X.K (.ref f) = true) (hb : Binds X.K fd ps []) (hx : Passes CX X E) (hr : Room k X.A) :
    UnR X (unaryOp .Invert) (fun x H Q => ∃ a dx fs, x = .ref a ∧ H a = some (.ins C dx fs) ∧ sp [.ref a] H Q E) := by
  intro pins s σ H x v Q I rx h
  obtain ⟨a, dx, fs, rfl, ha, q⟩ := h
  cases rx
  obtain ⟨mA, J, _⟩ := ins_get I.hok ha
  obtain ⟨od, J, _⟩ := J.look
  obtain ⟨m, hF⟩ := I.fr
  refine PySem.W.ksp_inv hF I.ok.mod.kin J hs hf ?_
  exact run_fn (us := [.ref a]) (vs := [.ref a]) F hr hb .nil hx I (.cons rfl .nil) q
end
end So

namespace So
open PySem PySem.Spec PyProof.Rows L2
/-! ### own errors with one field -/
/-- the __init__ of such an error: the field is what was passed -/
def spOneE (C : Addr) (n : Str) : Sp := fun vs H Q _ => ∃ (a : Addr) (v : V), vs = [.ref a, v] ∧ H a = some (exo a C none) ∧ ∀ dx, H dx = none → dx ≠ a → Q .non (upd (upd H dx (exd dx [(n, v)])) a (exo a C (some dx)))
/-- what the top says of such an error: its class at C, named x, its field n, its __init__ at f -/
structure OneE (K : PySem.W.Frag) (mg : Str → Option Value) (x n : Str) (C f : Addr) (fd : FuncData) : Prop where
  T : OexC K C
  iC : PySem.W.findIn K (.ref C) "__init__" = some (some (.ref f))
  tI : PySem.W.typeIn K (.ref f) = some (.type "function")
  mgC : mg x = some (.ref C)
  no : PySem.W.findIn K (.ref C) n = some none
  err : Err K C
  hb : Binds K fd ["self", n] []
/-- behind C(v) -/
theorem mkOne {C : Addr} {n : Str} {vs : List V} {v : V} {H1 : Hp} {Q : XK} (e : vs = [v]) (h : ∀ d H', Same H1 H' → H1 d = none → H' d = some (.xd [(n, v)]) → Q (.ref C) (some d) H') :
    vs.length ≤ 1000 ∧ ∀ a, H1 a = none → spOneE C n (.ref a :: (vs ++ [])) (upd H1 a (exo a C none))
      (fun v H2 => v = .non ∧ ∃ (d : Addr) (fs : List (Str × V)), H2 a = some (exo a C (some d)) ∧ H2 d = some (exd d fs) ∧ H1 d = none ∧ Q (.ref C) (some d) (upd (del H2 a) d (.xd fs))) (fun _ _ _ => False) := by
  subst e
  refine ⟨by show 1 ≤ 1000; decide, fun a ha => ⟨a, v, rfl, upd_same, fun dx hdx ne => ⟨rfl, dx, [(n, v)], upd_same, ?_, ?_, h dx _ (fun b o hb => ?_) ?_ upd_same⟩⟩⟩
  · rw [upd_ne ne, upd_same]
  · rw [upd_ne ne] at hdx
    exact hdx
  · rw [upd_ne ne] at hdx
    have hba : b ≠ a := ne_of_none hb ha
    have hbd : b ≠ dx := ne_of_none hb hdx
    rw [upd_ne hbd, del_ne hba, upd_ne hba, upd_ne hbd, upd_ne hba]
    exact hb
  · rw [upd_ne ne] at hdx
    exact hdx
section
variable {X : Cx} {x n : Str} {C f : Addr} {fd : FuncData} {ta : TA} {e : Expr} {p pos pos2 : Pos}
theorem pmk_one (O : OneE X.K X.mg x n C f fd) (F : FnOk X.prog X.w X.K X.mg X.base CX0 1 f fd ["self", n] (spOneE C n)) (hr : Room 2 X.A) (hg : Gl X x) (ha : PA X [e] ta)
    (hdb : (x == ("__debug__" : Str)) = false := by decide) (he : starEach [e] X.env = (false, eval e X.env) :: starEach [] X.env := by rfl) (hpl : (backTo pos (starEach [] X.env)).any (·.1) = false := by rfl) :
    PMk X (.Call (.Name x p) [e] [] pos) (tMkO C (spOneE C n) [] ta) :=
  pmk_oex O.T O.iC O.tI F hr O.hb .nil (fun _ _ _ _ _ _ _ h => h.elim) hg O.mgC ha hdb he hpl
/-- raise C(e) -/
theorem ps_raiseOne {W : WX} (O : OneE X.K X.mg x n C f fd) (F : FnOk X.prog X.w X.K X.mg X.base CX0 1 f fd ["self", n] (spOneE C n)) (hc : X.calm = true) (hr : Room 2 X.A) (tk : Takes X W) (hg : Gl X x) (ha : PA X [e] ta)
    (hdb : (x == ("__debug__" : Str)) = false := by decide) (he : starEach [e] X.env = (false, eval e X.env) :: starEach [] X.env := by rfl) (hpl : (backTo pos (starEach [] X.env)).any (·.1) = false := by rfl) :
    PS X (.Raise (some (.Call (.Name x p) [e] [] pos)) none pos2) (fun _ σ H => tMkO C (spOneE C n) [] ta σ H fun cls d H' => W cls d σ H') := ps_raise hc tk (pmk_one O F hr hg ha hdb he hpl)
end

/-! ### repr of data, of a tuple of a text and an empty dict -/
section
variable {X : Cx}
theorem call_reprT (hg : X.A.guards = some []) (hu : X.A.units + 64 < cLine) : CallR X (.builtin "repr") (fun xs H Q => ∃ (r a : Addr) (w : Str), xs = [.ref r] ∧ SqT X.K H r [.str w, .ref a] ∧ H a = some (.dK []) ∧ (PyData.tuple [.str w, .dict []]).shown.length ≤ sizeLine ∧ Q (.str (PyData.tuple [.str w, .dict []]).shown) H) := by
  intro pins s σ H xs us Q I r h
  obtain ⟨rr, a, w, rfl, ht, ha, hz, q⟩ := h
  obtain ⟨u, rfl, rv⟩ := vals1 r
  cases rv
  obtain ⟨its, rw', ⟨o, ho, hc, n, hd⟩, _⟩ := I.tuple ht
  obtain ⟨hz2, hsm, vs, hk, hD⟩ : ([] : List (Key × V)).length ≤ sizeLine ∧ (a == sysModules) = false ∧ ∃ vs, KV [] vs ∧ s.heap.DictOf (mixKind X.prog X.w) a vs := I.hok a _ ha
  obtain ⟨u1, u2, rfl, r1, r2⟩ := vals2 rw'
  obtain ⟨t1, rfl⟩ := r1
  cases r2
  obtain ⟨o2, es, ep, e1, e2, e3, _, e5, _⟩ := hD
  cases hk
  have es0 : es.toList = [] := by
    cases h : es.toList with
    | nil => rfl
    | cons y ys =>
      rw [h] at e5
      cases e5
  have rdD : Reads s.heap (.ref a) (.dict []) (a :: [] ++ []) := Reads.dict (kvs := []) e1 e2.1 e3 (by rw [es0]; exact ReadsAll.nil) (by rw [es0]; exact ReadsAll.nil)
  have rd : Reads s.heap (.ref rr) (.tuple [.str w, .dict []]) ([] ++ ((a :: [] ++ []) ++ [])) := Reads.tuple ho hc hd (ReadsAll.cons (Reads.str w t1) (ReadsAll.cons rdD ReadsAll.nil))
  refine repr_of_reads' rd rfl (fun _ z => ?_) hg (by show X.A.units + (2 + 1) < cLine; omega) (fun _ _ e => e) (fun h' t tk k => ?_) hz
  · have : sysModules = a := by simpa using z
    rw [this] at hsm
    simp at hsm
  · exact ⟨.str _, H, I.kept k, ⟨t, rfl⟩, q⟩
theorem CallR.or {b : Value} {r r' : List V → Hp → VK → Prop} (h : CallR X b r) (h' : CallR X b r') : CallR X b (fun xs H Q => r xs H Q ∨ r' xs H Q) := by
  intro pins s σ H xs us Q I rv q
  exact q.elim (h pins s σ H xs us Q I rv) (h' pins s σ H xs us Q I rv)
end
end So

namespace K48
open PySem PySem.Spec PyProof.Rows L2 So
/-! ### the text -/
def topS (i : Nat) : Stmt := PySem.Challenge.pw_soundtill_k48_turns_joined.main.body.getD i (.Pass ⟨0, 0, 0, 0⟩)
abbrev sPen : Stmt := topS 15
abbrev sDraw : Stmt := topS 16
abbrev sPick : Stmt := topS 17
theorem scPen : FnScope ["_law_script"] ["_law_script"] (defScope sPen) := ⟨rfl, rfl, rfl, by decide +kernel, rfl, by decide +kernel, by decide +kernel⟩
theorem scDraw : FnScope ["_law_pen_here", "_law_many", "_law_digit", "_law_at", "_law_cell", "_law_great", "_law_mixed"] ["_law_pen_here", "_law_many"] (defScope sDraw) := ⟨rfl, rfl, rfl, by decide +kernel, rfl, by decide +kernel, by decide +kernel⟩
theorem scPick : FnScope ["_law_pen_here", "_law_some"] ["_law_pen_here", "_law_some"] (defScope sPick) := ⟨rfl, rfl, rfl, by decide +kernel, rfl, by decide +kernel, by decide +kernel⟩

/-! ### the pen -/
/-- the pen at p: the cells at l, how many were begun, what is left of a great one -/
structure Pen (H : Hp) (p l : Addr) (ns : List Int) (n : Nat) (g : Int) : Prop where
  pen : H p = some (.lst [.ref l, .int n, .int g])
  cells : H l = some (.lst (ns.map V.int))
  left : 0 ≤ g
/-- all that was tracked beside p is as it was -/
def Off (p : Addr) (H H' : Hp) : Prop := ∀ b o, b ≠ p → H b = some o → H' b = some o
theorem Off.refl {p : Addr} {H : Hp} : Off p H H := fun _ _ _ e => e
theorem Off.trans {p : Addr} {H H1 H2 : Hp} (a : Off p H H1) (b : Off p H1 H2) : Off p H H2 := fun c o n e => b c o n (a c o n e)
theorem Off.upd {p : Addr} {H H1 : Hp} {o : HO} (a : Off p H H1) : Off p H (upd H1 p o) := fun c u n e => by
  rw [upd_ne n]
  exact a c u n e
theorem Off.new {p q : Addr} {H H1 : Hp} {o : HO} (a : Off p H H1) (h : H1 q = none) : Off p H (L2.upd H1 q o) := fun c u n e => by
  have e1 := a c u n e
  rw [upd_ne (ne_of_none e1 h)]
  exact e1
theorem dp_ints {K : PySem.W.Frag} {H : Hp} : ∀ ns : List Int, DpAll K H (ns.map V.int) (ns.map PyData.int)
  | [] => .nil
  | n :: r => .cons (.int n) (dp_ints r)
theorem depth_ints : ∀ ns : List Int, PyData.depthAll (ns.map PyData.int) ≤ 1
  | [] => by simp [PyData.depthAll]
  | n :: r => by
    have h := depth_ints r
    simp only [List.map_cons, PyData.depthAll, PyData.depth]
    omega
theorem shaped_ints (ns : List Int) : SeqAt.shaped (.list (ns.map PyData.int)) = true := by
  unfold SeqAt.shaped
  rw [Bool.and_eq_true]
  have hd := depth_ints ns
  refine ⟨?_, decide_eq_true ?_⟩
  · show PyData.canLay0 _ = true
    simp only [PyData.canLay0]
    induction ns with
    | nil => rfl
    | cons a r ih => simpa [PyData.canLayAll0, PyData.canLay0] using ih (depth_ints r)
  · simp only [PyData.depth]
    omega
theorem Pen.apart {H : Hp} {p l : Addr} {ns : List Int} {n : Nat} {g : Int} (h : Pen H p l ns n g) : l ≠ p := by
  refine ne_of h.cells h.pen (fun z => ?_)
  injection z with z
  cases ns with
  | nil => cases z
  | cons a r => cases z
theorem eqv_nil (ds : List PyData) : PyData.eqv (.list ds) (.list []) = ds.isEmpty := by
  cases ds <;> simp [PyData.eqv, PyData.eqvAll]
section
variable {P : Program} {w : World} {K : PySem.W.Frag} {mg : Str → Option Value} {base : Heap}
def spDraw : Sp := fun vs H Q _ => ∃ (p l : Addr) (ns : List Int) (n : Nat) (g many : Int), vs = [.ref p, .int many] ∧ Pen H p l ns n g ∧ n < 1000000 ∧ 0 < many ∧ many.natAbs < 2 ^ 200 ∧
  ∀ (d : Int) (n' : Nat) (g' : Int) (H' : Hp), 0 ≤ d → d < many → n' ≤ n + 1 → Off p H H' → Pen H' p l ns n' g' → Q (.int d) H'
theorem ok_draw {f : Addr} {fd : FuncData} (F : Fun K "_law_draw" "_law_draw" sDraw f fd) (ml : mg "len" = none) (mi : mg "int" = none) (ma : mg "abs" = none) : FnOk P w K mg base CX0 1 f fd ["_law_pen_here", "_law_many"] spDraw := by
  refine F.ok scDraw (fun vs H Q E h => ?_) (fun cdv A outer s H vs Q E hr h => ?_)
  · obtain ⟨p, l, ns, n, g, many, rfl, _⟩ := h
    rfl
  · obtain ⟨p, l, ns, n, g, many, rfl, hp, hn, hm, hm2, q⟩ := h
    refine ⟨_, pss_cons (ps_if (pt_cmpR op_gt (pe_ix ix_list (pv 0) pe_int (fun _ _ => rfl)) pe_int (nomark _))
        (pss_cons (ps_set (i := 2) scDraw.nd rfl (.inl rfl) (pe_op op_mod (pe_callTy call_int1 (by rfl) mi (by decide +kernel) (pa_cons (pe_ix ix_list (pv 0) pe_int (fun _ _ => rfl)) pa_nil)) (pv 1)))
        (pss_cons (ps_asg (pe_op op_fdivW (pe_callTy call_int1 (by rfl) mi (by decide +kernel) (pa_cons (pe_ix ix_list (pv 0) pe_int (fun _ _ => rfl)) pa_nil)) (pv 1)) (pg_sub (pv 0) pe_int set_list))
        (pss_one (ps_ret (pv 2))))) pss_nil)
      (pss_cons (ps_set (i := 3) scDraw.nd rfl (.inl rfl) (pe_ix ix_list (pv 0) pe_int (fun _ _ => rfl)))
      (pss_cons (ps_asg (pe_op op_add (pv 3) pe_int) (pg_sub (pv 0) pe_int set_list))
      (pss_cons (ps_set (i := 4) scDraw.nd rfl (.inl rfl) (pe_op op_add (pe_op op_mul pe_int (pv 3)) pe_int))
      (C8.pss_cut (ps_if (pt_cmpR (op_neD (by have := hr.units; exact this)) (pe_ix ix_list (pv 0) pe_int (fun _ _ => rfl)) (pe_lst pa_nil) (nomark _))
        (pss_one (ps_set (i := 4) scDraw.nd rfl (.inl rfl) (pe_ix ix_list (pe_ix ix_list (pv 0) pe_int (fun _ _ => rfl)) (pe_op op_mod (pe_callTy call_int1 (by rfl) mi (by decide +kernel) (pa_cons (pv 3) pa_nil)) (pe_callB call_len_seq (by rfl) ml PySem.boot_len (pa_cons (pe_ix ix_list (pv 0) pe_int (fun _ _ => rfl)) pa_nil))) (fun _ _ => rfl)))) pss_nil)
      (pss_cons (ps_if (PW.pt (pw_and (pt_cmpR op_lt (pv 3) (pe_callB call_len_seq (by rfl) ml PySem.boot_len (pa_cons (pe_ix ix_list (pv 0) pe_int (fun _ _ => rfl)) pa_nil)) (nomark _))
            (pw_and1 (pt_cmpR op_ge (pe_callB call_abs (by rfl) ma (by decide +kernel) (pa_cons (pv 4) pa_nil)) (pe_op op_pow pe_int pe_int) (nomark _)))))
        (pss_cons (ps_set (i := 5) scDraw.nd rfl (.inl rfl) (pe_op op_add (pe_op op_mul pe_int (pe_op op_sub (pe_callB call_abs (by rfl) ma (by decide +kernel) (pa_cons (pv 4) pa_nil)) (pe_op op_pow pe_int pe_int)))
            (pe_callTy call_int1 (by rfl) mi (by decide +kernel) (pa_cons (pe_cmpR op_lt (pv 4) pe_int (nomark _)) pa_nil))))
        (pss_cons (ps_asg (pe_op op_fdivW (pe_callTy call_int1 (by rfl) mi (by decide +kernel) (pa_cons (pv 5) pa_nil)) (pv 1)) (pg_sub (pv 0) pe_int set_list))
        (pss_one (ps_ret (pe_op op_mod (pe_callTy call_int1 (by rfl) mi (by decide +kernel) (pa_cons (pv 5) pa_nil)) (pv 1)))))) pss_nil)
      (pss_cons (ps_set (i := 6) scDraw.nd rfl (.inl rfl) (pe_op op_mod (pe_callTy call_int1 (by rfl) mi (by decide +kernel) (pa_cons
          (pe_op op_pow (pe_op op_add (pe_op op_add (pe_op op_mod (pe_callTy call_int1 (by rfl) mi (by decide +kernel) (pa_cons (pv 4) pa_nil)) pe_int) (pe_op op_mul pe_int (pv 3))) pe_int) pe_int) pa_nil)) pe_int))
      (pss_cons (ps_set (i := 6) scDraw.nd rfl (.inl rfl) (pe_op op_mod (pe_callTy call_int1 (by rfl) mi (by decide +kernel) (pa_cons
          (pe_op op_pow (pe_op op_add (pe_op op_add (pe_op op_mul (pv 6) (pe_op op_add (pe_op op_mul pe_int (pv 3)) pe_int)) (pe_op op_mul (pe_op op_mul pe_int (pv 3)) (pv 3))) pe_int) pe_int) pa_nil)) pe_int))
      (pss_one (ps_ret (pe_op op_mod (pe_callTy call_int1 (by rfl) mi (by decide +kernel) (pa_cons (pe_op op_fdiv (pv 6) pe_int) pa_nil)) (pv 1))))))))))), ?_⟩
    have hP : SqL K H p [.ref l, .int n, .int g] := SqL.of hp.pen
    refine ⟨_, rfl, p, _, 2, _, rfl, rfl, hP, atI_nat (j := 2) rfl, _, _, rfl, rfl, _, rfl, ite2 (fun e => ?_) (fun e => ?_)⟩
    · refine ⟨_, rfl, p, _, 2, _, rfl, rfl, hP, atI_nat (j := 2) rfl, .inl ⟨_, rfl, _, rfl, _, _, rfl, rfl, hm, ?_⟩⟩
      refine ⟨_, rfl, p, _, 2, _, rfl, rfl, hP, atI_nat (j := 2) rfl, .inl ⟨_, rfl, _, rfl, _, _, rfl, rfl, wide_div hm hm2 (by decide) (by decide), _, rfl, p, _, 2, 2, rfl, rfl, hp.pen, rfl, ?_⟩⟩
      refine ⟨_, rfl, q _ n (g / many) _ (Int.emod_nonneg _ (Int.ne_of_gt hm)) (Int.emod_lt_of_pos _ hm) (by omega) Off.refl.upd ⟨upd_same, (upd_ne hp.apart).trans hp.cells, Int.ediv_nonneg hp.left (Int.le_of_lt hm)⟩⟩
    · refine ⟨_, rfl, p, _, 1, _, rfl, rfl, hP, atI_nat (j := 1) rfl, ?_⟩
      refine ⟨_, rfl, _, _, rfl, rfl, _, rfl, p, _, 1, 1, rfl, rfl, hp.pen, rfl, ?_⟩
      have hP1 : (upd H p (.lst [.ref l, .int (n + 1), .int g])) p = some (.lst [.ref l, .int (n + 1), .int g]) := upd_same
      have hL1 : (upd H p (.lst [.ref l, .int (n + 1), .int g])) l = some (.lst (ns.map V.int)) := (upd_ne hp.apart).trans hp.cells
      have hO1 : Off p H (upd H p (.lst [.ref l, .int (n + 1), .int g])) := Off.refl.upd
      refine ⟨_, rfl, _, _, rfl, rfl, .inl ⟨by decide, by decide⟩, _, _, rfl, rfl, ?_⟩
      refine ⟨fun σ' H2 => ∃ c : Int, σ' = [some (.ref p), some (.int many), none, some (.int n), some (.int c), none, none] ∧ H2 p = some (.lst [.ref l, .int (n + 1), .int g]) ∧ H2 l = some (.lst (ns.map V.int)) ∧ Off p H H2, ?_, ?_⟩
      · refine ⟨_, rfl, p, _, 0, _, rfl, rfl, SqL.of hP1, atI_nat (j := 0) rfl, Nat.zero_le _, fun z hz => ?_⟩
        have hP2 := (upd_ne (o := .lst []) (ne_of_none hP1 hz)).trans hP1
        have hL2 := (upd_ne (o := .lst []) (ne_of_none hL1 hz)).trans hL1
        refine ⟨.list (ns.map PyData.int), .list [], .lst (SqL.of hL2) (dp_ints ns), .lst (SqL.of upd_same) .nil, shaped_ints ns, by decide, _, rfl, ite2 (fun e1 => ?_) (fun e1 => ?_)⟩
        · rw [eqv_nil] at e1
          have hlen : 0 < ns.length := by
            cases ns with
            | nil => cases e1
            | cons a r => exact Nat.succ_pos _
          have hlt : n % ns.length < ns.length := Nat.mod_lt _ hlen
          refine ⟨_, rfl, p, _, 0, _, rfl, rfl, SqL.of hP2, atI_nat (j := 0) rfl, _, rfl, .inl ⟨_, rfl, _, rfl, p, _, 0, _, rfl, rfl, SqL.of hP2, atI_nat (j := 0) rfl, l, _, rfl, .inl (SqL.of hL2), _, _, rfl, rfl, (by rw [List.length_map]; omega), l, _, _, .int ns[n % ns.length], rfl, rfl, SqL.of hL2, ?_, ?_⟩⟩
          · have e2 : ((n : Int) % (((ns.map V.int).length : Nat) : Int)) = ((n % ns.length : Nat) : Int) := by
              rw [List.length_map]
              exact (Int.natCast_emod n ns.length).symm
            rw [e2]
            refine atI_nat ?_
            rw [List.getElem?_map, List.getElem?_eq_getElem hlt]
            rfl
          · exact ⟨_, rfl, hP2, hL2, hO1.new hz⟩
        · exact ⟨_, rfl, hP2, hL2, hO1.new hz⟩
      · rintro σ' H2 ⟨c, rfl, hP2, hL2, hO2⟩
        have hmix : ∀ t : Int, 0 ≤ t % many ∧ t % many < many := fun t => ⟨Int.emod_nonneg _ (Int.ne_of_gt hm), Int.emod_lt_of_pos _ hm⟩
        have bm : ∀ Y : Int, 0 ≤ Y % 2147483629 ∧ Y % 2147483629 < 2147483629 := fun Y => ⟨Int.emod_nonneg _ (by decide), Int.emod_lt_of_pos _ (by decide)⟩
        have bd : ∀ Y : Int, -(2 ^ 64) < Y % 2147483629 ∧ Y % 2147483629 < 2 ^ 64 := fun Y => by
          have := bm Y
          omega
        have key : ∀ Y : Int, ((Y % 2147483629) * (2 * (n : Int) + 127) + 54395 * (n : Int) * (n : Int) + 17).natAbs < 2 ^ 64 := by
          intro Y
          have b2 := bm Y
          revert b2
          generalize Y % 2147483629 = m1
          intro b2
          have b3 : 0 ≤ m1 * (2 * (n : Int) + 127) ∧ m1 * (2 * (n : Int) + 127) ≤ 2147483629 * 2000127 := ⟨Int.mul_nonneg b2.1 (by omega), Int.mul_le_mul (by omega) (by omega) (by omega) (by decide)⟩
          have b4 : 0 ≤ 54395 * (n : Int) * (n : Int) ∧ 54395 * (n : Int) * (n : Int) ≤ (54395 * 1000000) * 1000000 := ⟨Int.mul_nonneg (by omega) (by omega), Int.mul_le_mul (by omega) (by omega) (by omega) (by decide)⟩
          omega
        refine ⟨_, rfl, _, rfl, p, _, 0, _, rfl, rfl, SqL.of hP2, atI_nat (j := 0) rfl, l, _, rfl, .inl (SqL.of hL2), _, _, rfl, rfl, _, rfl, ite2 (fun e1 => ⟨_, rfl, _, rfl, _, _, rfl, rfl, ⟨by decide, by decide, by decide⟩, _, _, rfl, rfl, _, rfl, ite2 (fun e2 => ?great) (fun e2 => ?late)⟩) (fun e1 => ?small)⟩
        case great =>
          have e3 : (10 : Int) ^ (18 : Int).toNat ≤ (if c < 0 then -c else c) := of_decide_eq_true e2
          refine ⟨_, rfl, _, rfl, _, _, rfl, rfl, ⟨by decide, by decide, by decide⟩, _, _, rfl, rfl, _, _, rfl, rfl, .inl ⟨by decide, by decide⟩, _, rfl, _, _, rfl, rfl, .inr ⟨_, rfl, _, _, rfl, rfl, ?_⟩⟩
          have hG : ∀ k : Bool, 0 ≤ 2 * ((if c < 0 then -c else c) - (10 : Int) ^ (18 : Int).toNat) + (if k = true then (1 : Int) else 0) := by
            intro k
            have : (0 : Int) ≤ (if k = true then (1 : Int) else 0) := by cases k <;> decide
            omega
          have hG1 := hG (decide (c < 0))
          refine ⟨_, rfl, .inl ⟨_, rfl, _, rfl, _, _, rfl, rfl, wide_div hm hm2 (by decide) (by decide), _, rfl, p, _, 2, 2, rfl, rfl, hP2, rfl, ?_⟩⟩
          exact ⟨_, rfl, .inl ⟨_, rfl, _, rfl, _, _, rfl, rfl, hm, q _ (n + 1) _ _ (hmix _).1 (hmix _).2 (Nat.le_refl _) hO2.upd ⟨upd_same, (upd_ne (Pen.apart ⟨hP2, hL2, hp.left⟩)).trans hL2, Int.ediv_nonneg hG1 (Int.le_of_lt hm)⟩⟩⟩
        all_goals
          have b1 : 0 ≤ c % 2147483563 ∧ c % 2147483563 < 2147483563 := ⟨Int.emod_nonneg _ (by decide), Int.emod_lt_of_pos _ (by decide)⟩
          refine ⟨_, rfl, .inl ⟨_, rfl, _, _, rfl, rfl, (by decide : (0 : Int) < 2147483563), _, rfl, _, _, rfl, rfl, .inl ⟨by decide, by decide⟩, _, _, rfl, rfl, _, _, rfl, rfl, _, _, rfl, rfl, ⟨by decide, by decide, ?_⟩, .inl ⟨_, rfl, _, _, rfl, rfl, (by decide : (0 : Int) < 2147483629), ?_⟩⟩⟩
          · omega
          refine ⟨_, rfl, _, rfl, _, _, rfl, rfl, .inl ⟨by decide, by decide⟩, _, _, rfl, rfl, _, _, rfl, rfl, .inl (bd _), _, rfl, _, _, rfl, rfl, .inl ⟨by decide, by decide⟩, _, rfl, _, _, rfl, rfl, .inr ⟨?_, ?_⟩, _, _, rfl, rfl, _, _, rfl, rfl, _, _, rfl, rfl, ⟨by decide, by decide, key _⟩, .inl ⟨_, rfl, _, _, rfl, rfl, (by decide : (0 : Int) < 2147483587), ?_⟩⟩
          · omega
          · omega
          exact ⟨_, rfl, _, _, rfl, rfl, ⟨by decide, by decide⟩, .inl ⟨_, rfl, _, rfl, _, _, rfl, rfl, hm, q _ (n + 1) g H2 (hmix _).1 (hmix _).2 (Nat.le_refl _) hO2 ⟨hP2, hL2, hp.left⟩⟩⟩


/-- one of a list's things, one of a text's signs -/
def spPick (K : PySem.W.Frag) : Sp := fun vs H Q _ => ∃ (p l : Addr) (ns : List Int) (n : Nat) (g : Int) (y : V), vs = [.ref p, y] ∧ Pen H p l ns n g ∧ n < 1000000 ∧
  ((∃ (q : Addr) (xs : List V), y = .ref q ∧ q ≠ p ∧ H q = some (.lst xs) ∧ 0 < xs.length ∧ xs.length ≤ 1000 ∧
    ∀ (v : V) (n' : Nat) (g' : Int) (H' : Hp), v ∈ xs → n' ≤ n + 1 → Off p H H' → Pen H' p l ns n' g' → Q v H') ∨
   (∃ z : Str, y = .str z ∧ 0 < z.length ∧ z.length ≤ 1000 ∧
    ∀ (c : Nat) (n' : Nat) (g' : Int) (H' : Hp), c ∈ z.cps.toList → n' ≤ n + 1 → Off p H H' → Pen H' p l ns n' g' → Q (.str (⟨#[c]⟩)) H'))
theorem ok_pick {f fD : Addr} {fd fdD : FuncData} (F : Fun K "_law_pick" "_law_pick" sPick f fd) (ml : mg "len" = none) (FD : Fun K "_law_draw" "_law_draw" sDraw fD fdD) (bD : Binds K fdD ["_law_pen_here", "_law_many"] []) (gD : mg "_law_draw" = some (.ref fD))
    (GD : FnOk P w K mg base CX0 1 fD fdD ["_law_pen_here", "_law_many"] spDraw) : FnOk P w K mg base CX0 2 f fd ["_law_pen_here", "_law_some"] (spPick K) := by
  refine F.ok scPick (fun vs H Q E h => ?_) (fun cdv A outer s H vs Q E hr h => ?_)
  · obtain ⟨p, l, ns, n, g, y, rfl, _⟩ := h
    rfl
  · obtain ⟨p, l, ns, n, g, y, rfl, hp, hn, k⟩ := h
    refine ⟨_, pss_one (ps_ret (pe_ix (ix_list.or ix_str) (pv 1) (pe_call GD hr (by rfl) gD FD.kp bD .nil pass0 (pa_cons (pv 0) (pa_cons (pe_callB (So.CallR.or call_len_seq call_len_str) (by rfl) ml PySem.boot_len (pa_cons (pv 1) pa_nil)) pa_nil))) (fun _ _ => rfl))), ?_⟩
    rcases k with ⟨q, xs, rfl, hne, hq, h0, h1, k⟩ | ⟨z, rfl, h0, h1, k⟩
    · refine ⟨_, rfl, _, rfl, _, rfl, .inl ⟨q, _, rfl, .inl (SqL.of hq), p, l, ns, n, g, _, rfl, hp, hn, by omega, ?_, ?_⟩⟩
      · have : ((xs.length : Nat) : Int).natAbs = xs.length := Int.natAbs_natCast _
        rw [this]
        exact Nat.lt_of_le_of_lt h1 (by decide)
      · intro d n' g' H' d0 d1 hn' off pen
        obtain ⟨j, rfl⟩ : ∃ j : Nat, d = j := ⟨d.toNat, by omega⟩
        have hlt : j < xs.length := by omega
        exact .inl ⟨q, xs, j, xs[j], rfl, rfl, SqL.of (off q _ hne hq), atI_nat (List.getElem?_eq_getElem hlt), k _ n' g' H' (List.getElem_mem hlt) hn' off pen⟩
    · refine ⟨_, rfl, _, rfl, _, rfl, .inr ⟨z, rfl, Nat.le_trans h1 (by decide), p, l, ns, n, g, _, rfl, hp, hn, by omega, ?_, ?_⟩⟩
      · have : ((z.length : Nat) : Int).natAbs = z.length := Int.natAbs_natCast _
        rw [this]
        exact Nat.lt_of_le_of_lt h1 (by decide)
      · intro d n' g' H' d0 d1 hn' off pen
        obtain ⟨j, rfl⟩ : ∃ j : Nat, d = j := ⟨d.toNat, by omega⟩
        have hz : z.length = z.cps.toList.length := Array.length_toList.symm
        have hlt : j < z.cps.toList.length := by omega
        exact .inr ⟨z, j, z.cps.toList[j], rfl, rfl, Nat.le_trans h1 (by decide), atI_nat (List.getElem?_eq_getElem hlt), k _ n' g' H' (List.getElem_mem hlt) hn' off pen⟩
theorem Pen.new {H : Hp} {p l q : Addr} {ns : List Int} {n : Nat} {g : Int} {o : HO} (h : Pen H p l ns n g) (hq : H q = none) : Pen (upd H q o) p l ns n g :=
  ⟨(upd_ne (ne_of_none h.pen hq)).trans h.pen, (upd_ne (ne_of_none h.cells hq)).trans h.cells, h.left⟩
end
end K48

namespace K48
open PySem PySem.Spec PyProof.Rows L2 So
abbrev sWhole : Stmt := topS 6
abbrev sMoment : Stmt := topS 7
theorem scWhole : FnScope ["value"] ["value"] (defScope sWhole) := ⟨rfl, rfl, rfl, by decide +kernel, rfl, by decide +kernel, by decide +kernel⟩
theorem scMoment : FnScope ["value"] ["value"] (defScope sMoment) := ⟨rfl, rfl, rfl, by decide +kernel, rfl, by decide +kernel, by decide +kernel⟩
/-- the module's names that the words of the package read -/
structure Words (K : PySem.W.Frag) (mg : Str → Option Value) : Prop where
  greatest : ∃ t, mg "GREATEST" = some (.int 1000000000000000000000000000000 t)
  isi : mg "isinstance" = none
  int : mg "int" = none
  bool : mg "bool" = none
  str : mg "str" = none
  len : mg "len" = none
  tuple : mg "tuple" = none
  list : mg "list" = none
section
variable {P : Program} {w : World} {K : PySem.W.Frag} {mg : Str → Option Value} {base : Heap}
theorem kit_int_int : PySem.W.kitOne K (.type "int") (.type "int") = some true := kit_ty (by decide +kernel)
theorem kit_int_bool : PySem.W.kitOne K (.type "int") (.type "bool") = some false := kit_ty (by decide +kernel)
theorem kit_str_str : PySem.W.kitOne K (.type "str") (.type "str") = some true := kit_ty (by decide +kernel)
theorem kit_bool_bool : PySem.W.kitOne K (.type "bool") (.type "bool") = some true := kit_ty (by decide +kernel)

/-- the values that the law draws: what each is, by its type's name -/
inductive Gv (H : Hp) : V → String → Prop where
  | non : Gv H .non "NoneType"
  | bl (b : Bool) : Gv H (.bl b) "bool"
  | int (i : Int) : Gv H (.int i) "int"
  | str (z : Str) (h : z.length ≤ 2000) : Gv H (.str z) "str"
  | lst {a : Addr} {xs : List V} (e : H a = some (.lst xs)) : Gv H (.ref a) "list"
  | tup {a : Addr} {xs : List V} (e : H a = some (.tup xs)) : Gv H (.ref a) "tuple"
  | dK {a : Addr} {kvs : List (Key × V)} (e : H a = some (.dK kvs)) : Gv H (.ref a) "dict"
theorem Gv.ty {H : Hp} {v : V} {T : String} (h : Gv H v T) : TyX K H v (.type T) := by
  cases h with
  | non => exact .base .non
  | bl b => exact .base (.bl b)
  | int i => exact .base (.int i)
  | str z h => exact .base (.str z)
  | lst e => exact .base (.lst e)
  | tup e => exact .base (.tup e)
  | dK e => exact .base (.dK e)
theorem Gv.same {H H' : Hp} {v : V} {T : String} (h : Gv H v T) (s : Same H H') : Gv H' v T := by
  cases h with
  | non => exact .non
  | bl b => exact .bl b
  | int i => exact .int i
  | str z h => exact .str z h
  | lst e => exact .lst (s _ _ e)
  | tup e => exact .tup (s _ _ e)
  | dK e => exact .dK (s _ _ e)
theorem Gv.off {H H' : Hp} {v : V} {T : String} {p : Addr} (h : Gv H v T) (n : v ≠ .ref p) (s : Off p H H') : Gv H' v T := by
  cases h with
  | non => exact .non
  | bl b => exact .bl b
  | int i => exact .int i
  | str z h => exact .str z h
  | lst e => exact .lst (s _ _ (fun z => n (by rw [z])) e)
  | tup e => exact .tup (s _ _ (fun z => n (by rw [z])) e)
  | dK e => exact .dK (s _ _ (fun z => n (by rw [z])) e)
def gInt : V → Bool
  | .int _ => true
  | _ => false
def gMom : V → Bool
  | .int i => decide (0 ≤ i ∧ i ≤ 1000000000000000000000000000000)
  | _ => false
/-- what isinstance says of such a value and a built-in type -/
theorem Gv.kit {H : Hp} {v : V} {T : String} (h : Gv H v T) (c : String) (hc : c = "int" ∨ c = "bool" ∨ c = "str") : PySem.W.kitOne K (.type T) (.type c) = some (decide (T = c ∨ (T = "bool" ∧ c = "int"))) := by
  rcases hc with rfl | rfl | rfl <;> cases h <;> exact kit_ty (by decide +kernel)
/-- is_whole -/
def spWhole : Sp := fun vs H Q _ => ∃ (v : V) (T : String), vs = [v] ∧ Gv H v T ∧ Q (.bl (gInt v)) H
theorem ok_whole {f : Addr} {fd : FuncData} (F : Fun K "is_whole" "is_whole" sWhole f fd) (W : Words K mg) : FnOk P w K mg base CX0 1 f fd ["value"] spWhole := by
  refine F.ok scWhole (fun vs H Q E h => ?_) (fun cdv A outer s H vs Q E hr h => ?_)
  · obtain ⟨v, T, rfl, _⟩ := h
    rfl
  · obtain ⟨v, T, rfl, hv, q⟩ := h
    refine ⟨_, pss_one (ps_ret (pe_and (pe_callB call_isi (by rfl) W.isi (by decide +kernel) (pa_cons (pv 0) (pa_cons (pe_bltn (v := .ty "int") (by rfl) W.int (by decide +kernel) rfl) pa_nil)))
      (pe_one (pe_not (pe_callB call_isi (by rfl) W.isi (by decide +kernel) (pa_cons (pv 0) (pa_cons (pe_bltn (v := .ty "bool") (by rfl) W.bool (by decide +kernel) rfl) pa_nil))))))), ?_⟩
    refine ⟨_, rfl, _, _, _, _, _, rfl, .ty "int", hv.ty, hv.kit "int" (.inl rfl), _, rfl, ?_⟩
    cases hv with
    | int i =>
      refine iteT ?_
      exact ⟨_, rfl, _, _, _, _, false, rfl, .ty "bool", .base (.int i), kit_int_bool, _, rfl, q⟩
    | bl b =>
      refine iteT ?_
      exact ⟨_, rfl, _, _, _, _, true, rfl, .ty "bool", .base (.bl b), kit_bool_bool, _, rfl, q⟩
    | non => exact iteF q
    | str z h => exact iteF q
    | lst e => exact iteF q
    | tup e => exact iteF q
    | dK e => exact iteF q
/-- is_moment -/
def spMoment : Sp := fun vs H Q _ => ∃ (v : V) (T : String), vs = [v] ∧ Gv H v T ∧ Q (.bl (gMom v)) H
theorem ok_moment {f fW : Addr} {fd fdW : FuncData} (F : Fun K "is_moment" "is_moment" sMoment f fd) (W : Words K mg) (FW : Fun K "is_whole" "is_whole" sWhole fW fdW) (bW : Binds K fdW ["value"] []) (gW : mg "is_whole" = some (.ref fW)) :
    FnOk P w K mg base CX0 2 f fd ["value"] spMoment := by
  have GW : FnOk P w K mg base CX0 1 fW fdW ["value"] spWhole := ok_whole FW W
  refine F.ok scMoment (fun vs H Q E h => ?_) (fun cdv A outer s H vs Q E hr h => ?_)
  · obtain ⟨v, T, rfl, _⟩ := h
    rfl
  · obtain ⟨v, T, rfl, hv, q⟩ := h
    obtain ⟨tG, hG⟩ := W.greatest
    refine ⟨_, pss_one (ps_ret (pe_and (pe_call GW hr (by rfl) gW FW.kp bW .nil pass0 (pa_cons (pv 0) pa_nil)) (pe_one (pe_chain op_le op_le pe_int (pv 0) (pe_glob (v := .int 1000000000000000000000000000000) rfl hG ⟨_, rfl⟩))))), ?_⟩
    refine ⟨_, rfl, v, T, rfl, hv, gInt v, rfl, ?_⟩
    cases hv with
    | int i =>
      refine iteT ?_
      refine ⟨_, rfl, _, _, rfl, rfl, _, rfl, ite2 (fun e => ?_) (fun e => ?_)⟩
      · have e' : 0 ≤ i := of_decide_eq_true e
        refine ⟨_, _, rfl, rfl, ?_⟩
        have : gMom (.int i) = decide (i ≤ 1000000000000000000000000000000) := by simp [gMom, e']
        rw [this] at q
        exact q
      · have e' : ¬ 0 ≤ i := fun z => e (decide_eq_true z)
        have : gMom (.int i) = false := by simp [gMom, e']
        rw [this] at q
        exact q
    | bl b => exact iteF q
    | non => exact iteF q
    | str z h => exact iteF q
    | lst e => exact iteF q
    | tup e => exact iteF q
    | dK e => exact iteF q

end
end K48

/-! stretches of whole numbers: lists of them that are apart are told by the numbers that they have -/
namespace So
abbrev Str2 := Int × Int
def cov (xs : List Str2) (m : Int) : Prop := ∃ q ∈ xs, q.1 ≤ m ∧ m ≤ q.2
structure Sep (xs : List Str2) : Prop where
  ok : ∀ q ∈ xs, q.1 ≤ q.2
  ap : xs.Pairwise fun a b => a.2 + 1 < b.1
theorem cov_nil {m : Int} : ¬ cov [] m := fun ⟨_, h, _⟩ => nomatch h
theorem cov_cons {q : Str2} {xs : List Str2} {m : Int} : cov (q :: xs) m ↔ (q.1 ≤ m ∧ m ≤ q.2) ∨ cov xs m := by
  constructor
  · rintro ⟨r, hr, h⟩
    rcases List.mem_cons.mp hr with e | e
    · subst e
      exact .inl h
    · exact .inr ⟨r, e, h⟩
  · rintro (h | ⟨r, hr, h⟩)
    · exact ⟨q, List.mem_cons_self, h⟩
    · exact ⟨r, List.mem_cons_of_mem _ hr, h⟩
theorem cov_append {xs ys : List Str2} {m : Int} : cov (xs ++ ys) m ↔ cov xs m ∨ cov ys m := by
  constructor
  · rintro ⟨r, hr, h⟩
    rcases List.mem_append.mp hr with e | e
    · exact .inl ⟨r, e, h⟩
    · exact .inr ⟨r, e, h⟩
  · rintro (⟨r, hr, h⟩ | ⟨r, hr, h⟩)
    · exact ⟨r, List.mem_append_left _ hr, h⟩
    · exact ⟨r, List.mem_append_right _ hr, h⟩
theorem Sep.tail {q : Str2} {xs : List Str2} (h : Sep (q :: xs)) : Sep xs := ⟨fun r hr => h.ok r (List.mem_cons_of_mem _ hr), (List.pairwise_cons.mp h.ap).2⟩
theorem Sep.least {q : Str2} {xs : List Str2} (h : Sep (q :: xs)) {m : Int} (c : cov (q :: xs) m) : q.1 ≤ m := by
  rcases cov_cons.mp c with c | ⟨r, hr, c⟩
  · exact c.1
  · have h1 := (List.pairwise_cons.mp h.ap).1 r hr
    have h2 := h.ok q List.mem_cons_self
    omega
theorem Sep.beyond {q : Str2} {xs : List Str2} (h : Sep (q :: xs)) {m : Int} (c : cov xs m) : q.2 + 1 < m := by
  obtain ⟨r, hr, c⟩ := c
  have h1 := (List.pairwise_cons.mp h.ap).1 r hr
  omega
theorem sep_ext : ∀ {xs ys : List Str2}, Sep xs → Sep ys → (∀ m, cov xs m ↔ cov ys m) → xs = ys
  | [], [], _, _, _ => rfl
  | [], q :: ys, _, h, e => absurd ((e q.1).mpr (cov_cons.mpr (.inl ⟨Int.le_refl _, h.ok q List.mem_cons_self⟩))) cov_nil
  | q :: xs, [], h, _, e => absurd ((e q.1).mp (cov_cons.mpr (.inl ⟨Int.le_refl _, h.ok q List.mem_cons_self⟩))) cov_nil
  | (a, b) :: xs, (c, d) :: ys, h1, h2, e => by
    have hab : a ≤ b := h1.ok (a, b) List.mem_cons_self
    have hcd : c ≤ d := h2.ok (c, d) List.mem_cons_self
    have eac : a = c := by
      have x1 : c ≤ a := h2.least ((e a).mp (cov_cons.mpr (.inl ⟨Int.le_refl _, hab⟩)))
      have x2 : a ≤ c := h1.least ((e c).mpr (cov_cons.mpr (.inl ⟨Int.le_refl _, hcd⟩)))
      omega
    subst eac
    have ebd : b = d := by
      rcases Int.lt_trichotomy b d with l | l | l
      · have x := (e (b + 1)).mpr (cov_cons.mpr (.inl ⟨by show a ≤ b + 1; omega, by show b + 1 ≤ d; omega⟩))
        rcases cov_cons.mp x with x | x
        · have : b + 1 ≤ b := x.2
          omega
        · have : b + 1 < b + 1 := h1.beyond x
          omega
      · exact l
      · have x := (e (d + 1)).mp (cov_cons.mpr (.inl ⟨by show a ≤ d + 1; omega, by show d + 1 ≤ b; omega⟩))
        rcases cov_cons.mp x with x | x
        · have : d + 1 ≤ d := x.2
          omega
        · have : d + 1 < d + 1 := h2.beyond x
          omega
    subst ebd
    congr 1
    refine sep_ext h1.tail h2.tail fun m => ⟨fun x => ?_, fun x => ?_⟩
    · have l : b + 1 < m := h1.beyond x
      rcases cov_cons.mp ((e m).mp (cov_cons.mpr (.inr x))) with y | y
      · have : m ≤ b := y.2
        omega
      · exact y
    · have l : b + 1 < m := h2.beyond x
      rcases cov_cons.mp ((e m).mpr (cov_cons.mpr (.inr x))) with y | y
      · have : m ≤ b := y.2
        omega
      · exact y
theorem Sep.nil : Sep [] := ⟨fun _ h => (nomatch h), .nil⟩
theorem Sep.snoc {xs : List Str2} {q : Str2} (h : Sep xs) (hq : q.1 ≤ q.2) (hl : ∀ r ∈ xs, r.2 + 1 < q.1) : Sep (xs ++ [q]) := by
  refine ⟨fun r hr => ?_, List.pairwise_append.mpr ⟨h.ap, List.pairwise_singleton _ _, fun a ha b hb => by rw [List.mem_singleton.mp hb]; exact hl a ha⟩⟩
  rcases List.mem_append.mp hr with e | e
  · exact h.ok r e
  · rw [List.mem_singleton.mp e]
    exact hq
theorem Sep.init {xs : List Str2} {q : Str2} (h : Sep (xs ++ [q])) : Sep xs ∧ q.1 ≤ q.2 ∧ ∀ r ∈ xs, r.2 + 1 < q.1 := by
  obtain ⟨h1, _, h3⟩ := List.pairwise_append.mp h.ap
  exact ⟨⟨fun r hr => h.ok r (List.mem_append_left _ hr), h1⟩, h.ok q (List.mem_append_right _ (List.mem_singleton.mpr rfl)), fun r hr => h3 r hr q (List.mem_singleton.mpr rfl)⟩
/-- a list, by its last one -/
theorem last_or {α : Type} (xs : List α) : xs = [] ∨ ∃ ys y, xs = ys ++ [y] := by
  cases xs with
  | nil => exact .inl rfl
  | cons a r => exact .inr ⟨(a :: r).dropLast, (a :: r).getLast (by simp), (List.dropLast_concat_getLast (by simp)).symm⟩
/-- one more stretch, not ahead of the last one -/
def few1 (acc : List Str2) (q : Str2) : List Str2 := match acc.getLast? with
  | some p => if q.1 ≤ p.2 + 1 then acc.dropLast ++ [(p.1, max p.2 q.2)] else acc ++ [q]
  | none => [q]
theorem few1_nil (q : Str2) : few1 [] q = [q] := rfl
theorem few1_snoc (ys : List Str2) (p q : Str2) : few1 (ys ++ [p]) q = if q.1 ≤ p.2 + 1 then ys ++ [(p.1, max p.2 q.2)] else ys ++ [p] ++ [q] := by
  unfold few1
  simp
structure FewOk (acc done : List Str2) (lo : Int) : Prop where
  sep : Sep acc
  cv : ∀ m, cov acc m ↔ cov done m
  low : ∀ q ∈ acc, q.1 ≤ lo
theorem few1_ok {acc done : List Str2} {lo : Int} {q : Str2} (h : FewOk acc done lo) (hq : q.1 ≤ q.2) (hl : lo ≤ q.1) : FewOk (few1 acc q) (done ++ [q]) q.1 := by
  have c1 : ∀ m, cov (done ++ [q]) m ↔ cov acc m ∨ (q.1 ≤ m ∧ m ≤ q.2) := fun m => by
    rw [cov_append, h.cv m, cov_cons]
    exact ⟨fun x => x.imp id fun y => y.resolve_right cov_nil, fun x => x.imp id .inl⟩
  rcases last_or acc with e | ⟨ys, p, e⟩
  · subst e
    rw [few1_nil]
    refine ⟨Sep.nil.snoc (xs := []) hq (fun _ h => nomatch h), fun m => ?_, fun r hr => by rw [List.mem_singleton.mp hr]; exact Int.le_refl _⟩
    rw [c1, cov_cons]
    exact ⟨fun x => x.elim .inr .inl, fun x => x.elim .inr .inl⟩
  · subst e
    obtain ⟨s1, s2, s3⟩ := h.sep.init
    have pl := h.low p (List.mem_append_right _ (List.mem_singleton.mpr rfl))
    rw [few1_snoc]
    by_cases c : q.1 ≤ p.2 + 1
    · rw [if_pos c]
      refine ⟨s1.snoc (show p.1 ≤ max p.2 q.2 by omega) s3, fun m => ?_, fun r hr => ?_⟩
      · rw [c1, cov_append, cov_append, cov_cons, cov_cons]
        have n : ¬ cov [] m := cov_nil
        constructor
        · rintro (x | x | x)
          · exact .inl (.inl x)
          · have x1 : p.1 ≤ m := x.1
            have x2 : m ≤ max p.2 q.2 := x.2
            by_cases z : m ≤ p.2
            · exact .inl (.inr (.inl ⟨x1, z⟩))
            · exact .inr ⟨by omega, by omega⟩
          · exact absurd x n
        · rintro ((x | x | x) | x)
          · exact .inl x
          · exact .inr (.inl ⟨x.1, by show m ≤ max p.2 q.2; have := x.2; omega⟩)
          · exact absurd x n
          · exact .inr (.inl ⟨by show p.1 ≤ m; have := x.1; omega, by show m ≤ max p.2 q.2; have := x.2; omega⟩)
      · rcases List.mem_append.mp hr with e | e
        · have := h.low r (List.mem_append_left _ e)
          omega
        · rw [List.mem_singleton.mp e]
          show p.1 ≤ q.1
          omega
    · rw [if_neg c]
      refine ⟨h.sep.snoc hq fun r hr => ?_, fun m => ?_, fun r hr => ?_⟩
      · rcases List.mem_append.mp hr with e | e
        · have := s3 r e
          omega
        · rw [List.mem_singleton.mp e]
          omega
      · rw [c1, cov_append (xs := ys ++ [p]), cov_cons (q := q)]
        exact ⟨fun x => x.imp id fun y => y.resolve_right cov_nil, fun x => x.imp id .inl⟩
      · rcases List.mem_append.mp hr with e | e
        · have := h.low r e
          omega
        · rw [List.mem_singleton.mp e]
          exact Int.le_refl _
/-- one moment more, behind all -/
def run1 (acc : List Str2) (t : Int) : List Str2 := match acc.getLast? with
  | some p => if p.2 + 1 = t then acc.dropLast ++ [(p.1, t)] else acc ++ [(t, t)]
  | none => [(t, t)]
theorem run1_nil (t : Int) : run1 [] t = [(t, t)] := rfl
theorem run1_snoc (ys : List Str2) (p : Str2) (t : Int) : run1 (ys ++ [p]) t = if p.2 + 1 = t then ys ++ [(p.1, t)] else ys ++ [p] ++ [(t, t)] := by
  unfold run1
  simp
structure RunOk (acc : List Str2) (done : List Int) : Prop where
  sep : Sep acc
  cv : ∀ m, cov acc m ↔ m ∈ done
theorem run1_ok {acc : List Str2} {done : List Int} {t : Int} (h : RunOk acc done) (hl : ∀ m ∈ done, m < t) : RunOk (run1 acc t) (done ++ [t]) := by
  have c1 : ∀ m, m ∈ done ++ [t] ↔ cov acc m ∨ m = t := fun m => by rw [List.mem_append, h.cv m, List.mem_singleton]
  rcases last_or acc with e | ⟨ys, p, e⟩
  · subst e
    rw [run1_nil]
    refine ⟨Sep.nil.snoc (xs := []) (Int.le_refl t) (fun _ h => nomatch h), fun m => ?_⟩
    rw [c1, cov_cons]
    constructor
    · rintro (x | x)
      · exact .inr (by have x1 : t ≤ m := x.1; have x2 : m ≤ t := x.2; omega)
      · exact .inl x
    · rintro (x | x)
      · exact .inr x
      · exact .inl ⟨by show t ≤ m; omega, by show m ≤ t; omega⟩
  · subst e
    obtain ⟨s1, s2, s3⟩ := h.sep.init
    have pl : p.2 < t := hl p.2 ((h.cv p.2).mp (cov_append.mpr (.inr (cov_cons.mpr (.inl ⟨s2, Int.le_refl _⟩)))))
    rw [run1_snoc]
    by_cases c : p.2 + 1 = t
    · rw [if_pos c]
      refine ⟨s1.snoc (show p.1 ≤ t by omega) s3, fun m => ?_⟩
      rw [c1, cov_append, cov_append, cov_cons, cov_cons]
      have n : ¬ cov [] m := cov_nil
      constructor
      · rintro (x | x | x)
        · exact .inl (.inl x)
        · have x1 : p.1 ≤ m := x.1
          have x2 : m ≤ t := x.2
          by_cases z : m ≤ p.2
          · exact .inl (.inr (.inl ⟨x1, z⟩))
          · exact .inr (by omega)
        · exact absurd x n
      · rintro ((x | x | x) | x)
        · exact .inl x
        · exact .inr (.inl ⟨x.1, by show m ≤ t; have := x.2; omega⟩)
        · exact absurd x n
        · exact .inr (.inl ⟨by show p.1 ≤ m; omega, by show m ≤ t; omega⟩)
    · rw [if_neg c]
      refine ⟨h.sep.snoc (Int.le_refl t) fun r hr => ?_, fun m => ?_⟩
      · rcases List.mem_append.mp hr with e | e
        · have := s3 r e
          show r.2 + 1 < t
          omega
        · rw [List.mem_singleton.mp e]
          show p.2 + 1 < t
          omega
      · rw [c1, cov_append (xs := ys ++ [p]), cov_cons (q := (t, t))]
        constructor
        · rintro (x | x | x)
          · exact .inl x
          · exact .inr (by have x1 : t ≤ m := x.1; have x2 : m ≤ t := x.2; omega)
          · exact absurd x cov_nil
        · rintro (x | x)
          · exact .inl x
          · exact .inr (.inl ⟨by show t ≤ m; omega, by show m ≤ t; omega⟩)
/-- the fewest stretches of sorted ones, the runs of ascending moments -/
theorem few_ok : ∀ (ys acc done : List Str2) (lo : Int), FewOk acc done lo → (∀ q ∈ ys, q.1 ≤ q.2 ∧ lo ≤ q.1) → ys.Pairwise (fun a b => a.1 ≤ b.1) → ∃ lo', FewOk (ys.foldl few1 acc) (done ++ ys) lo'
  | [], acc, done, lo, h, _, _ => ⟨lo, by rw [List.append_nil]; exact h⟩
  | q :: ys, acc, done, lo, h, hq, hs => by
    rw [List.pairwise_cons] at hs
    have h1 := hq q List.mem_cons_self
    have := few_ok ys _ _ q.1 (few1_ok h h1.1 h1.2) (fun r hr => ⟨(hq r (List.mem_cons_of_mem _ hr)).1, hs.1 r hr⟩) hs.2
    rw [List.append_assoc] at this
    exact this
theorem runs_ok : ∀ (ts : List Int) (acc : List Str2) (done : List Int), RunOk acc done → (∀ m ∈ done, ∀ t ∈ ts, m < t) → ts.Pairwise (· < ·) → RunOk (ts.foldl run1 acc) (done ++ ts)
  | [], acc, done, h, _, _ => by rw [List.append_nil]; exact h
  | t :: ts, acc, done, h, hl, hs => by
    rw [List.pairwise_cons] at hs
    have := runs_ok ts _ _ (run1_ok h fun m hm => hl m hm t List.mem_cons_self) (fun m hm u hu => by
      rcases List.mem_append.mp hm with e | e
      · exact hl m e u (List.mem_cons_of_mem _ hu)
      · rw [List.mem_singleton.mp e]
        exact hs.1 u hu) hs.2
    rw [List.append_assoc] at this
    exact this
theorem few_runs {ys : List Str2} {ts : List Int} (hq : ∀ q ∈ ys, q.1 ≤ q.2 ∧ 0 ≤ q.1) (hs : ys.Pairwise (fun a b => a.1 ≤ b.1)) (ht : ts.Pairwise (· < ·)) (e : ∀ m, m ∈ ts ↔ cov ys m) : ys.foldl few1 [] = ts.foldl run1 [] := by
  obtain ⟨_, h1⟩ := few_ok ys [] [] 0 ⟨Sep.nil, fun m => Iff.rfl, fun _ h => (nomatch h)⟩ hq hs
  have h2 := runs_ok ts [] [] ⟨Sep.nil, fun m => ⟨fun x => absurd x cov_nil, fun x => (nomatch x)⟩⟩ (fun _ h => nomatch h) ht
  refine sep_ext h1.sep h2.sep fun m => ?_
  rw [h1.cv m, h2.cv m]
  exact (e m).symm
end So

/-! a op b op c op d -/
namespace So
open PySem PySem.Spec PyProof.Rows L2
section
variable {X : Cx}
def tChain3 (r r' r'' : R2) (ta tb tc td : TE) : TE := fun σ H Q => ta σ H fun x H1 => tb σ H1 fun y H2 => r x y H2 fun z H3 => ∃ k, z = .bl k ∧
  (if k = true then tc σ H3 fun w H4 => r' y w H4 (fun z2 H5 => ∃ k2, z2 = .bl k2 ∧ (if k2 = true then td σ H5 fun v H6 => r'' w v H6 Q else Q (.bl false) H5)) else Q (.bl false) H3)
theorem pe_chain3 {op op' op'' : CmpOp} {r r' r'' : R2} {a b c d : Expr} {ta tb tc td : TE} {pos : Pos} (ho : OpR X (compareOp op) r) (ho' : OpR X (compareOp op') r') (ho'' : OpR X (compareOp op'') r'') (ha : PE X a ta) (hb : PE X b tb) (hc : PE X c tc) (hd : PE X d td)
    (hm : lastMarks [op, op', op''] [b, c, d] = false := by with_unfolding_all rfl) : PE X (.Compare a [op, op', op''] [b, c, d] pos) (tChain3 r r' r'' ta tb tc td) := by
  refine ⟨fun pins s σ H Q I h => ?_⟩
  refine Compare_chain (thn (ha.run pins s σ H _ I h) fun v s1 ⟨x, H1, I1, r1, q1⟩ => chain_link (thn (hb.run pins s1 σ H1 _ I1 q1) fun u s2 ⟨y, H2, I2, r2, q2⟩ =>
    thn (ho pins s2 σ H2 x y v u _ I2 r1 r2 q2) fun d s3 ⟨z, H3, I3, r3, k, e, q3⟩ => ?_)) hm
  subst e
  cases r3
  refine wpAny_truthy_bool ?_
  cases k with
  | false => exact ite_ff ⟨.bl false, H3, I3, rfl, q3⟩
  | true =>
    refine ite_tt (chain_link (thn (hc.run pins s3 σ H3 _ I3 q3) fun w' s4 ⟨z', H4, I4, r4, q4⟩ => thn (ho' pins s4 σ H4 y z' u w' _ I4 r2 r4 q4) fun d2 s5 ⟨z2, H5, I5, r5, k2, e2, q5⟩ => ?_))
    subst e2
    cases r5
    refine wpAny_truthy_bool ?_
    cases k2 with
    | false => exact ite_ff ⟨.bl false, H5, I5, rfl, q5⟩
    | true => exact ite_tt (chain_last (thn (hd.run pins s5 σ H5 _ I5 q5) fun w2 s6 ⟨z3, H6, I6, r6, q6⟩ => ho'' pins s6 σ H6 z' z3 w' w2 Q I6 r4 r6 q6))
end
/-! ### sorted, of a tuple of pairs of ints -/
/-- what sorted(xs) asks, xs a tuple of pairs of ints (k says which) -/
def rSortedPT (K : PySem.W.Frag) : List V → Hp → VK → Prop := fun vs H Q => ∃ (a : Addr) (xs : List V) (k : V → Int × Int), vs = [V.ref a] ∧ SqT K H a xs ∧ (∀ x ∈ xs, ∃ t, x = V.ref t ∧ H t = some (.tup [.int (k x).1, .int (k x).2])) ∧
  ∀ ys p, SrtO.Srtd (ltP k) ys → SrtO.Stb (ltP k) ys xs → H p = none → Q (.ref p) (upd H p (.lst ys))
section
variable {X : Cx}
theorem cr_sortedPT : CallR X (.builtin "sorted") (rSortedPT X.K) := by
  intro pins s σ H vs us Q I r h
  obtain ⟨a, xs, k, rfl, hs, hx, q⟩ := h
  obtain ⟨its, rv, hl, hz⟩ := I.tuple hs
  obtain ⟨u, rfl, ru⟩ := vals1 r
  obtain rfl : u = Value.ref a := ru
  obtain ⟨e1, e2⟩ := refs_back rv fun x m => by
    obtain ⟨t, e, _⟩ := hx x m
    exact ⟨t, e⟩
  have hzi : its.length ≤ sizeLine := by rw [← rv.length]; exact hz
  have pr : ∀ v ∈ its, Srt.IsPair s.heap v (k (backV v)).1 (k (backV v)).2 := fun v hv => by
    obtain ⟨t, rfl⟩ := e2 v hv
    have hm : V.ref t ∈ xs := by rw [e1]; exact List.mem_map.mpr ⟨_, hv, rfl⟩
    obtain ⟨t', e, ht⟩ := hx _ hm
    cases e
    obtain ⟨_, its2, r2, o, ho, hc, n, hd⟩ := I.hok _ _ ht
    obtain ⟨u1, u2, rfl, ri, rj⟩ := vals2 r2
    obtain ⟨t1, rfl⟩ := ri
    obtain ⟨t2, rfl⟩ := rj
    exact ⟨t, o, t1, t2, n, rfl, ho, hc, hd⟩
  obtain ⟨ot, hot, hct, nt, hdt⟩ := hl
  refine Calls.call_function_entry PyProof.Rows.kind_sorted PyProof.Rows.plain_sorted PyProof.Rows.entry_sorted (PyProof.Rows.args_sorted1 _) ?_
  unfold Builtin.«sorted»
  refine wpAny_bind (m := checkCount "sorted" 1 1 _) (wpAny_pure ?_)
  refine wpAny_bind (wpAny_collect_seq a (.inr rfl) hot hct hdt (fun h' hk => ?_) (by rw [List.size_toArray]; exact hzi))
  rw [show its.toArray.toList = its from by simp]
  refine wpAny_bind (wpAny_newList ?_ hzi)
  have hoL : (h'.push (seqObj "list" its.toArray 0)).get? h'.objs.size = some (seqObj "list" its.toArray 0) := Heap.get?_push_size _ rfl
  have hlt : ∀ b o, s.heap.get? b = some o → b < h'.objs.size := fun b o e => Heap.lt_size (hk b o e)
  have kp : ∀ b o, s.heap.get? b = some o → (h'.push (seqObj "list" its.toArray 0)).get? b = some o := fun b o e => Heap.get?_push_of_some _ (hk b o e)
  have sz : (h'.push (seqObj "list" its.toArray 0)).objs.size = h'.objs.size + 1 := Heap.size_push _ _
  refine wpAny_bind (wpAny_holding (wpAny_call_entry PyProof.Rows.slot_list_sort ⟨_, hoL, rfl⟩ PyProof.Rows.entry_list_sort (SrtO.list_sort_ord (SrtO.swo_lex (fun u => k (backV u))) hoL hzi (fun h2 => ?_) fun out h1 h2 => ⟨_, rfl, ?_⟩) (PyProof.Rows.args_list_sort _)))
  · refine SrtO.pairs_sortableO (by omega) (fun v hm => (pr v hm).keeps fun b o e _ => kp b o e) fun o e => ?_
    have e' : some o = some (seqObj "list" its.toArray 0) := e.symm.trans hoL
    cases e'
    intro c
    exact absurd (Value.type.inj c) (by decide)
  · have h3 : ∀ u ∈ out, ∃ a, u = Value.ref a := fun u hu => e2 u (h2.perm.mem_iff.mp hu)
    obtain ⟨n, hn⟩ := PyProof.Rows.sortedHeap_at (vs := its) (out := out.toArray) hoL
    have hb : SrtO.Stb (ltP k) (out.map backV) xs := by
      rw [e1]
      exact SrtO.Stb.map (ltP_swo k) backV h2
    have I1 : Inv X pins σ H { s with heap := h' } := I.kept (t' := s.toks) hk
    refine wpAny_pure ⟨_, rfl, .ref h'.objs.size, upd H h'.objs.size (.lst (out.map backV)), I1.laid (t' := s.toks) (fun b o e => ?_) (Nat.le_refl _) ⟨?_, out, n, vals_back h3, hn⟩, rfl, q _ _ (SrtO.srtd_map h1) hb (I1.hok.fresh (Nat.le_refl _))⟩
    · have l : b < h'.objs.size := Heap.lt_size e
      rw [PyProof.Rows.sortedHeap_old (Nat.ne_of_lt l) (by rw [sz]; exact Nat.lt_succ_of_lt l)]
      exact Heap.get?_push_of_some _ e
    · rw [hb.len]
      exact hz
end
end So


/-! enumerate(a tuple) as what a for goes through -/
namespace So
open PySem PySem.Spec PyProof.Rows L2
/-- enumerate(v): what pyIter of v makes, in an enumerate's cell -/
theorem enum_new1 {v : Value} {o : Obj} {Hp0 : Heap → Prop} (B : Begins v o Hp0) : Meets (Builtin.«enumerate.__new__» ⟨[.type "enumerate", v], []⟩) (fun _ R s => Hp0 s.heap ∧
    R (.ok (.ret (.ref (s.heap.push o).objs.size))) { s with heap := (s.heap.push o).push { cls := .type "enumerate", data := .fields #[.none, .bool false, .ref s.heap.objs.size, rawInt 0, .none, .none] } }) :=
  .of_wp fun prog w A R s h => by
    obtain ⟨hp, g, d, tk, os⟩ := s
    obtain ⟨h1, h⟩ := h
    have hsub := sub_enumerate
    have q1 : ∀ {A' : Around} {E : Value → Shared → Prop} {Q : Value → Shared → Prop}, Q (.ref hp.objs.size) ⟨hp.push o, g, d, tk, os⟩ → wpAny (model prog w) A' (pyIter v) Q E ⟨hp, g, d, tk, os⟩ :=
      fun q => B.iter prog w _ _ ⟨hp, g, d, tk, os⟩ _ h1 q
    wp_walk using q1
    refine wpAny_stack_any fun st => wpAny_pure ?_
    split
    · rename_i c _ _ _ _ _
      cases (c == Value.type "enumerate") <;> (wp_walk using q1; exact ⟨_, rfl, h⟩)
    · wp_walk using q1
      exact ⟨_, rfl, h⟩
/-- behind the last item -/
theorem enum_endT {prog : Program} {w : World} {A : Around} {E : Value → Shared → Prop} {s : Shared} {e it a : Addr} {i : Int} {j : Nat} {items : Array Value} {old : Value} {Q : Option Value → Shared → Prop} (hh : A.handled = none) (he : IsEnum s.heap e it i old)
    (hit : s.heap.IsTupleIter it a j) (ht : s.heap.IsTuple a items) (hx : items[j]? = none) (hQ : ∀ h', Heap.ExtBut it s.heap h' → Q none { s with heap := h' }) : wpAny (model prog w) A (pyNext (.ref e)) Q E s := by
  have hT : s.TypeIs (.ref e) "enumerate" := ⟨_, he, rfl⟩
  unfold pyNext
  refine wpAny_bind (wpAny_attempt (wpAny_callSpecial?_slot (name := Str.ofString "__next__") hT PySem.F.slot_enumerate_next (wpAny_call_entry PySem.F.slot_enumerate_next hT PySem.F.entry_enumerate_next ?_ (PySem.F.args_enumerate_next_1 _))))
  show wpAny _ _ (field (.ref e) 2 >>= _) _ _ _
  refine wpAny_bind (wpAny_field he rfl (x := .ref it) rfl (wpAny_bind (wpAny_nextOf_tuple_end (A := A.in1) hh hit ht hx fun h' x he' hx' => ?_)))
  obtain ⟨o, ho, hc⟩ := hx'
  exact wpAny_bind (wpAny_isInstance (T := "StopIteration") (b := true) ⟨o, ho, hc⟩ isSubtype_stop (wpAny_pure (hQ _ he')))
/-- the tuple at a, each item in a new pair with its index -/
def IteT (K : PySem.W.Frag) (a : Addr) : It :=
  ⟨fun i H => ∃ (xs : List V) (x : V), SqT K H a xs ∧ xs[i]? = some x, fun i H v H' => ∃ T x, v = .ref T ∧ H T = none ∧ H' = upd H T (.tup [.int (i : Nat), x]) ∧ ∀ xs, SqT K H a xs → xs[i]? = some x, fun i H => ∃ xs : List V, SqT K H a xs ∧ xs.length ≤ i⟩
theorem walk_enumT {K : PySem.W.Frag} {a : Addr} {xs : List V} : Walk (IteT K a) xs.length (fun H => SqT K H a xs) (YPair (fun i => some (.int (i : Nat))) (fun i => xs[i]?)) := by
  refine ⟨fun i _ hi q => ⟨xs, xs[i], q, by simp [hi]⟩, fun _ q => ⟨xs, q, Nat.le_refl _⟩, fun i H v H' _ q y => ?_⟩
  obtain ⟨T, x, h1, h2, h3, h4⟩ := y
  exact ⟨T, .int (i : Nat), x, h1, h2, h3, rfl, h4 xs q⟩
theorem turn_enumT {P : Program} {w : World} {K : PySem.W.Frag} {elts : List Expr} {kk : Nat} {tpos : Pos} (a e it : Addr) :
    Turn P w K (.Tuple elts kk tpos) (IteT K a) [e, it] e (fun i h => (∃ old, IsEnum h e it ((i : Nat) : Int) old) ∧ h.IsTupleIter it a i ∧ e ≠ it ∧ a ≠ it ∧ a ≠ e) where
  mem := by simp
  obj := fun i h st b hb => by
    obtain ⟨⟨old, he⟩, ⟨o, ho, hc, hd⟩, _⟩ := st
    have e' : b = e ∨ b = it := by simpa using hb
    rcases e' with z | z
    · rw [z]
      exact ⟨_, he, fun v q => nomatch q⟩
    · rw [z]
      exact ⟨o, ho, fun v q => by rw [hd] at q; cases q⟩
  keep := fun i h h' st k => by
    obtain ⟨⟨old, he⟩, hi, ne⟩ := st
    exact ⟨⟨old, k e (by simp) _ he⟩, hi.at fun o q => k it (by simp) o q, ne⟩
  item := by
    intro X hP hw hK hc i pins s σ H E I hf st hg
    subst hP hw hK
    obtain ⟨⟨old, he⟩, hit, ne, nai, nae⟩ := st
    obtain ⟨xs, x, hq, hx⟩ := hg
    obtain ⟨its, rv, p, hz⟩ := I.tuple hq
    obtain ⟨u, hu, ru⟩ := rv.get hx
    have hel : e < s.heap.objs.size := Heap.lt_size he
    have hil : it < s.heap.objs.size := by
      obtain ⟨_, q, _⟩ := hit
      exact Heap.lt_size q
    have hT0 : s.heap.IsTuple a its.toArray := p
    have hi : i < its.toArray.size := by
      have := (List.getElem?_eq_some_iff.mp hu).1
      simpa using this
    refine wpAny_pyNext_enum_itemD (Draws.tuple (A := X.A.in1) (show X.A.in1.handled = none from I.ok.hd hc) it a nai its.toArray) he ⟨hit, hT0⟩ hi ne (by simp [ne, Ne.symm nae]) fun x' h' tk hp ho hst hT hsz hk => ?_
    have ex : x' = u := by
      have h1 : its.toArray[i]? = some x' := hp
      have h2 : its.toArray[i]? = some u := by simpa using hu
      exact Option.some.inj (h1.symm.trans h2)
    subst ex
    refine ⟨_, rfl, wpAny_letOwnedTupleGo_enum (s := { s with heap := h', toks := tk + 1 }) ho fun h'' he' sb => ?_⟩
    have hT2 : h''.get? s.heap.objs.size = some { cls := .type "tuple", data := .seq #[.int i tk, x'] } := (sb.2 _ (Nat.ne_of_gt hel)).trans hT
    have new : ObjOk X.prog X.w (upd H s.heap.objs.size (.tup [.int (i : Nat), x])) h'' s.heap.objs.size (.tup [.int (i : Nat), x]) :=
      ⟨by show 2 ≤ sizeLine; decide, [.int i tk, x'], .cons ⟨_, rfl⟩ (.cons ru .nil), ⟨_, hT2, rfl, _, rfl⟩⟩
    have I1 : Inv X pins σ (upd H s.heap.objs.size (.tup [.int (i : Nat), x])) { s with heap := h'', toks := tk + 1 } :=
      I.turnedNew (ch := [e, it]) (fun b ob hb q => (sb.2 b (fun z => hb (by simp [z]))).trans (hk b ob (fun z => hb (by simp [z])) (fun z => hb (by simp [z])) q)) hf (Nat.le_refl _) new
    refine ⟨.ref s.heap.objs.size, _, I1, rfl, ⟨_, x, rfl, I.hok.fresh (Nat.le_refl _), rfl, fun ys hy => by rw [I.tuple_inj hy hq]; exact hx⟩, ⟨⟨x', ?_⟩, hst.1.at fun o q => (sb.2 it (Ne.symm ne)).trans q, ne, nai, nae⟩, fun b hb => ?_⟩
    · have e1 : ((i + 1 : Nat) : Int) = (i : Int) + 1 := by omega
      rw [e1]
      exact he'
    · have hb' : b < s.heap.objs.size := by
        have e' : b = e ∨ b = it := by simpa using hb
        rcases e' with z | z
        · rw [z]
          exact hel
        · rw [z]
          exact hil
      rw [upd_ne (Nat.ne_of_lt hb')]
      exact (hf b hb).1
  done := by
    intro X hP hw hK hc i pins s σ H E I hf st hg
    subst hP hw hK
    obtain ⟨⟨old, he⟩, hit, ne, nai, nae⟩ := st
    obtain ⟨xs, hq, hx⟩ := hg
    obtain ⟨its, rv, p, hz⟩ := I.tuple hq
    obtain ⟨f0, f1, f2, f3, f4, f5⟩ := hf it (by simp)
    have hl := rv.length
    exact enum_endT (I.ok.hd hc) he hit (show s.heap.IsTuple a its.toArray from p) (by simp; omega) fun h' eb => ⟨rfl, I.turned (t' := s.toks) (fun b o hb q => eb b o hb q) f0 f1 f3 f4 f5⟩
  self := fun A i s Q E st h => by
    obtain ⟨⟨_, he⟩, _⟩ := st
    exact wpAny_pyIter_enum he h
def iEnumT (K : PySem.W.Frag) (ta : TA) : TI := fun σ H R => ta σ H fun vs H1 => ∃ a xs, vs = [.ref a] ∧ SqT K H1 a xs ∧ R (IteT K a) H1
theorem pi_enumT {X : Cx} {e : Expr} {ta : TA} {p pos tpos : Pos} {elts : List Expr} {kk : Nat} (hg : Gl X "enumerate") (hm : X.mg "enumerate" = none) (ha : PA X [e] ta) (hs : starEach [e] X.env = [(false, eval e X.env)] := by rfl) :
    PI X (.Tuple elts kk tpos) (.Call (.Name "enumerate" p) [e] [] pos) (iEnumT X.K ta) := by
  refine ⟨fun pins s σ H R I h => ?_⟩
  refine Call_ (ld_blt I hg hm boot_enumerate (PyProof.Rows.callWith_type1 (thn (ha.run pos pins s σ H _ I h) fun us s1 ⟨vs, H1, I1, r1, q1⟩ => ?_) hs rfl))
  obtain ⟨a, xs, rfl, hq, q⟩ := q1
  obtain ⟨u, rfl, ru⟩ := vals1 r1
  obtain rfl : u = Value.ref a := ru
  obtain ⟨its, rv, p', hz⟩ := I1.tuple hq
  have ht : s1.heap.IsTuple a its.toArray := p'
  have al : a < s1.heap.objs.size := by
    obtain ⟨o, ho, _⟩ := ht
    exact Heap.lt_size ho
  have sz : (s1.heap.push { cls := .type "tuple_iterator", data := .fields #[.ref a, .int 0 0] }).objs.size = s1.heap.objs.size + 1 := Heap.size_push ..
  refine callType_new PySem.F.called_enumerate (by decide) (PySem.F.typeCall_enumerate_1 _) (PySem.F.newCall_enumerate_1 _) (fun obj => PySem.F.args_object_init_2 obj _) PySem.F.entry_enumerate_new (enum_new1 (begins_tuple a its.toArray)) ⟨ht, ?_⟩
  show _ ∧ _
  rw [sz]
  have he : IsEnum ((s1.heap.push { cls := .type "tuple_iterator", data := .fields #[.ref a, .int 0 0] }).push { cls := .type "enumerate", data := .fields #[.none, .bool false, .ref s1.heap.objs.size, rawInt 0, .none, .none] }) (s1.heap.objs.size + 1) s1.heap.objs.size 0 .none := by
    have := Heap.get?_push_size (s1.heap.push { cls := .type "tuple_iterator", data := .fields #[.ref a, .int 0 0] }) (o := { cls := .type "enumerate", data := .fields #[.none, .bool false, .ref s1.heap.objs.size, rawInt 0, .none, .none] }) rfl
    rw [sz] at this
    exact this
  refine ⟨⟨_, he, rfl⟩, wpAny_pyIter_enum he ?_⟩
  have I2 : Inv X pins σ H1 { s1 with heap := (s1.heap.push { cls := .type "tuple_iterator", data := .fields #[.ref a, .int 0 0] }).push { cls := .type "enumerate", data := .fields #[.none, .bool false, .ref s1.heap.objs.size, rawInt 0, .none, .none] } } :=
    I1.kept (t' := s1.toks) fun b o x => Heap.get?_push_of_some _ (Heap.get?_push_of_some _ x)
  refine ⟨s1.heap.objs.size + 1, [s1.heap.objs.size + 1, s1.heap.objs.size], _, _, H1, rfl, I2, turn_enumT a (s1.heap.objs.size + 1) s1.heap.objs.size, ⟨⟨.none, he⟩, ⟨_, Heap.get?_push_of_some _ (Heap.get?_push_size _ rfl), rfl, rfl⟩, Nat.succ_ne_self _, Nat.ne_of_lt al, Nat.ne_of_lt (Nat.lt_succ_of_lt al)⟩, fun b hb => ?_, q⟩
  have e' : b = s1.heap.objs.size + 1 ∨ b = s1.heap.objs.size := by simpa using hb
  have hle : s1.heap.objs.size ≤ b := by
    rcases e' with z | z
    · rw [z]
      exact Nat.le_add_right _ _
    · rw [z]
      exact Nat.le_refl _
  exact I1.fpOk hle (I1.hok.fresh hle)
end So

/-! the truth of an instance by its own __bool__, bool(x) and len(x) by own __bool__ and __len__ -/
namespace So
open PySem PySem.Spec PyProof.Rows L2
section
variable {X : Cx} {CX : CXT} {k : Nat} {C f : Addr} {fd : FuncData} {ps : List Str} {sp : Sp} {E : XK}
/-- a method of one argument, called a room deeper or here -/
theorem run_one {pins : List (Addr × Obj)} {s : Shared} {σ : L2.St} {H : Hp} {a : Addr} {Q : VK} {A : Around} (F : FnOk X.prog X.w X.K X.mg X.base CX k f fd ps sp) (hb : Binds X.K fd ps [])
    (hx : Passes CX X E) (hr : Room k A) (hf : A.frames = X.A.frames) (I : Inv X pins σ H s) (h : sp [.ref a] H Q E) : wpAny (model X.prog X.w) A (call (.ref f) [.ref a]) (EP X pins σ Q) X.xe s := by
  have e0 : Env0 X.prog X.w X.K X.mg X.base A X.stack s H := by
    have e := I.env0
    exact ⟨hf.trans e.frames, e.mod, e.bs, e.bsz, e.funs, e.frf, e.hok, e.bare⟩
  have hl : ([Value.ref a] ++ ([] : List Value)).length = ps.length := (F.len _ _ _ _ h : [V.ref a].length = ps.length)
  refine wpAny_call (codeAny_mono (F.run A X.stack s H ⟨[.ref a], []⟩ ([Value.ref a] ++ []) [.ref a] Q E hr e0 (hb s [Value.ref a] I.kIn hl) (.cons (show RelV (.ref a) (Value.ref a) from rfl) .nil) h) fun r s' hq => ?_)
  cases r with
  | error e => exact hx pins σ H s e s' I hq
  | ok fl =>
    cases fl with
    | ret w => exact I.after hq
    | next => exact False.elim hq
    | brk => exact False.elim hq
    | cont => exact False.elim hq
/-- as a test -/
theorem pt_own {e : Expr} {t : TE} (F : FnOk X.prog X.w X.K X.mg X.base CX k f fd ps sp) (hs : PySem.W.findIn X.K (.ref C) "__bool__" = some (some (.ref f))) (hf : PySem.W.isFn X.K (.ref f) = true) (hb : Binds X.K fd ps []) (hx : Passes CX X E) (hr : Room k X.A)
    (h : PE X e t) (he : ∀ whole, isTrue e X.env whole = (do let v ← whole; standAt e.pos; holding [v] (truthy v)) := by intro _; rfl) :
    PT X e (fun σ H Q => t σ H fun x H1 => ∃ a dx fs, x = .ref a ∧ H1 a = some (.ins C dx fs) ∧ sp [.ref a] H1 (fun v H' => ∃ b, v = .bl b ∧ Q b H') E) := by
  refine ⟨fun pins s σ H Q I hw => ?_⟩
  refine isTrue_plain (thn (h.run pins s σ H _ I hw) fun v s1 ⟨x, H1, I1, r1, q1⟩ => ?_) (he _)
  obtain ⟨a, dx, fs, rfl, ha, q⟩ := q1
  cases r1
  obtain ⟨mA, J, _⟩ := ins_get I1.hok ha
  obtain ⟨od, J, _⟩ := J.look
  obtain ⟨m, hF⟩ := I1.fr
  refine PySem.W.truthy_K hF I1.ok.mod.kin J hs hf (wpAny_mono (run_one F hb hx hr rfl I1 q) (fun w s' z => ?_) fun _ _ z => z)
  obtain ⟨v, H', I', rv, b, rfl, q'⟩ := z
  cases rv
  exact ⟨H', I', q'⟩
/-- len(x) -/
theorem call_lenO (F : FnOk X.prog X.w X.K X.mg X.base CX k f fd ps sp) (hs : PySem.W.findIn X.K (.ref C) "__len__" = some (some (.ref f))) (hf : PySem.W.isFn X.K (.ref f) = true) (hb : Binds X.K fd ps []) (hx : Passes CX X E) (hr : Room (k + 1) X.A) :
    CallR X (.builtin "len") (fun xs H Q => ∃ a dx fs, xs = [.ref a] ∧ H a = some (.ins C dx fs) ∧ sp [.ref a] H (fun v H' => ∃ n : Nat, v = .int n ∧ (n : Int) < 2 ^ 63 ∧ Q (.int n) H') E) := by
  intro pins s σ H xs us Q I r h
  obtain ⟨a, dx, fs, rfl, ha, q⟩ := h
  rw [Vals.ref1 r]
  obtain ⟨mA, J, _⟩ := ins_get I.hok ha
  obtain ⟨od, J, _⟩ := J.look
  obtain ⟨m, hF⟩ := I.fr
  refine PySem.W.len_K hF I.ok.mod.kin J hs hf (wpAny_mono (run_one F hb hx hr.in1 rfl I q) (fun w s' z => ?_) fun _ _ z => z)
  obtain ⟨v, H', I', rv, n, rfl, hn, q'⟩ := z
  obtain ⟨t, rfl⟩ := rv
  exact ⟨⟨Int.natCast_nonneg n, hn⟩, .int n, H', I'.tok _, ⟨_, rfl⟩, q'⟩
/-- bool(x) -/
theorem call_boolO (G : FnOk X.prog X.w X.K X.mg X.base CX k f fd ps sp) (hs : PySem.W.findIn X.K (.ref C) "__bool__" = some (some (.ref f))) (hf : PySem.W.isFn X.K (.ref f) = true) (hb : Binds X.K fd ps []) (hx : Passes CX X E) (hr : Room (k + 2) X.A) :
    CallR X (.type "bool") (fun xs H Q => ∃ a dx fs, xs = [.ref a] ∧ H a = some (.ins C dx fs) ∧ sp [.ref a] H (fun v H' => ∃ b, v = .bl b ∧ Q (.bl b) H') E) := by
  intro pins s σ H xs us Q I r h
  obtain ⟨a, dx, fs, rfl, ha, q⟩ := h
  rw [Vals.ref1 r]
  obtain ⟨mA, J, _⟩ := ins_get I.hok ha
  obtain ⟨od, J, _⟩ := J.look
  obtain ⟨m, hF⟩ := I.fr
  have tr : ∀ (R : Bool → Shared → Prop), (∀ b s' H', Inv X pins σ H' s' → Q (.bl b) H' → R b s') → wpAny (model X.prog X.w) X.A.in1.in1 (truthy (.ref a)) R X.xe s := fun R hR => by
    refine PySem.W.truthy_K hF I.ok.mod.kin J hs hf (wpAny_mono (run_one G hb hx hr.in1.in1 rfl I q) (fun w s' z => ?_) fun _ _ z => z)
    obtain ⟨v, H', I', rv, b, rfl, q'⟩ := z
    cases rv
    exact hR b s' H' I' q'
  refine callType_codes (Q₁ := fun ob s1 => ∃ b H', ob = .bool b ∧ Inv X pins σ H' s1 ∧ Q (.bl b) H') PySem.F.called_bool (PySem.F.typeCall_bool_1 _) PySem.F.entry_object_init (codeAny_call_builtin PySem.F.called_bool.plain F.entry_bool_new (wpAny_of_eq (PySem.F.newCall_bool_1 _) ?_)) fun ob s1 hq => ?_
  · have f1 := PySem.F.conv_sub_bool
    refine wpAny_mono (Q := fun fin s' => ∃ b H', fin = .done (.ret (.bool b)) ∧ Inv X pins σ H' s' ∧ Q (.bl b) H') ?_ (fun fin s' z => ?_) fun _ _ z => z
    · unfold Builtin.«bool.__new__»
      repeat (any_goals (first | assumption | (with_reducible refine tr _ fun b s' H' I' q' => ?_) | wp_step))
      exact ⟨_, _, rfl, I', q'⟩
    · obtain ⟨b, H', rfl, I', q'⟩ := z
      exact ⟨b, H', rfl, I', q'⟩
  · obtain ⟨b, H', rfl, I', q'⟩ := hq
    refine ⟨rfl, PySem.F.args_object_init_2 _ _, ?_⟩
    exact object_init_meets PySem.F.called_bool.init.lookup PySem.F.called_bool.made PySem.F.newNe_bool X.prog X.w X.A.in1 _ s1 ⟨rfl, rfl, .bl b, H', I', rfl, q'⟩
end
end So

/-! repr of data with dicts: each thing's text built by itself, so that no more is asked of an address than that a dict is not the modules' own. -/
namespace So
open PySem PySem.Spec PyProof.Rows L2
mutual
/-- a value is this data; dicts with texts as keys may stand in it -/
inductive Dd (K : PySem.W.Frag) (H : Hp) : V → PyData → Prop
  | non : Dd K H .non .none
  | bl (b : Bool) : Dd K H (.bl b) (.bool b)
  | int (i : Int) : Dd K H (.int i) (.int i)
  | str (x : Str) : Dd K H (.str x) (.str x)
  | lst {a : Addr} {xs : List V} {ds : List PyData} (e : SqL K H a xs) (h : DdAll K H xs ds) : Dd K H (.ref a) (.list ds)
  | tup {a : Addr} {xs : List V} {ds : List PyData} (e : SqT K H a xs) (h : DdAll K H xs ds) : Dd K H (.ref a) (.tuple ds)
  | dct {a : Addr} {kvs : List (Key × V)} {ds : List (PyData × PyData)} (e : H a = some (.dK kvs)) (h : DdKv K H kvs ds) : Dd K H (.ref a) (.dict ds)
inductive DdAll (K : PySem.W.Frag) (H : Hp) : List V → List PyData → Prop
  | nil : DdAll K H [] []
  | cons {v : V} {vs : List V} {d : PyData} {ds : List PyData} (h : Dd K H v d) (t : DdAll K H vs ds) : DdAll K H (v :: vs) (d :: ds)
inductive DdKv (K : PySem.W.Frag) (H : Hp) : List (Key × V) → List (PyData × PyData) → Prop
  | nil : DdKv K H [] []
  | cons {k : Str} {v : V} {r : List (Key × V)} {d : PyData} {ds : List (PyData × PyData)} (h : Dd K H v d) (t : DdKv K H r ds) : DdKv K H ((Sum.inr k, v) :: r) ((.str k, d) :: ds)
end
section
variable {X : Cx} {pins : List (Addr × Obj)} {σ : L2.St} {H : Hp} {s : Shared}
/-- a thing in memory that shows so -/
def ShK (X : Cx) (h : Heap) (u : Value) (d : PyData) : Prop := ∃ as bs, Reads h u d as ∧ ReadAtMost h d.depth bs ∧ ReprK X.prog X.w bs h d.depth u d.shown
def ShAll (X : Cx) (h : Heap) (us : List Value) (ds : List PyData) : Prop := ∃ as bs, ReadsAll h us ds as ∧ ReadAtMost h (PyData.depthAll ds) bs ∧ ReprAllK X.prog X.w bs h (PyData.depthAll ds) us (PyData.shownAll ds)
theorem shAll_cons {h : Heap} {u : Value} {us : List Value} {d : PyData} {ds : List PyData} (a : ShK X h u d) (b : ShAll X h us ds) : ShAll X h (u :: us) (d :: ds) := by
  obtain ⟨as1, b1, r1, hb1, k1⟩ := a
  obtain ⟨as2, b2, r2, hb2, k2⟩ := b
  refine ⟨_, b1 ++ b2, .cons r1 r2, ?_, ?_⟩
  · intro b hm
    simp only [PyData.depthAll]
    rcases List.mem_append.mp hm with hm | hm
    · obtain ⟨d', as', r', hd'⟩ := hb1 b hm
      exact ⟨d', as', r', Nat.le_trans hd' (Nat.le_max_left _ _)⟩
    · obtain ⟨d', as', r', hd'⟩ := hb2 b hm
      exact ⟨d', as', r', Nat.le_trans hd' (Nat.le_max_right _ _)⟩
  · simp only [PyData.depthAll, PyData.shownAll]
    exact .cons ((k1.more fun b hb => List.mem_append_left _ hb).level_le (Nat.le_max_left _ _)) (k2.more_le (fun b hb => List.mem_append_right _ hb) (Nat.le_max_right _ _))
theorem shAll_nil {h : Heap} : ShAll X h [] [] := ⟨_, [], .nil, (fun _ h => nomatch h), by simp only [PyData.shownAll]; exact .nil⟩
mutual
theorem Dd.sh (I : Inv X pins σ H s) : ∀ (d : PyData) (v : V) (u : Value), Dd X.K H v d → RelV v u → d.showable = true → d.shown.length ≤ sizeLine → ShK X s.heap u d
  | .none, _, _, h, r, _, _ => by
    cases h
    cases r
    exact ⟨_, [], .none, (fun _ h => nomatch h), by simp only [PyData.shown]; exact .of_is ReprIs.none _ _ _⟩
  | .bool b, _, _, h, r, _, _ => by
    cases h
    cases r
    exact ⟨_, [], .bool b, (fun _ h => nomatch h), by simp only [PyData.shown]; exact .of_is (ReprIs.bool b) _ _ _⟩
  | .int i, _, _, h, r, hs, _ => by
    cases h
    obtain ⟨t, rfl⟩ := r
    exact ⟨_, [], .int i t, (fun _ h => nomatch h), by simp only [PyData.shown]; exact .of_is (ReprIs.int t (by simpa [PyData.showable] using hs)) _ _ _⟩
  | .str x, _, _, h, r, _, hz => by
    cases h
    obtain ⟨t, rfl⟩ := r
    exact ⟨_, [], .str x t, (fun _ h => nomatch h), by simp only [PyData.shown]; exact .of_is (ReprIs.str x t (by simpa only [PyData.shown] using hz)) _ _ _⟩
  | .list ds, _, _, h, r, hs, hz => by
    cases h with
    | @lst a xs _ e hall =>
      cases r
      have hz' : (listText (PyData.shownAll ds)).length ≤ sizeLine := by simpa only [PyData.shown] using hz
      obtain ⟨its, rv, ⟨o, n, h1, h2, _, h3⟩, _⟩ := I.list e
      obtain ⟨as, bs, rd, hb, hk⟩ := DdAll.sh I ds xs its hall rv (by simpa [PyData.showable] using hs) (fun t ht => Nat.le_trans (listText_mem_le ht) hz')
      have rr : Reads s.heap (.ref a) (.list ds) _ := .list h1 h2 h3 rd
      have hna : a ∉ bs := not_mem_of_deeper rr (by simp only [PyData.depth]; omega) hb
      refine ⟨_, a :: bs, rr, ReadAtMost.cons rr (by simp only [PyData.depth]; omega) hb, ?_⟩
      simp only [PyData.depth, PyData.shown]
      cases its with
      | nil =>
        cases rd
        simp only [PyData.shownAll, listText_nil]
        exact ReprK.listEmpty h1 h2 h3
      | cons x l => exact ReprK.list h1 h2 h3 hna (by simpa using hk.length_eq) (fun i y e => hk.item i y (by simpa using e))
  | .tuple ds, _, _, h, r, hs, hz => by
    cases h with
    | @tup a xs _ e hall =>
      cases r
      have hz' : (tupleText (PyData.shownAll ds)).length ≤ sizeLine := by simpa only [PyData.shown] using hz
      obtain ⟨its, rv, ⟨o, h1, h2, n, h3⟩, _⟩ := I.tuple e
      obtain ⟨as, bs, rd, hb, hk⟩ := DdAll.sh I ds xs its hall rv (by simpa [PyData.showable] using hs) (fun t ht => Nat.le_trans (tupleText_mem_le ht) hz')
      have rr : Reads s.heap (.ref a) (.tuple ds) _ := .tuple h1 h2 h3 rd
      have hna : a ∉ bs := not_mem_of_deeper rr (by simp only [PyData.depth]; omega) hb
      refine ⟨_, a :: bs, rr, ReadAtMost.cons rr (by simp only [PyData.depth]; omega) hb, ?_⟩
      simp only [PyData.depth, PyData.shown]
      exact ReprK.tuple h1 h2 h3 hna hk
  | .dict ds, _, _, h, r, hs, hz => by
    cases h with
    | @dct a kvs _ e hall =>
      cases r
      have hz' : (dictText (PyData.shownKv ds)).length ≤ sizeLine := by simpa only [PyData.shown] using hz
      obtain ⟨_, hsys, vs, hk, hD⟩ : kvs.length ≤ sizeLine ∧ (a == sysModules) = false ∧ ∃ vs, KV kvs vs ∧ s.heap.DictOf (mixKind X.prog X.w) a vs := I.hok a _ e
      obtain ⟨o, es, ep, h1, h2, h3, _, e5, _⟩ := hD
      obtain ⟨hs1, hs2⟩ := PyData.showableKv_split ds (by simpa [PyData.showable] using hs)
      obtain ⟨⟨as1, b1, r1, hb1, k1⟩, as2, b2, r2, hb2, k2⟩ := DdKv.sh I ds kvs vs es.toList hall hk e5 hs1 hs2
        (fun t ht => let ⟨p, hp, hl⟩ := PyData.shownKv_key_le ds t ht; Nat.le_trans hl (Nat.le_trans (dictText_mem_le hp) hz')) (fun t ht => let ⟨p, hp, hl⟩ := PyData.shownKv_val_le ds t ht; Nat.le_trans hl (Nat.le_trans (dictText_mem_le hp) hz'))
      have rr : Reads s.heap (.ref a) (.dict ds) _ := .dict h1 h2.1 h3 r1 r2
      have hb : ReadAtMost s.heap (PyData.depthKv ds) (b1 ++ b2) := (hb1.mono (PyData.depthAll_keys_le ds)).append (hb2.mono (PyData.depthAll_vals_le ds))
      have hna : a ∉ b1 ++ b2 := not_mem_of_deeper rr (by simp only [PyData.depth]; omega) hb
      refine ⟨_, a :: (b1 ++ b2), rr, ReadAtMost.cons rr (by simp only [PyData.depth]; omega) hb, ?_⟩
      simp only [PyData.depth, PyData.shown, PyData.shownKv_eq]
      exact ReprK.dict h1 h2.1 h3 hsys hna (ReprEntriesK.of_two es.toList _ _
        (k1.more_le (fun b hb => List.mem_append_left _ hb) (PyData.depthAll_keys_le ds)) (k2.more_le (fun b hb => List.mem_append_right _ hb) (PyData.depthAll_vals_le ds)))
theorem DdAll.sh (I : Inv X pins σ H s) : ∀ (ds : List PyData) (vs : List V) (us : List Value), DdAll X.K H vs ds → Vals vs us → PyData.showableAll ds = true → (∀ t ∈ PyData.shownAll ds, t.length ≤ sizeLine) → ShAll X s.heap us ds
  | [], _, _, h, r, _, _ => by
    cases h
    cases r
    exact shAll_nil
  | d :: ds, _, _, h, r, hs, hz => by
    cases h with
    | cons h1 h2 =>
      cases r with
      | cons r1 r2 =>
        have hs' : d.showable = true ∧ PyData.showableAll ds = true := by simpa [PyData.showableAll] using hs
        exact shAll_cons (Dd.sh I d _ _ h1 r1 hs'.1 (hz _ (by simp only [PyData.shownAll]; exact List.mem_cons_self ..))) (DdAll.sh I ds _ _ h2 r2 hs'.2 fun t ht => hz t (by simp only [PyData.shownAll]; exact List.mem_cons_of_mem _ ht))
theorem DdKv.sh (I : Inv X pins σ H s) : ∀ (ds : List (PyData × PyData)) (kvs : List (Key × V)) (vs : List (Key × Value)) (es : List DictEntry), DdKv X.K H kvs ds → KV kvs vs → Pairs (mixKind X.prog X.w) es vs → PyData.showableAll (ds.map (·.1)) = true → PyData.showableAll (ds.map (·.2)) = true →
    (∀ t ∈ PyData.shownAll (ds.map (·.1)), t.length ≤ sizeLine) → (∀ t ∈ PyData.shownAll (ds.map (·.2)), t.length ≤ sizeLine) → ShAll X s.heap (es.map (·.key)) (ds.map (·.1)) ∧ ShAll X s.heap (es.map (·.val)) (ds.map (·.2))
  | [], _, _, _, h, hk, hp, _, _, _, _ => by
    cases h
    cases hk
    cases hp
    exact ⟨shAll_nil, shAll_nil⟩
  | (dk, dv) :: ds, _, _, _, h, hk, hp, hs1, hs2, z1, z2 => by
    cases h with
    | @cons k v r _ _ h1 h2 =>
      cases hk with
      | @cons _ kv _ _ hk1 hk2 =>
        obtain ⟨kk, kval⟩ := kv
        obtain ⟨q1, q2⟩ := hk1
        simp only at q1 q2
        subst q1
        cases hp with
        | @cons en _ es' _ p1 p2 p3 =>
          have hs1' : (PyData.str k).showable = true ∧ PyData.showableAll (ds.map (·.1)) = true := by simpa [PyData.showableAll] using hs1
          have hs2' : dv.showable = true ∧ PyData.showableAll (ds.map (·.2)) = true := by simpa [PyData.showableAll] using hs2
          have hz1 : (PyData.str k).shown.length ≤ sizeLine := z1 _ (by simp only [List.map_cons, PyData.shownAll]; exact List.mem_cons_self ..)
          have hz2 : dv.shown.length ≤ sizeLine := z2 _ (by simp only [List.map_cons, PyData.shownAll]; exact List.mem_cons_self ..)
          obtain ⟨c1, c2⟩ := DdKv.sh I ds _ _ _ h2 hk2 p3 hs1'.2 hs2'.2 (fun t ht => z1 t (by simp only [List.map_cons, PyData.shownAll]; exact List.mem_cons_of_mem _ ht)) (fun t ht => z2 t (by simp only [List.map_cons, PyData.shownAll]; exact List.mem_cons_of_mem _ ht))
          simp only at p2
          refine ⟨?_, ?_⟩
          · rcases keyIs_shape (show keyIs (Sum.inr k) en.key = true from p1) with ⟨j, t3, z, _⟩ | ⟨y, t3, z, ez⟩
            · cases z
            · cases z
              simp only [List.map_cons]
              refine shAll_cons ?_ c1
              rw [ez]
              exact ⟨_, [], .str k t3, (fun _ h => nomatch h), by simp only [PyData.shown]; exact .of_is (ReprIs.str k t3 (by simpa only [PyData.shown] using hz1)) _ _ _⟩
          · simp only [List.map_cons]
            rw [p2]
            exact shAll_cons (Dd.sh I dv v _ h1 q2 hs2'.1 hz2) c2
end
/-- such a thing is shown by its own type -/
theorem Dd.shows (I : Inv X pins σ H s) {a : Addr} {d : PyData} (h : Dd X.K H (.ref a) d) (hs : d.showable = true) (hz : d.shown.length ≤ sizeLine) : ∃ T idr, ShowsBy X.prog X.w s.heap a d T idr := by
  cases h with
  | @lst _ xs ds e hall =>
    have hz' : (listText (PyData.shownAll ds)).length ≤ sizeLine := by simpa only [PyData.shown] using hz
    obtain ⟨its, rv, ⟨o, n, h1, h2, _, h3⟩, _⟩ := I.list e
    obtain ⟨as, bs, rd, hb, hk⟩ := DdAll.sh I ds xs its hall rv (by simpa [PyData.showable] using hs) (fun t ht => Nat.le_trans (listText_mem_le ht) hz')
    have rr : Reads s.heap (.ref a) (.list ds) _ := .list h1 h2 h3 rd
    have hna : a ∉ bs := not_mem_of_deeper rr (by simp only [PyData.depth]; omega) hb
    refine ⟨"list", "list.__repr__", F.slot_list_repr.toG, F.slot_list_str, F.slot_list_format, fun s' hk0 => ⟨o, hk0 _ _ h1, h2⟩, fun A E s' Q hg hu hk0 hQ => ?_⟩
    simp only [PyData.depth] at hu
    simp only [PyData.shown] at hQ
    cases its with
    | nil =>
      cases rd
      simp only [PyData.shownAll, listText_nil] at hQ
      exact call_list_repr_empty ⟨o, hk0 _ _ h1, h2⟩ (hk0 _ _ h1) h3 (hQ s'.heap _ _ fun _ _ e => e)
    | cons x l => exact call_list_reprK h1 h2 h3 hna (by simpa using hk.length_eq) (fun i y e => hk.item i y (by simpa using e)) hg (fun b _ => Clear.nil b) hu hk0 hQ hz'
  | @tup _ xs ds e hall =>
    have hz' : (tupleText (PyData.shownAll ds)).length ≤ sizeLine := by simpa only [PyData.shown] using hz
    obtain ⟨its, rv, ⟨o, h1, h2, n, h3⟩, _⟩ := I.tuple e
    obtain ⟨as, bs, rd, hb, hk⟩ := DdAll.sh I ds xs its hall rv (by simpa [PyData.showable] using hs) (fun t ht => Nat.le_trans (tupleText_mem_le ht) hz')
    have rr : Reads s.heap (.ref a) (.tuple ds) _ := .tuple h1 h2 h3 rd
    have hna : a ∉ bs := not_mem_of_deeper rr (by simp only [PyData.depth]; omega) hb
    refine ⟨"tuple", "tuple.__repr__", F.slot_tuple_repr, F.slot_tuple_str, F.slot_tuple_format, fun s' hk0 => ⟨o, hk0 _ _ h1, h2⟩, fun A E s' Q hg hu hk0 hQ => ?_⟩
    simp only [PyData.depth] at hu
    simp only [PyData.shown] at hQ
    exact call_tuple_reprK h1 h2 h3 hna hk hg (fun b _ => Clear.nil b) hu hk0 hQ hz'
  | @dct _ kvs ds e hall =>
    have hz' : (dictText (PyData.shownKv ds)).length ≤ sizeLine := by simpa only [PyData.shown] using hz
    obtain ⟨_, hsys, vs, hk, hD⟩ : kvs.length ≤ sizeLine ∧ (a == sysModules) = false ∧ ∃ vs, KV kvs vs ∧ s.heap.DictOf (mixKind X.prog X.w) a vs := I.hok a _ e
    obtain ⟨o, es, ep, h1, h2, h3, _, e5, _⟩ := hD
    obtain ⟨hs1, hs2⟩ := PyData.showableKv_split ds (by simpa [PyData.showable] using hs)
    obtain ⟨⟨as1, b1, r1, hb1, k1⟩, as2, b2, r2, hb2, k2⟩ := DdKv.sh I ds kvs vs es.toList hall hk e5 hs1 hs2
      (fun t ht => let ⟨p, hp, hl⟩ := PyData.shownKv_key_le ds t ht; Nat.le_trans hl (Nat.le_trans (dictText_mem_le hp) hz')) (fun t ht => let ⟨p, hp, hl⟩ := PyData.shownKv_val_le ds t ht; Nat.le_trans hl (Nat.le_trans (dictText_mem_le hp) hz'))
    have rr : Reads s.heap (.ref a) (.dict ds) _ := .dict h1 h2.1 h3 r1 r2
    have hb : ReadAtMost s.heap (PyData.depthKv ds) (b1 ++ b2) := (hb1.mono (PyData.depthAll_keys_le ds)).append (hb2.mono (PyData.depthAll_vals_le ds))
    have hna : a ∉ b1 ++ b2 := not_mem_of_deeper rr (by simp only [PyData.depth]; omega) hb
    refine ⟨"dict", "dict.__repr__", F.slot_dict_repr, F.slot_dict_str, F.slot_dict_format, fun s' hk0 => ⟨o, hk0 _ _ h1, h2.1⟩, fun A E s' Q hg hu hk0 hQ => ?_⟩
    simp only [PyData.depth] at hu
    simp only [PyData.shown, PyData.shownKv_eq] at hQ
    exact call_dict_reprK h1 h2.1 h3 hsys hna (ReprEntriesK.of_two es.toList _ _
      (k1.more_le (fun b hb => List.mem_append_left _ hb) (PyData.depthAll_keys_le ds)) (k2.more_le (fun b hb => List.mem_append_right _ hb) (PyData.depthAll_vals_le ds))) hg (fun b _ => Clear.nil b) hu hk0 hQ (by rw [← PyData.shownKv_eq]; exact hz')
/-- repr of data, dicts in it -/
def rReprG (K : PySem.W.Frag) : List V → Hp → VK → Prop := fun xs H Q => ∃ v d, xs = [v] ∧ Dd K H v d ∧ d.showable = true ∧ d.depth ≤ 60 ∧ d.shown.length ≤ sizeLine ∧ Q (.str d.shown) H
theorem call_reprG (hg : X.A.guards = some []) (hu : X.A.units + 64 < cLine) : CallR X (.builtin "repr") (rReprG X.K) := by
  intro pins s σ H xs us Q I r h
  obtain ⟨v, d, rfl, hd, hs, hdep, hz, q⟩ := h
  obtain ⟨u, rfl, rv⟩ := vals1 r
  cases v with
  | ref a =>
    cases rv
    obtain ⟨T, idr, S⟩ := hd.shows I hs hz
    refine call_repr_slot (by omega) (S.typeIs s fun _ _ e => e) S.slotRepr (S.call X.A.in1 X.xe s _ hg (by show X.A.units + 1 + d.depth < cLine; omega) (fun _ _ e => e) fun h' u tk hk => ⟨_, _, rfl, ?_⟩)
    exact ⟨.str d.shown, H, I.kept hk, ⟨_, rfl⟩, q⟩
  | non =>
    cases hd
    cases rv
    exact PySem.P.repr_of_none ⟨.str _, H, I.tok _, ⟨_, rfl⟩, q⟩
  | bl b =>
    cases hd
    cases rv
    refine PySem.P.repr_of_bool ⟨.str (PyData.shown (.bool b)), H, I.tok _, ⟨s.toks, ?_⟩, q⟩
    cases b <;> rfl
  | int i =>
    cases hd
    obtain ⟨t, rfl⟩ := rv
    exact PySem.P.repr_of_int (by simpa [PyData.showable] using hs) ⟨.str _, H, I.tok _, ⟨_, rfl⟩, q⟩
  | str x =>
    cases hd
    obtain ⟨t, rfl⟩ := rv
    exact PySem.P.repr_of_str ⟨.str _, H, I.tok _, ⟨_, rfl⟩, q⟩ hz
  | byt b => cases hd
  | flt b => cases hd
  | ty n => cases hd
end
/-! data stays -/
mutual
theorem Dd.same {K : PySem.W.Frag} {H H' : Hp} (s : Ext H H') : ∀ {d : PyData} {v : V}, Dd K H v d → Dd K H' v d
  | _, _, .non => .non
  | _, _, .bl b => .bl b
  | _, _, .int i => .int i
  | _, _, .str x => .str x
  | _, _, .lst e h => .lst (SqL.ext e s) (DdAll.same s h)
  | _, _, .tup e h => .tup (SqT.ext e s) (DdAll.same s h)
  | _, _, .dct e h => .dct (s _ _ e) (DdKv.same s h)
theorem DdAll.same {K : PySem.W.Frag} {H H' : Hp} (s : Ext H H') : ∀ {ds : List PyData} {vs : List V}, DdAll K H vs ds → DdAll K H' vs ds
  | _, _, .nil => .nil
  | _, _, .cons h t => .cons (Dd.same s h) (DdAll.same s t)
theorem DdKv.same {K : PySem.W.Frag} {H H' : Hp} (s : Ext H H') : ∀ {ds : List (PyData × PyData)} {vs : List (Key × V)}, DdKv K H vs ds → DdKv K H' vs ds
  | _, _, .nil => .nil
  | _, _, .cons h t => .cons (Dd.same s h) (DdKv.same s t)
end
end So

/-! how long what repr tells of data is, how deep it goes -/
namespace So
open PySem PySem.Spec PyProof.Rows L2
theorem shownAll_map' : ∀ ds : List PyData, PyData.shownAll ds = ds.map PyData.shown
  | [] => rfl
  | d :: r => by
    unfold PyData.shownAll
    rw [shownAll_map' r]
    rfl
theorem sum_le' {k : Nat} : ∀ ds : List PyData, (∀ d ∈ ds, d.shown.length ≤ k) → (((PyData.shownAll ds).map (·.length)).sum) ≤ k * ds.length
  | [], _ => by simp [PyData.shownAll]
  | d :: r, h => by
    have ih := sum_le' r fun x hx => h x (List.mem_cons_of_mem _ hx)
    have h1 := h d List.mem_cons_self
    unfold PyData.shownAll
    rw [List.map_cons, List.sum_cons, List.length_cons, Nat.mul_succ]
    omega
theorem len_all' (ds : List PyData) : (PyData.shownAll ds).length = ds.length := by rw [shownAll_map', List.length_map]
/-- data that shows in n letters, m deep -/
structure OkD (n m : Nat) (d : PyData) : Prop where
  show' : d.showable = true
  deep : d.depth ≤ m
  len : d.shown.length ≤ n
theorem OkD.mono {n m n' m' : Nat} {d : PyData} (h : OkD n m d) (h1 : n ≤ n') (h2 : m ≤ m') : OkD n' m' d := ⟨h.show', Nat.le_trans h.deep h2, Nat.le_trans h.len h1⟩
theorem okAll {n m : Nat} : ∀ {ds : List PyData}, (∀ d ∈ ds, OkD n m d) → PyData.showableAll ds = true ∧ PyData.depthAll ds ≤ m + 1
  | [], _ => ⟨rfl, by simp [PyData.depthAll]⟩
  | d :: r, h => by
    have ih := okAll (ds := r) fun x hx => h x (List.mem_cons_of_mem _ hx)
    have h1 := h d List.mem_cons_self
    refine ⟨?_, ?_⟩
    · simp only [PyData.showableAll, h1.show', ih.1, Bool.and_self]
    · simp only [PyData.depthAll]
      have := h1.deep
      have := ih.2
      omega
theorem OkD.list {n m : Nat} {ds : List PyData} (h : ∀ d ∈ ds, OkD n m d) : OkD (n * ds.length + 2 * ds.length + 3) (m + 2) (.list ds) := by
  have a := okAll h
  refine ⟨by simp only [PyData.showable]; exact a.1, by simp only [PyData.depth]; omega, ?_⟩
  have h1 := listText_len_le (PyData.shownAll ds)
  have h2 := sum_le' (k := n) ds fun d hd => (h d hd).len
  rw [len_all'] at h1
  show (listText (PyData.shownAll ds)).length ≤ _
  omega
theorem OkD.tuple {n m : Nat} {ds : List PyData} (h : ∀ d ∈ ds, OkD n m d) : OkD (n * ds.length + 2 * ds.length + 3) (m + 2) (.tuple ds) := by
  have a := okAll h
  refine ⟨by simp only [PyData.showable]; exact a.1, by simp only [PyData.depth]; omega, ?_⟩
  have h1 := tupleText_len_le (PyData.shownAll ds)
  have h2 := sum_le' (k := n) ds fun d hd => (h d hd).len
  rw [len_all'] at h1
  show (tupleText (PyData.shownAll ds)).length ≤ _
  omega
theorem OkD.int {i : Int} (h : i.natAbs < 2 ^ 250) : OkD 2000 0 (.int i) := by
  have hl : i.natAbs.log2 < 1920 := Nat.lt_of_lt_of_le (PySem.Flt.log2_lt_of (by decide) h) (by decide)
  refine ⟨by simp [PyData.showable, hl], Nat.zero_le _, ?_⟩
  show (Str.ofString (toString i)).length ≤ 2000
  rw [PyProof.Rows.ofString_length]
  exact Nat.le_trans (int_text_length_le (k := 1920) (by decide) hl) (by decide)
theorem OkD.bool (b : Bool) : OkD 2000 0 (.bool b) := ⟨rfl, Nat.zero_le _, by cases b <;> decide⟩
theorem OkD.none : OkD 2000 0 .none := ⟨rfl, Nat.zero_le _, by decide⟩
theorem OkD.str {z : Str} (h : ∀ c ∈ z.cps.toList, c < 128) (hl : z.length ≤ 100) : OkD 2000 0 (.str z) := by
  refine ⟨rfl, Nat.zero_le _, ?_⟩
  have h1 := PySem.StrLaws.reprText_len z (fun c hc => Nat.lt_trans (h c hc) (by decide))
  show (reprText z).length ≤ 2000
  omega
/-- the same texts of the same data -/
theorem OkD.repr {n m : Nat} {d : PyData} (h : OkD n m d) (h1 : m ≤ 60) (h2 : n ≤ 16777216) : d.showable = true ∧ d.depth ≤ 60 ∧ d.shown.length ≤ sizeLine := ⟨h.show', Nat.le_trans h.deep h1, by rw [sizeLine_eq]; exact Nat.le_trans h.len h2⟩
end So

namespace So
open PySem PySem.Spec PyProof.Rows L2 PySem.HandSPX
section
variable {M : Model} {A : Around} {E : Value → Shared → Prop} {h : Heap} {g : Array GenState} {d : Drawn} {t : Nat} {os : OsState}
variable {nm q : Str} {C N : Addr} {bs bm bmB : List Value} {hdct : Bool} {sn : List Str} {sub : List Value} {ab : Bool} {col : Option Bool} {dd : Option Addr} {k0 k1 k2 k3 k5 : Option Value} {B newId initId : String}
theorem kw_check (F : ExcBaseFacts B newId initId bmB) (hT : ∀ X : String, bm.contains (.type X) = bmB.contains (.type X)) {kws : List (Str × Value)} {Q : Unit → Shared → Prop}
    (hC : h.get? C = some (excClassObj nm q C N bs bm hdct sn sub ab col dd k0 k1 k2 k3 k5 newId)) (hq : Q () ⟨h, g, d, t, os⟩) :
    wpAny M A (checkBuiltinCall newId ⟨[.ref C], kws⟩) Q E ⟨h, g, d, t, os⟩ := by
  have inB : (Value.ref C :: bm).contains (.type B) = true := by
    rw [List.contains_cons, hT, F.hasB, Bool.or_true]
  have stars := F.noStar
  simp only [checkBuiltinCall, F.newKind, F.newSplit, F.newRow]
  repeat (first
    | refine wpAny_loadPart_at hC ?_
    | (refine wpAny_isSubtype_exc hC ?_
       rw [inB])
    | refine wpAny_staticBase_exc hC ?_
    | refine wpAny_madeBy_exc hC ?_
    | simp only [bne_self_eq_false, Bool.false_eq_true, if_false]
    | wp_step)
  exact hq
end
section
variable {prog : Program} {w : World} {A : Around} {E : Value → Shared → Prop} {R : Result → Shared → Prop} {h : Heap} {g : Array GenState} {d : Drawn} {t : Nat} {os : OsState}
variable {nm q : Str} {C N : Addr} {bs bm bmB : List Value} {hdct : Bool} {sn : List Str} {sub : List Value} {ab : Bool} {col : Option Bool} {dd : Option Addr} {k0 k1 k2 k3 k5 : Option Value} {B newId initId : String}
theorem kw_new (F : ExcBaseFacts B newId initId bmB) (hT : ∀ X : String, bm.contains (.type X) = bmB.contains (.type X)) {kws : List (Str × Value)}
    (hC : h.get? C = some (excClassObj nm q C N bs bm hdct sn sub ab col dd k0 k1 k2 k3 k5 newId))
    (hq : R (.ok (.ret (.ref (h.objs.size + 1)))) ⟨(h.push (PySem.W.kdv_tup [])).push (excO C h.objs.size), g, d, t, os⟩) :
    codeAny (model prog w) A (.builtin newId ⟨[.ref C], kws⟩) R ⟨h, g, d, t, os⟩ := by
  have ends := F.ends
  have inB : (Value.ref C :: bm).contains (.type B) = true := by
    rw [List.contains_cons, hT, F.hasB, Bool.or_true]
  have noA : (Value.ref C :: bm).contains (.type "AttributeError") = false := by
    rw [List.contains_cons, hT, F.noAttr]
    rfl
  have noN : (Value.ref C :: bm).contains (.type "NameError") = false := by
    rw [List.contains_cons, hT, F.noName]
    rfl
  refine codeAny_builtinAt F.entry ?_
  unfold Builtin.«BaseException.__new__»
  refine PySem.wpAt_bind ?_
  show PySem.wpAt _ _ _ (stack >>= _) _ _ _
  refine PySem.wpAt_bind (PySem.wpAt_stack fun p below => ?_)
  refine PySem.wpAt_of_wpAny ?_
  wp_walk
  refine PySem.wpAt_of_wpAny ?_
  rw [F.owner]
  repeat (first
    | with_reducible refine wpAny_madeHere_exc F.canon hC ?_
    | with_reducible refine wpAny_loadPart_at hC ?_
    | (with_reducible refine wpAny_isSubtype_exc hC ?_
       first
         | rw [inB]
         | rw [noA]
         | rw [noN])
    | wp_step)
  show R _ _
  rw [Heap.size_push]
  exact hq
theorem kw_type (F : ExcBaseFacts B newId initId bmB) (hT : ∀ X : String, bm.contains (.type X) = bmB.contains (.type X)) {kws : List (Str × Value)} {fI : Addr} {Q : Fin → Shared → Prop}
    (hC : h.get? C = some (excClassObj nm q C N bs bm hdct sn sub ab col dd k0 k1 k2 k3 k5 newId))
    (hi : PySem.W.Looks (model prog w) h (typeLookup (.ref C) "__init__") (some (.ref fI))) (hb : ∀ self, PySem.W.Looks (model prog w) h (bindSpecial (.ref fI) self) (.ref fI, [self]))
    (hq : codeAny (model prog w) A (.call (.ref fI) ⟨[.ref (h.objs.size + 1)], kws⟩)
      (fun r s' => match r with | .ok (.ret v) => v = .none ∧ Q (.done (.ret (.ref (h.objs.size + 1)))) s' | .ok _ => False | .error e => E e s')
      ⟨(h.push (PySem.W.kdv_tup [])).push (excO C h.objs.size), g, d, t, os⟩) :
    wpAny (model prog w) A (Builtin.«type.__call__» ⟨[.ref C], kws⟩) Q E ⟨h, g, d, t, os⟩ := by
  repeat (first
    | with_reducible refine wpAny_loadPart_at hC ?_
    | with_reducible refine wpAny_madeBy_exc hC ?_
    | wp_step)
  refine codeAny_call_builtin_code (Code.quiet_builtin _ F.quiet) ?_
  refine kw_check F hT hC ?_
  refine kw_new F hT hC ?_
  show wpAny _ _ _ _ _ _
  have keep : ∀ b o, h.get? b = some o → ((h.push (PySem.W.kdv_tup [])).push (excO C h.objs.size)).get? b = some o := by
    intro b o e
    exact Heap.get?_push_of_some _ (Heap.get?_push_of_some _ e)
  have hC' := keep _ _ hC
  have here : ((h.push (PySem.W.kdv_tup [])).push (excO C h.objs.size)).get? (h.objs.size + 1) = some (excO C h.objs.size) := by
    heap_get
  have self : (Value.ref C :: bm).contains (.ref C) = true := by simp
  have look := hi.keeps keep
  have bind := (hb (.ref (h.objs.size + 1))).keeps keep
  unfold isInstance
  repeat (first
    | with_reducible refine wpAny_loadPart_at here ?_
    | (with_reducible refine wpAny_isSubtype_exc hC' ?_
       rw [self])
    | wp_step)
  show wpAny _ _ (typeLookup (.ref C) _) _ _ _
  refine look.at ?_
  refine wpAny_holding (wpAny_bind (bind.at ?_))
  refine wpAny_bind (wpAny_call (codeAny_mono hq fun r s' z => ?_))
  match r, z with
  | .error e, z => exact z
  | .ok .next, z => exact z.elim
  | .ok .brk, z => exact z.elim
  | .ok .cont, z => exact z.elim
  | .ok (.ret v), z =>
    obtain ⟨e, z⟩ := z
    subst e
    first
      | exact wpAny_pure (wpAny_pure z)
      | (wp_walk
         exact z)
theorem kw_checkT {kws : List (Str × Value)} {Q : Unit → Shared → Prop} (hC : h.get? C = some (excClassObj nm q C N bs bm hdct sn sub ab col dd k0 k1 k2 k3 k5 newId)) (hq : Q () ⟨h, g, d, t, os⟩) :
    wpAny (model prog w) A (checkBuiltinCall "type.__call__" ⟨[.ref C], kws⟩) Q (fun e s' => E e s') ⟨h, g, d, t, os⟩ := by
  have f3 := tc_sub
  have ty : (⟨h, g, d, t, os⟩ : Shared).TypeIs (.ref C) "type" := ⟨_, hC, rfl⟩
  simp only [checkBuiltinCall, tc_kind, tc_split]
  repeat (any_goals (first
    | assumption
    | with_reducible refine wpAny_loadPart_at hC ?_
    | with_reducible refine wpAny_onRaise ?_
    | with_reducible refine wpAny_map ?_
    | wp_step))
theorem kw_call (F : ExcBaseFacts B newId initId bmB) (hT : ∀ X : String, bm.contains (.type X) = bmB.contains (.type X)) {kws : List (Str × Value)} {fI : Addr}
    (hC : h.get? C = some (excClassObj nm q C N bs bm hdct sn sub ab col dd k0 k1 k2 k3 k5 newId))
    (hi : PySem.W.Looks (model prog w) h (typeLookup (.ref C) "__init__") (some (.ref fI))) (hb : ∀ self, PySem.W.Looks (model prog w) h (bindSpecial (.ref fI) self) (.ref fI, [self]))
    (hq : codeAny (model prog w) (A.under (.builtin "type.__call__" ⟨[.ref C], kws⟩)) (.call (.ref fI) ⟨[.ref (h.objs.size + 1)], kws⟩) (PySem.W.InitBack (h.objs.size + 1) R)
      ⟨(h.push (PySem.W.kdv_tup [])).push (excO C h.objs.size), g, d, t, os⟩) :
    codeAny (model prog w) A (.call (.ref C) ⟨[], kws⟩) R ⟨h, g, d, t, os⟩ := by
  have lk := tc_lookup
  have bd := tc_bind (.ref C)
  have ty : (⟨h, g, d, t, os⟩ : Shared).TypeIs (.ref C) "type" := ⟨_, hC, rfl⟩
  refine codeAny_of_tree ?_
  show wpAny _ _ (callAny (.ref C) _) _ _ _
  repeat (any_goals (first
    | assumption
    | with_reducible refine wpAny_loadPart_at hC ?_
    | wp_step))
  refine ⟨rfl, ?_⟩
  refine codeAny_call_builtin_at (Code.quiet_builtin _ (by decide +kernel)) entry_typeCall ?_
  refine kw_checkT hC ?_
  refine kw_type F hT hC hi hb ?_
  refine codeAny_mono hq fun r s' z => ?_
  match r, z with
  | .error e, z => exact z
  | .ok (.ret v), z => exact z
  | .ok .next, z => exact z
  | .ok .brk, z => exact z
  | .ok .cont, z => exact z
end
end So

namespace So
open PySem PySem.Spec PyProof.Rows L2
/-- C(k = v, ..), C's own __init__ keeping sp -/
def tMkK (C : Addr) (n : Nat) (sp : Sp) (gV : List V → List V → List V) (tk : TA) : L2.St → Hp → XK → Prop := fun σ H Q => tk σ H fun zs H1 => zs.length = n ∧ ∀ a, H1 a = none → sp (gV [.ref a] zs) (upd H1 a (exo a C none))
  (fun v H2 => v = .non ∧ ∃ (d : Addr) (fs : List (Str × V)), H2 a = some (exo a C (some d)) ∧ H2 d = some (exd d fs) ∧ H1 d = none ∧ Q (.ref C) (some d) (upd (del H2 a) d (.xd fs))) (fun _ _ _ => False)
section
variable {X : Cx} {CX : CXT} {x : Str} {C fI : Addr} {k : Nat} {fd : FuncData} {ps ks : List Str} {sp : Sp} {g : List Value → List Value → List Value} {gV : List V → List V → List V} {kws : List Keyword} {tk : TA} {p pos : Pos}
theorem pmk_oexK (T : OexC X.K C) (iC : PySem.W.findIn X.K (.ref C) "__init__" = some (some (.ref fI))) (tI : PySem.W.typeIn X.K (.ref fI) = some (.type "function")) (F1 : FnOk X.prog X.w X.K X.mg X.base CX k fI fd ps sp) (hr : Room (k + 1) X.A) (hb : KBn X.K fd ps 1 ks g gV)
    (hx : Passes CX X (fun _ _ _ => False)) (hg : Gl X x) (hm : X.mg x = some (.ref C)) (hkw : PK X kws tk)
    (hall : (backToKw pos (keywordEach kws X.env)).all (·.1.isSome) = true := by rfl) (hks : (backToKw pos (keywordEach kws X.env)).filterMap (·.1) = ks := by rfl) (hdb : (x == ("__debug__" : Str)) = false := by decide)
    (hpl : ((backTo pos (starEach [] X.env)).any (·.1) || (backToKw pos (keywordEach kws X.env)).any (·.1.isNone)) = false := by rfl) :
    PMk X (.Call (.Name x p) [] kws pos) (tMkK C ks.length sp gV tk) := by
  intro pins s σ H Q I h
  obtain ⟨nm, q, N, bs, bm, sn, sub, ab, col, dd, k0, k1, k2, k3, k5, hC, hbm⟩ := T.cls
  refine wpAny_Call_Name_kw (ld_glob I hg hm ?_ hdb)
  refine PySem.W.callWith_KW0 (h₀ := X.base) I.ok.mod.kin T.kC hall ?_ hpl
  refine thn (hkw.run pos pins s σ H _ I h) fun ws s1 z => ?_
  obtain ⟨zs, H1, I1, rz, hz, q1⟩ := z
  refine ⟨I1.kIn, ?_⟩
  rw [hks]
  show wpAny _ _ (call (.ref C) [] (ks.zip ws)) _ _ _
  obtain ⟨hp, g', dr, tk', os⟩ := s1
  have big : hp.objs.size ≤ hp.objs.size + 1 := Nat.le_succ _
  have fresh : H1 (hp.objs.size + 1) = none := I1.hok.fresh big
  have hq := q1 _ fresh
  have keep : ∀ b o, hp.get? b = some o → ((hp.push (PySem.W.kdv_tup [])).push (PySem.HandSPX.excO C hp.objs.size)).get? b = some o := by
    intro b o e
    exact Heap.get?_push_of_some _ (Heap.get?_push_of_some _ e)
  have here : ((hp.push (PySem.W.kdv_tup [])).push (PySem.HandSPX.excO C hp.objs.size)).get? (hp.objs.size + 1) = some (PySem.HandSPX.excO C hp.objs.size) := by
    heap_get
  have I2 : Inv X pins σ (upd H1 (hp.objs.size + 1) (exo (hp.objs.size + 1) C none)) ⟨(hp.push (PySem.W.kdv_tup [])).push (PySem.HandSPX.excO C hp.objs.size), g', dr, tk', os⟩ :=
    I1.laid (t' := tk') (o := exo (hp.objs.size + 1) C none) keep big (exo_ok here)
  have r1 : Vals [V.ref (hp.objs.size + 1)] [Value.ref (hp.objs.size + 1)] := .cons rfl .nil
  refine wpAny_call (kw_call F.excBase_ValueError (fun Y => PySem.HandSPX.refsVE_contains Y bm hbm) (I1.kIn _ _ hC) (PySem.W.looks_findIn I1.kIn iC) (fun self => PySem.W.bind_fn I1.kIn self tI)
    (codeAny_mono (F1.run _ X.stack _ _ ⟨[.ref (hp.objs.size + 1)], ks.zip ws⟩ (g [.ref (hp.objs.size + 1)] ws) _ _ (fun _ _ _ => False) (hr.make C [] (ks.zip ws)) (I2.env0.make C [] (ks.zip ws))
      (hb.to _ [.ref (hp.objs.size + 1)] ws I2.kIn rfl (rz.length.symm.trans hz)) (hb.rel r1 rz) hq) fun r s' hq' => ?_))
  match r, hq' with
  | .error er, hq' => exact hx pins σ _ _ er s' I2 hq'
  | .ok .next, hq' => exact hq'.elim
  | .ok .brk, hq' => exact hq'.elim
  | .ok .cont, hq' => exact hq'.elim
  | .ok (.ret u), hq' =>
    obtain ⟨v, H2, os2, bare2, un2, hok2, rv, ev, d, fs, ea, ed, hd1, q2⟩ := hq'
    subst ev
    obtain ⟨h2, g2, d2, t2, os'⟩ := s'
    exact ⟨rv, mk_end (raises_own T.exC T.tyC) I1 big keep un2 hok2 os2 bare2 ea ed hd1 q2⟩
/-- an exception that is made and kept, not raised -/
theorem pe_ofMk {e : Expr} {t : L2.St → Hp → XK → Prop} (hex : X.ex = []) (h : PMk X e t) : PE X e (fun σ H Q => t σ H fun cls d H' => ∀ a, H' a = none → Q (.ref a) (upd H' a (Xo cls d a))) := by
  refine ⟨fun pins s σ H Q I w => ?_⟩
  refine thn (h pins s σ H _ I w) fun u s' z => ?_
  obtain ⟨a, oe, fv, sI, H', cls, d, rfl, J, k, na, he, hz, hd, h1, nH, ho, hb, _, q⟩ := z
  have K := J.kept (t' := s'.toks) (h' := s'.heap) k
  have I' : Inv X pins σ H' s' := ⟨K.ok, ho.trans J.os, hb, K.base, K.loc, K.cell, K.free, K.freeC, K.pin, K.hok, K.len⟩
  have nL : a ≠ X.env.locals := fun z => by
    obtain ⟨m, hn, _⟩ := J.loc
    obtain ⟨o, es, ep, e, _⟩ := hn
    rw [← z, na] at e
    cases e
  exact ⟨.ref a, _, track J hex na I' he hz hd nH nL, rfl, q a nH⟩
end
end So

namespace So
open PySem PySem.Spec PyProof.Rows L2
theorem overS {H H1 : Hp} {D : Addr} {o : HO} (s : Same H H1) (h : H1 D = none) : Same H (upd H1 D o) := fun b u e => (upd_ne (ne_of_none (s b u e) h)).trans (s b u e)
/-! ### errors with two fields -/
def spTwoE (C : Addr) (n1 n2 : Str) : Sp := fun vs H Q _ => ∃ (a : Addr) (v1 v2 : V), vs = [.ref a, v1, v2] ∧ H a = some (exo a C none) ∧ ∀ dx, H dx = none → dx ≠ a → Q .non (upd (upd (upd H dx (exd dx [(n1, v1)])) a (exo a C (some dx))) dx (exd dx [(n2, v2), (n1, v1)]))
section
variable {P : Program} {w : World} {K : PySem.W.Frag} {mg : Str → Option Value} {base : Heap}
theorem ok_one {n qual : Str} {st : Stmt} {C f : Addr} {fd : FuncData} (F : Fun K "__init__" qual st f fd) (T : OexC K C) (no : PySem.W.findIn K (.ref C) n = some none) (S : FnScope ["self", n] ["self", n] (defScope st))
    (hb : ∃ p1 p2 p3 p4, defBody st = [.Assign [.Attribute (.Name "self" p1) n p2] (.Name n p3) p4]) (h1 : (n == ("__debug__" : Str)) = false) (h2 : (n == ("__classdict__" : Str)) = false) :
    FnOk P w K mg base CX0 1 f fd ["self", n] (spOneE C n) := by
  obtain ⟨p1, p2, p3, p4, hb⟩ := hb
  refine F.ok S (fun vs H Q E h => ?_) (fun cdv A outer s H vs Q E hr h => ?_)
  · obtain ⟨a, v, rfl, _⟩ := h
    rfl
  · obtain ⟨a, v, rfl, ha, q⟩ := h
    rw [hb]
    have vs0 : Vis (defScope st) "self" := vis_par S (by simp)
    have vs1 : Vis (defScope st) n := vis_par S (by simp)
    exact ⟨_, pss_one (ps_ost (pe_var (i := 0) rfl vs0) (pe_var (i := 1) rfl vs1 h1 h2)), _, rfl, _, rfl, a, C, rfl, T, no, .inl ⟨ha, fun dx h n => q dx h n⟩⟩
theorem ok_two {n1 n2 qual : Str} {st : Stmt} {C f : Addr} {fd : FuncData} (F : Fun K "__init__" qual st f fd) (T : OexC K C) (no1 : PySem.W.findIn K (.ref C) n1 = some none) (no2 : PySem.W.findIn K (.ref C) n2 = some none) (S : FnScope ["self", n1, n2] ["self", n1, n2] (defScope st))
    (hb : ∃ p1 p2 p3 p4 q1 q2 q3 q4, defBody st = [.Assign [.Attribute (.Name "self" p1) n1 p2] (.Name n1 p3) p4, .Assign [.Attribute (.Name "self" q1) n2 q2] (.Name n2 q3) q4]) (h1 : (n1 == ("__debug__" : Str)) = false) (h2 : (n1 == ("__classdict__" : Str)) = false)
    (h3 : (n2 == ("__debug__" : Str)) = false) (h4 : (n2 == ("__classdict__" : Str)) = false) : FnOk P w K mg base CX0 1 f fd ["self", n1, n2] (spTwoE C n1 n2) := by
  obtain ⟨p1, p2, p3, p4, q1, q2, q3, q4, hb⟩ := hb
  refine F.ok S (fun vs H Q E h => ?_) (fun cdv A outer s H vs Q E hr h => ?_)
  · obtain ⟨a, v1, v2, rfl, _⟩ := h
    rfl
  · obtain ⟨a, v1, v2, rfl, ha, q⟩ := h
    rw [hb]
    have vs0 : Vis (defScope st) "self" := vis_par S (by simp)
    have vs1 : Vis (defScope st) n1 := vis_par S (by simp)
    have vs2 : Vis (defScope st) n2 := vis_par S (by simp)
    refine ⟨_, pss_cons (ps_ost (pe_var (i := 0) rfl vs0) (pe_var (i := 1) rfl vs1 h1 h2)) (pss_one (ps_ost (pe_var (i := 0) rfl vs0) (pe_var (i := 2) rfl vs2 h3 h4))), ?_⟩
    refine ⟨_, rfl, _, rfl, a, C, rfl, T, no1, .inl ⟨ha, fun dx hd ne => ?_⟩⟩
    refine ⟨_, rfl, _, rfl, a, C, rfl, T, no2, .inr ⟨dx, [(n1, v1)], upd_same, ?_, by show 1 ≤ 900; decide, q dx hd ne⟩⟩
    rw [upd_ne ne, upd_same]
end
/-- behind C(v1, v2) -/
theorem mkTwo {C : Addr} {n1 n2 : Str} {v1 v2 : V} {H1 : Hp} {Q : XK} (h : ∀ d H', Same H1 H' → H1 d = none → H' d = some (.xd [(n2, v2), (n1, v1)]) → Q (.ref C) (some d) H') :
    ∀ a, H1 a = none → spTwoE C n1 n2 [.ref a, v1, v2] (upd H1 a (exo a C none))
      (fun v H2 => v = .non ∧ ∃ (d : Addr) (fs : List (Str × V)), H2 a = some (exo a C (some d)) ∧ H2 d = some (exd d fs) ∧ H1 d = none ∧ Q (.ref C) (some d) (upd (del H2 a) d (.xd fs))) (fun _ _ _ => False) := by
  refine fun a ha => ⟨a, v1, v2, rfl, upd_same, fun dx hdx ne => ?_⟩
  have hd : H1 dx = none := by
    rw [upd_ne ne] at hdx
    exact hdx
  refine ⟨rfl, dx, [(n2, v2), (n1, v1)], ?_, upd_same, hd, h dx _ (fun b o hb => ?_) hd upd_same⟩
  · rw [upd_ne ne.symm, upd_same]
  · have hba : b ≠ a := ne_of_none hb ha
    have hbd : b ≠ dx := ne_of_none hb hd
    rw [upd_ne hbd, del_ne hba, upd_ne hbd, upd_ne hba, upd_ne hbd, upd_ne hba]
    exact hb
/-- a kept error with its fields -/
def ErAt (H : Hp) (a C : Addr) (fs : List (Str × V)) : Prop := ∃ d, H a = some (Xo (.ref C) (some d) a) ∧ H d = some (.xd fs)
theorem ErAt.same {H H' : Hp} {a C : Addr} {fs : List (Str × V)} (h : ErAt H a C fs) (s : Same H H') : ErAt H' a C fs := h.elim fun d e => ⟨d, s _ _ e.1, s _ _ e.2⟩
/-- what is wished behind an error that is made and kept -/
theorem keepOne {C : Addr} {fs : List (Str × V)} {H1 : Hp} {Q : VK} (h : ∀ a H', Same H1 H' → ErAt H' a C fs → Q (.ref a) H') :
    ∀ d H', Same H1 H' → H1 d = none → H' d = some (.xd fs) → ∀ a, H' a = none → Q (.ref a) (upd H' a (Xo (.ref C) (some d) a)) := by
  intro d H' s _ e a na
  exact h a _ (overS s na) ⟨d, upd_same, (upd_ne (ne_of_none e na)).trans e⟩
section
variable {X : Cx}
/-- e.n of a kept error of any class -/
theorem pe_xoA {e : Expr} {te : TE} {pos : Pos} {n : Str} (he : PE X e te) (hb : attributeBase e n X.env (eval e X.env) = eval e X.env := by rfl) :
    PE X (.Attribute e n pos) (fun σ H Q => te σ H fun x H1 => ∃ (a C : Addr) (fs : List (Str × V)) (v : V), x = .ref a ∧ ErAt H1 a C fs ∧ Err X.K C ∧ PySem.W.findIn X.K (.ref C) n = some none ∧ fs.lookup n = some v ∧ Q v H1) := by
  constructor
  intro pins s σ H Q I h
  refine attr_of hb (thn (he.run pins s σ H _ I h) fun u s1 hh => ?_)
  obtain ⟨x, H1, I1, rx, a, C, fs, v, rfl, ⟨dd, ha, ea⟩, T, hno, l, q⟩ := hh
  cases rx
  obtain ⟨oe, vs, hg, hz, hd⟩ := xo_at I1.hok ha
  obtain ⟨mA, hns, hr⟩ := (show ObjOk X.prog X.w H1 s1.heap dd (.xd fs) from I1.hok dd _ ea)
  obtain ⟨od, ho, hl⟩ := lookIn_ns hns
  have hrn := hr n
  rw [l] at hrn
  obtain ⟨u, hu, ru⟩ := RelO.some_of hrn
  have nc : PySem.W.notCls oe = true := by
    unfold PySem.W.notCls
    rw [hd]
  have J : PySem.W.InstAt s1.heap a oe C (some od) := by
    refine ⟨hg, hz.1, nc, ?_⟩
    rw [hz.2]
    exact ho
  have fo := PySem.W.findObj_own (K := X.K) (C := C) (od := od) (name := n) (v := u) T.hdC hno rfl (by rw [hl, hu])
  exact HandSPX.exc_get I1.kIn J T.ga T.gg T.exC fo (handed_of ru) ⟨v, H1, I1.tok _, ru, q⟩
/-- isinstance of a kept error that has no dict -/
theorem call_isX0 : CallR X (.builtin "isinstance") (fun xs H Q => ∃ (a D : Addr) (c : V) (u : Value) (b : Bool), xs = [.ref a, c] ∧ H a = some (Xo (.ref D) none a) ∧ Err X.K D ∧ ClsV c u ∧ PySem.W.kitOne X.K (.ref D) u = some b ∧ Q (.bl b) H) := by
  intro pins s σ H xs us Q I r h
  obtain ⟨a, D, c, u, b, rfl, ha, T, cv, e, q⟩ := h
  obtain ⟨u1, u2, rfl, r1, r2⟩ := vals2 r
  cases r1
  have e2 := cv.eq r2
  subst e2
  obtain ⟨oe, vs, hg, hz, hdat⟩ := xo_at I.hok ha
  have nc : PySem.W.notCls oe = true := by
    unfold PySem.W.notCls
    rw [hdat]
  have J : PySem.W.InstAt s.heap a oe D none := by
    refine ⟨hg, hz.1, nc, ?_⟩
    rw [hz.2]
    trivial
  exact PySem.W.kia_one (kitx_err T) I.kIn ⟨oe, none, J⟩ e (fun z => nomatch z) fun tk => ⟨.bl b, H, I.tok tk, rfl, q⟩
/-- C(), C an own error class without own __init__ -/
theorem pmk_own0 {C : Addr} {bmB : List Value} {B newId initId : String} {x : Str} {p pos : Pos} (F : ExcBaseFacts B newId initId bmB) (q : PySem.W.excIn X.K C bmB newId = true) (gC : X.mg x = some (.ref C))
    (kC : PySem.W.keepIn X.K (.ref C) = true) (r : Raises X (.ref C)) (hg : Gl X x) (hdb : (x == ("__debug__" : Str)) = false := by decide) :
    PMk X (.Call (.Name x p) [] [] pos) (fun _ H Q => Q (.ref C) none H) := by
  intro pins s σ H Q I h
  refine wpAny_Call_Name_kw (ld_glob I hg gC ?_ hdb)
  refine PySem.W.callWith_K0 I.kIn kC ?_
  show wpAny _ _ (call (.ref C) []) _ _ _
  obtain ⟨bm, N, nm, qn, bs, hdct, sn, sub, ab, col, dd, k0, k1, k2, k3, k5, mN, hC, hN, hni, T⟩ := exc_obj I.kIn q
  refine wpAny_call_exc_subT F T hC hN hni (fun h' e hm => ?_) (by decide)
  exact mk_of I hm r h (I.hok.gone hm.new)
end
end So

/-! own errors made and kept: what is asked in one step -/
namespace So
open PySem PySem.Spec PyProof.Rows L2
section
variable {X : Cx}
theorem pe_weak {e : Expr} {t t' : TE} (h : PE X e t) (k : ∀ σ H Q, t' σ H Q → t σ H Q) : PE X e t' := ⟨fun pins s σ H Q I w => h.run pins s σ H Q I (k σ H Q w)⟩
theorem ps_weak {st : Stmt} {t t' : TS} (h : PS X st t) (k : ∀ D σ H, t' D σ H → t D σ H) : PS X st t' := ⟨fun pins s σ H D I w => h.run pins s σ H D I (k D σ H w)⟩
/-- what the top says of an error with two fields -/
structure TwoE (K : PySem.W.Frag) (mg : Str → Option Value) (x n1 n2 : Str) (C f : Addr) (fd : FuncData) : Prop where
  T : OexC K C
  iC : PySem.W.findIn K (.ref C) "__init__" = some (some (.ref f))
  tI : PySem.W.typeIn K (.ref f) = some (.type "function")
  mgC : mg x = some (.ref C)
  no1 : PySem.W.findIn K (.ref C) n1 = some none
  no2 : PySem.W.findIn K (.ref C) n2 = some none
  err : Err K C
  hb : Binds K fd ["self", n1, n2] []
def k2 {α : Type} : List α → List α → List α
  | [u], [z] => [u, z]
  | _, _ => []
def k3 {α : Type} : List α → List α → List α
  | [u], [y, z] => [u, z, y]
  | _, _ => []
theorem k2_rel {vs : List V} {us : List Value} {zs : List V} {ws : List Value} (a : Vals vs us) (b : Vals zs ws) : Vals (k2 vs zs) (k2 us ws) := by
  cases a with
  | nil => exact .nil
  | cons a1 a2 =>
    cases a2 with
    | cons _ _ => exact .nil
    | nil =>
      cases b with
      | nil => exact .nil
      | cons b1 b2 =>
        cases b2 with
        | nil => exact .cons a1 (.cons b1 .nil)
        | cons _ _ => exact .nil
theorem k3_rel {vs : List V} {us : List Value} {zs : List V} {ws : List Value} (a : Vals vs us) (b : Vals zs ws) : Vals (k3 vs zs) (k3 us ws) := by
  cases a with
  | nil => exact .nil
  | cons a1 a2 =>
    cases a2 with
    | cons _ _ => exact .nil
    | nil =>
      cases b with
      | nil => exact .nil
      | cons b1 b2 =>
        cases b2 with
        | nil => exact .nil
        | cons b3 b4 =>
          cases b4 with
          | nil => exact .cons a1 (.cons b3 (.cons b1 .nil))
          | cons _ _ => exact .nil
theorem kbn2 {K : PySem.W.Frag} {fd : FuncData} {n : Str} (h : ∀ (s : Shared) (u z : Value), BindsTo s fd ⟨[u], [(n, z)]⟩ [("self", u), (n, z)]) : KBn K fd ["self", n] 1 [n] k2 k2 :=
  ⟨fun s us ws _ h1 h2 => match us, ws, h1, h2 with | [u], [z], _, _ => h s u z, k2_rel⟩
theorem kbn3 {K : PySem.W.Frag} {fd : FuncData} {n1 n2 : Str} (h : ∀ (s : Shared) (u y z : Value), BindsTo s fd ⟨[u], [(n2, y), (n1, z)]⟩ [("self", u), (n1, z), (n2, y)]) : KBn K fd ["self", n1, n2] 1 [n2, n1] k3 k3 :=
  ⟨fun s us ws _ h1 h2 => match us, ws, h1, h2 with | [u], [y, z], _, _ => h s u y z, k3_rel⟩
variable {x n n1 n2 : Str} {C f : Addr} {fd : FuncData} {e e2 : Expr} {p pos kp kp2 : Pos} {i j : Nat}
theorem pe_new1 (hex : X.ex = []) (O : OneE X.K X.mg x n C f fd) (F : FnOk X.prog X.w X.K X.mg X.base CX0 1 f fd ["self", n] (spOneE C n)) (hr : Room 2 X.A) (hg : Gl X x) (ha : PA X [e] (tCons (tVar i) tNil))
    (hdb : (x == ("__debug__" : Str)) = false := by decide) (hst : starEach [e] X.env = (false, eval e X.env) :: starEach [] X.env := by rfl) (hpl : (backTo pos (starEach [] X.env)).any (·.1) = false := by rfl) :
    PE X (.Call (.Name x p) [e] [] pos) (fun σ H Q => ∃ v, σ[i]? = some (some v) ∧ ∀ a H', Same H H' → ErAt H' a C [(n, v)] → Q (.ref a) H') :=
  pe_weak (pe_ofMk hex (pmk_one O F hr hg ha hdb hst hpl)) fun _ _ Q0 ⟨v, q, h⟩ => ⟨v, q, mkOne (C := C) (n := n) (v := v) (vs := [v]) (Q := fun cls d H' => ∀ a, H' a = none → Q0 (.ref a) (upd H' a (Xo cls d a))) rfl (keepOne h)⟩
theorem pe_new1K (hex : X.ex = []) (O : OneE X.K X.mg x n C f fd) (F : FnOk X.prog X.w X.K X.mg X.base CX0 1 f fd ["self", n] (spOneE C n)) (kb : KBn X.K fd ["self", n] 1 [n] k2 k2) (hr : Room 2 X.A) (hg : Gl X x) (he : PE X e (tVar i))
    (hall : (backToKw pos (keywordEach [⟨some n, e, kp⟩] X.env)).all (·.1.isSome) = true := by rfl) (hks : (backToKw pos (keywordEach [⟨some n, e, kp⟩] X.env)).filterMap (·.1) = [n] := by rfl) (hdb : (x == ("__debug__" : Str)) = false := by decide)
    (hpl : ((backTo pos (starEach [] X.env)).any (·.1) || (backToKw pos (keywordEach [⟨some n, e, kp⟩] X.env)).any (·.1.isNone)) = false := by rfl) :
    PE X (.Call (.Name x p) [] [⟨some n, e, kp⟩] pos) (fun σ H Q => ∃ v, σ[i]? = some (some v) ∧ ∀ a H', Same H H' → ErAt H' a C [(n, v)] → Q (.ref a) H') :=
  pe_weak (pe_ofMk hex (pmk_oexK O.T O.iC O.tI F hr kb (fun _ _ _ _ _ _ _ h => h.elim) hg O.mgC (pk_cons he pk_nil) hall hks hdb hpl)) fun _ _ Q0 ⟨v, q, h⟩ => ⟨v, q, rfl, (mkOne (C := C) (n := n) (v := v) (vs := [v]) (Q := fun cls d H' => ∀ a, H' a = none → Q0 (.ref a) (upd H' a (Xo cls d a))) rfl (keepOne h)).2⟩
theorem pe_new2 (hex : X.ex = []) (O : TwoE X.K X.mg x n1 n2 C f fd) (F : FnOk X.prog X.w X.K X.mg X.base CX0 1 f fd ["self", n1, n2] (spTwoE C n1 n2)) (hr : Room 2 X.A) (hg : Gl X x) (ha : PA X [e, e2] (tCons (tVar i) (tCons (tVar j) tNil)))
    (hdb : (x == ("__debug__" : Str)) = false := by decide) (hst : starEach [e, e2] X.env = (false, eval e X.env) :: starEach [e2] X.env := by rfl) (hpl : (backTo pos (starEach [e2] X.env)).any (·.1) = false := by rfl) :
    PE X (.Call (.Name x p) [e, e2] [] pos) (fun σ H Q => ∃ v, σ[i]? = some (some v) ∧ ∃ u, σ[j]? = some (some u) ∧ ∀ a H', Same H H' → ErAt H' a C [(n2, u), (n1, v)] → Q (.ref a) H') :=
  pe_weak (pe_ofMk hex (pmk_oex O.T O.iC O.tI F hr O.hb .nil (fun _ _ _ _ _ _ _ h => h.elim) hg O.mgC ha hdb hst hpl)) fun _ _ Q0 ⟨v, q, u, q2, h⟩ => ⟨v, q, u, q2, by show 2 ≤ 1000; decide, mkTwo (C := C) (n1 := n1) (n2 := n2) (v1 := v) (v2 := u) (Q := fun cls d H' => ∀ a, H' a = none → Q0 (.ref a) (upd H' a (Xo cls d a))) (keepOne h)⟩
theorem pe_new2K (hex : X.ex = []) (O : TwoE X.K X.mg x n1 n2 C f fd) (F : FnOk X.prog X.w X.K X.mg X.base CX0 1 f fd ["self", n1, n2] (spTwoE C n1 n2)) (kb : KBn X.K fd ["self", n1, n2] 1 [n2, n1] k3 k3) (hr : Room 2 X.A) (hg : Gl X x) (he : PE X e (tVar i)) (he2 : PE X e2 (tVar j))
    (hall : (backToKw pos (keywordEach [⟨some n2, e2, kp2⟩, ⟨some n1, e, kp⟩] X.env)).all (·.1.isSome) = true := by rfl) (hks : (backToKw pos (keywordEach [⟨some n2, e2, kp2⟩, ⟨some n1, e, kp⟩] X.env)).filterMap (·.1) = [n2, n1] := by rfl) (hdb : (x == ("__debug__" : Str)) = false := by decide)
    (hpl : ((backTo pos (starEach [] X.env)).any (·.1) || (backToKw pos (keywordEach [⟨some n2, e2, kp2⟩, ⟨some n1, e, kp⟩] X.env)).any (·.1.isNone)) = false := by rfl) :
    PE X (.Call (.Name x p) [] [⟨some n2, e2, kp2⟩, ⟨some n1, e, kp⟩] pos) (fun σ H Q => ∃ u, σ[j]? = some (some u) ∧ ∃ v, σ[i]? = some (some v) ∧ ∀ a H', Same H H' → ErAt H' a C [(n2, u), (n1, v)] → Q (.ref a) H') :=
  pe_weak (pe_ofMk hex (pmk_oexK O.T O.iC O.tI F hr kb (fun _ _ _ _ _ _ _ h => h.elim) hg O.mgC (pk_cons he2 (pk_cons he pk_nil)) hall hks hdb hpl)) fun _ _ Q0 ⟨u, q, v, q2, h⟩ => ⟨u, q, v, q2, rfl, mkTwo (C := C) (n1 := n1) (n2 := n2) (v1 := v) (v2 := u) (Q := fun cls d H' => ∀ a, H' a = none → Q0 (.ref a) (upd H' a (Xo cls d a))) (keepOne h)⟩
theorem pe_new0 (hex : X.ex = []) {bmB : List Value} {B newId initId : String} (F : ExcBaseFacts B newId initId bmB) (q : PySem.W.excIn X.K C bmB newId = true) (gC : X.mg x = some (.ref C)) (kC : PySem.W.keepIn X.K (.ref C) = true) (r : Raises X (.ref C)) (hg : Gl X x)
    (hdb : (x == ("__debug__" : Str)) = false := by decide) :
    PE X (.Call (.Name x p) [] [] pos) (fun _ H Q => ∀ a H', Same H H' → H' a = some (Xo (.ref C) none a) → Q (.ref a) H') :=
  pe_weak (pe_ofMk hex (pmk_own0 F q gC kC r hg hdb)) fun _ H _ h => fun a ha => h a _ (overS (Same.refl H) ha) upd_same
end
end So

namespace K48
open PySem PySem.Spec PyProof.Rows L2 So
abbrev sIsStr : Stmt := topS 9
abbrev sFew : Stmt := topS 10
abbrev sWord : Stmt := topS 12
theorem scIsStr : FnScope ["first", "last", "value", "low", "high"] ["first", "last", "value"] (defScope sIsStr) := ⟨rfl, rfl, rfl, by decide +kernel, rfl, by decide +kernel, by decide +kernel⟩
theorem scFew : FnScope ["stretches", "joined", "low", "high", "before", "end"] ["stretches"] (defScope sFew) := ⟨rfl, rfl, rfl, by decide +kernel, rfl, by decide +kernel, by decide +kernel⟩
theorem scWord : FnScope ["low", "high"] ["low", "high"] (defScope sWord) := ⟨rfl, rfl, rfl, by decide +kernel, rfl, by decide +kernel, by decide +kernel⟩
theorem same_upd0 {H : Hp} {p : Addr} {o : HO} (h : H p = none) : Same H (upd H p o) := fun b u e => by
  rw [upd_ne (ne_of_none e h)]
  exact e
/-- what is given for a stretch: a pair of two values, or no pair -/
def PrAt (H : Hp) (y : V) (o : Option (V × V)) : Prop :=
  (o = none ∧ ∃ T, Gv H y T ∧ (T = "tuple" → ∃ p xs, y = .ref p ∧ H p = some (.tup xs) ∧ xs.length ≠ 2)) ∨ ∃ (u x : V) (p : Addr) (T1 T2 : String), o = some (u, x) ∧ y = .ref p ∧ H p = some (.tup [u, x]) ∧ Gv H u T1 ∧ Gv H x T2
def inS (f l : Int) : Option (V × V) → Bool
  | some (u, x) => match gMom u, gMom x, u, x with
    | true, true, .int a, .int b => decide (f ≤ a) && (decide (a ≤ b) && decide (b ≤ l))
    | _, _, _, _ => false
  | none => false
section
variable {P : Program} {w : World} {K : PySem.W.Frag} {mg : Str → Option Value} {base : Heap}
theorem Gv.kitT {H : Hp} {v : V} {T : String} (h : Gv H v T) : PySem.W.kitOne K (.type T) (.type "tuple") = some (decide (T = "tuple")) := by
  cases h <;> exact kit_ty (by decide +kernel)
def spIsStr : Sp := fun vs H Q _ => ∃ (f l : Int) (y : V) (o : Option (V × V)), vs = [.int f, .int l, y] ∧ PrAt H y o ∧ Q (.bl (inS f l o)) H
theorem ok_isStr {f fM : Addr} {fd fdM : FuncData} (F : Fun K "is_stretch" "is_stretch" sIsStr f fd) (W : Words K mg) (FM : Fun K "is_moment" "is_moment" sMoment fM fdM) (bM : Binds K fdM ["value"] []) (gM : mg "is_moment" = some (.ref fM)) (GM : FnOk P w K mg base CX0 2 fM fdM ["value"] spMoment) :
    FnOk P w K mg base CX0 3 f fd ["first", "last", "value"] spIsStr := by
  refine F.ok scIsStr (fun vs H Q E h => ?_) (fun cdv A outer s H vs Q E hr h => ?_)
  · obtain ⟨f, l, y, o, rfl, _⟩ := h
    rfl
  · obtain ⟨f, l, y, o, rfl, hy, q⟩ := h
    refine ⟨_, pss_cons (ps_if (PW.pt (pw_or (pt_not (pt_val (pe_callB call_isi (by rfl) W.isi (by decide +kernel) (pa_cons (pv 2) (pa_cons (pe_bltn (v := .ty "tuple") (by rfl) W.tuple (by decide +kernel) rfl) pa_nil)))))
        (pw_or1 (pt_cmpR op_ne (pe_callB call_len_seq (by rfl) W.len PySem.boot_len (pa_cons (pv 2) pa_nil)) pe_int (nomark _))))) (pss_one (ps_ret pe_bl)) pss_nil)
      (pss_cons (ps_asg (pv 2) (pg_tup rfl (pgs_cons (pg_name (i := 3) scIsStr.nd rfl (Or.inl rfl)) (pgs_cons (pg_name (i := 4) scIsStr.nd rfl (Or.inl rfl)) pgs_nil))))
      (pss_one (ps_ret (pe_and (pe_call GM hr (by rfl) gM FM.kp bM .nil pass0 (pa_cons (pv 3) pa_nil)) (pe_and (pe_call GM hr (by rfl) gM FM.kp bM .nil pass0 (pa_cons (pv 4) pa_nil)) (pe_one (pe_chain3 op_le op_le op_le (pv 0) (pv 3) (pv 4) (pv 1)))))))), ?_⟩
    rcases hy with ⟨rfl, T', hv, ht⟩ | ⟨u, x, p, T1, T2, rfl, rfl, hp, hu, hx⟩
    · have q : Q (.bl false) H := q
      refine ⟨_, rfl, _, _, _, _, _, rfl, .ty "tuple", hv.ty, hv.kitT, _, rfl, ?_⟩
      by_cases e : T' = "tuple"
      · rw [decide_eq_true e]
        obtain ⟨p, xs, rfl, hp, hn⟩ := ht e
        refine iteF ⟨_, rfl, p, xs, rfl, .inr (SqT.of hp), rfl, _, rfl, ite2 (fun e2 => ?_) (fun e2 => ?_)⟩
        · exact q
        · refine absurd ?_ e2
          rw [decide_eq_false (fun z => hn (by have := V.int.inj z; omega))]
          rfl
      · rw [decide_eq_false e]
        exact iteT q
    · refine ⟨_, rfl, _, _, _, _, _, rfl, .ty "tuple", .base (.tup hp), (Gv.tup hp).kitT, _, rfl, iteF ?_⟩
      refine ⟨_, rfl, p, _, rfl, .inr (SqT.of hp), rfl, _, rfl, ite2 (fun e => by cases e) (fun _ => ?_)⟩
      refine ⟨_, rfl, p, _, rfl, SqT.of hp, rfl, u, _, rfl, x, _, rfl, rfl, ?_⟩
      refine ⟨_, rfl, u, T1, rfl, hu, _, rfl, ?_⟩
      cases g1 : gMom u with
      | false =>
        refine iteF ?_
        have : inS f l (some (u, x)) = false := by simp [inS, g1]
        rw [this] at q
        exact q
      | true =>
        refine iteT ⟨_, rfl, x, T2, rfl, hx, _, rfl, ?_⟩
        cases g2 : gMom x with
        | false =>
          refine iteF ?_
          have : inS f l (some (u, x)) = false := by simp [inS, g1, g2]
          rw [this] at q
          exact q
        | true =>
          refine iteT ?_
          obtain ⟨a, rfl⟩ : ∃ a, u = .int a := by
            cases u with
            | int a => exact ⟨a, rfl⟩
            | _ => cases g1
          obtain ⟨b, rfl⟩ : ∃ b, x = .int b := by
            cases x with
            | int b => exact ⟨b, rfl⟩
            | _ => cases g2
          have e : inS f l (some (.int a, .int b)) = (decide (f ≤ a) && (decide (a ≤ b) && decide (b ≤ l))) := by simp [inS, g1, g2]
          rw [e] at q
          refine ⟨_, rfl, _, rfl, _, _, rfl, rfl, _, rfl, ite2 (fun c => ?_) (fun c => ?_)⟩
          · rw [c, Bool.true_and] at q
            refine ⟨_, rfl, _, _, rfl, rfl, _, rfl, ite2 (fun c2 => ?_) (fun c2 => ?_)⟩
            · rw [c2, Bool.true_and] at q
              exact ⟨_, rfl, _, _, rfl, rfl, q⟩
            · rw [show decide (a ≤ b) = false from by simpa using c2, Bool.false_and] at q
              exact q
          · rw [show decide (f ≤ a) = false from by simpa using c, Bool.false_and] at q
            exact q
/-- the two ints of a pair that is tracked -/
def kOf (H : Hp) : V → Int × Int
  | .ref t => match H t with
    | some (.tup [.int i, .int j]) => (i, j)
    | _ => (0, 0)
  | _ => (0, 0)
def Pairs2 (H : Hp) (xs : List V) : Prop := ∀ x ∈ xs, ∃ t, x = .ref t ∧ H t = some (.tup [.int (kOf H x).1, .int (kOf H x).2])
theorem kOf_at {H : Hp} {t : Addr} {i j : Int} (h : H t = some (.tup [.int i, .int j])) : kOf H (.ref t) = (i, j) := by
  simp [kOf, h]
theorem pairs_mk {H : Hp} {xs : List V} (h : ∀ x ∈ xs, ∃ t i j, x = .ref t ∧ H t = some (.tup [.int i, .int j])) : Pairs2 H xs := fun x hx => by
  obtain ⟨t, i, j, rfl, e⟩ := h x hx
  refine ⟨t, rfl, ?_⟩
  rw [kOf_at e]
  exact e
/-- the list at c has these pairs -/
def PrL (H : Hp) (js : List Addr) (acc : List Str2) : Prop := Paired (fun r (q : Str2) => H r = some (.tup [.int q.1, .int q.2])) js acc
theorem pr_last {α β : Type} {R : α → β → Prop} {a : α} : ∀ {l : List α} {m : List β}, Paired R (l ++ [a]) m → ∃ m' b, m = m' ++ [b] ∧ Paired R l m' ∧ R a b
  | [], _, .cons h .nil => ⟨[], _, rfl, .nil, h⟩
  | x :: l, _, .cons h t => by
    obtain ⟨m', b, e, p, r⟩ := pr_last t
    subst e
    exact ⟨_ :: m', b, rfl, .cons h p, r⟩
def spFew (K : PySem.W.Frag) : Sp := fun vs H Q _ => ∃ (a : Addr) (xs : List V), vs = [.ref a] ∧ (SqL K H a xs ∨ SqT K H a xs) ∧ Pairs2 H xs ∧ xs.length ≤ 1000 ∧
  ∀ (ys : List Str2) (c : Addr) (js : List Addr) (H' : Hp), ys.Perm (xs.map (kOf H)) → ys.Pairwise (fun p q => p.1 ≤ q.1) → Same H H' → H' c = some (.tup (js.map V.ref)) → PrL H' js (ys.foldl few1 []) → Q (.ref c) H'
theorem ok_few {f : Addr} {fd : FuncData} (F : Fun K "fewest" "fewest" sFew f fd) (ms : mg "sorted" = none) (mx : mg "max" = none) (mt : mg "tuple" = none) : FnOk P w K mg base CX0 1 f fd ["stretches"] (spFew K) := by
  refine F.ok scFew (fun vs H Q E h => ?_) (fun cdv A outer s H vs Q E hr h => ?_)
  · obtain ⟨a, xs, rfl, _⟩ := h
    rfl
  · obtain ⟨a, xs, rfl, ha, hx, hxl, q⟩ := h
    refine ⟨_, pss_cons (ps_set (i := 1) scFew.nd rfl (.inl rfl) (pe_lst pa_nil))
      (pss_cons (ps_for PassesOwn.never rfl (pi_list (pe_callB (So.CallR.or cr_sortedPO cr_sortedPT) (by rfl) ms (by decide +kernel) (pa_cons (pv 0) pa_nil))) (pg_tup rfl (pgs_cons (pg_name (i := 2) scFew.nd rfl (Or.inl rfl)) (pgs_cons (pg_name (i := 3) scFew.nd rfl (Or.inl rfl)) pgs_nil)))
        (pss_one (ps_if (PW.pt (pw_and (pt_truth (pv 1) (fun _ => rfl)) (pw_and1 (pt_cmpR op_le (pv 2) (pe_op op_add (pe_ix ix_tup (pe_ix ix_list (pv 1) (pe_un un_neg pe_int) (fun _ _ => rfl)) pe_int (fun _ _ => rfl)) pe_int) (nomark _)))))
          (pss_cons (ps_asg (pe_bm0 PySem.F.plainAttrs_list PySem.F.slot_list_pop PySem.F.type_list_pop mt_pop (pv 1)) (pg_tup rfl (pgs_cons (pg_name (i := 4) scFew.nd rfl (Or.inl rfl)) (pgs_cons (pg_name (i := 5) scFew.nd rfl (Or.inl rfl)) pgs_nil))))
            (pss_one (ps_expr (pe_bm PySem.F.plainAttrs_list PySem.F.slot_list_append PySem.F.type_list_append mt_append (pv 1) (pa_cons (pe_tup (pa_cons (pv 4) (pa_cons (pe_callB (call_max2 rfl) (by rfl) mx (by decide +kernel) (pa_cons (pv 5) (pa_cons (pv 3) pa_nil))) pa_nil))) pa_nil)))))
          (pss_one (ps_expr (pe_bm PySem.F.plainAttrs_list PySem.F.slot_list_append PySem.F.type_list_append mt_append (pv 1) (pa_cons (pe_tup (pa_cons (pv 2) (pa_cons (pv 3) pa_nil))) pa_nil)))))))
      (pss_one (ps_ret (pe_callTy call_tuple_of (by rfl) mt (by decide +kernel) (pa_cons (pv 1) pa_nil))))), ?_⟩
    refine ⟨by show 0 ≤ sizeLine; decide, fun c hc => ?_⟩
    have s1 := same_upd0 (o := .lst []) hc
    have hc1 : (upd H c (.lst [])) c = some (.lst []) := upd_same
    have hx1 : ∀ x ∈ xs, ∃ t, x = V.ref t ∧ (upd H c (.lst [])) t = some (.tup [.int (kOf H x).1, .int (kOf H x).2]) := fun x h => by
      obtain ⟨t, e1, e2⟩ := hx x h
      exact ⟨t, e1, s1 _ _ e2⟩
    have ha1 : SqL K (upd H c (.lst [])) a xs ∨ SqT K (upd H c (.lst [])) a xs := ha.imp (fun h => h.ext s1) (fun h => h.ext s1)
    revert s1 hc1 hx1 ha1
    generalize upd H c (.lst []) = H1
    intro s1 hc1 hx1 ha1
    have go : ∀ R : VK, (∀ (ys : List V) (p : Addr), SrtO.Srtd (ltP (kOf H)) ys → SrtO.Stb (ltP (kOf H)) ys xs → H1 p = none → R (.ref p) (upd H1 p (.lst ys))) → (rSortedPO K [.ref a] H1 R ∨ rSortedPT K [.ref a] H1 R) := fun R h => by
      rcases ha1 with ha1 | ha1
      · exact .inl ⟨a, xs, kOf H, rfl, ha1, hx1, h⟩
      · exact .inr ⟨a, xs, kOf H, rfl, ha1, hx1, h⟩
    refine ⟨_, rfl, go _ fun ys p hsr hst hp => ⟨p, rfl, ⟨_, SqL.of upd_same⟩, ?_⟩⟩
    have s2 := same_upd0 (o := .lst ys) hp
    have hp2 : (upd H1 p (.lst ys)) p = some (.lst ys) := upd_same
    have hc2 := s2 _ _ hc1
    have ncp : p ≠ c := fun z => by rw [z, hc1] at hp; cases hp
    revert s2 hp2 hc2
    generalize upd H1 p (.lst ys) = H2
    intro s2 hp2 hc2
    have s12 := s1.trans s2
    refine for_it walk_list (fun i σ H' => (∃ x2 x3 x4 x5, σ = [some (.ref a), some (.ref c), x2, x3, x4, x5]) ∧ (∀ b o, b ≠ c → H2 b = some o → H' b = some o) ∧ ∃ (js : List Addr), H' c = some (.lst (js.map V.ref)) ∧ PrL H' js (((ys.take i).map (kOf H)).foldl few1 []) ∧ js.length ≤ i)
      ⟨⟨none, none, none, none, rfl⟩, fun _ _ _ e => e, [], hc2, .nil, Nat.le_refl _⟩ (fun _ _ _ _ y => SqL.of (y.2.1 _ _ ncp hp2)) ?_ ?_
    · rintro i x σ H3 H4 hi ⟨⟨x2, x3, x4, x5, rfl⟩, off, js, hc3, hpr, hjl⟩ ⟨rfl, hxi⟩
      have hxm : x ∈ xs := hst.perm.mem_iff.mp (List.mem_of_getElem? hxi)
      obtain ⟨t, rfl, ht⟩ := hx1 x hxm
      have ntc : t ≠ c := ne_of ht hc1 (fun z => nomatch z)
      have ht3 := off _ _ ntc (s2 _ _ ht)
      generalize hq : kOf H (.ref t) = lh at ht ht3
      obtain ⟨lo, hi'⟩ := lh
      have et : (ys.take (i + 1)).map (kOf H) = (ys.take i).map (kOf H) ++ [(lo, hi')] := by
        rw [List.take_add_one, hxi, List.map_append]
        show _ ++ [kOf H (.ref t)] = _
        rw [hq]
      rw [et, List.foldl_append]
      generalize ((ys.take i).map (kOf H)).foldl few1 [] = acc at hpr
      refine ⟨t, _, rfl, SqT.of ht3, rfl, _, _, rfl, _, _, rfl, rfl, ?_⟩
      have hz : js.length < sizeLine := by
        have := sizeLine_eq
        have := hst.perm.length_eq
        omega
      have fin : ∀ (js2 : List Addr) (acc2 : List Str2) (tn : Addr) (q2 : Str2) (σ' : L2.St) (H5 : Hp), (∃ x2 x3 x4 x5, σ' = [some (.ref a), some (.ref c), x2, x3, x4, x5]) → (∀ b o, b ≠ c → H2 b = some o → H5 b = some o) → H5 c = some (.lst (js2.map V.ref)) → PrL H5 js2 acc2 → js2.length ≤ i →
          H5 tn = some (.tup [.int q2.1, .int q2.2]) → ∀ ys2 : List V, ys2 = (js2 ++ [tn]).map V.ref → (∃ x2 x3 x4 x5, σ' = [some (.ref a), some (.ref c), x2, x3, x4, x5]) ∧ (∀ b o, b ≠ c → H2 b = some o → upd H5 c (.lst ys2) b = some o) ∧ ∃ (js : List Addr), upd H5 c (.lst ys2) c = some (.lst (js.map V.ref)) ∧ PrL (upd H5 c (.lst ys2)) js (acc2 ++ [q2]) ∧ js.length ≤ i + 1 := by
        rintro js2 acc2 tn q2 σ' H5 hσ o5 h5 p5 l5 htn ys2 rfl
        refine ⟨hσ, fun b o n e => (upd_ne n).trans (o5 b o n e), js2 ++ [tn], upd_same, ?_, by rw [List.length_append]; exact Nat.add_le_add_right l5 1⟩
        exact (L2.Paired.mapP p5 fun r q' e => (upd_ne (ne_of e h5 (fun z => nomatch z))).trans e).snoc ((upd_ne (ne_of htn h5 (fun z => nomatch z))).trans htn)
      rcases last_or js with e | ⟨js', r, e⟩
      · subst e
        cases hpr
        refine ⟨_, rfl, _, .inl ⟨_, SqL.of hc3, rfl⟩, iteF ?_⟩
        refine ⟨_, rfl, .inl ⟨rfl, _, SqL.of hc3⟩, _, rfl, _, rfl, by show 2 ≤ sizeLine; decide, fun tn htn => ?_⟩
        have s5 := same_upd0 (o := .tup [.int lo, .int hi']) htn
        refine ⟨c, _, _, rfl, rfl, s5 _ _ hc3, by show 0 < sizeLine; decide, ?_⟩
        exact fin [] [] tn (lo, hi') _ _ ⟨_, _, _, _, rfl⟩ (fun b o n e => s5 _ _ (off b o n e)) (s5 _ _ hc3) .nil (Nat.zero_le _) upd_same _ rfl
      · subst e
        obtain ⟨acc', pq, rfl, hp', hr'⟩ := pr_last hpr
        have hmap : (js' ++ [r]).map V.ref = js'.map V.ref ++ [.ref r] := by rw [List.map_append]; rfl
        rw [hmap] at hc3
        have he : (!(js'.map V.ref ++ [V.ref r]).isEmpty) = true := by simp
        refine ⟨_, rfl, _, .inl ⟨_, SqL.of hc3, rfl⟩, ?_⟩
        rw [he]
        refine iteT ⟨_, rfl, _, rfl, _, rfl, c, _, _, _, rfl, rfl, SqL.of hc3, atI_last _ _, r, _, _, _, rfl, rfl, SqT.of hr', atI_nat (j := 1) rfl, _, _, rfl, rfl, _, _, rfl, rfl, _, rfl, ?_⟩
        show (if decide (lo ≤ pq.2 + 1) = true then _ else _)
        rw [List.foldl_cons, List.foldl_nil, few1_snoc]
        have nrc : r ≠ c := ne_of hr' hc3 (fun z => nomatch z)
        have l' : js'.length ≤ i := by
          rw [List.length_append] at hjl
          exact Nat.le_trans (Nat.le_add_right _ _) hjl
        by_cases cc : lo ≤ pq.2 + 1
        · rw [decide_eq_true cc, if_pos cc]
          refine iteT ?_
          refine ⟨_, rfl, .inl ⟨rfl, _, SqL.of hc3⟩, c, _, .ref r, rfl, rfl, hc3, by simp, ?_⟩
          rw [List.dropLast_concat]
          have hr5 := (upd_ne (o := HO.lst (js'.map V.ref)) nrc).trans hr'
          have hc5 : (upd H4 c (.lst (js'.map V.ref))) c = some (.lst (js'.map V.ref)) := upd_same
          have of5 : ∀ b o, b ≠ c → H2 b = some o → (upd H4 c (.lst (js'.map V.ref))) b = some o := fun b o n e => (upd_ne n).trans (off b o n e)
          have pr5 : PrL (upd H4 c (.lst (js'.map V.ref))) js' acc' := L2.Paired.mapP hp' fun r' q' e => (upd_ne (ne_of e hc3 (fun z => nomatch z))).trans e
          revert hr5 hc5 of5 pr5
          generalize upd H4 c (.lst (js'.map V.ref)) = H5
          intro hr5 hc5 of5 pr5
          refine ⟨r, _, rfl, SqT.of hr5, rfl, _, _, rfl, _, _, rfl, rfl, ?_⟩
          refine ⟨_, rfl, .inl ⟨rfl, _, SqL.of hc5⟩, _, rfl, _, rfl, _, rfl, _, _, rfl, by show 2 ≤ sizeLine; decide, fun tn htn => ?_⟩
          have em : (if hi' > pq.2 then hi' else pq.2) = max pq.2 hi' := by
            split <;> omega
          have s6 := same_upd0 (o := .tup [.int pq.1, .int (if hi' > pq.2 then hi' else pq.2)]) htn
          refine ⟨c, _, _, rfl, rfl, s6 _ _ hc5, by rw [List.length_map]; have := sizeLine_eq; have := hst.perm.length_eq; omega, ?_⟩
          exact fin js' acc' tn (pq.1, max pq.2 hi') _ _ ⟨_, _, _, _, rfl⟩ (fun b o n e => s6 _ _ (of5 b o n e)) (s6 _ _ hc5) (L2.Paired.mapP pr5 fun r' q' e => s6 _ _ e) l' (by rw [← em]; exact upd_same) _ (by rw [List.map_append]; rfl)
        · rw [decide_eq_false cc, if_neg cc]
          refine iteF ?_
          refine ⟨_, rfl, .inl ⟨rfl, _, SqL.of hc3⟩, _, rfl, _, rfl, by show 2 ≤ sizeLine; decide, fun tn htn => ?_⟩
          have s6 := same_upd0 (o := .tup [.int lo, .int hi']) htn
          refine ⟨c, _, _, rfl, rfl, s6 _ _ hc3, by rw [← hmap, List.length_map]; exact hz, ?_⟩
          exact fin (js' ++ [r]) (acc' ++ [pq]) tn (lo, hi') _ _ ⟨_, _, _, _, rfl⟩ (fun b o n e => s6 _ _ (off b o n e)) (by rw [hmap]; exact s6 _ _ hc3) (L2.Paired.mapP hpr fun r' q' e => s6 _ _ e) hjl upd_same _ (by rw [List.map_append, hmap]; rfl)
    · rintro σ H3 ⟨⟨x2, x3, x4, x5, rfl⟩, off, js, hc3, hpr, hjl⟩
      rw [List.take_length] at hpr
      refine ⟨_, rfl, c, _, rfl, .inl ⟨SqL.of hc3, fun t ht => ?_⟩⟩
      have s4 := same_upd0 (o := .tup (js.map V.ref)) ht
      refine q (ys.map (kOf H)) t js _ (hst.perm.map _) ?_ (fun b o e => s4 _ _ (off _ _ (ne_of_none e hc) (s12 _ _ e))) upd_same (L2.Paired.mapP hpr fun r q' e => s4 _ _ e)
      exact List.Pairwise.map _ (fun u v h => by
        have := SrtO.lexB_no.mp h
        omega) hsr
end
end K48

/-! own `in` and `not in`; min(xs, default=d); a walk over what is a list or a tuple -/
namespace So
open PySem PySem.Spec PyProof.Rows L2
section
variable {X : Cx} {CX : CXT} {k : Nat} {C f : Addr} {fd : FuncData} {ps : List Str} {sp : Sp} {E : XK}
/-- what x in o asks, o of an own class with __contains__; g: the answer as it is, or turned about -/
def rInO (C : Addr) (sp : Sp) (E : XK) (g : Bool → Bool) : R2 := fun x y H Q => ∃ a dx fs, y = .ref a ∧ H a = some (.ins C dx fs) ∧ sp [.ref a, x] H (fun v H' => ∃ b, v = .bl b ∧ Q (.bl (g b)) H') E
theorem op_inO (F : FnOk X.prog X.w X.K X.mg X.base CX k f fd ps sp) (hs : PySem.W.findIn X.K (.ref C) "__contains__" = some (some (.ref f))) (hf : PySem.W.isFn X.K (.ref f) = true) (hb : Binds X.K fd ps []) (hx : Passes CX X E) (hr : Room k X.A) :
    OpR X (compareOp .In) (rInO C sp E id) := by
  intro pins s σ H x y v u Q I rx ry h
  obtain ⟨a, dx, fs, rfl, ha, q⟩ := h
  cases ry
  obtain ⟨mA, J, _⟩ := ins_get I.hok ha
  obtain ⟨od, J, _⟩ := J.look
  obtain ⟨m, hF⟩ := I.fr
  refine PySem.W.in_K hF I.ok.mod.kin J hs hf (wpAny_mono (run_eq (dx := dx) (fs := fs) F hb hx hr rfl I rx q) (fun w s' z => ?_) fun _ _ z => z)
  obtain ⟨b, H', rfl, I', q'⟩ := z
  exact wpAny_truthy_bool ⟨.bl b, H', I', rfl, q'⟩
theorem op_notInO (F : FnOk X.prog X.w X.K X.mg X.base CX k f fd ps sp) (hs : PySem.W.findIn X.K (.ref C) "__contains__" = some (some (.ref f))) (hf : PySem.W.isFn X.K (.ref f) = true) (hb : Binds X.K fd ps []) (hx : Passes CX X E) (hr : Room k X.A) :
    OpR X (compareOp .NotIn) (rInO C sp E not) := by
  intro pins s σ H x y v u Q I rx ry h
  obtain ⟨a, dx, fs, rfl, ha, q⟩ := h
  cases ry
  obtain ⟨mA, J, _⟩ := ins_get I.hok ha
  obtain ⟨od, J, _⟩ := J.look
  obtain ⟨m, hF⟩ := I.fr
  refine PySem.W.notIn_K hF I.ok.mod.kin J hs hf (wpAny_mono (run_eq (dx := dx) (fs := fs) F hb hx hr rfl I rx q) (fun w s' z => ?_) fun _ _ z => z)
  obtain ⟨b, H', rfl, I', q'⟩ := z
  exact wpAny_truthy_bool ⟨.bl (!b), H', I', rfl, q'⟩
/-- a walk by one of two roads -/
theorem pi_or {tg e : Expr} {w1 w2 : TI} (h1 : PI X tg e w1) (h2 : PI X tg e w2) : PI X tg e (fun σ H R => w1 σ H R ∨ w2 σ H R) := by
  refine ⟨fun pins s σ H R I h => ?_⟩
  rcases h with h | h
  · exact h1.run pins s σ H R I h
  · exact h2.run pins s σ H R I h
end
end So
namespace So
open PySem PySem.Spec PyProof.Rows L2
theorem foldl_min : ∀ (ns : List Int) (n : Int), (ns.foldl min n ∈ n :: ns) ∧ (∀ z ∈ n :: ns, ns.foldl min n ≤ z)
  | [], n => ⟨List.mem_cons_self, fun z hz => by rw [List.mem_singleton.mp hz]; exact Int.le_refl _⟩
  | k :: r, n => by
    obtain ⟨h1, h2⟩ := foldl_min r (min n k)
    have e : min n k ≤ n ∧ min n k ≤ k ∧ (min n k = n ∨ min n k = k) := by omega
    refine ⟨?_, fun z hz => ?_⟩
    · rw [List.foldl_cons]
      rcases List.mem_cons.mp h1 with h | h
      · rw [h]
        rcases e.2.2 with q | q <;> rw [q] <;> simp
      · exact List.mem_cons_of_mem _ (List.mem_cons_of_mem _ h)
    · rw [List.foldl_cons]
      have h0 := h2 (min n k) List.mem_cons_self
      rcases List.mem_cons.mp hz with h | h
      · rw [h]
        omega
      · rcases List.mem_cons.mp h with h | h
        · rw [h]
          omega
        · exact h2 z (List.mem_cons_of_mem _ h)
theorem alike_ints (ns : List Int) : PySem.W.AlikeAll (ns.map PyData.int) := by
  refine ⟨fun x hx y hy => ?_, fun x hx => ?_⟩
  · obtain ⟨i, _, rfl⟩ := List.mem_map.mp hx
    obtain ⟨j, _, rfl⟩ := List.mem_map.mp hy
    rfl
  · obtain ⟨i, _, rfl⟩ := List.mem_map.mp hx
    intro h
    cases h
theorem depth_ints0 : ∀ ns : List Int, PyData.depthAll (ns.map PyData.int) = 0
  | [] => rfl
  | n :: r => by simp [PyData.depthAll, PyData.depth, depth_ints0 r]
section
variable {X : Cx}
theorem dpi {K : PySem.W.Frag} {H : Hp} : ∀ ns : List Int, DpAll K H (ns.map V.int) (ns.map PyData.int)
  | [] => .nil
  | n :: r => .cons (.int n) (dpi r)
/-- min(xs, default=d): ints -/
theorem pe_minDef {e d : Expr} {p pos kp : Pos} {ta td : TA} (hc : X.calm = true) (hu : X.A.units + 64 < cLine) (hg : Gl X "min") (hm : X.mg "min" = none) (ha : PA X [e] ta) (hk : PK X [⟨some "default", d, kp⟩] td)
    (he : backTo pos (starEach [e] X.env) = (false, eval e X.env) :: backTo pos (starEach [] X.env) := by rfl) (hpl : (backTo pos (starEach [e] X.env)).any (·.1) = false := by rfl)
    (hall : (backToKw pos (keywordEach [⟨some "default", d, kp⟩] X.env)).all (·.1.isSome) = true := by rfl) (hkw : (backToKw pos (keywordEach [⟨some "default", d, kp⟩] X.env)).any (·.1.isNone) = false := by rfl)
    (hks : (backToKw pos (keywordEach [⟨some "default", d, kp⟩] X.env)).filterMap (·.1) = [("default" : Str)] := by rfl) :
    PE X (.Call (.Name "min" p) [e] [⟨some "default", d, kp⟩] pos) (fun σ H Q => ta σ H fun xs H1 => td σ H1 fun ys H2 => ∃ l ns y, xs = [.ref l] ∧ ys = [y] ∧ SqL X.K H2 l (ns.map V.int) ∧ (ns = [] → Q y H2) ∧ (∀ m, m ∈ ns → (∀ z ∈ ns, m ≤ z) → Q (.int m) H2)) := by
  refine ⟨fun pins s σ H Q I h => ?_⟩
  refine wpAny_Call_Name_kw (ld_blt I hg hm (show bootBuiltins "min" = some (.builtin "min") by decide +kernel) (PyProof.Rows.callWith_kw (thn (ha.run pos pins s σ H _ I h) fun us s1 ⟨xs, H1, I1, r1, q1⟩ => ?_) he hpl hall hkw))
  refine thn (hk.run pos pins s1 σ H1 _ I1 q1) fun ws s2 ⟨ys, H2, I2, r2, l, ns, y, ex, ey, hs, q0, q1⟩ => ?_
  subst ex ey
  rw [Vals.ref1 r1, hks]
  obtain ⟨u, rfl, ru⟩ := vals1 r2
  obtain ⟨its, rv, hl, _⟩ := I2.list hs
  have hd : DpAll X.K H2 (ns.map V.int) (ns.map PyData.int) := dpi ns
  obtain ⟨as, rd⟩ := Dp.readsAll I2 (ns.map PyData.int) (ns.map V.int) its hd rv
  refine PySem.W.min_list_default (I2.ok.hd hc) hl.isList (by simpa using rd) (alike_ints ns) (by rw [depth_ints0]; omega) (fun e0 h' tk k => ?_) (fun z zs i v h' tk bs e0 hv rz k => ?_)
  · exact ⟨y, H2, I2.kept k, ru, q0 (List.map_eq_nil_iff.mp e0)⟩
  · obtain ⟨n, r, rfl⟩ : ∃ n r, ns = n :: r := by
      cases ns with
      | nil => cases e0
      | cons n r => exact ⟨n, r, rfl⟩
    rw [List.map_cons] at e0
    injection e0 with e1 e2
    subst e1 e2
    rw [PySem.W.minD_ints] at rz
    cases rz with
    | int _ t =>
      obtain ⟨m1, m2⟩ := foldl_min r n
      exact ⟨.int _, H2, I2.kept k, ⟨t, rfl⟩, q1 _ m1 m2⟩
end
end So

namespace K48
open PySem PySem.Spec PyProof.Rows L2 So
abbrev sEB : Stmt := inClass (topS 3) 0
abbrev sTInit : Stmt := inClass (topS 13) 0
theorem scEB : FnScope ["self", "at"] ["self", "at"] (defScope sEB) := ⟨rfl, rfl, rfl, by decide +kernel, rfl, by decide +kernel, by decide +kernel⟩
abbrev tInitN : List Str := ["self", "first", "last", "stretches", "has_none", "at", "item"]
theorem scTInit : FnScope tInitN ["self", "first", "last", "stretches", "has_none"] (defScope sTInit) := ⟨rfl, rfl, rfl, by decide +kernel, rfl, by decide +kernel, by decide +kernel⟩
section
variable {P : Program} {w : World} {K : PySem.W.Frag} {mg : Str → Option Value} {base : Heap}
theorem ok_eB {C f : Addr} {fd : FuncData} (F : Fun K "__init__" "BadTurns.__init__" sEB f fd) (O : OneE K mg "BadTurns" "at" C f fd) : FnOk P w K mg base CX0 1 f fd ["self", "at"] (spOneE C "at") := by
  refine F.ok scEB (fun vs H Q E h => ?_) (fun cdv A outer s H vs Q E hr h => ?_)
  · obtain ⟨a, v, rfl, _⟩ := h
    rfl
  · obtain ⟨a, v, rfl, ha, q⟩ := h
    exact ⟨_, pss_one (ps_ost (pv 0) (pv 1)), _, rfl, _, rfl, a, C, rfl, O.T, O.no, .inl ⟨ha, fun dx h n => q dx h n⟩⟩
/-- what the top says of the class Turns, at C -/
structure Trn (K : PySem.W.Frag) (mg : Str → Option Value) (C : Addr) : Prop where
  cl : Cls K C
  nL : NoAttr K C "low"
  nH : NoAttr K C "high"
  nS : NoAttr K C "stretches"
  nN : NoAttr K C "has_none"
  mgC : mg "Turns" = some (.ref C)
/-- the attributes of a Turns -/
def tf (f l : Int) (c : Addr) (n : V) : List (Str × V) := [("low", .int f), ("high", .int l), ("stretches", .ref c), ("has_none", n)]
/-- at a stands the Turns of these moments -/
def TrAt (C : Addr) (H : Hp) (a : Addr) (f l : Int) (acc : List Str2) (n : V) : Prop := ∃ (dx c : Addr) (js : List Addr), H a = some (.ins C dx (tf f l c n)) ∧ H c = some (.tup (js.map V.ref)) ∧ PrL H js acc
/-- such a value, or a tuple of the written part -/
def Gw (K : PySem.W.Frag) (H : Hp) (v : V) (T : String) : Prop := Gv H v T ∨ (T = "tuple" ∧ ∃ (a : Addr) (o : Obj), v = .ref a ∧ K.lookup a = some o ∧ o.cls = .type "tuple")
theorem Gw.ty {H : Hp} {v : V} {T : String} (h : Gw K H v T) : TyX K H v (.type T) := by
  rcases h with h | ⟨rfl, a, o, rfl, e, c⟩
  · exact h.ty
  · exact .kTuple e c
theorem Gw.same {H H' : Hp} {v : V} {T : String} (h : Gw K H v T) (s : Same H H') : Gw K H' v T := h.imp (fun h => h.same s) id
/-- what is given for the stretches: items told by os, or no list and no tuple -/
def StAt (K : PySem.W.Frag) (H : Hp) (sv : V) (os : Option (List (Option (V × V)))) : Prop :=
  (os = none ∧ ∃ T, Gv H sv T ∧ T ≠ "tuple" ∧ T ≠ "list") ∨ ∃ (a : Addr) (ys : List V) (l : List (Option (V × V))) (T : String), os = some l ∧ sv = .ref a ∧ Gw K H sv T ∧ (T = "tuple" ∨ T = "list") ∧ (SqL K H a ys ∨ SqT K H a ys) ∧ Paired (PrAt H) ys l ∧ ys.length ≤ 900
theorem PrAt.same {H H' : Hp} {y : V} {o : Option (V × V)} (h : PrAt H y o) (s : Same H H') : PrAt H' y o := by
  rcases h with ⟨e, T, hT, hx⟩ | ⟨u, x, p, T1, T2, e1, e2, e3, g1, g2⟩
  · refine .inl ⟨e, T, hT.same s, fun t => ?_⟩
    obtain ⟨p, xs, h1, h2, h3⟩ := hx t
    exact ⟨p, xs, h1, s _ _ h2, h3⟩
  · exact .inr ⟨u, x, p, T1, T2, e1, e2, s _ _ e3, g1.same s, g2.same s⟩
theorem Gv.kit2 {H : Hp} {v : V} {T : String} (h : Gv H v T) : PySem.W.kitAny K (.type T) [.type "list", .type "tuple"] = some (decide (T = "list" ∨ T = "tuple")) := by
  cases h
  · exact kitAny_cons (b := false) (kit_ty (by decide +kernel)) (fun _ => kitAny_cons (b := false) (kit_ty (by decide +kernel)) (fun _ => rfl) (fun y => nomatch y)) (fun y => nomatch y)
  · exact kitAny_cons (b := false) (kit_ty (by decide +kernel)) (fun _ => kitAny_cons (b := false) (kit_ty (by decide +kernel)) (fun _ => rfl) (fun y => nomatch y)) (fun y => nomatch y)
  · exact kitAny_cons (b := false) (kit_ty (by decide +kernel)) (fun _ => kitAny_cons (b := false) (kit_ty (by decide +kernel)) (fun _ => rfl) (fun y => nomatch y)) (fun y => nomatch y)
  · exact kitAny_cons (b := false) (kit_ty (by decide +kernel)) (fun _ => kitAny_cons (b := false) (kit_ty (by decide +kernel)) (fun _ => rfl) (fun y => nomatch y)) (fun y => nomatch y)
  · exact kitAny_cons (b := true) (kit_ty (by decide +kernel)) (fun y => nomatch y) (fun _ => rfl)
  · exact kitAny_cons (b := false) (kit_ty (by decide +kernel)) (fun _ => kitAny_cons (b := true) (kit_ty (by decide +kernel)) (fun y => nomatch y) (fun _ => rfl)) (fun y => nomatch y)
  · exact kitAny_cons (b := false) (kit_ty (by decide +kernel)) (fun _ => kitAny_cons (b := false) (kit_ty (by decide +kernel)) (fun _ => rfl) (fun y => nomatch y)) (fun y => nomatch y)
theorem Gw.kit2 {H : Hp} {v : V} {T : String} (h : Gw K H v T) : PySem.W.kitAny K (.type T) [.type "list", .type "tuple"] = some (decide (T = "list" ∨ T = "tuple")) := by
  rcases h with h | ⟨rfl, _⟩
  · exact h.kit2
  · exact kitAny_cons (b := false) (kit_ty (by decide +kernel)) (fun _ => kitAny_cons (b := true) (kit_ty (by decide +kernel)) (fun y => nomatch y) (fun _ => rfl)) (fun y => nomatch y)
/-- the two ints that an item tells -/
def oOf : Option (V × V) → Int × Int
  | some (.int a, .int b) => (a, b)
  | _ => (0, 0)
theorem inS_int {f l : Int} : ∀ {o : Option (V × V)}, inS f l o = true → ∃ a b, o = some (.int a, .int b)
  | none, h => nomatch h
  | some (u, x), h => by
    unfold inS at h
    simp only at h
    split at h
    · exact ⟨_, _, rfl⟩
    · cases h
theorem sq_ins {H : Hp} {sa a C dx : Addr} {fs : List (Str × V)} {o : HO} {zs : List V} (h : SqL K H sa zs ∨ SqT K H sa zs) (ha : H a = some (.ins C dx fs)) : SqL K (upd H a o) sa zs ∨ SqT K (upd H a o) sa zs := by
  rcases h with h | h
  · refine .inl (h.elim (fun h => .inl ?_) fun h => .inr h)
    rcases h with h | ⟨ob, h⟩
    · exact .inl ((upd_ne (ne_of h ha (fun z => nomatch z))).trans h)
    · exact .inr ⟨ob, (upd_ne (ne_of h ha (fun z => nomatch z))).trans h⟩
  · refine .inr (h.elim (fun h => .inl ?_) fun h => .inr h)
    rcases h with h | ⟨ob, h⟩
    · exact .inl ((upd_ne (ne_of h ha (fun z => nomatch z))).trans h)
    · exact .inr ⟨ob, (upd_ne (ne_of h ha (fun z => nomatch z))).trans h⟩
theorem its_k {H H' : Hp} {lo hi : Int} (hk : ∀ p xs, H p = some (.tup xs) → H' p = some (.tup xs)) : ∀ {zs : List V} {its : List (Option (V × V))}, Paired (PrAt H) zs its → (∀ o ∈ its, inS lo hi o = true) → (∀ x ∈ zs, ∃ t i j, x = .ref t ∧ H' t = some (.tup [.int i, .int j])) ∧ zs.map (kOf H') = its.map oOf
  | _, _, .nil, _ => ⟨fun _ h => absurd h List.not_mem_nil, rfl⟩
  | _, _, .cons h t, g => by
    obtain ⟨r1, r2⟩ := its_k hk t fun o ho => g o (List.mem_cons_of_mem _ ho)
    obtain ⟨i, j, e⟩ := inS_int (g _ List.mem_cons_self)
    subst e
    rcases h with ⟨e, _⟩ | ⟨u, x, p, T1, T2, e1, e2, e3, _⟩
    · cases e
    · cases e1
      subst e2
      refine ⟨fun x hx => ?_, ?_⟩
      · rcases List.mem_cons.mp hx with e | hx
        · exact ⟨p, i, j, e, hk _ _ e3⟩
        · exact r1 x hx
      · rw [List.map_cons, List.map_cons, r2, kOf_at (hk _ _ e3)]
        rfl
theorem len_p {α β : Type} {R : α → β → Prop} : ∀ {l : List α} {m : List β}, Paired R l m → l.length = m.length
  | _, _, .nil => rfl
  | _, _, .cons _ t => congrArg (· + 1) (len_p t)
def spTInit (K : PySem.W.Frag) (C CB : Addr) : Sp := fun vs H Q E => ∃ (a dx : Addr) (f l : Int) (sv n : V) (os : Option (List (Option (V × V)))), vs = [.ref a, .int f, .int l, sv, n] ∧ H a = some (.ins C dx []) ∧ StAt K H sv os ∧
  (∀ its, os = some its → (∀ o ∈ its, inS f l o = true) → ∀ (ys : List Str2) (c : Addr) (js : List Addr) (H' : Hp), ys.Perm (its.map oOf) → ys.Pairwise (fun p q => p.1 ≤ q.1) → Off a H H' → H' a = some (.ins C dx (tf f l c n)) → H' c = some (.tup (js.map V.ref)) → PrL H' js (ys.foldl few1 []) → Q .non H') ∧
  (os = none → ∀ d H', Same H H' → H' d = some (.xd [("at", .non)]) → E (.ref CB) (some d) H') ∧
  (∀ its (i : Nat) o, os = some its → its[i]? = some o → inS f l o = false → (∀ j o, j < i → its[j]? = some o → inS f l o = true) → ∀ d H', Same H H' → H' d = some (.xd [("at", .int i)]) → E (.ref CB) (some d) H')
theorem ok_tinit {C CB f fS fF aE : Addr} {fd fdS fdF : FuncData} (F : FunD K "__init__" "Turns.__init__" (defArgs sTInit) (defBody sTInit) (defScope sTInit) [.ref aE, .bl false] [] f fd) (T : Trn K mg C) (W : Words K mg) (R : ∃ (f : Addr) (fd : FuncData), OneE K mg "BadTurns" "at" CB f fd ∧ Fun K "__init__" "BadTurns.__init__" sEB f fd) (me : mg "enumerate" = none)
    (FS : Fun K "is_stretch" "is_stretch" sIsStr fS fdS) (bS : Binds K fdS ["first", "last", "value"] []) (gS : mg "is_stretch" = some (.ref fS)) (GS : FnOk P w K mg base CX0 3 fS fdS ["first", "last", "value"] spIsStr)
    (FF : Fun K "fewest" "fewest" sFew fF fdF) (bF : Binds K fdF ["stretches"] []) (gF : mg "fewest" = some (.ref fF)) (GF : FnOk P w K mg base CX0 1 fF fdF ["stretches"] (spFew K)) : FnOk P w K mg base (L2.CX P w) 4 f fd ["self", "first", "last", "stretches", "has_none"] (spTInit K C CB) := by
  obtain ⟨f1, fd1, O1, F1⟩ := R
  have G1 : FnOk P w K mg base CX0 1 f1 fd1 ["self", "at"] (spOneE CB "at") := ok_eB F1 O1
  refine F.ok (CX := L2.CX P w) scTInit (fun vs H Q E h => ?_) (fun cdv A outer s H vs Q E hr h => ?_)
  · obtain ⟨_, _, _, _, _, _, _, rfl, _⟩ := h
    rfl
  · obtain ⟨a, dx, lo, hi, sv, n, os, rfl, hself, hst, qy, q0, qn⟩ := h
    have hr1 : Room 1 _ := hr.mono (by decide)
    refine ⟨_, pss_cons (ps_if (pt_not (pt_val (pe_callB call_isiT (by rfl) W.isi (by decide +kernel) (pa_cons (pv 3) (pa_cons (pe_tup (pa_cons (pe_bltn (v := .ty "list") (by rfl) W.list (by decide +kernel) rfl) (pa_cons (pe_bltn (v := .ty "tuple") (by rfl) W.tuple (by decide +kernel) rfl) pa_nil))) pa_nil))))) (pss_one (ps_raiseOne O1 G1 rfl (hr.mono (by decide)) (takes_of rfl rfl rfl rfl) (by rfl) (pa_cons pe_non pa_nil))) pss_nil)
      (pss_cons (ps_for PassesOwn.leaving rfl (pi_or (pi_enum (by rfl) me (pa_cons (pv 3) pa_nil)) (pi_enumT (by rfl) me (pa_cons (pv 3) pa_nil))) (pg_tup rfl (pgs_cons (pg_name (i := 5) scTInit.nd rfl (Or.inl rfl)) (pgs_cons (pg_name (i := 6) scTInit.nd rfl (Or.inl rfl)) pgs_nil)))
        (pss_one (ps_if (pt_not (pt_val (pe_call GS hr (by rfl) gS FS.kp bS .nil pass0 (pa_cons (pv 1) (pa_cons (pv 2) (pa_cons (pv 6) pa_nil)))))) (pss_one (ps_raiseOne O1 G1 rfl (hr.mono (by decide)) (takes_of rfl rfl rfl rfl) (by rfl) (pa_cons (pv 5) pa_nil))) pss_nil)))
      (pss_cons (ps_fld (pv 0) (pv 1) rfl) (pss_cons (ps_fld (pv 0) (pv 2) rfl) (pss_cons (ps_fld (pv 0) (pe_call GF hr1 (by rfl) gF FF.kp bF .nil pass0 (pa_cons (pv 3) pa_nil)) rfl) (pss_one (ps_fld (pv 0) (pv 4) rfl)))))), ?_⟩
    refine ⟨_, rfl, by show 2 ≤ sizeLine; decide, fun tp htp => ?_⟩
    have s1 := same_upd0 (o := .tup [.ty "list", .ty "tuple"]) htp
    have htp1 : (upd H tp (.tup [.ty "list", .ty "tuple"])) tp = some (.tup [.ty "list", .ty "tuple"]) := upd_same
    rcases hst with ⟨rfl, T0, hT, n1, n2⟩ | ⟨sa, zs, its, T0, rfl, rfl, hT, hk, hz, hits, hlen⟩
    · refine ⟨_, tp, _, _, _, _, rfl, upd_same, .cons (.ty _) (.cons (.ty _) .nil), (hT.same s1).ty, (hT.same s1).kit2, _, rfl, ?_⟩
      rw [decide_eq_false (fun z => z.elim n2 n1)]
      exact iteT (mkOne rfl fun d H' s2 _ e => q0 rfl d H' (s1.trans s2) e)
    · refine ⟨_, tp, _, _, _, _, rfl, upd_same, .cons (.ty _) (.cons (.ty _) .nil), (hT.same s1).ty, (hT.same s1).kit2, _, rfl, ?_⟩
      rw [decide_eq_true hk.symm]
      refine iteF ?_
      have self1 := s1 _ _ hself
      revert s1 self1
      generalize upd H tp (.tup [.ty "list", .ty "tuple"]) = H1
      intro s1 self1
      obtain ⟨J, wJ, go⟩ : ∃ J, Walk J zs.length (fun H' => Same H1 H') (YPair (fun i => some (.int (i : Nat))) (fun i => zs[i]?)) ∧ ∀ R : It → Hp → Prop, R J H1 → (iEnum K (tCons (tVar 3) tNil) [some (.ref a), some (.int lo), some (.int hi), some (.ref sa), some n, none, none] H1 R ∨ iEnumT K (tCons (tVar 3) tNil) [some (.ref a), some (.int lo), some (.int hi), some (.ref sa), some n, none, none] H1 R) := by
        rcases hz with hz | hz
        · exact ⟨_, walk_enum.mono (fun _ s => (hz.ext s1).ext s) (fun _ _ _ _ _ _ y => y), fun R r => .inl ⟨_, rfl, sa, zs, rfl, hz.ext s1, r⟩⟩
        · exact ⟨_, walk_enumT.mono (fun _ s => (hz.ext s1).ext s) (fun _ _ _ _ _ _ y => y), fun R r => .inr ⟨_, rfl, sa, zs, rfl, hz.ext s1, r⟩⟩
      refine go _ (for_it wJ (fun i σ H' => (∃ v5 v6, σ = [some (.ref a), some (.int lo), some (.int hi), some (.ref sa), some n, v5, v6]) ∧ Same H1 H' ∧ ∀ j o, j < i → its[j]? = some o → inS lo hi o = true)
        ⟨⟨_, _, rfl⟩, Same.refl _, fun _ _ h => absurd h (Nat.not_lt_zero _)⟩ (fun _ _ _ _ y => y.2.1) ?_ ?_)
      · rintro i x σ H2 H3 hi2 ⟨⟨v5, v6, rfl⟩, s2, hj⟩ ⟨t, u, y, rfl, ht, rfl, hu, hy⟩
        cases hu
        have s3 := same_upd0 (o := .tup [.int (i : Nat), y]) ht
        obtain ⟨o, ho, hyo⟩ : ∃ o, its[i]? = some o ∧ PrAt H y o := L2.paired_get hits hy
        refine ⟨t, _, rfl, SqT.of upd_same, rfl, _, _, rfl, _, _, rfl, rfl, ?_⟩
        refine ⟨_, rfl, _, rfl, _, rfl, lo, hi, y, o, rfl, (hyo.same (s1.trans (s2.trans s3))), _, rfl, ?_⟩
        cases hg : inS lo hi o with
        | false =>
          exact iteT ⟨_, rfl, mkOne rfl fun d H' s4 _ e => qn its i o rfl ho hg hj d H' ((s1.trans (s2.trans s3)).trans s4) e⟩
        | true =>
          refine iteF ⟨⟨_, _, rfl⟩, s2.trans s3, fun j o2 hj2 e => ?_⟩
          rcases Nat.lt_succ_iff_lt_or_eq.mp hj2 with h | h
          · exact hj j o2 h e
          · subst h
            rw [ho] at e
            cases e
            exact hg
      · rintro σ H2 ⟨⟨v5, v6, rfl⟩, s2, hj⟩
        have hall : ∀ o ∈ its, inS lo hi o = true := fun o ho => by
          obtain ⟨j, hj2, e⟩ := List.mem_iff_getElem.mp ho
          exact hj j o (by rw [len_p hits]; exact hj2) (by rw [List.getElem?_eq_getElem hj2, e])
        have sA := s1.trans s2
        have selfA := s2 _ _ self1
        have hzA : SqL K H2 sa zs ∨ SqT K H2 sa zs := hz.imp (fun h => h.ext sA) (fun h => h.ext sA)
        refine ⟨_, rfl, _, rfl, a, C, dx, [], rfl, selfA, T.cl, T.nL, by show 0 < 1000; decide, ?_⟩
        refine ⟨_, rfl, _, rfl, a, C, dx, _, rfl, upd_same, T.cl, T.nH, by show 1 < 1000; decide, ?_⟩
        rw [upd_upd]
        have hzB := sq_ins (o := .ins C dx (putF "high" (.int hi) (putF "low" (.int lo) []))) hzA selfA
        have hk : ∀ p xs, H p = some (.tup xs) → (upd H2 a (.ins C dx (putF "high" (.int hi) (putF "low" (.int lo) [])))) p = some (.tup xs) := fun p xs e => (upd_ne (ne_of (sA _ _ e) selfA (fun z => nomatch z))).trans (sA _ _ e)
        have ofB : Off a H (upd H2 a (.ins C dx (putF "high" (.int hi) (putF "low" (.int lo) [])))) := fun b o n e => (upd_ne n).trans (sA _ _ e)
        have selfB : (upd H2 a (.ins C dx (putF "high" (.int hi) (putF "low" (.int lo) [])))) a = some (.ins C dx (putF "high" (.int hi) (putF "low" (.int lo) []))) := upd_same
        revert hzB hk ofB selfB
        generalize upd H2 a (.ins C dx (putF "high" (.int hi) (putF "low" (.int lo) []))) = H3
        intro hzB hk ofB selfB
        obtain ⟨r1, r2⟩ := its_k hk hits hall
        refine ⟨_, rfl, sa, zs, rfl, hzB, pairs_mk r1, by omega, fun ys c js H4 hp hw s4 hc hpr => ?_⟩
        rw [r2] at hp
        have nca : c ≠ a := fun z => by rw [z, s4 _ _ selfB] at hc; cases hc
        refine ⟨_, rfl, a, C, dx, _, rfl, s4 _ _ selfB, T.cl, T.nS, by show 2 < 1000; decide, ?_⟩
        refine ⟨_, rfl, _, rfl, a, C, dx, _, rfl, upd_same, T.cl, T.nN, by show 3 < 1000; decide, ?_⟩
        rw [upd_upd]
        exact qy its rfl hall ys c js _ hp hw (fun b o n e => (upd_ne n).trans (s4 _ _ (ofB b o n e))) upd_same ((upd_ne nca).trans hc) (L2.Paired.mapP hpr fun r q e => (upd_ne (ne_of e (s4 _ _ selfB) (fun z => nomatch z))).trans e)
end
end K48

/-! bool(a tuple) -/
namespace So
open PySem PySem.Spec PyProof.Rows L2
section
variable {X : Cx}
theorem call_boolT : CallR X (.type "bool") (fun xs H Q => ∃ (a : Addr) (zs : List V), xs = [.ref a] ∧ SqT X.K H a zs ∧ Q (.bl (!zs.isEmpty)) H) := by
  intro pins s σ H xs us Q I r h
  obtain ⟨a, zs, rfl, hq, q⟩ := h
  rw [Vals.ref1 r]
  obtain ⟨its, rv, pl, hz⟩ := I.tuple hq
  have hl := line63
  have hlen := rv.length
  have tr : ∀ (R : Bool → Shared → Prop), (∀ b s' H', Inv X pins σ H' s' → Q (.bl b) H' → R b s') → wpAny (model X.prog X.w) X.A.in1.in1 (truthy (.ref a)) R X.xe s := fun R hR =>
    truthy_tuple pl (by simp only [List.size_toArray]; omega) (hR _ _ H (I.tok _) (by rw [isEmpty_of rv]; exact q))
  refine callType_codes (Q₁ := fun ob s1 => ∃ b H', ob = .bool b ∧ Inv X pins σ H' s1 ∧ Q (.bl b) H') PySem.F.called_bool (PySem.F.typeCall_bool_1 _) PySem.F.entry_object_init (codeAny_call_builtin PySem.F.called_bool.plain F.entry_bool_new (wpAny_of_eq (PySem.F.newCall_bool_1 _) ?_)) fun ob s1 hq => ?_
  · have f1 := PySem.F.conv_sub_bool
    refine wpAny_mono (Q := fun fin s' => ∃ b H', fin = .done (.ret (.bool b)) ∧ Inv X pins σ H' s' ∧ Q (.bl b) H') ?_ (fun fin s' z => ?_) fun _ _ z => z
    · unfold Builtin.«bool.__new__»
      repeat (any_goals (first | assumption | (with_reducible refine tr _ fun b s' H' I' q' => ?_) | wp_step))
      exact ⟨_, _, rfl, I', q'⟩
    · obtain ⟨b, H', rfl, I', q'⟩ := z
      exact ⟨b, H', rfl, I', q'⟩
  · obtain ⟨b, H', rfl, I', q'⟩ := hq
    refine ⟨rfl, PySem.F.args_object_init_2 _ _, ?_⟩
    exact object_init_meets PySem.F.called_bool.init.lookup PySem.F.called_bool.made PySem.F.newNe_bool X.prog X.w X.A.in1 _ s1 ⟨rfl, rfl, .bl b, H', I', rfl, q'⟩
end
end So

namespace K48
open PySem PySem.Spec PyProof.Rows L2 So
abbrev sLeast : Stmt := inClass (topS 13) 2
abbrev sHas : Stmt := inClass (topS 13) 3
abbrev sBool : Stmt := inClass (topS 13) 4
theorem scLeast : FnScope ["self"] ["self"] (defScope sLeast) := ⟨rfl, rfl, rfl, by decide +kernel, rfl, by decide +kernel, by decide +kernel⟩
abbrev hasN : List Str := ["self", "turn", "low", "high"]
theorem scHas : FnScope hasN ["self", "turn"] (defScope sHas) := ⟨rfl, rfl, rfl, by decide +kernel, rfl, by decide +kernel, by decide +kernel⟩
theorem scBool : FnScope ["self"] ["self"] (defScope sBool) := ⟨rfl, rfl, rfl, by decide +kernel, rfl, by decide +kernel, by decide +kernel⟩
section
variable {P : Program} {w : World} {K : PySem.W.Frag} {mg : Str → Option Value} {base : Heap}
theorem over2 {D : Addr} {H1 H : Hp} {o : HO} (s : Same H1 H) (hD : H1 D = none) : Same H1 (upd H D o) := fun b u e => by
  rw [upd_ne (ne_of_none e hD)]
  exact s _ _ e
theorem prl_len {H : Hp} {js : List Addr} {acc : List Str2} (h : PrL H js acc) : js.length = acc.length := len_p h
theorem prl_emp {H : Hp} {js : List Addr} {acc : List Str2} (h : PrL H js acc) : (js.map V.ref).isEmpty = acc.isEmpty := by
  cases h <;> rfl
def leastV : List Str2 → V
  | [] => .non
  | p :: _ => .int p.1
def spLeast (C : Addr) : Sp := fun vs H Q _ => ∃ (a : Addr) (f l : Int) (acc : List Str2) (n : V), vs = [.ref a] ∧ TrAt C H a f l acc n ∧ Q (leastV acc) H
theorem ok_least {C f : Addr} {fd : FuncData} (F : Fun K "least" "Turns.least" sLeast f fd) (T : Trn K mg C) : FnOk P w K mg base CX0 1 f fd ["self"] (spLeast C) := by
  refine F.ok scLeast (fun vs H Q E h => ?_) (fun cdv A outer s H vs Q E hr h => ?_)
  · obtain ⟨_, _, _, _, _, rfl, _⟩ := h
    rfl
  · obtain ⟨a, lo, hi, acc, n, rfl, hT, q⟩ := h
    obtain ⟨dx, c, js, h1, h2, h3⟩ := hT
    refine ⟨_, pss_one (ps_ret (pe_ifExp (pt_truth (pe_fld (pv 0) rfl) (fun _ => rfl)) (pe_ix ix_tup (pe_ix ix_tup (pe_fld (pv 0) rfl) pe_int (fun _ _ => rfl)) pe_int (fun _ _ => rfl)) pe_non)), ?_⟩
    refine ⟨_, rfl, a, C, dx, _, _, rfl, h1, T.cl, T.nS, rfl, _, .inr (.inl ⟨_, SqT.of h2, rfl⟩), ?_⟩
    rw [prl_emp h3]
    cases h3 with
    | nil => exact iteF q
    | cons h t =>
      exact iteT ⟨_, rfl, a, C, dx, _, _, rfl, h1, T.cl, T.nS, rfl, c, _, _, _, rfl, rfl, SqT.of h2, atI_nat (j := 0) rfl, _, _, _, _, rfl, rfl, SqT.of h, atI_nat (j := 0) rfl, q⟩
def spBool (C : Addr) : Sp := fun vs H Q _ => ∃ (a : Addr) (f l : Int) (acc : List Str2) (n : Bool), vs = [.ref a] ∧ TrAt C H a f l acc (.bl n) ∧ Q (.bl (!acc.isEmpty || n)) H
theorem ok_bool {C f : Addr} {fd : FuncData} (F : Fun K "__bool__" "Turns.__bool__" sBool f fd) (T : Trn K mg C) (W : Words K mg) : FnOk P w K mg base CX0 1 f fd ["self"] (spBool C) := by
  refine F.ok scBool (fun vs H Q E h => ?_) (fun cdv A outer s H vs Q E hr h => ?_)
  · obtain ⟨_, _, _, _, _, rfl, _⟩ := h
    rfl
  · obtain ⟨a, lo, hi, acc, n, rfl, hT, q⟩ := h
    obtain ⟨dx, c, js, h1, h2, h3⟩ := hT
    refine ⟨_, pss_one (ps_ret (pe_callTy (So.CallR.or call_boolT call_bool1) (by rfl) W.bool (by decide +kernel) (pa_cons (pe_orT (pe_fld (pv 0) rfl) (pe_one (pe_fld (pv 0) rfl))) pa_nil))), ?_⟩
    refine ⟨_, rfl, a, C, dx, _, _, rfl, h1, T.cl, T.nS, rfl, _, .inr (.inl ⟨_, SqT.of h2, rfl⟩), ?_⟩
    rw [prl_emp h3]
    cases e : acc.isEmpty with
    | true =>
      rw [e] at q
      exact iteF ⟨_, rfl, a, C, dx, _, _, rfl, h1, T.cl, T.nN, rfl, .inr (.inr ⟨_, rfl, q⟩)⟩
    | false =>
      rw [e] at q
      refine iteT (.inl ⟨c, _, rfl, SqT.of h2, ?_⟩)
      rw [prl_emp h3, e]
      exact q
/-- whether a value is in -/
def inT (acc : List Str2) (n : Bool) : V → Bool
  | .non => n
  | .int i => gMom (.int i) && (acc.map fun p => decide (p.1 ≤ i) && decide (i ≤ p.2)).any id
  | _ => false
def spHas (C : Addr) : Sp := fun vs H Q _ => ∃ (a : Addr) (f l : Int) (acc : List Str2) (n : Bool) (y : V) (T : String), vs = [.ref a, y] ∧ TrAt C H a f l acc (.bl n) ∧ acc.length ≤ 1000 ∧ Gv H y T ∧ ∀ H', Same H H' → Q (.bl (inT acc n y)) H'
theorem ok_has {C f fM : Addr} {fd fdM : FuncData} (F : Fun K "__contains__" "Turns.__contains__" sHas f fd) (T : Trn K mg C) (W : Words K mg) (ma : mg "any" = none) (FM : Fun K "is_moment" "is_moment" sMoment fM fdM) (bM : Binds K fdM ["value"] []) (gM : mg "is_moment" = some (.ref fM)) (GM : FnOk P w K mg base CX0 2 fM fdM ["value"] spMoment) :
    FnOk P w K mg base CX0 3 f fd ["self", "turn"] (spHas C) := by
  refine F.ok scHas (fun vs H Q E h => ?_) (fun cdv A outer s H vs Q E hr h => ?_)
  · obtain ⟨_, _, _, _, _, _, _, rfl, _⟩ := h
    rfl
  · obtain ⟨a, lo, hi, acc, n, y, T0, rfl, hT, hl, hy, q⟩ := h
    obtain ⟨dx, c, js, h1, h2, h3⟩ := hT
    refine ⟨_, pss_cons (ps_if (pt_cmpR op_isN (pv 1) pe_non (nomark _)) (pss_one (ps_ret (pe_fld (pv 0) rfl))) pss_nil)
      (pss_one (ps_ret (pe_and (pe_call GM hr (by rfl) gM FM.kp bM .nil pass0 (pa_cons (pv 1) pa_nil)) (pe_one (pe_callB (cr_any rfl) (by rfl) ma (by decide +kernel) (pa_cons
        (pe_lc (own := [("low", 2), ("high", 3)]) (g := gTup K 2 (gCons (gName 2) (gCons (gName 3) gNil))) (tt := tYes) rfl scHas.nd (pi_tup (pe_fld (pv 0) rfl)) (blkOk_by (N := hasN) (sc := defScope sHas) (by decide +kernel))
          (fun _ _ _ _ _ => pg_tup rfl (pgs_cons (pg_name (i := 2) scHas.nd rfl (Or.inl rfl)) (pgs_cons (pg_name (i := 3) scHas.nd rfl (Or.inl rfl)) pgs_nil))) (fun _ _ _ _ _ => pts_nil)
          (fun _ _ _ _ _ => pe_chain op_le op_le (pv 2) (pv 1) (pv 3))) pa_nil)))))), ?_⟩
    refine ⟨_, rfl, rfl, _, rfl, ite2 (fun e => ?_) (fun e => ?_)⟩
    · have e : y = .non := of_decide_eq_true e
      subst e
      exact ⟨_, rfl, a, C, dx, _, _, rfl, h1, T.cl, T.nN, rfl, q H (Same.refl H)⟩
    · refine ⟨_, rfl, y, T0, rfl, hy, _, rfl, ?_⟩
      have no : gMom y = false → inT acc n y = false := fun g => by
        cases y with
        | non => exact absurd (decide_eq_true rfl) e
        | int i => show (gMom (.int i) && _) = false; rw [g]; rfl
        | _ => rfl
      cases g : gMom y with
      | false =>
        refine iteF ?_
        have := q H (Same.refl H)
        rw [no g] at this
        exact this
      | true =>
        obtain ⟨m, rfl⟩ : ∃ m, y = .int m := by
          cases y with
          | int m => exact ⟨m, rfl⟩
          | _ => cases g
        refine iteT ⟨_, rfl, a, C, dx, _, _, rfl, h1, T.cl, T.nS, rfl, c, rfl, ⟨_, SqT.of h2⟩, fun D hD => ?_⟩
        let bf : Str2 → Bool := fun p => decide (p.1 ≤ m) && decide (m ≤ p.2)
        have hjl : js.length = acc.length := prl_len h3
        refine lc_it walk_tup (fun k H' => Same H H' ∧ H' D = some (.lst (((acc.take k).map bf).map V.bl))) ⟨over2 (Same.refl H) hD, upd_same⟩ (fun _ _ _ y => SqT.of (y.1 _ _ h2)) ?_ ?_
        · rintro k x H2 H3 hk ⟨s2, hDk⟩ ⟨rfl, hx⟩
          rw [List.getElem?_map] at hx
          obtain ⟨t, ht, rfl⟩ : ∃ t, js[k]? = some t ∧ x = .ref t := by
            cases e : js[k]? with
            | none => rw [e] at hx; cases hx
            | some t => rw [e] at hx; exact ⟨t, rfl, (Option.some.inj hx).symm⟩
          obtain ⟨p, hp, hpt⟩ := L2.paired_get h3 ht
          have hlen : ((List.map V.bl (List.map bf (acc.take k))).length) < sizeLine := by
            rw [List.length_map, List.length_map, List.length_take]
            have := sizeLine_eq
            omega
          have et : acc.take (k + 1) = acc.take k ++ [p] := by rw [List.take_add_one, hp]; rfl
          refine ⟨t, _, rfl, SqT.of (s2 _ _ hpt), rfl, _, _, rfl, _, _, rfl, rfl, rfl, ?_⟩
          refine ⟨_, rfl, _, rfl, _, _, rfl, rfl, _, rfl, ite2 (fun c1 => ?_) (fun c1 => ?_)⟩
          · refine ⟨_, rfl, _, _, rfl, rfl, _, hDk, hlen, over2 s2 hD, ?_⟩
            have eb : bf p = decide (m ≤ p.2) := by show (decide (p.1 ≤ m) && _) = _; rw [c1]; rfl
            rw [et, List.map_append, List.map_append]
            show _ = some (HO.lst (_ ++ [V.bl (bf p)]))
            rw [eb]
            exact upd_same
          · refine ⟨_, hDk, hlen, over2 s2 hD, ?_⟩
            have eb : bf p = false := by show (decide (p.1 ≤ m) && _) = _; rw [Bool.eq_false_iff.mpr c1]; rfl
            rw [et, List.map_append, List.map_append]
            show _ = some (HO.lst (_ ++ [V.bl (bf p)]))
            rw [eb]
            exact upd_same
        · rintro H2 ⟨s2, hDk⟩
          have ek : acc.take (js.map V.ref).length = acc := by
            rw [List.length_map, hjl]
            exact List.take_length
          rw [ek] at hDk
          refine ⟨D, _, rfl, SqL.of hDk, ?_⟩
          have := q H2 s2
          have e2 : inT acc n (.int m) = ((acc.map bf).any id) := by
            show (gMom (.int m) && _) = _
            rw [g, Bool.true_and]
          rw [e2] at this
          exact this
end
end K48

namespace K48
open PySem PySem.Spec PyProof.Rows L2 So
abbrev sStr : Stmt := inClass (topS 13) 10
abbrev strN : List Str := ["self", "words", "low", "high"]
theorem scStr : FnScope strN ["self"] (defScope sStr) := ⟨rfl, rfl, rfl, by decide +kernel, rfl, by decide +kernel, by decide +kernel⟩
section
variable {P : Program} {w : World} {K : PySem.W.Frag} {mg : Str → Option Value} {base : Heap}
/-- how a stretch is told -/
def wordP (p : Str2) : Str := if p.1 = p.2 then Str.ofString (toString p.1) else Str.empty ++ Str.ofString (toString p.1) ++ (".." : Str) ++ Str.ofString (toString p.2)
def LogP (p : Str2) : Prop := p.1.natAbs.log2 < 1920 ∧ p.2.natAbs.log2 < 1920
theorem txt_len {i : Int} (h : i.natAbs.log2 < 1920) : (Str.ofString (toString i)).length ≤ 1921 := by
  rw [PyProof.Rows.ofString_length]
  exact int_text_length_le (k := 1920) (by decide) h
theorem app_len (a b : Str) : (a ++ b).length = a.length + b.length := PyProof.Rows.len_cat a b
theorem wordP_len {p : Str2} (h : LogP p) : (wordP p).length ≤ 3844 := by
  have h1 := txt_len h.1
  have h2 := txt_len h.2
  have h3 : ((".." : Str)).length = 2 := by decide
  have h4 : Str.empty.length = 0 := by decide
  unfold wordP
  split
  · omega
  · rw [app_len, app_len, app_len]
    omega
def spWord : Sp := fun vs H Q _ => ∃ p : Str2, vs = [.int p.1, .int p.2] ∧ LogP p ∧ Q (.str (wordP p)) H
theorem ok_word {f : Addr} {fd : FuncData} (F : Fun K "stretch_word" "stretch_word" sWord f fd) (W : Words K mg) : FnOk P w K mg base CX0 1 f fd ["low", "high"] spWord := by
  refine F.ok scWord (fun vs H Q E h => ?_) (fun cdv A outer s H vs Q E hr h => ?_)
  · obtain ⟨_, rfl, _⟩ := h
    rfl
  · obtain ⟨⟨lo, hi⟩, rfl, hl, q⟩ := h
    refine ⟨_, pss_one (ps_ret (pe_ifExp (pt_cmpR op_eq (pv 0) (pv 1) (nomark _)) (pe_callTy call_str_int (by rfl) W.str (by decide +kernel) (pa_cons (pv 0) pa_nil)) (pe_joined (.cons (pe_fmt (pv 0)) (.cons pe_str (.cons (pe_fmt (pv 1)) .nil)))))), ?_⟩
    have h1 : (Str.ofString (toString lo)).length ≤ 1921 := txt_len hl.1
    have h2 : (Str.ofString (toString hi)).length ≤ 1921 := txt_len hl.2
    have h3 : ((".." : Str)).length = 2 := by decide
    have h4 : Str.empty.length = 0 := by decide
    have hs := sizeLine_eq
    refine ⟨_, rfl, _, rfl, rfl, _, rfl, ite2 (fun e => ?_) (fun e => ?_)⟩
    · have e : lo = hi := by
        have := of_decide_eq_true e
        exact V.int.inj this
      have ew : wordP (lo, hi) = Str.ofString (toString lo) := if_pos e
      rw [ew] at q
      exact ⟨_, rfl, lo, rfl, hl.1, q⟩
    · have e : lo ≠ hi := fun z => e (decide_eq_true (by rw [z]))
      have ew : wordP (lo, hi) = Str.empty ++ Str.ofString (toString lo) ++ (".." : Str) ++ Str.ofString (toString hi) := if_neg e
      rw [ew] at q
      refine ⟨_, rfl, .inr ⟨lo, rfl, hl.1, _, rfl, ?_, _, rfl, ?_, _, rfl, .inr ⟨hi, rfl, hl.2, _, rfl, ?_, q⟩⟩⟩
      · have e1 := app_len Str.empty (Str.ofString (toString lo))
        show (Str.empty ++ Str.ofString (toString lo)).length ≤ _
        omega
      · have e1 := app_len Str.empty (Str.ofString (toString lo))
        have e2 := app_len (Str.empty ++ Str.ofString (toString lo)) ((".." : Str))
        show (Str.empty ++ Str.ofString (toString lo) ++ ((".." : Str))).length ≤ _
        omega
      · have e1 := app_len Str.empty (Str.ofString (toString lo))
        have e2 := app_len (Str.empty ++ Str.ofString (toString lo)) ((".." : Str))
        have e3 := app_len (Str.empty ++ Str.ofString (toString lo) ++ ((".." : Str))) (Str.ofString (toString hi))
        show (Str.empty ++ Str.ofString (toString lo) ++ ((".." : Str)) ++ Str.ofString (toString hi)).length ≤ _
        omega
/-- the words of turns -/
def wordsT (acc : List Str2) (n : Bool) : List Str := acc.map wordP ++ (if n = true then [("none" : Str)] else ([] : List Str))
def txtT (acc : List Str2) (n : Bool) : Str := Txt.join " " (if (wordsT acc n).isEmpty = true then [("nothing" : Str)] else wordsT acc n)
theorem sum_len : ∀ {l : List Str}, (∀ x ∈ l, x.length ≤ 3844) → (l.map (·.length)).sum ≤ l.length * 3844
  | [], _ => by simp
  | x :: l, h => by
    have h1 := h x List.mem_cons_self
    have h2 := sum_len (l := l) fun y hy => h y (List.mem_cons_of_mem _ hy)
    rw [List.map_cons, List.sum_cons, List.length_cons]
    omega
theorem words_small {acc : List Str2} {n : Bool} (h : ∀ p ∈ acc, LogP p) : ∀ x ∈ wordsT acc n, x.length ≤ 3844 := fun x hx => by
  rcases List.mem_append.mp hx with hx | hx
  · obtain ⟨p, hp, rfl⟩ := List.mem_map.mp hx
    exact wordP_len (h p hp)
  · cases n with
    | false => exact absurd hx List.not_mem_nil
    | true =>
      rcases List.mem_singleton.mp hx with rfl
      decide
theorem words_many {acc : List Str2} {n : Bool} : (wordsT acc n).length ≤ acc.length + 1 := by
  unfold wordsT
  rw [List.length_append, List.length_map]
  cases n <;> simp
def spStr (C : Addr) : Sp := fun vs H Q _ => ∃ (a : Addr) (f l : Int) (acc : List Str2) (n : Bool), vs = [.ref a] ∧ TrAt C H a f l acc (.bl n) ∧ acc.length ≤ 1000 ∧ (∀ p ∈ acc, LogP p) ∧ ∀ H', Same H H' → Q (.str (txtT acc n)) H'
theorem ok_str {C f fW : Addr} {fd fdW : FuncData} (F : Fun K "__str__" "Turns.__str__" sStr f fd) (T : Trn K mg C) (FW : Fun K "stretch_word" "stretch_word" sWord fW fdW) (bW : Binds K fdW ["low", "high"] []) (gW : mg "stretch_word" = some (.ref fW)) (GW : FnOk P w K mg base CX0 1 fW fdW ["low", "high"] spWord) :
    FnOk P w K mg base CX0 2 f fd ["self"] (spStr C) := by
  refine F.ok scStr (fun vs H Q E h => ?_) (fun cdv A outer s H vs Q E hr h => ?_)
  · obtain ⟨_, _, _, _, _, rfl, _⟩ := h
    rfl
  · obtain ⟨a, lo, hi, acc, n, rfl, hT, hl, hlog, q⟩ := h
    obtain ⟨dx, c, js, h1, h2, h3⟩ := hT
    refine ⟨_, pss_cons (ps_setLc (i := 1) (own := [("low", 2), ("high", 3)]) (g := gTup K 2 (gCons (gName 2) (gCons (gName 3) gNil))) (tt := tYes) rfl scStr.nd rfl rfl (sw_true rfl rfl rfl (by decide +kernel)) (pi_tup (pe_fld (pv 0) rfl)) (blkOk_by (N := strN) (sc := defScope sStr) (by decide +kernel))
          (fun _ _ _ _ _ => pg_tup rfl (pgs_cons (pg_name (i := 2) scStr.nd rfl (Or.inl rfl)) (pgs_cons (pg_name (i := 3) scStr.nd rfl (Or.inl rfl)) pgs_nil))) (fun _ _ _ _ _ => pts_nil)
          (fun _ _ _ _ _ => pe_call GW hr (by rfl) gW FW.kp bW .nil pass0 (pa_cons (pv 2) (pa_cons (pv 3) pa_nil))))
      (pss_cons (ps_if (pt_val (pe_fld (pv 0) rfl)) (pss_one (ps_expr (pe_bm PySem.F.plainAttrs_list PySem.F.slot_list_append PySem.F.type_list_append mt_append (pv 1) (pa_cons pe_str pa_nil)))) pss_nil)
      (pss_one (ps_ret (pe_join pe_str (pe_orT (pv 1) (pe_one (pe_lst (pa_cons pe_str pa_nil)))))))), ?_⟩
    refine ⟨_, rfl, a, C, dx, _, _, rfl, h1, T.cl, T.nS, rfl, c, rfl, ⟨_, SqT.of h2⟩, fun D hD => ?_⟩
    have hjl : js.length = acc.length := prl_len h3
    refine lc_it walk_tup (fun k H' => Same H H' ∧ H' D = some (.lst (((acc.take k).map wordP).map V.str))) ⟨over2 (Same.refl H) hD, upd_same⟩ (fun _ _ _ y => SqT.of (y.1 _ _ h2)) ?_ ?_
    · rintro k x H2 H3 hk ⟨s2, hDk⟩ ⟨rfl, hx⟩
      rw [List.getElem?_map] at hx
      obtain ⟨t, ht, rfl⟩ : ∃ t, js[k]? = some t ∧ x = .ref t := by
        cases e : js[k]? with
        | none => rw [e] at hx; cases hx
        | some t => rw [e] at hx; exact ⟨t, rfl, (Option.some.inj hx).symm⟩
      obtain ⟨p, hp, hpt⟩ := L2.paired_get h3 ht
      have hlen : ((List.map V.str (List.map wordP (acc.take k))).length) < sizeLine := by
        rw [List.length_map, List.length_map, List.length_take]
        have := sizeLine_eq
        omega
      have et : acc.take (k + 1) = acc.take k ++ [p] := by rw [List.take_add_one, hp]; rfl
      refine ⟨t, _, rfl, SqT.of (s2 _ _ hpt), rfl, _, _, rfl, _, _, rfl, rfl, rfl, ?_⟩
      refine ⟨_, rfl, _, rfl, p, rfl, hlog p (List.mem_of_getElem? hp), _, hDk, hlen, over2 s2 hD, ?_⟩
      rw [et, List.map_append, List.map_append]
      exact upd_same
    · rintro H2 ⟨s2, hDk⟩
      have ek : acc.take (js.map V.ref).length = acc := by
        rw [List.length_map, hjl]
        exact List.take_length
      rw [ek] at hDk
      refine ⟨_, rfl, a, C, dx, _, _, rfl, s2 _ _ h1, T.cl, T.nN, rfl, n, rfl, ?_⟩
      have e3 : ((" " : String) : Str).length = 1 := by decide
      have hm := words_many (acc := acc) (n := n)
      have hsm := sum_len (words_small (n := n) hlog)
      cases n with
      | true =>
        have ew : wordsT acc true = acc.map wordP ++ [("none" : Str)] := rfl
        refine iteT ⟨_, rfl, .inl ⟨rfl, _, SqL.of hDk⟩, D, _, _, rfl, rfl, hDk, ?_, ?_⟩
        · rw [List.length_map, List.length_map]
          have := sizeLine_eq
          omega
        have hD3 : upd H2 D (.lst ((acc.map wordP).map V.str ++ [.str "none"])) D = some (.lst ((wordsT acc true).map V.str)) := by
          rw [ew, List.map_append]
          exact upd_same
        refine ⟨⟨_, rfl⟩, _, rfl, true, .inl ⟨_, SqL.of hD3, ?_⟩, iteT ?_⟩
        · rw [ew]; simp
        have hne : ((wordsT acc true).isEmpty) = false := by rw [ew]; simp
        refine ⟨_, D, wordsT acc true, rfl, rfl, .inl (SqL.of hD3), ?_, ?_⟩
        · show _ + _ * ((" " : String) : Str).length ≤ 16777216
          rw [e3]
          omega
        · have := q (upd H2 D (.lst ((acc.map wordP).map V.str ++ [.str "none"]))) (over2 s2 hD)
          unfold txtT at this
          rw [hne] at this
          exact this
      | false =>
        have ew : wordsT acc false = acc.map wordP := List.append_nil _
        rw [← ew] at hDk
        refine iteF ⟨⟨_, rfl⟩, _, rfl, !(wordsT acc false).isEmpty, .inl ⟨_, SqL.of hDk, ?_⟩, ?_⟩
        · rw [List.isEmpty_map]
        cases hne : (wordsT acc false).isEmpty with
        | false =>
          refine iteT ⟨_, D, wordsT acc false, rfl, rfl, .inl (SqL.of hDk), ?_, ?_⟩
          · show _ + _ * ((" " : String) : Str).length ≤ 16777216
            rw [e3]
            omega
          · have := q _ s2
            unfold txtT at this
            rw [hne] at this
            exact this
        | true =>
          refine iteF ⟨by show 1 ≤ sizeLine; decide, fun p hp => ?_⟩
          refine ⟨_, p, [("nothing" : Str)], rfl, rfl, .inl (SqL.of upd_same), by decide, ?_⟩
          have := q (upd H2 p (.lst [.str "nothing"])) (s2.trans (same_upd0 hp))
          unfold txtT at this
          rw [hne] at this
          exact this
end
end K48

namespace K48
open PySem PySem.Spec PyProof.Rows L2 So
abbrev sEq : Stmt := inClass (topS 13) 9
abbrev sAll : Stmt := inClass (topS 13) 1
theorem scEq : FnScope ["self", "other"] ["self", "other"] (defScope sEq) := ⟨rfl, rfl, rfl, by decide +kernel, rfl, by decide +kernel, by decide +kernel⟩
theorem scAll : FnScope ["first", "last"] ["first", "last"] (defScope sAll) := ⟨rfl, rfl, rfl, by decide +kernel, rfl, by decide +kernel, by decide +kernel⟩
section
variable {P : Program} {w : World} {K : PySem.W.Frag} {mg : Str → Option Value} {base : Heap}
/-- a pair and turns as data -/
def dPr (p : Str2) : PyData := .tuple [.int p.1, .int p.2]
def dAcc (acc : List Str2) : PyData := .tuple (acc.map dPr)
theorem dp_acc {H : Hp} : ∀ {js : List Addr} {acc : List Str2}, PrL H js acc → DpAll K H (js.map V.ref) (acc.map dPr)
  | _, _, .nil => .nil
  | _, _, .cons h t => .cons (.tup (SqT.of h) (.cons (.int _) (.cons (.int _) .nil))) (dp_acc t)
theorem depth_acc : ∀ acc : List Str2, PyData.depthAll (acc.map dPr) ≤ 2
  | [] => by simp [PyData.depthAll]
  | p :: r => by
    have h := depth_acc r
    simp only [List.map_cons, PyData.depthAll, dPr, PyData.depth]
    omega
theorem lay_acc : ∀ acc : List Str2, PyData.canLayAll0 (acc.map dPr) = true
  | [] => by simp [PyData.canLayAll0]
  | p :: r => by
    have h := lay_acc r
    simp only [List.map_cons, PyData.canLayAll0, dPr, PyData.canLay0, h, Bool.and_self]
theorem shaped_acc (acc : List Str2) : SeqAt.shaped (dAcc acc) = true := by
  unfold SeqAt.shaped
  rw [Bool.and_eq_true]
  have hd := depth_acc acc
  refine ⟨?_, decide_eq_true ?_⟩
  · show PyData.canLay0 _ = true
    simp only [dAcc, PyData.canLay0]
    exact lay_acc acc
  · simp only [dAcc, PyData.depth]
    omega
theorem shaped_pr (p : Str2) : SeqAt.shaped (dPr p) = true := by
  unfold SeqAt.shaped dPr
  simp [PyData.canLay0, PyData.canLayAll0, PyData.depth, PyData.depthAll]
theorem eqv_pr (p q : Str2) : PyData.eqv (dPr p) (dPr q) = decide (p = q) := by
  obtain ⟨a, b⟩ := p
  obtain ⟨c, d⟩ := q
  unfold dPr
  simp only [PyData.eqv, PyData.eqvAll, Bool.and_true]
  by_cases h1 : a = c <;> by_cases h2 : b = d <;> simp [h1, h2]
theorem eqvAll_acc : ∀ acc acc' : List Str2, PyData.eqvAll (acc.map dPr) (acc'.map dPr) = decide (acc = acc')
  | [], [] => by simp [PyData.eqvAll]
  | [], _ :: _ => by simp [PyData.eqvAll]
  | _ :: _, [] => by simp [PyData.eqvAll]
  | p :: r, q :: t => by
    simp only [List.map_cons, PyData.eqvAll]
    rw [eqv_pr, eqvAll_acc r t]
    by_cases h1 : p = q <;> by_cases h2 : r = t <;> simp [h1, h2]
theorem eqv_acc (acc acc' : List Str2) : PyData.eqv (dAcc acc) (dAcc acc') = decide (acc = acc') := by
  unfold dAcc
  simp only [PyData.eqv]
  exact eqvAll_acc acc acc'
/-- isinstance(x, Turns) of a Turns -/
structure TrnI (K : PySem.W.Frag) (C : Addr) : Prop where
  ha : PySem.W.findIn K (.ref C) "__class__" = some (some (.builtin "object.__class__"))
  hn : PySem.W.specialIn K (.builtin "object.__class__") "__get__" = some (some (.builtin "getset_descriptor.__get__"))
  htk : PySem.W.takesIn K (.builtin "object.__class__") = some true
  hm : PySem.W.mroIn K C (.type "object") = some true
  me : PySem.W.kitOne K (.ref C) (.ref C) = some true
/-- == of two Turns -/
def spEq (C : Addr) : Sp := fun vs H Q _ => ∃ (a a' : Addr) (f l f' l' : Int) (acc acc' : List Str2) (n n' : Bool), vs = [.ref a, .ref a'] ∧ TrAt C H a f l acc (.bl n) ∧ TrAt C H a' f' l' acc' (.bl n') ∧ acc.length ≤ 1000 ∧ acc'.length ≤ 1000 ∧
  ∀ H', Same H H' → Q (.bl (decide (f = f' ∧ l = l' ∧ acc = acc' ∧ n = n'))) H'
theorem ok_eq {C f : Addr} {fd : FuncData} (F : Fun K "__eq__" "Turns.__eq__" sEq f fd) (T : Trn K mg C) (I : TrnI K C) (W : Words K mg) : FnOk P w K mg base CX0 1 f fd ["self", "other"] (spEq C) := by
  refine F.ok scEq (fun vs H Q E h => ?_) (fun cdv A outer s H vs Q E hr h => ?_)
  · obtain ⟨_, _, _, _, _, _, _, _, _, _, rfl, _⟩ := h
    rfl
  · obtain ⟨a, a', lo, hi, lo', hi', acc, acc', n, n', rfl, hT, hT', hl, hl', q⟩ := h
    obtain ⟨dx, c, js, h1, h2, h3⟩ := hT
    obtain ⟨dx', c', js', h1', h2', h3'⟩ := hT'
    refine ⟨_, pss_cons (ps_if (PW.pt (pw_or (pt_not (pt_val (pe_callB call_isi (by rfl) W.isi (by decide +kernel) (pa_cons (pv 1) (pa_cons (pe_glob (v := .ref C) rfl T.mgC rfl) pa_nil)))))
        (pw_or1 (pt_cmpR (op_neD hr.units) (pe_tup (pa_cons (pe_fld (pv 0) rfl) (pa_cons (pe_fld (pv 0) rfl) pa_nil))) (pe_tup (pa_cons (pe_fld (pv 1) rfl) (pa_cons (pe_fld (pv 1) rfl) pa_nil))) (nomark _))))) (pss_one (ps_ret pe_bl)) pss_nil)
      (pss_one (ps_ret (pe_and (pe_cmpR (op_eqD hr.units) (pe_fld (pv 0) rfl) (pe_fld (pv 1) rfl) (nomark _)) (pe_one (pe_cmpR op_eq (pe_fld (pv 0) rfl) (pe_fld (pv 1) rfl) (nomark _)))))), ?_⟩
    refine ⟨_, rfl, _, _, _, _, true, rfl, .own C, .base (.ins h1' T.cl I.ha I.hn I.htk I.hm), I.me, true, rfl, iteF ?_⟩
    refine ⟨_, rfl, a, C, dx, _, _, rfl, h1, T.cl, T.nL, rfl, _, rfl, a, C, dx, _, _, rfl, h1, T.cl, T.nH, rfl, by show 2 ≤ sizeLine; decide, fun p1 hp1 => ?_⟩
    have s1 := same_upd0 (o := .tup [.int lo, .int hi]) hp1
    have e1 : (upd H p1 (.tup [.int lo, .int hi])) p1 = some (.tup [.int lo, .int hi]) := upd_same
    revert s1 e1
    generalize upd H p1 (.tup [.int lo, .int hi]) = H1
    intro s1 e1
    refine ⟨_, rfl, a', C, dx', _, _, rfl, s1 _ _ h1', T.cl, T.nL, rfl, _, rfl, a', C, dx', _, _, rfl, s1 _ _ h1', T.cl, T.nH, rfl, by show 2 ≤ sizeLine; decide, fun p2 hp2 => ?_⟩
    have s2 := same_upd0 (o := .tup [.int lo', .int hi']) hp2
    have e2 : (upd H1 p2 (.tup [.int lo', .int hi'])) p2 = some (.tup [.int lo', .int hi']) := upd_same
    revert s2 e2
    generalize upd H1 p2 (.tup [.int lo', .int hi']) = H2
    intro s2 e2
    have s12 := s1.trans s2
    refine ⟨dPr (lo, hi), dPr (lo', hi'), .tup (SqT.of (s2 _ _ e1)) (.cons (.int _) (.cons (.int _) .nil)), .tup (SqT.of e2) (.cons (.int _) (.cons (.int _) .nil)), shaped_pr _, shaped_pr _, _, rfl, ?_⟩
    rw [eqv_pr]
    have q2 := q H2 s12
    refine ite2 (fun e => ?_) (fun e => ?_)
    · have en : ¬ ((lo, hi) = (lo', hi')) := fun z => by
        rw [decide_eq_true z] at e
        cases e
      rw [show decide (lo = lo' ∧ hi = hi' ∧ acc = acc' ∧ n = n') = false from decide_eq_false fun z => en (by rw [z.1, z.2.1])] at q2
      exact q2
    · have ey : (lo, hi) = (lo', hi') := by
        by_cases z : (lo, hi) = (lo', hi')
        · exact z
        · rw [decide_eq_false z] at e
          exact absurd rfl e
      injection ey with ey1 ey2
      refine ⟨_, rfl, a, C, dx, _, _, rfl, s12 _ _ h1, T.cl, T.nS, rfl, _, rfl, a', C, dx', _, _, rfl, s12 _ _ h1', T.cl, T.nS, rfl, ?_⟩
      refine ⟨dAcc acc, dAcc acc', .tup (SqT.of (s12 _ _ h2)) (dp_acc (L2.Paired.mapP h3 fun r p e => s12 _ _ e)), .tup (SqT.of (s12 _ _ h2')) (dp_acc (L2.Paired.mapP h3' fun r p e => s12 _ _ e)), shaped_acc _, shaped_acc _, _, rfl, ?_⟩
      rw [eqv_acc]
      by_cases ea : acc = acc'
      · rw [decide_eq_true ea]
        refine iteT ⟨_, rfl, a, C, dx, _, _, rfl, s12 _ _ h1, T.cl, T.nN, rfl, _, rfl, a', C, dx', _, _, rfl, s12 _ _ h1', T.cl, T.nN, rfl, ?_⟩
        have e2 : decide (lo = lo' ∧ hi = hi' ∧ acc = acc' ∧ n = n') = decide (V.bl n = V.bl n') := by
          simp [ey1, ey2, ea]
        rw [e2] at q2
        exact ⟨rfl, q2⟩
      · rw [decide_eq_false ea]
        refine iteF ?_
        rw [show decide (lo = lo' ∧ hi = hi' ∧ acc = acc' ∧ n = n') = false from decide_eq_false fun z => ea z.2.2.1] at q2
        exact q2
end
end K48

namespace K48
open PySem PySem.Spec PyProof.Rows L2 So
abbrev sSpan : Stmt := topS 18
theorem scSpan : FnScope ["_law_pen_here", "_law_low"] ["_law_pen_here"] (defScope sSpan) := ⟨rfl, rfl, rfl, by decide +kernel, rfl, by decide +kernel, by decide +kernel⟩
theorem offS' {p : Addr} {H H' : Hp} (s : Same H H') : Off p H H' := fun b o _ e => s b o e
theorem Pen.ne' {H : Hp} {p l q : Addr} {ns : List Int} {n : Nat} {g : Int} (h : Pen H p l ns n g) (hq : H q = none) : q ≠ p := fun z => by
  have := h.pen
  rw [← z, hq] at this
  cases this
section
variable {P : Program} {w : World} {K : PySem.W.Frag} {mg : Str → Option Value} {base : Heap}
/-- the first and the last moment of a life -/
def spSpan : Sp := fun vs H Q _ => ∃ (p l : Addr) (ns : List Int) (n : Nat) (g : Int), vs = [.ref p] ∧ Pen H p l ns n g ∧ n < 900000 ∧
  ∀ (lo hi : Int) (t : Addr) (n' : Nat) (g' : Int) (H' : Hp), 0 ≤ lo → lo ≤ hi → hi ≤ lo + 11 → hi ≤ 1000000000000000000000000000000 → n' ≤ n + 3 → Off p H H' → Pen H' p l ns n' g' → H' t = some (.tup [.int lo, .int hi]) → Q (.ref t) H'
theorem ok_span {f fD fP : Addr} {fd fdD fdP : FuncData} (F : Fun K "_law_span" "_law_span" sSpan f fd) (FP : Fun K "_law_pick" "_law_pick" sPick fP fdP) (bP : Binds K fdP ["_law_pen_here", "_law_some"] []) (gP : mg "_law_pick" = some (.ref fP))
    (GP : FnOk P w K mg base CX0 2 fP fdP ["_law_pen_here", "_law_some"] (spPick K)) (FD : Fun K "_law_draw" "_law_draw" sDraw fD fdD) (bD : Binds K fdD ["_law_pen_here", "_law_many"] []) (gD : mg "_law_draw" = some (.ref fD)) (GD : FnOk P w K mg base CX0 1 fD fdD ["_law_pen_here", "_law_many"] spDraw) :
    FnOk P w K mg base CX0 3 f fd ["_law_pen_here"] spSpan := by
  refine F.ok scSpan (fun vs H Q E h => ?_) (fun cdv A outer s H vs Q E hr h => ?_)
  · obtain ⟨_, _, _, _, _, rfl, _⟩ := h
    rfl
  · obtain ⟨p, l, ns, n, g, rfl, hp, hn, k⟩ := h
    have hr1 : Room 1 _ := hr.mono (by decide)
    refine ⟨_, pss_cons (ps_set (i := 1) scSpan.nd rfl (.inl rfl) (pe_call GP hr (by rfl) gP FP.kp bP .nil pass0 (pa_cons (pv 0) (pa_cons (pe_lst (pa_cons pe_int (pa_cons pe_int (pa_cons pe_int (pa_cons pe_int (pa_cons (pe_op op_sub (pe_op op_pow pe_int pe_int) pe_int) (pa_cons (pe_call GD hr1 (by rfl) gD FD.kp bD .nil pass0 (pa_cons (pv 0) (pa_cons (pe_op op_sub (pe_op op_pow pe_int pe_int) pe_int) pa_nil))) pa_nil))))))) pa_nil))))
      (pss_one (ps_ret (pe_tup (pa_cons (pv 1) (pa_cons (pe_op op_add (pv 1) (pe_call GP hr (by rfl) gP FP.kp bP .nil pass0 (pa_cons (pv 0) (pa_cons (pe_lst (pa_cons pe_int (pa_cons pe_int (pa_cons pe_int (pa_cons pe_int (pa_cons pe_int pa_nil)))))) pa_nil)))) pa_nil))))), ?_⟩
    refine ⟨_, rfl, _, _, rfl, rfl, ⟨by decide, by decide, by decide⟩, _, _, rfl, rfl, _, rfl, _, _, rfl, rfl, ⟨by decide, by decide, by decide⟩, _, _, rfl, rfl, p, l, ns, n, g, _, rfl, hp, by omega, by decide +kernel, by decide +kernel, fun e1 n2 g2 H3 he0 he1 hn2 off2 pen2 => ?_⟩
    refine ⟨by show 6 ≤ sizeLine; decide, fun q1 hq1 => ?_⟩
    refine ⟨p, l, ns, n2, g2, _, rfl, pen2.new hq1, by omega, .inl ⟨q1, _, rfl, pen2.ne' hq1, upd_same, (by show 0 < 6; decide), (by show 6 ≤ 1000; decide), fun v n3 g3 H4 hv hn3 off3 pen3 => ?_⟩⟩
    have offB := off2.trans ((offS' (same_upd0 hq1)).trans off3)
    obtain ⟨b, hb1, hb2, rfl⟩ : ∃ b : Int, 0 ≤ b ∧ b ≤ 999999999999999999999999999989 ∧ v = .int b := by
      have he1' : e1 < 999999999999999999999999999980 := he1
      simp only [List.mem_cons, List.not_mem_nil, or_false] at hv
      rcases hv with h | h | h | h | h | h <;> subst h
      · exact ⟨_, by decide, by decide, rfl⟩
      · exact ⟨_, by decide, by decide, rfl⟩
      · exact ⟨_, by decide, by decide, rfl⟩
      · exact ⟨_, by decide, by decide, rfl⟩
      · exact ⟨_, by decide +kernel, by decide +kernel, rfl⟩
      · exact ⟨e1, by omega, by omega, rfl⟩
    refine ⟨_, rfl, _, rfl, _, rfl, by show 5 ≤ sizeLine; decide, fun q2 hq2 => ?_⟩
    refine ⟨p, l, ns, n3, g3, _, rfl, pen3.new hq2, by omega, .inl ⟨q2, _, rfl, pen3.ne' hq2, upd_same, (by show 0 < 5; decide), (by show 5 ≤ 1000; decide), fun v n4 g4 H5 hv hn4 off4 pen4 => ?_⟩⟩
    obtain ⟨d, hd1, hd2, rfl⟩ : ∃ d : Int, 0 ≤ d ∧ d ≤ 11 ∧ v = .int d := by
      simp only [List.mem_cons, List.not_mem_nil, or_false] at hv
      rcases hv with h | h | h | h | h <;> subst h <;> exact ⟨_, by decide, by decide, rfl⟩
    refine ⟨_, _, rfl, rfl, by show 2 ≤ sizeLine; decide, fun t ht => ?_⟩
    exact k b (b + d) t n4 g4 _ hb1 (by omega) (by omega) (by omega) (by omega) (offB.trans ((offS' (same_upd0 hq2)).trans (off4.trans (offS' (same_upd0 ht))))) (pen4.new ht) upd_same
end
end K48

/-! list(range(a, b)) where the ints are beyond a machine word -/
namespace So
open PySem
section
variable {P : Program} {w : World} {A : Around} {E : Value → Shared → Prop} {s : Shared}
/-- the list at S grown by a great range -/
theorem ext_long {R : Result → Shared → Prop} {r S : Addr} {a b c : Int} {t u v : Tok} {n k0 : Nat} {z : Value} (hh : A.handled = none) (hr : IsRange s.heap r a b c t u v) (big : Builtin.Range.small a b c = false) (hn : Builtin.Range.rangeSize a b c = n) (hl : n ≤ 2 ^ 24)
    (hS : s.heap.get? S = some { cls := .type "list", data := .seq #[] k0 })
    (hR : ∀ h' tk acc k, (∀ y o, y ≠ S → s.heap.get? y = some o → h'.get? y = some o) → h'.get? S = some { cls := .type "list", dict := none, data := .seq acc k, slots := #[] } → ItemsOf (fun i x => ∃ t, x = .int (a + i * c) t) acc n → R (.ok (.ret z)) { s with heap := h', toks := tk }) :
    wpAny (model P w) A.in1 (Builtin.List.listExtendWith (.ref S) (.ref r) z) (fun fin s' => match fin with | .done f => R (.ok f) s' | .again d => d.quiet = true ∧ codeAny (model P w) A d R s') (fun e s' => R (.error e) s') s := by
  have ne : S ≠ r := fun e => by
    rw [e, hr] at hS
    simp at hS
  have lt : S < s.heap.objs.size := Heap.lt_size hS
  have nI : S ≠ s.heap.objs.size := Nat.ne_of_lt lt
  have nf : S ∉ [s.heap.objs.size] := fun hm => nI (List.mem_singleton.mp hm)
  have W := (Walks.longrange (prog := P) (w := w) (A := A.in1) hh s.heap.objs.size a c n).toS
  have go : ∀ (h : Heap) (k1 tk : Nat), IsLongIter h s.heap.objs.size (a + ((0 : Nat) : Int) * c) ((n : Int) - ((0 : Nat) : Int)) c → (∀ y o, y ≠ S → s.heap.get? y = some o → h.get? y = some o) →
      h.get? S = some { cls := .type "list", data := .seq #[] k1 } → codeAny (model P w) A (.builtin "list.extend.loop" ⟨[.ref S, .ref s.heap.objs.size, z], []⟩) R { s with heap := h, toks := tk } := by
    intro h k1 tk it hk h1
    refine codeAny_extend_loopS W (by rw [sizeLine_eq]; omega) S nf z n 0 _ #[] k1 rfl (Nat.zero_le _) it h1 (ItemsOf.nil _) fun s2 acc k mv h2 its => ?_
    rw [Moved.eq_with mv]
    refine hR s2.heap s2.toks acc k (fun y o hy e => mv.heap y o (fun m => ?_) (hk y o hy e)) h2 its
    rcases List.mem_cons.mp m with e2 | m
    · exact hy e2
    · rw [List.mem_singleton.mp m] at e
      exact absurd (Heap.lt_size e) (Nat.lt_irrefl _)
  unfold Builtin.List.listExtendWith
  refine wpAny_bind (wpAny_typeOf (T := "range") ⟨_, hr, rfl⟩ ?_)
  have e1 : Builtin.List.listSameRef (.ref S) (.ref r) = false := by simp [Builtin.List.listSameRef, ne]
  have e2 : (Value.type "range" == .type "list") = false := by decide
  have e3 : (Value.type "range" == .type "tuple") = false := by decide
  simp only [e1, e2, e3, Bool.or_false, Bool.false_eq_true, if_false]
  refine wpAny_bind (wpAny_pyIter_longrange hr big ?_)
  refine wpAny_bind (wpAny_holding (wpAny_hint_range (n := n) (Heap.get?_push_of_some _ hr) hn hl ?_))
  have it1 : IsLongIter (s.heap.push { cls := .type "longrange_iterator", data := .fields #[rawInt a, rawInt (Builtin.Range.rangeSize a b c), rawInt c] }) s.heap.objs.size (a + ((0 : Nat) : Int) * c) ((n : Int) - ((0 : Nat) : Int)) c := by
    show IsLongIter _ _ _ _ _
    rw [hn]
    simpa using Heap.get?_push_size _ rfl
  have k1 := Heap.get?_push_of_some { cls := .type "longrange_iterator", data := .fields #[rawInt a, rawInt (Builtin.Range.rangeSize a b c), rawInt c] } hS
  refine wpAny_ite_split (fun _ => ?_) fun _ => wpAny_pure ⟨plainId_quiet F.plain_extend_loop _, go _ k0 _ it1 (fun y o _ e => Heap.get?_push_of_some _ e) k1⟩
  refine wpAny_bind (wpAny_rule (wpAny_bind ?_))
  show wpAny _ _ (updateSeq S (·.push .none) >>= fun _ => updateSeq S (·.pop)) _ _ _
  refine wpAny_bind (wpAny_updateSeq k1 rfl ?_)
  have k2 := Heap.get?_update_self (Obj.mapSeq (·.push Value.none)) k1 rfl
  refine wpAny_updateSeq (hz := by seq_fits) k2 rfl ?_
  have k3 := Heap.get?_update_self (Obj.mapSeq (·.pop)) k2 rfl
  refine wpAny_pure ⟨plainId_quiet F.plain_extend_loop _, go _ _ _ ?_ (fun y o hy e => ?_) k3⟩
  · exact (Heap.get?_update_other _ _ nI).trans ((Heap.get?_update_other _ _ nI).trans it1)
  · exact (Heap.get?_update_other _ _ (Ne.symm hy)).trans ((Heap.get?_update_other _ _ (Ne.symm hy)).trans (Heap.get?_push_of_some _ e))
/-- list(a great range) -/
theorem list_long {Q : Value → Shared → Prop} {r : Addr} {a b c : Int} {t u v : Tok} {n : Nat} (hh : A.handled = none) (hr : IsRange s.heap r a b c t u v) (big : Builtin.Range.small a b c = false) (hn : Builtin.Range.rangeSize a b c = n) (hl : n ≤ 2 ^ 24)
    (hQ : ∀ h' tk acc k, (∀ y o, s.heap.get? y = some o → h'.get? y = some o) → h'.get? s.heap.objs.size = some { cls := .type "list", dict := none, data := .seq acc k, slots := #[] } → ItemsOf (fun i x => ∃ t, x = .int (a + i * c) t) acc n → Q (.ref s.heap.objs.size) { s with heap := h', toks := tk }) :
    wpAny (model P w) A (call (.type "list") [.ref r]) Q E s := by
  refine callType_codes (Q₁ := fun x s1 => x = .ref s.heap.objs.size ∧ s1 = { s with heap := s.heap.push { cls := .type "list", data := .seq #[] } }) F.called_list (F.typeCall_list_1 _) F.entry_list_init (code_list_new _ ⟨rfl, rfl⟩) fun x s1 h1 => ?_
  obtain ⟨rfl, rfl⟩ := h1
  have k1 : (s.heap.push { cls := .type "list", data := .seq #[] }).get? s.heap.objs.size = some { cls := .type "list", data := .seq #[] } := Heap.get?_push_size _ rfl
  have hr1 : IsRange (s.heap.push { cls := .type "list", data := .seq #[] }) r a b c t u v := Heap.get?_push_of_some _ hr
  refine ⟨⟨_, k1, rfl⟩, F.args_list_init_2 _ _, ?_⟩
  have ne : s.heap.objs.size ≠ r := fun e => absurd (Heap.lt_size hr) (by rw [e]; exact Nat.lt_irrefl _)
  show wpAny _ _ (do let old ← Builtin.List.listItems (.ref s.heap.objs.size); Builtin.List.listUpdate (.ref s.heap.objs.size) (fun _ => #[]); letGo old.toList.reverse; Builtin.List.listExtendWith (.ref s.heap.objs.size) (.ref r) .none) _ _ _
  refine wpAny_bind ?_
  unfold Builtin.List.listItems
  refine wpAny_bind (wpAny_seqItems k1 rfl (wpAny_pure ?_))
  show wpAny _ _ (updateSeq s.heap.objs.size (fun _ => #[]) >>= fun _ => letGo (#[] : Array Value).toList.reverse >>= fun _ => Builtin.List.listExtendWith (.ref s.heap.objs.size) (.ref r) .none) _ _ _
  refine wpAny_bind (wpAny_updateSeq k1 rfl ?_)
  have k2 := Heap.get?_update_self (Obj.mapSeq (fun _ => (#[] : Array Value))) k1 rfl
  have oth : ∀ y o, y ≠ s.heap.objs.size → (s.heap.push { cls := .type "list", data := .seq #[] }).get? y = some o → ((s.heap.push { cls := .type "list", data := .seq #[] }).update s.heap.objs.size (Obj.mapSeq (fun _ => (#[] : Array Value)))).get? y = some o :=
    fun y o hy e => (Heap.get?_update_other _ _ (Ne.symm hy)).trans e
  refine wpAny_bind (wpAny_letGo ?_)
  refine ext_long hh (oth r _ (Ne.symm ne) hr1) big hn hl k2 fun h' tk acc k hk h2 its => ?_
  exact ⟨rfl, hQ h' tk acc k (fun y o e => hk y o (Nat.ne_of_lt (Heap.lt_size e)) (oth y o (Nat.ne_of_lt (Heap.lt_size e)) (Heap.get?_push_of_some _ e))) h2 its⟩
end
end So

/-! range(a, b) of ints of any size: walked by for and by a comprehension, list of it -/
namespace So
open PySem PySem.Spec PyProof.Rows L2
theorem turn_long {P : Program} {w : World} {K : PySem.W.Frag} {tg : Expr} (it : Addr) (lo : Int) (n : Nat) : Turn P w K tg (Itr lo n) [it] it (fun i h => IsLongIter h it (lo + (i : Nat) * 1) ((n : Int) - (i : Nat)) 1) where
  mem := by simp
  obj := fun i h st b hb => by
    obtain rfl : b = it := by simpa using hb
    exact ⟨_, st, fun v z => by cases (show Data.fields _ = Data.cell v from z)⟩
  keep := fun i h h' st k => k it (by simp) _ st
  item := by
    intro X hP hw hK hc i pins s σ H E I hf st hg
    subst hP hw hK
    obtain ⟨f0, f1, f2, f3, f4, f5⟩ := hf it (by simp)
    refine (Walks.longrange (prog := X.prog) (w := X.w) (I.ok.hd hc) it lo 1 n).item i s _ _ hg st fun v h' tk hv st2 kk => ?_
    obtain ⟨t, rfl⟩ := hv
    have I1 : Inv X pins σ H { s with heap := h', toks := tk } := I.turned (fun b o hb e => kk b o (by simpa using hb) e) f0 f1 f3 f4 f5
    exact ⟨_, rfl, go_of (s := { s with heap := h', toks := tk }) (n := "longrange_iterator") st2 rfl rfl (by decide) ⟨.int (lo + i), H, I1, ⟨t, by rw [Int.mul_one]⟩, ⟨rfl, rfl⟩, st2, fun b hb => (hf b hb).1⟩⟩
  done := by
    intro X hP hw hK hc i pins s σ H E I hf st hg
    subst hP hw hK
    obtain ⟨f0, f1, f2, f3, f4, f5⟩ := hf it (by simp)
    have hi : n ≤ i := hg
    exact wpAny_pyNext_long_end (I.ok.hd hc) st (by omega) fun h' eb => ⟨rfl, I.turned (t' := s.toks) (fun b o hb e => eb b o hb e) f0 f1 f3 f4 f5⟩
  self := fun _ _ _ _ _ st h => wpAny_pyIter_longiter st h
section
variable {X : Cx} {tg e : Expr} {te : L2.St → Hp → (Int → Int → Hp → Prop) → Prop}
/-- what a for over range(a, b) asks -/
def iRgW (te : L2.St → Hp → (Int → Int → Hp → Prop) → Prop) : TI := fun σ H R => te σ H fun a b H1 => R (Itr a (b - a).toNat) H1
theorem pi_rgW (he : PRg X e te) : PI X tg e (iRgW te) := by
  refine ⟨fun pins s σ H R I h => ?_⟩
  refine thn (he pins s σ H _ I h) fun x s1 ⟨r, a, b, t, u, v, H1, ex, hr, I1, q⟩ => ?_
  subst ex
  have e1 : a + ((0 : Nat) : Int) * 1 = a := by simp
  have e2 : (((b - a).toNat : Nat) : Int) - ((0 : Nat) : Int) = Builtin.Range.rangeSize a b 1 := by rw [rangeSize_nat]; simp
  have fp : ∀ (h' : Heap), h' = s1.heap → ∀ y ∈ [h'.objs.size], FpOk X pins H1 y := fun h' eh y hy => by
    rw [List.mem_singleton.mp hy, eh]
    exact I1.fpOk (Nat.le_refl _) (I1.hok.fresh (Nat.le_refl _))
  cases sm : Builtin.Range.small a b 1 with
  | true =>
    refine wpAny_pyIter_range hr sm ⟨s1.heap.objs.size, [s1.heap.objs.size], _, _, H1, rfl, I1.kept (t' := s1.toks) fun y o e => Heap.get?_push_of_some _ e, turn_range _ a (b - a).toNat, ?_, fp _ rfl, q⟩
    show IsRangeIter _ _ (a + ((0 : Nat) : Int) * 1) ((((b - a).toNat : Nat) : Int) - ((0 : Nat) : Int)) 1
    rw [e1, e2]
    exact Heap.get?_push_size _ rfl
  | false =>
    refine wpAny_pyIter_longrange hr sm ⟨s1.heap.objs.size, [s1.heap.objs.size], _, _, H1, rfl, I1.kept (t' := s1.toks) fun y o e => Heap.get?_push_of_some _ e, turn_long _ a (b - a).toNat, ?_, fp _ rfl, q⟩
    show IsLongIter _ _ (a + ((0 : Nat) : Int) * 1) ((((b - a).toNat : Nat) : Int) - ((0 : Nat) : Int)) 1
    rw [e1, e2]
    exact Heap.get?_push_size _ rfl
/-- list(range(a, b)) -/
def tLstRgW (te : L2.St → Hp → (Int → Int → Hp → Prop) → Prop) : TE := fun σ H Q => te σ H fun a b H1 => (b - a).toNat ≤ 2 ^ 24 ∧ ∀ q, H1 q = none → Q (.ref q) (upd H1 q (.lst (rgV a b)))
theorem pe_listRgW {p pos : Pos} (hc : X.calm = true) (hg : Gl X "list") (hm : X.mg "list" = none) (he : PRg X e te) (na : starEach [e] X.env = (false, eval e X.env) :: starEach [] X.env := by rfl) : PE X (.Call (.Name "list" p) [e] [] pos) (tLstRgW te) := by
  refine ⟨fun pins s σ H Q I h => ?_⟩
  refine Call_ (ld_blt I hg hm boot_list (PyProof.Rows.callWith_type1 (args_cons (thn (he pins s σ H _ I h) fun x s1 ⟨r, a, b, t, u, v, H1, ex, hr, I1, ok, q⟩ => args_nil ?_) na) na))
  subst ex
  have fin : ∀ h' tk acc k, (∀ y o, s1.heap.get? y = some o → h'.get? y = some o) → h'.get? s1.heap.objs.size = some { cls := .type "list", dict := none, data := .seq acc k, slots := #[] } → ItemsOf (fun i x => ∃ t, x = .int (a + i * 1) t) acc (b - a).toNat →
      EP X pins σ Q (.ref s1.heap.objs.size) { s1 with heap := h', toks := tk } := fun h' tk acc k hk e' hi => by
    refine ⟨.ref s1.heap.objs.size, upd H1 s1.heap.objs.size (.lst (rgV a b)), I1.laid hk (Nat.le_refl _) (show ObjOk X.prog X.w _ _ _ (.lst (rgV a b)) from ⟨?_, acc.toList, k, vals_rg hi, ?_⟩), rfl, q _ (I1.hok.fresh (Nat.le_refl _))⟩
    · rw [rgV_length, sizeLine_eq]
      omega
    · rw [Array.toArray_toList]
      exact e'
  cases sm : Builtin.Range.small a b 1 with
  | true => exact call_list_range (n := (b - a).toNat) (I1.ok.hd hc) hr sm (rangeSize_nat a b) ok fin
  | false => exact list_long (n := (b - a).toNat) (I1.ok.hd hc) hr sm (rangeSize_nat a b) ok fin
end
end So

/-! set(xs) of a list or a tuple of ints, so that sorted can walk it. -/
namespace So
open PySem PySem.Spec PyProof.Rows L2
/-- a set just made -/
abbrev bareSet (w : World) : Obj := { cls := .type "set", dict := none, data := .set #[] 0 (.fresh 0 0 (!w.params.followText "set-order")) }
section
variable {P : Program} {w : World} {A : Around} {E : Value → Shared → Prop} {s : Shared}
/-- what set(..) hands back -/
abbrev GotSet (w : World) (ns : List Int) (s : Shared) (h' : Heap) (c : Nat) : Prop :=
  SetR w h' s.heap.objs.size (fun j => decide (j ∈ ns)) c ∧ c ≤ ns.length ∧ ∀ b o, s.heap.get? b = some o → h'.get? b = some o
theorem set_of_list {l : Addr} {its : Array Value} (ns : List Int) {Q : Value → Shared → Prop} (hh : A.handled = none) (hl : s.heap.IsList l its) (hit : IntsAre its.toList ns) (hb : ns.length + 1 < scanBound)
    (q : ∀ h' tk c, GotSet w ns s h' c → Q (.ref s.heap.objs.size) { s with heap := h', toks := tk }) : wpAny (model P w) A (call (.type "set") [.ref l]) Q E s := by
  have sz : its.size = ns.length := by
    have e := hit.length
    rwa [Array.length_toList] at e
  obtain ⟨c, tl, mro⟩ := F.called_set.mro
  have mde := F.called_set.made
  have sbt := F.called_set.sub
  refine wpAny_call (codeAny_of_tree ?_)
  show wpAny _ _ (callAny (.type "set") _) _ _ _
  refine wpAny_pure ⟨Code.quiet_builtin _ (by decide +kernel), codeAny_builtin F.entry_type_call ?_⟩
  rw [Around.under_plain (weight_type_call_type "set" [.ref l] []) rfl]
  have k1 := F.called_set.notType
  have k2 := F.called_set.canCreate
  have k3 := F.typeCall_set_1 (.ref l)
  repeat (any_goals (first | assumption | wp_step))
  refine codeAny_mono (code_set_led1 (.ref l) (E := E) (Q₁ := fun ob s1 => ob = .ref s.heap.objs.size ∧ s1 = { s with heap := s.heap.push (bareSet w) }) ⟨rfl, rfl⟩) fun r s1 hr => ?_
  match r, hr with
  | .error e, hr => exact hr
  | .ok .next, hr => exact hr.elim
  | .ok .brk, hr => exact hr.elim
  | .ok .cont, hr => exact hr.elim
  | .ok (.ret ob), hr =>
    obtain ⟨rfl, rfl⟩ := hr
    generalize hH : s.heap.push (bareSet w) = g0
    have at0 : g0.get? s.heap.objs.size = some (bareSet w) := by rw [← hH]; exact Heap.get?_push_size _ rfl
    have up0 : ∀ b o, s.heap.get? b = some o → g0.get? b = some o := fun b o e => by rw [← hH]; exact Heap.get?_push_of_some _ e
    have z0 : g0.objs.size = s.heap.objs.size + 1 := by rw [← hH]; exact Heap.size_push ..
    have tS : Shared.TypeIs { s with heap := g0 } (.ref s.heap.objs.size) "set" := ⟨_, at0, rfl⟩
    have i1 := F.called_set.init.lookup
    have i2 := F.called_set.init.bind (.ref s.heap.objs.size)
    repeat (any_goals (first | assumption | wp_step))
    refine codeAny_mono (codeAny_call_builtin (R := wants (fun r s2 => r = .none ∧ ∃ h' tk c, s2 = { s with heap := h', toks := tk } ∧ GotSet w ns s h' c) E) F.called_set.init.plain F.entry_set_init (check_set_init_1 tS ?_)) fun r2 s2 hr2 => ?_
    · obtain ⟨ob, ho, hc, nl, hd⟩ := hl
      obtain ⟨cc, dd, da, sl⟩ := ob
      simp only at hc hd
      subst hc
      subst hd
      have ho1 := up0 _ _ ho
      have n1 := F.sub_list_set
      have n2 := F.sub_list_frozenset
      have n3 : (Value.type "list" == Value.type "dict") = false := by decide
      have il : g0.IsList l its := ⟨_, ho1, rfl, nl, rfl⟩
      unfold Builtin.«set.__init__» noKeywords Builtin.Frozenset.updateFrom
      generalize hit' : pyIter = pI
      wp_walk
      subst hit'
      refine wpAny_pyIter_list il (wpAny_bind (wpAny_runValue ?_))
      have ll : l < s.heap.objs.size := Heap.lt_size ho
      have nI : l ≠ g0.objs.size := by
        rw [z0]
        exact Nat.ne_of_lt (Nat.lt_succ_of_lt ll)
      have nS : s.heap.objs.size ∉ [g0.objs.size, l] := by
        intro z
        rcases List.mem_cons.mp z with z | z
        · rw [z0] at z
          exact Nat.ne_of_lt (Nat.lt_succ_self _) z
        · exact Nat.ne_of_gt ll (List.mem_singleton.mp z)
      have vals : ∀ (i : Nat) (v : Value), its[i]? = some v → ∃ k t, ns[i]? = some k ∧ v = .int k t := fun i v hv => by
        have hi : i < ns.length := by rw [← sz]; exact (Array.getElem?_eq_some_iff.mp hv).1
        obtain ⟨t, e⟩ := hit.int_at i v (by rw [Array.getElem?_toList]; exact hv)
        exact ⟨ns[i], t, List.getElem?_eq_getElem hi, by rw [e, List.getD_eq_getElem?_getD, List.getElem?_eq_getElem hi]; rfl⟩
      refine set_update_ints ((Walks.list (by simp [hh]) _ l nI its).toS) s.heap.objs.size nS ns sz hb vals (its.size - 0) 0 _ (by omega) (Nat.zero_le _) ⟨⟨_, Heap.get?_push_size _ rfl, rfl, rfl⟩, il.push _⟩
        ⟨0, Nat.le_refl 0, setR_new_at (Heap.get?_push_of_some _ at0)⟩ fun s' c' hm hc' hS' => ?_
      obtain ⟨h', g2, d', tk', os'⟩ := s'
      have eg : g2 = s.gens := hm.gens
      have ed : d' = s.drawn := hm.drawn
      have eo : os' = s.os := hm.os
      subst eg ed eo
      rw [sz] at hc'
      refine wpAny_pure (wpAny_pure ⟨rfl, h', tk', c', rfl, hS', hc', fun b o e => ?_⟩)
      have hb0 : b < s.heap.objs.size := Heap.lt_size e
      refine hm.heap b o (fun z => ?_) (Heap.get?_push_of_some _ (up0 _ _ e))
      rcases List.mem_cons.mp z with z | z
      · exact Nat.ne_of_lt hb0 z
      · rw [List.mem_singleton.mp z, z0] at hb0
        exact Nat.lt_irrefl _ (Nat.lt_of_succ_lt hb0)
    · match r2, hr2 with
      | .error e, hr2 => exact hr2
      | .ok .next, hr2 => exact hr2.elim
      | .ok .brk, hr2 => exact hr2.elim
      | .ok .cont, hr2 => exact hr2.elim
      | .ok (.ret r), hr2 =>
        obtain ⟨rfl, h', tk, c', rfl, g⟩ := hr2
        repeat (any_goals (first | assumption | wp_step))
        exact q _ _ _ g
end
/-- set(xs): ints, fewer than 64 -/
def rSetI (K : PySem.W.Frag) (w : World) : List V → Hp → VK → Prop := fun xs H Q => ∃ (l : Addr) (ns : List Int), xs = [.ref l] ∧ (SqL K H l (ns.map V.int) ∨ SqT K H l (ns.map V.int)) ∧ ns.length < 64 ∧
  ∀ p c, H p = none → c ≤ ns.length → Q (.ref p) (upd H p (SetO w p (fun k => decide (k ∈ ns)) c))
section
variable {X : Cx}
theorem cr_setI (hc : X.calm = true) : CallR X (.type "set") (rSetI X.K X.w) := by
  intro pins s σ H xs us Q I r h
  obtain ⟨l, ns, rfl, hs, hl, q⟩ := h
  rw [Vals.ref1 r]
  have fin : ∀ (h' : Heap) (tk c : Nat), GotSet X.w ns s h' c → EP X pins σ Q (.ref s.heap.objs.size) { s with heap := h', toks := tk } := fun h' tk c ⟨g1, g2, g3⟩ =>
    ⟨.ref s.heap.objs.size, _, I.laid (t' := tk) g3 (Nat.le_refl _) (setO_new g1), rfl, q _ c (I.hok.fresh (Nat.le_refl _)) g2⟩
  have hb : ns.length + 1 < scanBound := by
    unfold scanBound
    omega
  rcases hs with hs | hs
  · obtain ⟨its, rv, pl, _⟩ := I.list hs
    exact set_of_list ns (I.ok.hd hc) pl.isList (by simpa using ints_of_vals rv) hb fin
  · obtain ⟨its, rv, pl, _⟩ := I.tuple hs
    exact call_set_tupI ns (I.ok.hd hc) pl (by simpa using ints_of_vals rv) hb fun h' tk c g1 g2 g3 => fin h' tk c ⟨g1, g2, g3⟩
/-- sorted(set(xs)) -/
theorem pairwise_ext : ∀ {xs ys : List Int}, xs.Pairwise (· < ·) → ys.Pairwise (· < ·) → (∀ k, k ∈ xs ↔ k ∈ ys) → xs = ys
  | [], [], _, _, _ => rfl
  | [], y :: ys, _, _, h => absurd ((h y).mpr List.mem_cons_self) (by simp)
  | x :: xs, [], _, _, h => absurd ((h x).mp List.mem_cons_self) (by simp)
  | x :: xs, y :: ys, hx, hy, h => by
    rw [List.pairwise_cons] at hx hy
    have e : x = y := by
      rcases List.mem_cons.mp ((h x).mp List.mem_cons_self) with e | e
      · exact e
      · rcases List.mem_cons.mp ((h y).mpr List.mem_cons_self) with e2 | e2
        · exact e2.symm
        · have a := hy.1 x e
          have b := hx.1 y e2
          omega
    subst e
    congr 1
    refine pairwise_ext hx.2 hy.2 fun k => ⟨fun hk => ?_, fun hk => ?_⟩
    · rcases List.mem_cons.mp ((h k).mp (List.mem_cons_of_mem _ hk)) with e | e
      · subst e
        exact absurd (hx.1 _ hk) (by omega)
      · exact e
    · rcases List.mem_cons.mp ((h k).mpr (List.mem_cons_of_mem _ hk)) with e | e
      · subst e
        exact absurd (hy.1 _ hk) (by omega)
      · exact e
end
end So

namespace K48
open PySem PySem.Spec PyProof.Rows L2 So
abbrev sStre : Stmt := topS 19
abbrev sTicks : Stmt := topS 20
abbrev streN : List Str := ["_law_pen_here", "_law_low", "_law_high", "_law_found", "_law_turn", "_law_left"]
theorem scStre : FnScope streN ["_law_pen_here", "_law_low", "_law_high"] (defScope sStre) := ⟨rfl, rfl, rfl, by decide +kernel, rfl, by decide +kernel, by decide +kernel⟩
theorem scTicks : FnScope ["_law_some", "_law_found", "_law_left", "_law_right_here"] ["_law_some"] (defScope sTicks) := ⟨rfl, rfl, rfl, by decide +kernel, rfl, by decide +kernel, by decide +kernel⟩
theorem Off.at {p c : Addr} {H H1 : Hp} {o : HO} (a : Off p H H1) (h : H c = none) : Off p H (L2.upd H1 c o) := fun b u n e => by
  rw [upd_ne (ne_of_none e h)]
  exact a b u n e
theorem prl_same {H H' : Hp} {js : List Addr} {acc : List Str2} (h : PrL H js acc) (s : Same H H') : PrL H' js acc := L2.Paired.mapP h fun _ _ e => s _ _ e
theorem prl_off {p : Addr} {H H' : Hp} {js : List Addr} {acc : List Str2} {zs : List V} (h : PrL H js acc) (hp : H p = some (.lst zs)) (s : Off p H H') : PrL H' js acc := L2.Paired.mapP h fun r q e => s _ _ (ne_of e hp (fun z => nomatch z)) e
theorem prl_upd {c : Addr} {H : Hp} {js : List Addr} {acc : List Str2} {zs : List V} {o : HO} (h : PrL H js acc) (hc : H c = some (.lst zs)) : PrL (upd H c o) js acc := L2.Paired.mapP h fun r q e => (upd_ne (ne_of e hc (fun z => nomatch z))).trans e
theorem Pen.upd {H : Hp} {p l c : Addr} {ns : List Int} {n : Nat} {g : Int} {o : HO} (h : Pen H p l ns n g) (h1 : c ≠ p) (h2 : c ≠ l) : Pen (L2.upd H c o) p l ns n g := ⟨(upd_ne h1.symm).trans h.pen, (upd_ne h2.symm).trans h.cells, h.left⟩
theorem Pen.same' {H H' : Hp} {p l : Addr} {ns : List Int} {n : Nat} {g : Int} (h : Pen H p l ns n g) (s : Same H H') : Pen H' p l ns n g := ⟨s _ _ h.pen, s _ _ h.cells, h.left⟩
theorem Pen.nl {H : Hp} {p l q : Addr} {ns : List Int} {n : Nat} {g : Int} (h : Pen H p l ns n g) (hq : H q = none) : q ≠ l := (ne_of_none h.cells hq).symm
/-- a stretch that the law draws -/
def StOk (lo hi : Int) (q : Str2) : Prop := lo ≤ q.1 ∧ q.1 ≤ q.2 ∧ q.2 ≤ hi ∧ q.2 ≤ q.1 + 3
/-- what stands in list(range(a, b)) -/
def rgI (a b : Int) : List Int := (List.range (b - a).toNat).map fun i => a + (i : Nat)
theorem rgV_eq (a b : Int) : rgV a b = (rgI a b).map V.int := by
  unfold rgV rgI
  rw [List.map_map]
  rfl
theorem rgI_len (a b : Int) : (rgI a b).length = (b - a).toNat := by
  unfold rgI
  rw [List.length_map, List.length_range]
theorem mem_rgI {a b m : Int} : m ∈ rgI a b ↔ a ≤ m ∧ m < b := by
  unfold rgI
  rw [List.mem_map]
  constructor
  · rintro ⟨i, hi, rfl⟩
    rw [List.mem_range] at hi
    omega
  · rintro ⟨h1, h2⟩
    exact ⟨(m - a).toNat, List.mem_range.mpr (by omega), by omega⟩
section
variable {P : Program} {w : World} {K : PySem.W.Frag} {mg : Str → Option Value} {base : Heap}
def spStre : Sp := fun vs H Q _ => ∃ (p l : Addr) (ns : List Int) (n : Nat) (g lo hi : Int), vs = [.ref p, .int lo, .int hi] ∧ Pen H p l ns n g ∧ n < 900000 ∧ lo ≤ hi ∧ hi ≤ lo + 11 ∧
  ∀ (acc : List Str2) (c : Addr) (js : List Addr) (n' : Nat) (g' : Int) (H' : Hp), acc.length ≤ 4 → (∀ q ∈ acc, StOk lo hi q) → n' ≤ n + 9 → Off p H H' → Pen H' p l ns n' g' → H' c = some (.lst (js.map V.ref)) → c ≠ p → H c = none → PrL H' js acc → Q (.ref c) H'
theorem ok_stre {f fD : Addr} {fd fdD : FuncData} (F : Fun K "_law_stretches" "_law_stretches" sStre f fd) (mr : mg "range" = none) (mn : mg "min" = none) (FD : Fun K "_law_draw" "_law_draw" sDraw fD fdD) (bD : Binds K fdD ["_law_pen_here", "_law_many"] []) (gD : mg "_law_draw" = some (.ref fD)) (GD : FnOk P w K mg base CX0 1 fD fdD ["_law_pen_here", "_law_many"] spDraw) :
    FnOk P w K mg base CX0 2 f fd ["_law_pen_here", "_law_low", "_law_high"] spStre := by
  refine F.ok scStre (fun vs H Q E h => ?_) (fun cdv A outer s H vs Q E hr h => ?_)
  · obtain ⟨_, _, _, _, _, _, _, rfl, _⟩ := h
    rfl
  · obtain ⟨p, l, ns, n, g, lo, hi, rfl, hp, hn, h1, h2, k⟩ := h
    refine ⟨_, pss_cons (ps_set (i := 3) scStre.nd rfl (.inl rfl) (pe_lst pa_nil))
      (pss_cons (ps_for PassesOwn.never rfl (pi_range1 (by rfl) mr (pa_cons (pe_call GD hr (by rfl) gD FD.kp bD .nil pass0 (pa_cons (pv 0) (pa_cons pe_int pa_nil))) pa_nil)) (pg_name (i := 4) scStre.nd rfl (Or.inl rfl))
        (pss_cons (ps_set (i := 5) scStre.nd rfl (.inl rfl) (pe_op op_add (pv 1) (pe_call GD hr (by rfl) gD FD.kp bD .nil pass0 (pa_cons (pv 0) (pa_cons (pe_op op_add (pe_op op_sub (pv 2) (pv 1)) pe_int) pa_nil)))))
        (pss_one (ps_expr (pe_bm PySem.F.plainAttrs_list PySem.F.slot_list_append PySem.F.type_list_append mt_append (pv 3) (pa_cons (pe_tup (pa_cons (pv 5) (pa_cons (pe_op op_add (pv 5) (pe_call GD hr (by rfl) gD FD.kp bD .nil pass0 (pa_cons (pv 0) (pa_cons (pe_callB (call_min2 rfl) (by rfl) mn (by decide +kernel) (pa_cons pe_int (pa_cons (pe_op op_add (pe_op op_sub (pv 2) (pv 5)) pe_int) pa_nil))) pa_nil)))) pa_nil))) pa_nil))))))
      (pss_one (ps_ret (pv 3)))), ?_⟩
    refine ⟨by show 0 ≤ sizeLine; decide, fun c hc => ?_⟩
    have pen1 := hp.new (o := .lst []) hc
    have ncp := hp.ne' hc
    have ncl := hp.nl hc
    refine ⟨_, rfl, p, l, ns, n, g, _, rfl, pen1, by omega, by decide, by decide, fun d n1 g1 H1 hd0 hd5 hn1 off1 pen2 => ?_⟩
    have hc1 := off1 _ _ ncp (show (upd H c (.lst [])) c = some (.lst []) from upd_same)
    have offA : Off p H H1 := fun b o n e => off1 _ _ n ((upd_ne (ne_of_none e hc)).trans e)
    refine ⟨d, rfl, by omega, by omega, for_range (lo := 0) (n := d.toNat) (fun i σ H' => (∃ x4 x5, σ = [some (.ref p), some (.int lo), some (.int hi), some (.ref c), x4, x5]) ∧ ∃ (js : List Addr) (acc : List Str2) (n' : Nat) (g' : Int), H' c = some (.lst (js.map V.ref)) ∧ PrL H' js acc ∧ acc.length = i ∧ (∀ q ∈ acc, StOk lo hi q) ∧ n' ≤ n + 1 + 2 * i ∧ Pen H' p l ns n' g' ∧ Off p H H')
      ⟨⟨none, none, rfl⟩, [], [], n1, g1, hc1, .nil, rfl, (fun _ h => nomatch h), by omega, pen2, offA⟩ ?_ ?_⟩
    · rintro i σ H2 hi2 ⟨⟨x4, x5, rfl⟩, js, acc, n2, g2, hc2, hpr, hal, hok, hn2, pen3, off2⟩
      have hi4 : i < 5 := by omega
      refine ⟨_, rfl, _, rfl, _, rfl, _, rfl, _, _, rfl, rfl, _, _, rfl, rfl, p, l, ns, n2, g2, _, rfl, pen3, by omega, by omega, Nat.lt_of_le_of_lt (m := 12) (by omega) (by decide +kernel), fun e n3 g3 H3 he0 he1 hn3 off3 pen4 => ?_⟩
      have hc3 := off3 _ _ ncp hc2
      have hpr3 := prl_off hpr pen3.pen off3
      have offB := off2.trans off3
      refine ⟨_, _, rfl, rfl, ?_⟩
      refine ⟨_, rfl, .inl ⟨rfl, _, SqL.of hc3⟩, _, rfl, _, rfl, _, rfl, _, rfl, _, rfl, _, _, rfl, rfl, _, _, rfl, rfl, _, _, rfl, ?_⟩
      obtain ⟨mx, hmx, hm0, hm4, hm5⟩ : ∃ mx : Int, (if hi - (lo + e) + 1 < 4 then hi - (lo + e) + 1 else 4) = mx ∧ 0 < mx ∧ mx ≤ 4 ∧ mx ≤ hi - (lo + e) + 1 := ⟨_, rfl, by split <;> omega, by split <;> omega, by split <;> omega⟩
      rw [hmx]
      refine ⟨p, l, ns, n3, g3, _, rfl, pen4, by omega, hm0, Nat.lt_of_le_of_lt (m := 4) (by omega) (by decide +kernel), fun e2 n4 g4 H4 hf0 hf1 hn4 off4 pen5 => ?_⟩
      have hc4 := off4 _ _ ncp hc3
      have hpr4 := prl_off hpr3 pen4.pen off4
      have offC := offB.trans off4
      refine ⟨_, _, rfl, rfl, by show 2 ≤ sizeLine; decide, fun t ht => ?_⟩
      have s5 := same_upd0 (o := .tup [.int (lo + e), .int (lo + e + e2)]) ht
      have ht5 : (upd H4 t (.tup [.int (lo + e), .int (lo + e + e2)])) t = some (.tup [.int (lo + e), .int (lo + e + e2)]) := upd_same
      have pen6 := pen5.same' s5
      have hc5 := s5 _ _ hc4
      have hpr5 := prl_same hpr4 s5
      have offD : Off p H (upd H4 t (.tup [.int (lo + e), .int (lo + e + e2)])) := fun b o n e => s5 _ _ (offC b o n e)
      revert s5 ht5 pen6 hc5 hpr5 offD
      generalize upd H4 t (.tup [.int (lo + e), .int (lo + e + e2)]) = H5
      intro s5 ht5 pen6 hc5 hpr5 offD
      refine ⟨c, _, _, rfl, rfl, hc5, ?_, ?_⟩
      · rw [List.length_map, prl_len hpr5, hal]
        have := sizeLine_eq
        omega
      refine ⟨⟨_, _, rfl⟩, js ++ [t], acc ++ [(lo + e, lo + e + e2)], n4, g4, ?_, ?_, ?_, ?_, by omega, pen6.upd ncp ncl, offD.at hc⟩
      · rw [upd_same, List.map_append]
        rfl
      · exact (prl_upd hpr5 hc5).snoc ((upd_ne (ne_of ht5 hc5 (fun z => nomatch z))).trans ht5)
      · rw [List.length_append, hal]
        rfl
      · intro q hq
        rcases List.mem_append.mp hq with h | h
        · exact hok q h
        · rw [List.mem_singleton.mp h]
          exact ⟨by show lo ≤ lo + e; omega, by show lo + e ≤ lo + e + e2; omega, by show lo + e + e2 ≤ hi; omega, by show lo + e + e2 ≤ lo + e + 3; omega⟩
    · rintro σ H2 ⟨⟨x4, x5, rfl⟩, js, acc, n2, g2, hc2, hpr, hal, hok, hn2, pen3, off2⟩
      exact ⟨_, rfl, k acc c js n2 g2 H2 (by omega) hok (by omega) off2 pen3 hc2 ncp hc hpr⟩
def spTicks : Sp := fun vs H Q _ => ∃ (a : Addr) (js : List Addr) (acc : List Str2), vs = [.ref a] ∧ H a = some (.lst (js.map V.ref)) ∧ PrL H js acc ∧ acc.length ≤ 4 ∧ (∀ q ∈ acc, q.1 ≤ q.2 ∧ q.2 ≤ q.1 + 3) ∧
  ∀ (us : List Int) (c : Addr) (H' : Hp), us.Pairwise (· < ·) → (∀ m, m ∈ us ↔ cov acc m) → us.length ≤ 16 → Same H H' → H c = none → H' c = some (.lst (us.map V.int)) → Q (.ref c) H'
theorem ok_ticks {f : Addr} {fd : FuncData} (F : Fun K "_law_ticks" "_law_ticks" sTicks f fd) (mr : mg "range" = none) (ml : mg "list" = none) (ms : mg "sorted" = none) (me : mg "set" = none) : FnOk P w K mg base CX0 1 f fd ["_law_some"] spTicks := by
  refine F.ok scTicks (fun vs H Q E h => ?_) (fun cdv A outer s H vs Q E hr h => ?_)
  · obtain ⟨_, _, _, rfl, _⟩ := h
    rfl
  · obtain ⟨a, js, acc, rfl, ha, hpr, hal, hok, q⟩ := h
    refine ⟨_, pss_cons (ps_set (i := 1) scTicks.nd rfl (.inl rfl) (pe_lst pa_nil))
      (pss_cons (ps_for PassesOwn.never rfl (pi_list (pv 0)) (pg_tup rfl (pgs_cons (pg_name (i := 2) scTicks.nd rfl (Or.inl rfl)) (pgs_cons (pg_name (i := 3) scTicks.nd rfl (Or.inl rfl)) pgs_nil)))
        (pss_one (ps_set (i := 1) scTicks.nd rfl (.inl rfl) (pe_op op_cat (pv 1) (pe_listRgW rfl (by rfl) ml (prg_2 (by rfl) mr (pv 2) (pe_op op_add (pv 3) pe_int)))))))
      (pss_one (ps_ret (pe_callB (cr_sortedSet rfl) (by rfl) ms (by decide +kernel) (pa_cons (pe_callTy (cr_setI rfl) (by rfl) me (by decide +kernel) (pa_cons (pv 1) pa_nil)) pa_nil))))), ?_⟩
    refine ⟨by show 0 ≤ sizeLine; decide, fun c0 hc0 => ?_⟩
    have s0 := same_upd0 (o := .lst []) hc0
    refine ⟨_, rfl, a, rfl, ⟨_, SqL.of (s0 _ _ ha)⟩, ?_⟩
    have hjl : js.length = acc.length := prl_len hpr
    refine for_it walk_list (fun i σ H' => (∃ c x2 x3, σ = [some (.ref a), some (.ref c), x2, x3] ∧ ∃ ts : List Int, H' c = some (.lst (ts.map V.int)) ∧ ts.length ≤ 4 * i ∧ ∀ m, m ∈ ts ↔ cov (acc.take i) m) ∧ Same H H')
      ⟨⟨c0, none, none, rfl, [], upd_same, Nat.zero_le _, fun m => ⟨fun h => (nomatch h), fun h => absurd h cov_nil⟩⟩, s0⟩ (fun _ _ _ _ y => SqL.of (y.2 _ _ ha)) ?_ ?_
    · rintro i x σ H1 H2 hi ⟨⟨c, x2, x3, rfl, ts, hc, htl, hmem⟩, s1⟩ ⟨rfl, hx⟩
      rw [List.getElem?_map] at hx
      obtain ⟨t, ht, rfl⟩ : ∃ t, js[i]? = some t ∧ x = .ref t := by
        cases e : js[i]? with
        | none => rw [e] at hx; cases hx
        | some t => rw [e] at hx; exact ⟨t, rfl, (Option.some.inj hx).symm⟩
      obtain ⟨pq, hp, hpt⟩ := L2.paired_get hpr ht
      obtain ⟨ho1, ho2⟩ := hok pq (List.mem_of_getElem? hp)
      have hi4 : i < 4 := by rw [List.length_map] at hi; omega
      refine ⟨t, _, rfl, SqT.of (s1 _ _ hpt), rfl, _, _, rfl, _, _, rfl, rfl, ?_⟩
      refine ⟨_, rfl, _, rfl, _, rfl, _, _, rfl, rfl, _, _, rfl, rfl, ?_⟩
      refine ⟨by omega, fun r hr2 => ?_⟩
      have s2 := same_upd0 (o := .lst (rgV pq.1 (pq.2 + 1))) hr2
      refine ⟨c, r, _, _, rfl, rfl, s2 _ _ hc, upd_same, ?_, fun z hz => ?_⟩
      · rw [List.length_map, rgV_length]
        have := sizeLine_eq
        omega
      refine ⟨⟨z, _, _, rfl, ts ++ rgI pq.1 (pq.2 + 1), ?_, ?_, fun m => ?_⟩, s1.trans (s2.trans (same_upd0 hz))⟩
      · rw [upd_same, rgV_eq, List.map_append]
      · rw [List.length_append, rgI_len]
        omega
      · rw [List.mem_append, hmem m, mem_rgI, List.take_add_one, hp, cov_append]
        constructor
        · rintro (h | h)
          · exact .inl h
          · exact .inr ⟨pq, List.mem_singleton.mpr rfl, h.1, by omega⟩
        · rintro (h | ⟨u, hu, h⟩)
          · exact .inl h
          · rw [List.mem_singleton.mp hu] at h
            exact .inr ⟨h.1, by omega⟩
    · rintro σ H1 ⟨⟨c, x2, x3, rfl, ts, hc, htl, hmem⟩, s1⟩
      rw [List.length_map, hjl] at htl
      rw [List.length_map, hjl, List.take_length] at hmem
      refine ⟨_, rfl, c, ts, rfl, .inl (SqL.of hc), by omega, fun ps cc hps hcc => ⟨ps, _, cc, rfl, upd_same, by omega, fun us z hpw hm hl hz => ?_⟩⟩
      refine q us z _ hpw (fun m => ?_) (by omega) (s1.trans ((same_upd0 hps).trans (same_upd0 hz))) ((s1.trans (same_upd0 hps)).free hz) upd_same
      rw [hm m]
      simp only [decide_eq_true_eq]
      exact hmem m
end
end K48

namespace K48
open PySem PySem.Spec PyProof.Rows L2 So
abbrev sRuns : Stmt := topS 21
theorem scRuns : FnScope ["_law_ticks_here", "_law_found", "_law_tick"] ["_law_ticks_here"] (defScope sRuns) := ⟨rfl, rfl, rfl, by decide +kernel, rfl, by decide +kernel, by decide +kernel⟩
theorem shaped_lacc (acc : List Str2) : SeqAt.shaped (.list (acc.map dPr)) = true := by
  unfold SeqAt.shaped
  rw [Bool.and_eq_true]
  have hd := depth_acc acc
  refine ⟨?_, decide_eq_true ?_⟩
  · show PyData.canLay0 _ = true
    simp only [PyData.canLay0]
    exact lay_acc acc
  · simp only [PyData.depth]
    omega
theorem run1_len {acc : List Str2} {t : Int} : (run1 acc t).length ≤ acc.length + 1 := by
  rcases last_or acc with e | ⟨ys, p, e⟩
  · subst e
    rw [run1_nil]
    simp
  · subst e
    rw [run1_snoc]
    split <;> simp
section
variable {P : Program} {w : World} {K : PySem.W.Frag} {mg : Str → Option Value} {base : Heap}
def spRuns (K : PySem.W.Frag) : Sp := fun vs H Q _ => ∃ (a : Addr) (us : List Int), vs = [.ref a] ∧ SqL K H a (us.map V.int) ∧ us.length ≤ 100 ∧ ∀ (c : Addr) (js : List Addr) (H' : Hp), Same H H' → H' c = some (.tup (js.map V.ref)) → PrL H' js (us.foldl run1 []) → Q (.ref c) H'
theorem ok_runs {f : Addr} {fd : FuncData} (F : Fun K "_law_runs" "_law_runs" sRuns f fd) (mt : mg "tuple" = none) : FnOk P w K mg base CX0 1 f fd ["_law_ticks_here"] (spRuns K) := by
  refine F.ok scRuns (fun vs H Q E h => ?_) (fun cdv A outer s H vs Q E hr h => ?_)
  · obtain ⟨_, _, rfl, _⟩ := h
    rfl
  · obtain ⟨a, us, rfl, ha, hul, q⟩ := h
    refine ⟨_, pss_cons (ps_set (i := 1) scRuns.nd rfl (.inl rfl) (pe_lst pa_nil))
      (pss_cons (ps_for PassesOwn.never rfl (pi_list (pv 0)) (pg_name (i := 2) scRuns.nd rfl (Or.inl rfl))
        (pss_one (ps_if (PW.pt (pw_and (pt_cmpR (op_neD hr.units) (pv 1) (pe_lst pa_nil) (nomark _)) (pw_and1 (pt_cmpR op_eq (pe_op op_add (pe_ix ix_tup (pe_ix ix_list (pv 1) (pe_un un_neg pe_int) (fun _ _ => rfl)) pe_int (fun _ _ => rfl)) pe_int) (pv 2) (nomark _)))))
          (pss_one (ps_asg (pe_tup (pa_cons (pe_ix ix_tup (pe_ix ix_list (pv 1) (pe_un un_neg pe_int) (fun _ _ => rfl)) pe_int (fun _ _ => rfl)) (pa_cons (pv 2) pa_nil))) (pg_sub (pv 1) (pe_un un_neg pe_int) set_list)))
          (pss_one (ps_expr (pe_bm PySem.F.plainAttrs_list PySem.F.slot_list_append PySem.F.type_list_append mt_append (pv 1) (pa_cons (pe_tup (pa_cons (pv 2) (pa_cons (pv 2) pa_nil))) pa_nil)))))))
      (pss_one (ps_ret (pe_callTy call_tuple_of (by rfl) mt (by decide +kernel) (pa_cons (pv 1) pa_nil))))), ?_⟩
    refine ⟨by show 0 ≤ sizeLine; decide, fun c hc => ?_⟩
    have s0 := same_upd0 (o := .lst []) hc
    refine ⟨_, rfl, a, rfl, ⟨_, ha.ext s0⟩, ?_⟩
    refine for_it walk_list (fun i σ H' => (∃ x2, σ = [some (.ref a), some (.ref c), x2]) ∧ Same H H' ∧ ∃ (js : List Addr), H' c = some (.lst (js.map V.ref)) ∧ PrL H' js ((us.take i).foldl run1 []) ∧ js.length ≤ i)
      ⟨⟨none, rfl⟩, s0, [], upd_same, .nil, Nat.le_refl _⟩ (fun _ _ _ _ y => ha.ext y.2.1) ?_ ?_
    · rintro i x σ H1 H2 hi ⟨⟨x2, rfl⟩, s1, js, hc1, hpr, hjl⟩ ⟨rfl, hx⟩
      rw [List.length_map] at hi
      rw [List.getElem?_map] at hx
      obtain ⟨t, ht, rfl⟩ : ∃ t, us[i]? = some t ∧ x = .int t := by
        cases e : us[i]? with
        | none => rw [e] at hx; cases hx
        | some t => rw [e] at hx; exact ⟨t, rfl, (Option.some.inj hx).symm⟩
      have et : (us.take (i + 1)).foldl run1 [] = run1 ((us.take i).foldl run1 []) t := by
        rw [List.take_add_one, ht, List.foldl_append]
        rfl
      rw [et]
      generalize (us.take i).foldl run1 [] = acc at hpr
      have hsz := sizeLine_eq
      have fin : ∀ (js2 : List Addr) (acc2 : List Str2) (tn : Addr) (q2 : Str2) (H5 : Hp) (zs : List V), Same H H5 → H5 c = some (.lst zs) → PrL H5 js2 acc2 → js2.length ≤ i → H5 tn = some (.tup [.int q2.1, .int q2.2]) → ∀ ys2 : List V, ys2 = (js2 ++ [tn]).map V.ref →
          (∃ x2, [some (V.ref a), some (V.ref c), some (V.int t)] = [some (V.ref a), some (V.ref c), x2]) ∧ Same H (upd H5 c (.lst ys2)) ∧ ∃ (js : List Addr), upd H5 c (.lst ys2) c = some (.lst (js.map V.ref)) ∧ PrL (upd H5 c (.lst ys2)) js (acc2 ++ [q2]) ∧ js.length ≤ i + 1 := by
        rintro js2 acc2 tn q2 H5 zs s5 h5 p5 l5 htn ys2 rfl
        refine ⟨⟨_, rfl⟩, over2 s5 hc, js2 ++ [tn], upd_same, ?_, by rw [List.length_append]; exact Nat.add_le_add_right l5 1⟩
        exact (prl_upd p5 h5).snoc ((upd_ne (ne_of htn h5 (fun z => nomatch z))).trans htn)
      refine ⟨_, rfl, Nat.zero_le _, fun z hz => ?_⟩
      have s2 := same_upd0 (o := .lst []) hz
      have hc2 := s2 _ _ hc1
      have hpr2 := prl_same hpr s2
      have sA := s1.trans s2
      have hz2 : (upd H2 z (.lst [])) z = some (.lst []) := upd_same
      revert s2 hc2 hpr2 sA hz2
      generalize upd H2 z (.lst []) = H3
      intro s2 hc2 hpr2 sA hz2
      refine ⟨.list (acc.map dPr), .list [], .lst (SqL.of hc2) (dp_acc hpr2), .lst (SqL.of hz2) .nil, shaped_lacc acc, by decide, _, rfl, ?_⟩
      rw [eqv_nil, List.isEmpty_map]
      rcases last_or acc with e | ⟨ys, p, e⟩
      · subst e
        refine iteF ?_
        cases hpr2
        refine ⟨_, rfl, .inl ⟨rfl, _, SqL.of hc2⟩, _, rfl, _, rfl, by show 2 ≤ sizeLine; decide, fun tn htn => ?_⟩
        have s3 := same_upd0 (o := .tup [.int t, .int t]) htn
        refine ⟨c, _, _, rfl, rfl, s3 _ _ hc2, by show 0 < sizeLine; decide, ?_⟩
        exact fin [] [] tn (t, t) _ _ (sA.trans s3) (s3 _ _ hc2) .nil (Nat.zero_le _) upd_same _ rfl
      · subst e
        have hemp : (!(ys ++ [p]).isEmpty) = true := by simp
        rw [hemp]
        refine iteT ?_
        obtain ⟨js', r, rfl, hp', hr'⟩ : ∃ js' r, js = js' ++ [r] ∧ PrL H3 js' ys ∧ H3 r = some (.tup [.int p.1, .int p.2]) := by
          rcases last_or js with e | ⟨js', r, e⟩
          · subst e
            have := prl_len hpr2
            simp at this
          · subst e
            obtain ⟨m', b, e, h3, h4⟩ := pr_last hpr2
            obtain ⟨rfl, e2⟩ := List.append_inj' e rfl
            cases e2
            exact ⟨js', r, rfl, h3, h4⟩
        have hmap : (js' ++ [r]).map V.ref = js'.map V.ref ++ [.ref r] := by rw [List.map_append]; rfl
        rw [hmap] at hc2
        have l' : js'.length ≤ i := by
          rw [List.length_append] at hjl
          exact Nat.le_trans (Nat.le_add_right _ _) hjl
        rw [run1_snoc]
        refine ⟨_, rfl, _, rfl, c, _, _, _, rfl, rfl, SqL.of hc2, atI_last _ _, r, _, _, _, rfl, rfl, SqT.of hr', atI_nat (j := 1) rfl, _, _, rfl, rfl, _, rfl, rfl, _, rfl, ite2 (fun c0 => ?_) (fun c0 => ?_)⟩
        · have cc : p.2 + 1 = t := V.int.inj (of_decide_eq_true c0)
          rw [if_pos cc]
          refine ⟨_, rfl, _, rfl, c, _, _, _, rfl, rfl, SqL.of hc2, atI_last _ _, r, _, _, _, rfl, rfl, SqT.of hr', atI_nat (j := 0) rfl, _, rfl, by show 2 ≤ sizeLine; decide, fun tn htn => ?_⟩
          have s3 := same_upd0 (o := .tup [.int p.1, .int t]) htn
          refine ⟨_, rfl, _, rfl, c, _, -1, js'.length, rfl, rfl, s3 _ _ hc2, ?_, ?_⟩
          · unfold ixN
            simp
            omega
          · refine fin js' ys tn (p.1, t) _ _ (sA.trans s3) (s3 _ _ hc2) (prl_same hp' s3) l' upd_same _ ?_
            rw [List.map_append]
            simp
        · have cc : ¬ p.2 + 1 = t := fun z => c0 (decide_eq_true (congrArg V.int z))
          rw [if_neg cc]
          refine ⟨_, rfl, .inl ⟨rfl, _, SqL.of hc2⟩, _, rfl, _, rfl, by show 2 ≤ sizeLine; decide, fun tn htn => ?_⟩
          have s3 := same_upd0 (o := .tup [.int t, .int t]) htn
          refine ⟨c, _, _, rfl, rfl, s3 _ _ hc2, ?_, ?_⟩
          · rw [← hmap, List.length_map]
            omega
          · exact fin (js' ++ [r]) (ys ++ [p]) tn (t, t) _ ((js' ++ [r]).map V.ref) (sA.trans s3) (by rw [hmap]; exact s3 _ _ hc2) (prl_same hpr2 s3) hjl upd_same _ (by rw [List.map_append, hmap]; rfl)
    · rintro σ H1 ⟨⟨x2, rfl⟩, s1, js, hc1, hpr, hjl⟩
      rw [List.length_map, List.take_length] at hpr
      refine ⟨_, rfl, c, _, rfl, .inl ⟨SqL.of hc1, fun t ht => ?_⟩⟩
      have s4 := same_upd0 (o := .tup (js.map V.ref)) ht
      exact q t js _ (s1.trans s4) upd_same (prl_same hpr s4)
end
end K48

/-! a list times an int -/
namespace So
open PySem PySem.Spec PyProof.Rows L2
section
variable {X : Cx}
theorem vals_rep {xs : List V} {us : List Value} (r : Vals xs us) : ∀ n : Nat, Vals (List.replicate n xs).flatten (List.replicate n us).flatten
  | 0 => .nil
  | n + 1 => by
    rw [List.replicate_succ, List.replicate_succ, List.flatten_cons, List.flatten_cons]
    exact r.append (vals_rep r n)
def rMulL (K : PySem.W.Frag) : R2 := fun x y H Q => ∃ (a : Addr) (xs : List V) (k : Int), x = .ref a ∧ y = .int k ∧ SqL K H a xs ∧ -1000 ≤ k ∧ k ≤ 1000 ∧ xs.length ≤ 1000 ∧ ∀ p, H p = none → Q (.ref p) (upd H p (.lst (List.replicate k.toNat xs).flatten))
theorem op_mulL : OpR X (binaryOp .Mult) (rMulL X.K) := by
  intro pins s σ H x y v u Q I rx ry h
  obtain ⟨a, xs, k, rfl, rfl, hs, k1, k2, hx, q⟩ := h
  obtain rfl : v = Value.ref a := rx
  obtain ⟨tk, rfl⟩ := ry
  obtain ⟨its, rv, ⟨⟨cls, dd, data, sl⟩, n, ho, hc, hdn, hd⟩, hlen⟩ := I.list hs
  obtain rfl : cls = Value.type "list" := hc
  obtain rfl : data = Data.seq its.toArray n := hd
  have hsl := sizeLine_eq
  have hi : its.length ≤ 1000 := by rw [← rv.length]; exact hx
  have hm : its.toArray.size * k.toNat ≤ 1000 * 1000 := by
    rw [List.size_toArray]
    exact Nat.mul_le_mul hi (by omega)
  refine wpAny_binaryOp_repeat_ref (T := "list") (U := "int") (by decide) ⟨_, ho, rfl⟩ (fun s' => typeIs_int s' k tk) noFill_list_mul F.fills_int_mul F.slot_int_rmul repeat_list F.slot_int_index.lookup
    (call_meets F.slot_int_rmul (typeIs_int s k tk) F.entry_int_rmul (F.args_int_rmul_2 _ _) (lm_int_rmul_list_any k tk a its.toArray n dd sl)
      ⟨ho, rfl, ⟨_, ho, rfl⟩, call_meets F.slot_list_mul ⟨_, ho, rfl⟩ F.entry_list_mul (F.args_list_mul_2 _ _)
        (lm_list_mul_any a its.toArray n dd sl k tk (by simp [Builtin.List.listFitsIndex]; omega) (by omega) (by simp only [Builtin.List.listTooLong, decide_eq_true_eq]; omega))
        ⟨ho, ?_⟩⟩)
  rw [listMul_foldl_if]
  have rr := vals_rep rv k.toNat
  refine ⟨.ref s.heap.objs.size, upd H s.heap.objs.size (.lst (List.replicate k.toNat xs).flatten), I.laid (t' := s.toks) (fun b o e => Heap.get?_push_of_some _ e) (Nat.le_refl _) ⟨?_, _, 0, rr, Heap.get?_push_size _ rfl⟩, rfl, q _ (I.hok.fresh (Nat.le_refl _))⟩
  have e1 : (List.replicate k.toNat xs).flatten.length = k.toNat * xs.length := by simp
  rw [e1]
  have : k.toNat * xs.length ≤ 1000 * 1000 := Nat.mul_le_mul (by omega) hx
  omega
end
end So

/-! texts of signs that are code points: how long what repr tells of them is -/
namespace So
open PySem PySem.Spec PyProof.Rows L2
def Wd (z : Str) : Prop := ∀ c ∈ z.cps.toList, c < 0x110000
theorem wd_of (s : String) : Wd (Str.ofString s) := by
  intro c hc
  rw [Str.ofString_eq_toList] at hc
  obtain ⟨x, _, rfl⟩ := List.mem_map.mp (show c ∈ s.toList.map Char.toNat by simpa using hc)
  have h : x.toNat < 1114112 := by
    have := x.valid
    unfold UInt32.isValidChar Nat.isValidChar at this
    show x.val.toNat < _
    omega
  exact h
theorem wd_app {a b : Str} (ha : Wd a) (hb : Wd b) : Wd (a ++ b) := by
  intro c hc
  have e : (a ++ b).cps.toList = a.cps.toList ++ b.cps.toList := by
    show (a.cps ++ b.cps).toList = _
    simp
  rw [e] at hc
  exact (List.mem_append.mp hc).elim (ha c) (hb c)
theorem wd_strOk {z : Str} (h : Wd z) : PyData.strOk z = true := by
  unfold PyData.strOk
  rw [Array.all_eq_true']
  intro c hc
  exact decide_eq_true (h c (by simpa using hc))
theorem wd_empty : Wd Str.empty := fun c hc => by cases hc
theorem wd_sjoin {a : Str} (ha : Wd a) : ∀ {ys : List Str}, (∀ y ∈ ys, Wd y) → Wd (Str.join a ys)
  | [], _ => wd_empty
  | [x], h => h x List.mem_cons_self
  | x :: y :: r, h => wd_app (wd_app (h x List.mem_cons_self) ha) (wd_sjoin ha fun z hz => h z (List.mem_cons_of_mem _ hz))
theorem wd_join {a : Str} (ha : Wd a) {ys : List Str} (h : ∀ y ∈ ys, Wd y) : Wd (Txt.join a ys) := by
  rw [TL.join_eq]
  exact wd_sjoin ha h
theorem sjoin_len (a : Str) : ∀ ys : List Str, (Str.join a ys).length ≤ (ys.map (·.length)).sum + ys.length * a.length
  | [] => Nat.zero_le _
  | [x] => by simp [Str.join]
  | x :: y :: r => by
    have ih := sjoin_len a (y :: r)
    have e1 : (Str.join a (x :: y :: r)).length = x.length + a.length + (Str.join a (y :: r)).length := by
      show (x ++ a ++ Str.join a (y :: r)).length = _
      rw [PyProof.Rows.len_cat, PyProof.Rows.len_cat]
    rw [e1, List.map_cons, List.sum_cons, List.length_cons, Nat.succ_mul]
    omega
theorem join_len (a : Str) (ys : List Str) : (Txt.join a ys).length ≤ (ys.map (·.length)).sum + ys.length * a.length := by
  rw [TL.join_eq]
  exact sjoin_len a ys
theorem OkD.strW {z : Str} {n : Nat} (h : Wd z) (hl : z.length ≤ n) : OkD (10 * n + 2) 0 (.str z) := by
  refine ⟨rfl, Nat.zero_le _, ?_⟩
  have h1 := PySem.StrLaws.reprText_len z fun c hc => Nat.lt_trans (h c hc) (by decide)
  show (reprText z).length ≤ _
  omega
end So

namespace K48
open PySem PySem.Spec PyProof.Rows L2 So
abbrev sText : Stmt := topS 22
abbrev textN : List Str := ["_law_ticks_here", "_law_has_so", "_law_told", "_law_left", "_law_right_here"]
theorem scText : FnScope textN ["_law_ticks_here", "_law_has_so"] (defScope sText) := ⟨rfl, rfl, rfl, by decide +kernel, rfl, by decide +kernel, by decide +kernel⟩
theorem empty_app (x : Str) : Str.empty ++ x = x := by
  show (⟨#[] ++ x.cps⟩ : Str) = x
  simp
theorem runs_len : ∀ (us : List Int) (acc : List Str2), (us.foldl run1 acc).length ≤ acc.length + us.length
  | [], acc => by simp
  | t :: r, acc => by
    have h1 := runs_len r (run1 acc t)
    have h2 := @run1_len acc t
    rw [List.foldl_cons, List.length_cons]
    omega
theorem dp_strs {K : PySem.W.Frag} {H : Hp} : ∀ zs : List Str, DpAll K H (zs.map V.str) (zs.map PyData.str)
  | [] => .nil
  | z :: r => .cons (.str z) (dp_strs r)
theorem wd_word (p : Str2) : Wd (wordP p) := by
  unfold wordP
  split
  · exact wd_of _
  · exact wd_app (wd_app (wd_app wd_empty (wd_of _)) (wd_of _)) (wd_of _)
theorem wd_words {acc : List Str2} {n : Bool} : ∀ z ∈ wordsT acc n, Wd z := fun z hz => by
  rcases List.mem_append.mp hz with hz | hz
  · obtain ⟨p, _, rfl⟩ := List.mem_map.mp hz
    exact wd_word p
  · cases n with
    | false => cases hz
    | true =>
      rw [List.mem_singleton.mp hz]
      exact wd_of _
theorem shaped_strs {zs : List Str} (hz : ∀ z ∈ zs, Wd z) : SeqAt.shaped (.list (zs.map PyData.str)) = true := by
  have hd : ∀ l : List Str, PyData.depthAll (l.map PyData.str) ≤ 1 := by
    intro l
    induction l with
    | nil => simp [PyData.depthAll]
    | cons a r ih =>
      simp only [List.map_cons, PyData.depthAll, PyData.depth]
      omega
  have hl : ∀ l : List Str, (∀ z ∈ l, Wd z) → PyData.canLayAll0 (l.map PyData.str) = true := by
    intro l
    induction l with
    | nil => intro _; simp [PyData.canLayAll0]
    | cons a r ih =>
      intro h
      simp only [List.map_cons, PyData.canLayAll0, PyData.canLay0, ih fun z hz => h z (List.mem_cons_of_mem _ hz), wd_strOk (h a List.mem_cons_self), Bool.and_self]
  unfold SeqAt.shaped
  rw [Bool.and_eq_true]
  have h1 := hd zs
  refine ⟨?_, decide_eq_true ?_⟩
  · show PyData.canLay0 _ = true
    simp only [PyData.canLay0]
    exact hl zs hz
  · simp only [PyData.depth]
    omega
section
variable {P : Program} {w : World} {K : PySem.W.Frag} {mg : Str → Option Value} {base : Heap}
def spText (K : PySem.W.Frag) : Sp := fun vs H Q _ => ∃ (a : Addr) (us : List Int) (n : Bool), vs = [.ref a, .bl n] ∧ SqL K H a (us.map V.int) ∧ us.length ≤ 100 ∧ (∀ p ∈ us.foldl run1 [], LogP p) ∧ ∀ (H' : Hp), Same H H' → Q (.str (txtT (us.foldl run1 []) n)) H'
theorem ok_text {f fR : Addr} {fd fdR : FuncData} (F : Fun K "_law_text" "_law_text" sText f fd) (mstr : mg "str" = none) (mi : mg "int" = none) (FR : Fun K "_law_runs" "_law_runs" sRuns fR fdR) (bR : Binds K fdR ["_law_ticks_here"] []) (gR : mg "_law_runs" = some (.ref fR)) (GR : FnOk P w K mg base CX0 1 fR fdR ["_law_ticks_here"] (spRuns K)) :
    FnOk P w K mg base CX0 2 f fd ["_law_ticks_here", "_law_has_so"] (spText K) := by
  refine F.ok scText (fun vs H Q E h => ?_) (fun cdv A outer s H vs Q E hr h => ?_)
  · obtain ⟨_, _, _, rfl, _⟩ := h
    rfl
  · obtain ⟨a, us, n, rfl, ha, hul, hlog, q⟩ := h
    refine ⟨_, pss_cons (ps_set (i := 2) scText.nd rfl (.inl rfl) (pe_lst pa_nil))
      (pss_cons (ps_for PassesOwn.never rfl (pi_tup (pe_call GR hr (by rfl) gR FR.kp bR .nil pass0 (pa_cons (pv 0) pa_nil))) (pg_tup rfl (pgs_cons (pg_name (i := 3) scText.nd rfl (Or.inl rfl)) (pgs_cons (pg_name (i := 4) scText.nd rfl (Or.inl rfl)) pgs_nil)))
        (pss_one (ps_expr (pe_bm PySem.F.plainAttrs_list PySem.F.slot_list_append PySem.F.type_list_append mt_append (pv 2) (pa_cons (pe_ifExp (pt_cmpR op_eq (pv 3) (pv 4) (nomark _)) (pe_callTy call_str_int (by rfl) mstr (by decide +kernel) (pa_cons (pv 3) pa_nil))
          (pe_op op_add_str (pe_op op_add_str (pe_callTy call_str_int (by rfl) mstr (by decide +kernel) (pa_cons (pv 3) pa_nil)) pe_str) (pe_callTy call_str_int (by rfl) mstr (by decide +kernel) (pa_cons (pv 4) pa_nil)))) pa_nil)))))
      (pss_cons (ps_set (i := 2) scText.nd rfl (.inl rfl) (pe_op op_cat (pv 2) (pe_op op_mulL (pe_lst (pa_cons pe_str pa_nil)) (pe_callTy call_int1 (by rfl) mi (by decide +kernel) (pa_cons (pv 1) pa_nil)))))
      (pss_one (ps_ret (pe_ifExp (pt_cmpR (op_neD hr.units) (pv 2) (pe_lst pa_nil) (nomark _)) (pe_join pe_str (pv 2)) pe_str))))), ?_⟩
    have hsz := sizeLine_eq
    refine ⟨by show 0 ≤ sizeLine; decide, fun d hd => ?_⟩
    have s0 := same_upd0 (o := .lst []) hd
    have hd0 : (upd H d (.lst [])) d = some (.lst []) := upd_same
    refine ⟨_, rfl, a, us, rfl, ha.ext s0, hul, fun c js H1 s1 hc hpr => ?_⟩
    have hal := runs_len us []
    generalize us.foldl run1 [] = acc at hpr hlog hal q
    have hal : acc.length ≤ 100 := by
      rw [List.length_nil] at hal
      omega
    refine ⟨c, rfl, ⟨_, SqT.of hc⟩, ?_⟩
    have hjl := prl_len hpr
    refine for_it walk_tup (fun i σ H' => (∃ x3 x4, σ = [some (.ref a), some (.bl n), some (.ref d), x3, x4]) ∧ Same H H' ∧ H' c = some (.tup (js.map V.ref)) ∧ PrL H' js acc ∧ H' d = some (.lst (((acc.take i).map wordP).map V.str)))
      ⟨⟨none, none, rfl⟩, s0.trans s1, hc, hpr, s1 _ _ hd0⟩ (fun _ _ _ _ y => SqT.of y.2.2.1) ?_ ?_
    · rintro i x σ H2 H3 hi ⟨⟨x3, x4, rfl⟩, s2, hc2, hpr2, hd2⟩ ⟨rfl, hx⟩
      rw [List.length_map] at hi
      rw [List.getElem?_map] at hx
      obtain ⟨t, ht, rfl⟩ : ∃ t, js[i]? = some t ∧ x = .ref t := by
        cases e : js[i]? with
        | none => rw [e] at hx; cases hx
        | some t => rw [e] at hx; exact ⟨t, rfl, (Option.some.inj hx).symm⟩
      obtain ⟨p, hp, hpt⟩ := L2.paired_get hpr2 ht
      have hl := hlog p (List.mem_of_getElem? hp)
      have et : acc.take (i + 1) = acc.take i ++ [p] := by rw [List.take_add_one, hp]; rfl
      have h1 : (Str.ofString (toString p.1)).length ≤ 1921 := txt_len hl.1
      have h2 : (Str.ofString (toString p.2)).length ≤ 1921 := txt_len hl.2
      have h3 : ((".." : Str)).length = 2 := by decide
      have hlen : ((List.map V.str (List.map wordP (acc.take i))).length) < sizeLine := by
        rw [List.length_map, List.length_map, List.length_take]
        omega
      have fin : ∀ z : Str, z = wordP p → (∃ x3 x4, [some (V.ref a), some (V.bl n), some (V.ref d), some (V.int p.1), some (V.int p.2)] = [some (V.ref a), some (V.bl n), some (V.ref d), x3, x4]) ∧ Same H (upd H3 d (.lst (((acc.take i).map wordP).map V.str ++ [.str z]))) ∧ (upd H3 d (.lst (((acc.take i).map wordP).map V.str ++ [.str z]))) c = some (.tup (js.map V.ref)) ∧
          PrL (upd H3 d (.lst (((acc.take i).map wordP).map V.str ++ [.str z]))) js acc ∧ (upd H3 d (.lst (((acc.take i).map wordP).map V.str ++ [.str z]))) d = some (.lst (((acc.take (i + 1)).map wordP).map V.str)) := by
        rintro z rfl
        refine ⟨⟨_, _, rfl⟩, over2 s2 hd, (upd_ne (ne_of hc2 hd2 (fun y => nomatch y))).trans hc2, prl_upd hpr2 hd2, ?_⟩
        rw [upd_same, et, List.map_append, List.map_append]
        rfl
      refine ⟨t, _, rfl, SqT.of hpt, rfl, _, _, rfl, _, _, rfl, rfl, ?_⟩
      refine ⟨_, rfl, .inl ⟨rfl, _, SqL.of hd2⟩, _, rfl, _, rfl, rfl, _, rfl, ite2 (fun e => ?_) (fun e => ?_)⟩
      · have e : p.1 = p.2 := V.int.inj (of_decide_eq_true e)
        refine ⟨_, rfl, p.1, rfl, hl.1, d, _, _, rfl, rfl, hd2, hlen, fin _ ?_⟩
        exact (if_pos e).symm
      · have e : p.1 ≠ p.2 := fun z => e (decide_eq_true (by rw [z]))
        refine ⟨_, rfl, p.1, rfl, hl.1, _, _, rfl, rfl, ?_, _, rfl, p.2, rfl, hl.2, _, _, rfl, rfl, ?_, d, _, _, rfl, rfl, hd2, hlen, fin _ ?_⟩
        · show (Str.ofString (toString p.1)).length + ((".." : Str)).length ≤ sizeLine
          omega
        · have e1 := app_len (Str.ofString (toString p.1)) ((".." : Str))
          show (Str.ofString (toString p.1) ++ ((".." : Str))).length + (Str.ofString (toString p.2)).length ≤ sizeLine
          omega
        · unfold wordP
          rw [if_neg e, empty_app]
    · rintro σ H2 ⟨⟨x3, x4, rfl⟩, s2, hc2, hpr2, hd2⟩
      rw [List.length_map, hjl, List.take_length] at hd2
      refine ⟨_, rfl, by show 1 ≤ sizeLine; decide, fun e1 he1 => ?_⟩
      have s3 := same_upd0 (o := .lst [.str "none"]) he1
      have he1a : (upd H2 e1 (.lst [.str "none"])) e1 = some (.lst [.str "none"]) := upd_same
      have hd3 := s3 _ _ hd2
      have sA := s2.trans s3
      revert he1a hd3 sA
      generalize upd H2 e1 (.lst [.str "none"]) = H3
      intro he1a hd3 sA
      refine ⟨_, rfl, .inr ⟨n, rfl, ?_⟩⟩
      refine ⟨e1, _, _, rfl, rfl, SqL.of he1a, by cases n <;> decide, by cases n <;> decide, by decide, fun e2 he2 => ?_⟩
      have erep : (List.replicate (if n = true then (1 : Int) else 0).toNat [V.str "none"]).flatten = (if n = true then [("none" : Str)] else ([] : List Str)).map V.str := by
        cases n <;> rfl
      rw [erep]
      have s4 := same_upd0 (o := .lst ((if n = true then [("none" : Str)] else ([] : List Str)).map V.str)) he2
      have he2a : (upd H3 e2 (.lst ((if n = true then [("none" : Str)] else ([] : List Str)).map V.str))) e2 = some (.lst ((if n = true then [("none" : Str)] else ([] : List Str)).map V.str)) := upd_same
      have hd4 := s4 _ _ hd3
      have sB := sA.trans s4
      revert he2a hd4 sB
      generalize upd H3 e2 (.lst ((if n = true then [("none" : Str)] else ([] : List Str)).map V.str)) = H4
      intro he2a hd4 sB
      refine ⟨d, e2, _, _, rfl, rfl, hd4, he2a, ?_, fun z hz => ?_⟩
      · rw [List.length_map, List.length_map, List.length_map]
        have : (if n = true then [("none" : Str)] else ([] : List Str)).length ≤ 1 := by cases n <;> simp
        omega
      rw [← List.map_append]
      have hzz : (upd H4 z (.lst ((wordsT acc n).map V.str))) z = some (.lst ((wordsT acc n).map V.str)) := upd_same
      have sC := sB.trans (same_upd0 (o := .lst ((wordsT acc n).map V.str)) hz)
      show _
      change _ at hz
      have key : ∀ (Q' : Hp → Prop), (∀ G : Hp, Same H G → G z = some (.lst ((wordsT acc n).map V.str)) → Q' G) → Q' (upd H4 z (.lst ((List.map wordP acc ++ if n = true then [("none" : Str)] else ([] : List Str)).map V.str))) := fun Q' h => h _ sC hzz
      refine key _ fun G sG hG => ?_
      refine ⟨_, rfl, Nat.zero_le _, fun y hy => ?_⟩
      have s5 := same_upd0 (o := .lst []) hy
      have hG5 := s5 _ _ hG
      have sD := sG.trans s5
      refine ⟨.list ((wordsT acc n).map PyData.str), .list [], .lst (SqL.of hG5) (dp_strs _), .lst (SqL.of upd_same) .nil, shaped_strs wd_words, by decide, _, rfl, ?_⟩
      rw [eqv_nil, List.isEmpty_map]
      have e3 : ((" " : String) : Str).length = 1 := by decide
      have hm := words_many (acc := acc) (n := n)
      have hsm := sum_len (words_small (n := n) hlog)
      have qq := q _ sD
      unfold txtT at qq
      cases hne : (wordsT acc n).isEmpty with
      | true =>
        rw [hne] at qq
        refine iteF ?_
        have e : Txt.join " " [("nothing" : Str)] = ("nothing" : Str) := by decide +kernel
        rw [if_pos rfl, e] at qq
        exact qq
      | false =>
        rw [hne] at qq
        refine iteT ⟨⟨_, rfl⟩, _, rfl, _, z, wordsT acc n, rfl, rfl, .inl (SqL.of hG5), ?_, qq⟩
        show _ + _ * ((" " : String) : Str).length ≤ 16777216
        rw [e3]
        omega
end
end K48

namespace So
open PySem PySem.Spec PyProof.Rows L2
section
variable {X : Cx} {CX : CXT} {k : Nat} {C f : Addr} {fd : FuncData} {ps : List Str} {sp : Sp} {E : XK}
/-- str(o) of an instance whose class has an own __str__ -/
theorem call_strOwn (F : FnOk X.prog X.w X.K X.mg X.base CX k f fd ps sp) (hs : PySem.W.findIn X.K (.ref C) "__str__" = some (some (.ref f))) (hf : PySem.W.isFn X.K (.ref f) = true) (hb : Binds X.K fd ps []) (hx : Passes CX X E) (hr : Room (k + 2) X.A) :
    CallR X (.type "str") (fun xs H Q => ∃ a dx fs, xs = [.ref a] ∧ H a = some (.ins C dx fs) ∧ sp [.ref a] H (fun v H' => ∃ t : Str, v = .str t ∧ Q (.str t) H') E) := by
  intro pins s σ H xs us Q I r h
  obtain ⟨a, dx, fs, rfl, ha, q⟩ := h
  obtain ⟨u, rfl, ru⟩ := vals1 r
  cases ru
  obtain ⟨mA, J, _⟩ := ins_get I.hok ha
  obtain ⟨od, J, _⟩ := J.look
  have hr2 : Room k X.A.in1.in1 := hr.in1.in1
  refine PySem.W.kso_call hr2.units0 I.kIn J hs hf ?_
  have e0 : Env0 X.prog X.w X.K X.mg X.base X.A.in1.in1 X.stack s H := I.env0.in1.in1
  have hl : ([Value.ref a] ++ ([] : List Value)).length = ps.length := (F.len _ _ _ _ q : [V.ref a].length = ps.length)
  refine wpAny_call (codeAny_mono (F.run X.A.in1.in1 X.stack s H ⟨[.ref a], []⟩ ([Value.ref a] ++ []) [.ref a] _ E hr2 e0 (hb s [Value.ref a] I.kIn hl) (show Vals [V.ref a] [Value.ref a] from .cons rfl .nil) q) fun r s' hq => ?_)
  match r, hq with
  | .error e, hq => exact hx pins σ H s e s' I hq
  | .ok (.ret u), hq =>
    obtain ⟨v, H', I', rv, t, ev, q'⟩ := I.after hq
    subst ev
    obtain ⟨tk, rfl⟩ := rv
    exact ⟨.str t, H', I', ⟨tk, rfl⟩, q'⟩
  | .ok .next, hq => exact hq.elim
  | .ok .brk, hq => exact hq.elim
  | .ok .cont, hq => exact hq.elim
end
end So

/-! a part of an expression walked by itself: what follows it is said once -/
namespace So
open PySem PySem.Spec PyProof.Rows L2
theorem pe_cut {X : Cx} {e : Expr} {t : TE} (h : PE X e t) : PE X e (fun σ H Q => ∃ Q0 : VK, t σ H Q0 ∧ ∀ v H', Q0 v H' → Q v H') :=
  ⟨fun pins s σ H Q I ⟨Q0, h1, h2⟩ => thn (h.run pins s σ H Q0 I h1) fun u s' ⟨v, H', I', r, q⟩ => ⟨v, H', I', r, h2 v H' q⟩⟩
end So

namespace K48
open PySem PySem.Spec PyProof.Rows L2 So
abbrev sRight : Stmt := topS 23
abbrev rightN : List Str := ["_law_made", "_law_low", "_law_high", "_law_ticks_here", "_law_has_so", "_law_told", "_law_due", "_law_tick", "_law_things", "_law_thing"]
theorem scRight : FnScope rightN ["_law_made", "_law_low", "_law_high", "_law_ticks_here", "_law_has_so"] (defScope sRight) := ⟨rfl, rfl, rfl, by decide +kernel, rfl, by decide +kernel, by decide +kernel⟩
/-! ### the runs of ascending moments -/
theorem run_facts {us : List Int} (h : us.Pairwise (· < ·)) : RunOk (us.foldl run1 []) us := by
  have := runs_ok us [] [] ⟨Sep.nil, fun m => ⟨fun x => absurd x cov_nil, fun x => (nomatch x)⟩⟩ (fun _ h => nomatch h) h
  rw [List.nil_append] at this
  exact this
theorem run_emp {us : List Int} {acc : List Str2} (R : RunOk acc us) : acc.isEmpty = us.isEmpty := by
  cases acc with
  | nil =>
    cases us with
    | nil => rfl
    | cons u r => exact absurd ((R.cv u).mpr List.mem_cons_self) cov_nil
  | cons p r =>
    have := (R.cv p.1).mp ⟨p, List.mem_cons_self, Int.le_refl _, R.sep.ok p List.mem_cons_self⟩
    cases us with
    | nil => cases this
    | cons u t => rfl
theorem run_least {us : List Int} {acc : List Str2} (h : us.Pairwise (· < ·)) (R : RunOk acc us) : (us.map V.int ++ [V.non])[0]? = some (leastV acc) := by
  cases acc with
  | nil =>
    have e := run_emp R
    cases us with
    | nil => rfl
    | cons u r => cases e
  | cons p r =>
    have h1 := (R.cv p.1).mp ⟨p, List.mem_cons_self, Int.le_refl _, R.sep.ok p List.mem_cons_self⟩
    cases us with
    | nil => cases h1
    | cons u t =>
      have h2 := R.sep.least ((R.cv u).mpr List.mem_cons_self)
      have e : u = p.1 := by
        rcases List.mem_cons.mp h1 with e | e
        · exact e.symm
        · have := (List.pairwise_cons.mp h).1 _ e
          omega
      show some (V.int u) = some (V.int p.1)
      rw [e]
theorem run_in {us : List Int} {acc : List Str2} {n : Bool} (R : RunOk acc us) (hb : ∀ m ∈ us, 0 ≤ m ∧ m ≤ 1000000000000000000000000000000) (m : Int) : inT acc n (.int m) = decide (m ∈ us) := by
  show (gMom (.int m) && (acc.map fun p => decide (p.1 ≤ m) && decide (m ≤ p.2)).any id) = _
  have e : (acc.map fun p => decide (p.1 ≤ m) && decide (m ≤ p.2)).any id = decide (m ∈ us) := by
    have : (acc.map fun p => decide (p.1 ≤ m) && decide (m ≤ p.2)).any id = true ↔ m ∈ us := by
      rw [← R.cv m, List.any_eq_true]
      constructor
      · rintro ⟨b, hb, e⟩
        obtain ⟨p, hp, rfl⟩ := List.mem_map.mp hb
        simp only [id, Bool.and_eq_true, decide_eq_true_eq] at e
        exact ⟨p, hp, e.1, e.2⟩
      · rintro ⟨p, hp, h1, h2⟩
        exact ⟨_, List.mem_map.mpr ⟨p, hp, rfl⟩, by simp [h1, h2]⟩
    by_cases c : m ∈ us
    · rw [decide_eq_true c]
      exact this.mpr c
    · rw [decide_eq_false c]
      cases e : (acc.map fun p => decide (p.1 ≤ m) && decide (m ≤ p.2)).any id with
      | true => exact absurd (this.mp e) c
      | false => rfl
  rw [e]
  by_cases c : m ∈ us
  · have g : gMom (.int m) = true := decide_eq_true (hb m c)
    rw [g, Bool.true_and]
  · rw [decide_eq_false c, Bool.and_false]
theorem logP_of {x : Int} (h : 0 ≤ x ∧ x ≤ 1000000000000000000000000000000) : x.natAbs.log2 < 1920 := by
  have : x.natAbs < 2 ^ 100 := by omega
  exact Nat.lt_of_lt_of_le (PySem.Flt.log2_lt_of (by decide) this) (by decide)
theorem run_both {us : List Int} {acc : List Str2} (R : RunOk acc us) {p : Str2} (hp : p ∈ acc) : p.1 ∈ us ∧ p.2 ∈ us := by
  have h := R.sep.ok p hp
  exact ⟨(R.cv p.1).mp ⟨p, hp, Int.le_refl _, h⟩, (R.cv p.2).mp ⟨p, hp, h, Int.le_refl _⟩⟩
theorem inV_int (us : List Int) (m : Int) : inV (.int m) (us.map V.int) = decide (m ∈ us) := by
  induction us with
  | nil => rfl
  | cons u r ih =>
    show (eqV (.int u) (.int m) || inV (.int m) (r.map V.int)) = _
    rw [ih]
    by_cases c : u = m
    · subst c
      simp [eqV]
    · have : ¬ (m = u) := fun z => c z.symm
      simp [eqV, c, this]
/-! ### what repr tells of it -/
theorem ok_pr {p : Str2} (h : p.1.natAbs < 2 ^ 250 ∧ p.2.natAbs < 2 ^ 250) : OkD 4007 2 (dPr p) := by
  refine (OkD.tuple (n := 2000) (m := 0) (ds := [.int p.1, .int p.2]) fun d hd => ?_).mono (by show 2000 * 2 + 2 * 2 + 3 ≤ 4007; decide) (by decide)
  rcases List.mem_cons.mp hd with e | e
  · rw [e]
    exact OkD.int h.1
  · rw [List.mem_singleton.mp e]
    exact OkD.int h.2
theorem ok_acc {acc : List Str2} (hl : acc.length ≤ 20) (h : ∀ p ∈ acc, p.1.natAbs < 2 ^ 250 ∧ p.2.natAbs < 2 ^ 250) : OkD 90000 4 (dAcc acc) := by
  refine (OkD.tuple (n := 4007) (m := 2) (ds := acc.map dPr) fun d hd => ?_).mono ?_ (by decide)
  · obtain ⟨p, hp, rfl⟩ := List.mem_map.mp hd
    exact ok_pr (h p hp)
  · rw [List.length_map]
    omega
theorem ok_txt {acc : List Str2} {n : Bool} (hl : acc.length ≤ 20) (h : ∀ p ∈ acc, LogP p) : OkD 900000 0 (.str (txtT acc n)) := by
  have e3 : ((" " : String) : Str).length = 1 := by decide
  have hm := words_many (acc := acc) (n := n)
  have hsm := sum_len (words_small (n := n) h)
  have hw := wd_words (acc := acc) (n := n)
  refine (OkD.strW (n := 89990) ?_ ?_).mono (by decide) (Nat.le_refl _)
  · unfold txtT
    refine wd_join (wd_of _) ?_
    split
    · intro y hy
      rw [List.mem_singleton.mp hy]
      exact wd_of _
    · exact hw
  · unfold txtT
    split
    · exact Nat.le_trans (join_len _ _) (by decide +kernel)
    · refine Nat.le_trans (join_len _ _) ?_
      rw [e3]
      omega
def dLeast : List Str2 → PyData
  | [] => .none
  | p :: _ => .int p.1
theorem dd_least {K : PySem.W.Frag} {H : Hp} (acc : List Str2) : Dd K H (leastV acc) (dLeast acc) := by
  cases acc with
  | nil => exact .non
  | cons p r => exact .int _
theorem dd_acc {K : PySem.W.Frag} {H : Hp} : ∀ {js : List Addr} {acc : List Str2}, PrL H js acc → DdAll K H (js.map V.ref) (acc.map dPr)
  | _, _, .nil => .nil
  | _, _, .cons h t => .cons (.tup (SqT.of h) (.cons (.int _) (.cons (.int _) .nil))) (dd_acc t)
theorem dd_bls {K : PySem.W.Frag} {H : Hp} : ∀ bs : List Bool, DdAll K H (bs.map V.bl) (bs.map PyData.bool)
  | [] => .nil
  | b :: r => .cons (.bl b) (dd_bls r)
end K48

namespace K48
open PySem PySem.Spec PyProof.Rows L2 So
section
variable {P : Program} {w : World} {K : PySem.W.Frag} {mg : Str → Option Value} {base : Heap}
/-- the methods of Turns, to the law's defs -/
structure TMs (K : PySem.W.Frag) (P : Program) (w : World) (mg : Str → Option Value) (base : Heap) (C : Addr) : Prop where
  T : Trn K mg C
  W : Words K mg
  repr : mg "repr" = none
  range : mg "range" = none
  least : ∃ (p g : Addr) (fd : FuncData), PropOf K C "least" p g ∧ Binds K fd ["self"] [] ∧ FnOk P w K mg base CX0 1 g fd ["self"] (spLeast C)
  has : ∃ (g : Addr) (fd : FuncData), PySem.W.findIn K (.ref C) "__contains__" = some (some (.ref g)) ∧ PySem.W.isFn K (.ref g) = true ∧ Binds K fd ["self", "turn"] [] ∧ FnOk P w K mg base CX0 3 g fd ["self", "turn"] (spHas C)
  bool : ∃ (g : Addr) (fd : FuncData), PySem.W.findIn K (.ref C) "__bool__" = some (some (.ref g)) ∧ PySem.W.isFn K (.ref g) = true ∧ Binds K fd ["self"] [] ∧ FnOk P w K mg base CX0 1 g fd ["self"] (spBool C)
  str : ∃ (g : Addr) (fd : FuncData), PySem.W.findIn K (.ref C) "__str__" = some (some (.ref g)) ∧ PySem.W.isFn K (.ref g) = true ∧ Binds K fd ["self"] [] ∧ FnOk P w K mg base CX0 2 g fd ["self"] (spStr C)
def spRight (C : Addr) : Sp := fun vs H Q _ => ∃ (a b : Addr) (lo hi : Int) (us : List Int) (n : Bool), vs = [.ref a, .int lo, .int hi, .ref b, .bl n] ∧ TrAt C H a lo hi (us.foldl run1 []) (.bl n) ∧ H b = some (.lst (us.map V.int)) ∧
  us.Pairwise (· < ·) ∧ (∀ m ∈ us, lo ≤ m ∧ m ≤ hi) ∧ us.length ≤ 20 ∧ 0 ≤ lo ∧ lo ≤ hi ∧ hi ≤ lo + 11 ∧ hi ≤ 1000000000000000000000000000000 ∧ ∀ H', Same H H' → Q (.bl true) H'
theorem ok_right {C f fR fT : Addr} {fd fdR fdT : FuncData} (F : Fun K "_law_right" "_law_right" sRight f fd) (M : TMs K P w mg base C)
    (FR : Fun K "_law_runs" "_law_runs" sRuns fR fdR) (bR : Binds K fdR ["_law_ticks_here"] []) (gR : mg "_law_runs" = some (.ref fR)) (GR : FnOk P w K mg base CX0 1 fR fdR ["_law_ticks_here"] (spRuns K))
    (FT : Fun K "_law_text" "_law_text" sText fT fdT) (bT : Binds K fdT ["_law_ticks_here", "_law_has_so"] []) (gT : mg "_law_text" = some (.ref fT)) (GT : FnOk P w K mg base CX0 2 fT fdT ["_law_ticks_here", "_law_has_so"] (spText K)) :
    FnG P w K mg base CX0 5 f fd ["_law_made", "_law_low", "_law_high", "_law_ticks_here", "_law_has_so"] (spRight C) := by
  obtain ⟨pL, gL, fdL, pr1, b1, G1⟩ := M.least
  obtain ⟨gH, fdH, s2, i2, b2, G2⟩ := M.has
  obtain ⟨gB, fdB, s3, i3, b3, G3⟩ := M.bool
  obtain ⟨gS, fdS, s4, i4, b4, G4⟩ := M.str
  have T := M.T
  have W := M.W
  have mp := M.repr
  have mr := M.range
  refine fnG_of F scRight (fun vs H Q E h => ?_) (fun cdv A outer s H vs Q E hg hr h => ?_)
  · obtain ⟨_, _, _, _, _, _, rfl, _⟩ := h
    rfl
  · obtain ⟨a, b, lo, hi, us, n, rfl, hT, hb, hpw, hin, hul, l0, l1, l2, l3, q⟩ := h
    have hr1 : Room 1 _ := hr.mono (by decide)
    have hr2 : Room 2 _ := hr.mono (by decide)
    have hr3 : Room 3 _ := hr.mono (by decide)
    refine ⟨_, pss_cons (ps_set (i := 5) scRight.nd rfl (.inl rfl) (pe_lst (pa_cons (pe_fld (pv 0) rfl) (pa_cons (pe_fld (pv 0) rfl) (pa_cons (pe_fld (pv 0) rfl) (pa_cons (pe_fld (pv 0) rfl)
          (pa_cons (pe_callTy (call_boolO G3 s3 i3 b3 pass0 hr3) (by rfl) W.bool (by decide +kernel) (pa_cons (pv 0) pa_nil)) (pa_cons (pe_callTy (call_strOwn G4 s4 i4 b4 pass0 hr) (by rfl) W.str (by decide +kernel) (pa_cons (pv 0) pa_nil)) pa_nil))))))))
      (pss_cons (ps_set (i := 6) scRight.nd rfl (.inl rfl) (pe_lst (pa_cons (pv 1) (pa_cons (pv 2) (pa_cons (pv 4) (pa_cons (pe_call GR hr1 (by rfl) gR FR.kp bR .nil pass0 (pa_cons (pv 3) pa_nil))
          (pa_cons (pe_cut (pe_or (pv 4) (pe_one (pe_cmpR (op_neD hr.units) (pv 3) (pe_lst pa_nil) (nomark _))))) (pa_cons (pe_call GT hr2 (by rfl) gT FT.kp bT .nil pass0 (pa_cons (pv 3) (pa_cons (pv 4) pa_nil))) pa_nil))))))))
      (pss_cons (ps_if (PW.pt (pw_or (pt_cmpR op_ne (pe_callB (call_reprG hg hr.units) (by rfl) mp (by decide +kernel) (pa_cons (pv 5) pa_nil)) (pe_callB (call_reprG hg hr.units) (by rfl) mp (by decide +kernel) (pa_cons (pv 6) pa_nil)) (nomark _))
          (pw_or1 (pt_cmpR op_ne (pe_callB (call_reprG hg hr.units) (by rfl) mp (by decide +kernel) (pa_cons (pe_prop (pv 0) T.cl pr1 G1 hr2 b1 .nil pass0 rfl) pa_nil))
            (pe_callB (call_reprG hg hr.units) (by rfl) mp (by decide +kernel) (pa_cons (pe_ix ix_list (pe_op op_cat (pv 3) (pe_lst (pa_cons pe_non pa_nil))) pe_int (fun _ _ => rfl)) pa_nil)) (nomark _))))) (pss_one (ps_ret pe_bl)) pss_nil)
      (pss_cons (ps_for PassesOwn.never rfl (pi_rgW (prg_2 (by rfl) mr (pe_op op_sub (pv 1) pe_int) (pe_op op_add (pv 2) pe_int))) (pg_name (i := 7) scRight.nd rfl (Or.inl rfl))
        (pss_one (ps_if (pt_cmpR op_ne (pe_callB (call_reprG hg hr.units) (by rfl) mp (by decide +kernel) (pa_cons (pe_cmpR (op_inO G2 s2 i2 b2 pass0 hr3) (pv 7) (pv 0) (by rfl)) pa_nil))
            (pe_callB (call_reprG hg hr.units) (by rfl) mp (by decide +kernel) (pa_cons (pe_cmpR op_in_seq (pv 7) (pv 3) (by rfl)) pa_nil)) (nomark _)) (pss_one (ps_ret pe_bl)) pss_nil)))
      (pss_cons (ps_set (i := 8) scRight.nd rfl (.inl rfl) (pe_lst (pa_cons pe_non (pa_cons pe_bl (pa_cons pe_str (pa_cons (pe_lst (pa_cons (pv 1) pa_nil)) (pa_cons (pe_tup (pa_cons (pv 1) (pa_cons (pv 1) pa_nil))) (pa_cons pe_dnewK pa_nil))))))))
      (pss_one (ps_ret (pe_cmpR op_eq
        (pe_callB (call_reprG hg hr.units) (by rfl) mp (by decide +kernel) (pa_cons (pe_lc (own := [("_law_thing", 9)]) (g := gName 9) (tt := tYes) rfl scRight.nd (pi_list (pv 8)) (blkOk_by (N := rightN) (sc := defScope sRight) (by decide +kernel)) (fun _ _ _ _ _ => pg_name (i := 9) scRight.nd rfl (Or.inl rfl)) (fun _ _ _ _ _ => pts_nil)
          (fun _ _ _ _ _ => pe_cmpR (op_inO G2 s2 i2 b2 pass0 hr3) (pv 9) (pv 0) (by rfl))) pa_nil))
        (pe_callB (call_reprG hg hr.units) (by rfl) mp (by decide +kernel) (pa_cons (pe_op op_cat (pe_lst (pa_cons (pv 4) pa_nil)) (pe_op op_mulL (pe_lst (pa_cons pe_bl pa_nil)) pe_int)) pa_nil)) (nomark _)))))))), ?_⟩
    have R := run_facts hpw
    have hal : (us.foldl run1 []).length ≤ 20 := by
      have := runs_len us []
      rw [List.length_nil] at this
      omega
    have hlog : ∀ p ∈ us.foldl run1 [], LogP p := fun p hp => by
      obtain ⟨h1, h2⟩ := run_both R hp
      have e1 := hin _ h1
      have e2 := hin _ h2
      exact ⟨logP_of ⟨by omega, by omega⟩, logP_of ⟨by omega, by omega⟩⟩
    have h250 : ∀ p ∈ us.foldl run1 [], p.1.natAbs < 2 ^ 250 ∧ p.2.natAbs < 2 ^ 250 := fun p hp => by
      obtain ⟨h1, h2⟩ := run_both R hp
      have e1 := hin _ h1
      have e2 := hin _ h2
      exact ⟨by omega, by omega⟩
    have hsz := sizeLine_eq
    have q0 := q
    obtain ⟨dx, c, js, h1, h2, h3⟩ := id hT
    have hT0 := hT
    refine ⟨_, rfl, a, C, dx, _, _, rfl, h1, T.cl, T.nL, rfl, _, rfl, a, C, dx, _, _, rfl, h1, T.cl, T.nH, rfl, _, rfl, a, C, dx, _, _, rfl, h1, T.cl, T.nN, rfl, _, rfl, a, C, dx, _, _, rfl, h1, T.cl, T.nS, rfl,
      _, rfl, a, dx, _, rfl, h1, a, lo, hi, _, n, rfl, hT, _, rfl, _, rfl, a, dx, _, rfl, h1, a, lo, hi, _, n, rfl, hT, by omega, hlog, fun H1 s1 => ⟨_, rfl, by show 6 ≤ sizeLine; decide, fun d1 hd1 => ?_⟩⟩
    generalize hacc : us.foldl run1 [] = acc at *
    have eb : (!acc.isEmpty || n) = (n || !us.isEmpty) := by rw [run_emp R, Bool.or_comm]
    rw [eb]
    have sd1 := same_upd0 (o := .lst [.int lo, .int hi, .bl n, .ref c, .bl (n || !us.isEmpty), .str (txtT acc n)]) hd1
    have e1 : (upd H1 d1 (.lst [.int lo, .int hi, .bl n, .ref c, .bl (n || !us.isEmpty), .str (txtT acc n)])) d1 = some (.lst [.int lo, .int hi, .bl n, .ref c, .bl (n || !us.isEmpty), .str (txtT acc n)]) := upd_same
    have sA := s1.trans sd1
    revert e1 sA
    generalize upd H1 d1 (.lst [.int lo, .int hi, .bl n, .ref c, .bl (n || !us.isEmpty), .str (txtT acc n)]) = H2
    intro e1 sA
    clear sd1
    refine ⟨_, rfl, _, rfl, _, rfl, _, rfl, b, us, rfl, SqL.of (sA _ _ hb), by omega, fun c2 js2 H3 s3 hc2 hpr2 => ?_⟩
    rw [hacc] at hpr2
    refine ⟨fun v H' => v = .bl (n || !us.isEmpty) ∧ Same H3 H', ⟨_, rfl, n, rfl, ?_⟩, ?_⟩
    · have hb3 := s3 _ _ (sA _ _ hb)
      cases n with
      | true => exact iteT ⟨rfl, Same.refl _⟩
      | false =>
        refine iteF ⟨_, rfl, Nat.zero_le _, fun z hz => ⟨.list (us.map PyData.int), .list [], .lst (SqL.of (same_upd0 hz _ _ hb3)) (dp_ints us), .lst (SqL.of upd_same) .nil, shaped_ints us, by decide, ?_⟩⟩
        rw [eqv_nil, List.isEmpty_map]
        exact ⟨by simp, same_upd0 hz⟩
    rintro v H4 ⟨rfl, s4⟩
    have sB := sA.trans (s3.trans s4)
    refine ⟨_, rfl, _, rfl, b, us, n, rfl, SqL.of (sB _ _ hb), by omega, (by rw [hacc]; exact hlog), fun H5 s5 => ?_⟩
    rw [hacc]
    refine ⟨by show 6 ≤ sizeLine; decide, fun d2 hd2 => ?_⟩
    have sd2 := same_upd0 (o := .lst [.int lo, .int hi, .bl n, .ref c2, .bl (n || !us.isEmpty), .str (txtT acc n)]) hd2
    have e2 : (upd H5 d2 (.lst [.int lo, .int hi, .bl n, .ref c2, .bl (n || !us.isEmpty), .str (txtT acc n)])) d2 = some (.lst [.int lo, .int hi, .bl n, .ref c2, .bl (n || !us.isEmpty), .str (txtT acc n)]) := upd_same
    have sC := sB.trans (s5.trans sd2)
    have e1' := sd2 _ _ (s5 _ _ (s4 _ _ (s3 _ _ e1)))
    have hc2' := sd2 _ _ (s5 _ _ (s4 _ _ hc2))
    have hpr2' := prl_same (prl_same (prl_same hpr2 s4) s5) sd2
    revert e2 sC e1' hc2' hpr2'
    generalize upd H5 d2 (.lst [.int lo, .int hi, .bl n, .ref c2, .bl (n || !us.isEmpty), .str (txtT acc n)]) = H6
    intro e2 sC e1 hc2 hpr2
    clear sd2 s5 sB s4 s3 sA s1 hd1 hd2
    have hT6 : TrAt C H6 a lo hi acc (.bl n) := ⟨dx, c, js, sC _ _ h1, sC _ _ h2, prl_same h3 sC⟩
    have h16 := sC _ _ h1
    have hb6 := sC _ _ hb
    have hD1 : Dd K H6 (.ref d1) (.list [.int lo, .int hi, .bool n, dAcc acc, .bool (n || !us.isEmpty), .str (txtT acc n)]) :=
      .lst (SqL.of e1) (.cons (.int _) (.cons (.int _) (.cons (.bl _) (.cons (.tup (SqT.of (sC _ _ h2)) (dd_acc (prl_same h3 sC))) (.cons (.bl _) (.cons (.str _) .nil))))))
    have hD2 : Dd K H6 (.ref d2) (.list [.int lo, .int hi, .bool n, dAcc acc, .bool (n || !us.isEmpty), .str (txtT acc n)]) :=
      .lst (SqL.of e2) (.cons (.int _) (.cons (.int _) (.cons (.bl _) (.cons (.tup (SqT.of hc2) (dd_acc hpr2)) (.cons (.bl _) (.cons (.str _) .nil))))))
    have ok1 := ((OkD.list (n := 900000) (m := 4) (ds := [.int lo, .int hi, .bool n, dAcc acc, .bool (n || !us.isEmpty), .str (txtT acc n)]) (fun d hd => by
      simp only [List.mem_cons, List.not_mem_nil, or_false] at hd
      rcases hd with h | h | h | h | h | h <;> subst h
      · exact (OkD.int (by omega)).mono (by decide) (by decide)
      · exact (OkD.int (by omega)).mono (by decide) (by decide)
      · exact (OkD.bool _).mono (by decide) (by decide)
      · exact (ok_acc hal h250).mono (by decide) (by decide)
      · exact (OkD.bool _).mono (by decide) (by decide)
      · exact (ok_txt hal hlog).mono (by decide) (by decide))).repr (by decide) (by show 900000 * 6 + 2 * 6 + 3 ≤ 16777216; decide))
    refine ⟨_, rfl, _, _, rfl, hD1, ok1.1, ok1.2.1, ok1.2.2, _, rfl, _, _, rfl, hD2, ok1.1, ok1.2.1, ok1.2.2, rfl, _, rfl, ite2 (fun e => absurd e (by simp)) (fun _ => ?_)⟩
    have okl : (dLeast acc).showable = true ∧ (dLeast acc).depth ≤ 60 ∧ (dLeast acc).shown.length ≤ sizeLine := by
      cases acc with
      | nil => exact OkD.none.repr (by decide) (by decide)
      | cons p r => exact (OkD.int (h250 p List.mem_cons_self).1).repr (by decide) (by decide)
    refine ⟨_, rfl, a, dx, _, rfl, h16, a, lo, hi, acc, .bl n, rfl, hT6, _, _, rfl, dd_least acc, okl.1, okl.2.1, okl.2.2, _, rfl, by show 1 ≤ sizeLine; decide, fun z1 hz1 => ?_⟩
    have sz1 := same_upd0 (o := .lst [.non]) hz1
    refine ⟨b, z1, _, _, rfl, rfl, sz1 _ _ hb6, upd_same, ?_, fun z2 hz2 => ?_⟩
    · rw [List.length_map]
      show us.length + 1 ≤ _
      omega
    have sz2 := same_upd0 (o := .lst (us.map V.int ++ [.non])) hz2
    refine ⟨z2, _, _, _, rfl, rfl, SqL.of upd_same, atI_nat (j := 0) (run_least hpw R), _, _, rfl, dd_least acc, okl.1, okl.2.1, okl.2.2, rfl, _, rfl, ite2 (fun e => absurd e (by simp)) (fun _ => ?_)⟩
    have sD := sC.trans (sz1.trans sz2)
    revert sD
    generalize upd (upd H6 z1 (.lst [.non])) z2 (.lst (us.map V.int ++ [.non])) = H7
    intro sD
    have okb : ∀ x : Bool, (PyData.bool x).showable = true ∧ (PyData.bool x).depth ≤ 60 ∧ (PyData.bool x).shown.length ≤ sizeLine := fun x => (OkD.bool x).repr (by decide) (by decide)
    refine ⟨_, rfl, _, _, rfl, rfl, _, rfl, _, _, rfl, rfl, _, _, rfl, rfl, ?_⟩
    refine for_range (lo := lo - 1) (n := (hi + 2 - (lo - 1)).toNat) (fun i σ H' => (∃ x7, σ = [some (.ref a), some (.int lo), some (.int hi), some (.ref b), some (.bl n), some (.ref d1), some (.ref d2), x7, none, none]) ∧ Same H H') ⟨⟨none, rfl⟩, sD⟩ ?_ ?_
    · rintro i σ H8 hi2 ⟨⟨x7, rfl⟩, s8⟩
      have hT8 : TrAt C H8 a lo hi acc (.bl n) := ⟨dx, c, js, s8 _ _ h1, s8 _ _ h2, prl_same h3 s8⟩
      refine ⟨_, rfl, _, rfl, a, dx, _, rfl, s8 _ _ h1, a, lo, hi, acc, n, _, "int", rfl, hT8, by omega, .int _, fun H9 s9 => ⟨_, rfl, ?_⟩⟩
      have s89 := s8.trans s9
      refine ⟨_, _, rfl, .bl _, (okb _).1, (okb _).2.1, (okb _).2.2, _, rfl, _, rfl, b, _, rfl, .inl (SqL.of (s89 _ _ hb)), rfl, ?_, ?_⟩
      · exact List.all_eq_true.mpr fun x hx => by
          obtain ⟨y, _, rfl⟩ := List.mem_map.mp hx
          rfl
      refine ⟨_, _, rfl, .bl _, (okb _).1, (okb _).2.1, (okb _).2.2, rfl, _, rfl, ite2 (fun e => absurd e ?_) (fun _ => ⟨⟨_, rfl⟩, s89⟩)⟩
      rw [id, run_in R (fun m hm => by have := hin m hm; omega)]
      rw [show (if false = true then !inV (V.int (lo - 1 + (i : Int))) (us.map V.int) else inV (V.int (lo - 1 + (i : Int))) (us.map V.int)) = decide ((lo - 1 + (i : Int)) ∈ us) from inV_int us _]
      simp
    · rintro σ H8 ⟨⟨x7, rfl⟩, s8⟩
      refine ⟨_, rfl, by show 1 ≤ sizeLine; decide, fun t1 ht1 => ⟨_, rfl, _, rfl, by show 2 ≤ sizeLine; decide, fun t2 ht2 => fun t3 ht3 => ⟨by show 6 ≤ sizeLine; decide, fun t4 ht4 => ?_⟩⟩⟩
      have u1 := same_upd0 (o := .lst [.int lo]) ht1
      have u2 := same_upd0 (o := .tup [.int lo, .int lo]) ht2
      have u3 := same_upd0 (o := .dK []) ht3
      have u4 := same_upd0 (o := .lst [.non, .bl true, .str "3", .ref t1, .ref t2, .ref t3]) ht4
      have f1 := u4 _ _ (u3 _ _ (u2 _ _ (show (upd H8 t1 (.lst [.int lo])) t1 = some (.lst [.int lo]) from upd_same)))
      have f2 := u4 _ _ (u3 _ _ (show (upd (upd H8 t1 (.lst [.int lo])) t2 (.tup [.int lo, .int lo])) t2 = some (.tup [.int lo, .int lo]) from upd_same))
      have f3 := u4 _ _ (show (upd (upd (upd H8 t1 (.lst [.int lo])) t2 (.tup [.int lo, .int lo])) t3 (.dK [])) t3 = some (.dK []) from upd_same)
      have f4 : (upd (upd (upd (upd H8 t1 (.lst [.int lo])) t2 (.tup [.int lo, .int lo])) t3 (.dK [])) t4 (.lst [.non, .bl true, .str "3", .ref t1, .ref t2, .ref t3])) t4 = some (.lst [.non, .bl true, .str "3", .ref t1, .ref t2, .ref t3]) := upd_same
      have sE := s8.trans (u1.trans (u2.trans (u3.trans u4)))
      clear u1 u2 u3 u4 ht1 ht2 ht3 ht4
      revert f1 f2 f3 f4 sE
      generalize upd (upd (upd (upd H8 t1 (.lst [.int lo])) t2 (.tup [.int lo, .int lo])) t3 (.dK [])) t4 (.lst [.non, .bl true, .str "3", .ref t1, .ref t2, .ref t3]) = H9
      intro f1 f2 f3 f4 sE
      have hT9 : TrAt C H9 a lo hi acc (.bl n) := ⟨dx, c, js, sE _ _ h1, sE _ _ h2, prl_same h3 sE⟩
      have key : Paired (fun x v => ∃ T, Gv H9 x T ∧ inT acc n x = v) [V.non, .bl true, .str "3", .ref t1, .ref t2, .ref t3] [n, false, false, false, false, false] :=
        .cons ⟨_, .non, rfl⟩ (.cons ⟨_, .bl _, rfl⟩ (.cons ⟨_, .str _ (by decide +kernel), rfl⟩ (.cons ⟨_, .lst f1, rfl⟩ (.cons ⟨_, .tup f2, rfl⟩ (.cons ⟨_, .dK f3, rfl⟩ .nil)))))
      refine ⟨_, rfl, t4, rfl, ⟨_, SqL.of f4⟩, fun D hD => ?_⟩
      refine lc_it (walk_list (xs := [V.non, .bl true, .str "3", .ref t1, .ref t2, .ref t3])) (fun k H' => Same H9 H' ∧ H' D = some (.lst ((([n, false, false, false, false, false] : List Bool).take k).map V.bl))) ⟨same_upd0 hD, upd_same⟩ (fun _ _ _ y => SqL.of (y.1 _ _ f4)) ?_ ?_
      · rintro k x H10 H11 hk ⟨s10, hDk⟩ ⟨rfl, hx⟩
        obtain ⟨v, hv, T1, hg1, e1⟩ := L2.paired_get key hx
        have sF := sE.trans s10
        refine ⟨rfl, _, rfl, _, rfl, a, dx, _, rfl, sF _ _ h1, a, lo, hi, acc, n, x, T1, rfl, ⟨dx, c, js, sF _ _ h1, sF _ _ h2, prl_same h3 sF⟩, by omega, hg1.same s10, fun H12 s12 => ⟨_, rfl, _, s12 _ _ hDk, ?_, over2 (s10.trans s12) hD, ?_⟩⟩
        · rw [List.length_map, List.length_take]
          have : ([n, false, false, false, false, false] : List Bool).length = 6 := rfl
          omega
        · rw [upd_same, List.take_add_one, hv, List.map_append, id, e1]
          rfl
      · rintro H10 ⟨s10, hDk⟩
        have ek : ([n, false, false, false, false, false] : List Bool).take [V.non, .bl true, .str "3", .ref t1, .ref t2, .ref t3].length = [n, false, false, false, false, false] := rfl
        rw [ek] at hDk
        have okL := ((OkD.list (n := 2000) (m := 0) (ds := ([n, false, false, false, false, false] : List Bool).map PyData.bool) (fun d hd => by
          obtain ⟨x, _, rfl⟩ := List.mem_map.mp hd
          exact OkD.bool x)).repr (by decide) (by show 2000 * 6 + 2 * 6 + 3 ≤ 16777216; decide))
        refine ⟨_, _, rfl, .lst (SqL.of hDk) (dd_bls _), okL.1, okL.2.1, okL.2.2, _, rfl, by show 1 ≤ sizeLine; decide, fun y1 hy1 => ⟨by show 1 ≤ sizeLine; decide, fun y2 hy2 => ?_⟩⟩
        have v1 := same_upd0 (o := .lst [.bl n]) hy1
        have v2 := same_upd0 (o := .lst [.bl false]) hy2
        have g1 := v2 _ _ (show (upd H10 y1 (.lst [.bl n])) y1 = some (.lst [.bl n]) from upd_same)
        have g2 : (upd (upd H10 y1 (.lst [.bl n])) y2 (.lst [.bl false])) y2 = some (.lst [.bl false]) := upd_same
        have sG := sE.trans (s10.trans (v1.trans v2))
        revert g1 g2 sG
        generalize upd (upd H10 y1 (.lst [.bl n])) y2 (.lst [.bl false]) = H11
        intro g1 g2 sG
        refine ⟨y2, _, 5, rfl, rfl, SqL.of g2, by decide, by decide, by show 1 ≤ 1000; decide, fun y3 hy3 => ?_⟩
        have v3 := same_upd0 (o := .lst (List.replicate (5 : Int).toNat [V.bl false]).flatten) hy3
        refine ⟨y1, y3, _, _, rfl, rfl, v3 _ _ g1, upd_same, by show 6 ≤ sizeLine; decide, fun y4 hy4 => ?_⟩
        have v4 := same_upd0 (o := .lst ([V.bl n] ++ (List.replicate (5 : Int).toNat [V.bl false]).flatten)) hy4
        refine ⟨_, .list (([n, false, false, false, false, false] : List Bool).map PyData.bool), rfl, .lst (SqL.of upd_same) (dd_bls [n, false, false, false, false, false]), okL.1, okL.2.1, okL.2.2, rfl, ?_⟩
        have := q _ (sG.trans (v3.trans v4))
        rw [show decide (V.str (PyData.shown (.list (([n, false, false, false, false, false] : List Bool).map PyData.bool))) = V.str (PyData.shown (.list (([n, false, false, false, false, false] : List Bool).map PyData.bool)))) = true from decide_eq_true rfl]
        exact this
end
end K48

namespace K48
open PySem PySem.Spec PyProof.Rows L2 So
theorem StAt.same {K : PySem.W.Frag} {H H' : Hp} {sv : V} {os : Option (List (Option (V × V)))} (h : StAt K H sv os) (s : Same H H') : StAt K H' sv os := by
  rcases h with ⟨rfl, T, hT, n1, n2⟩ | ⟨a, ys, l, T, rfl, rfl, hT, hk, hz, hp, hl⟩
  · exact .inl ⟨rfl, T, hT.same s, n1, n2⟩
  · exact .inr ⟨a, ys, l, T, rfl, rfl, hT.same s, hk, hz.imp (fun h => h.ext s) (fun h => h.ext s), L2.Paired.mapP hp fun _ _ e => e.same s, hl⟩
section
variable {K : PySem.W.Frag} {C CB : Addr}
/-- Turns made, from the heap ahead of the new instance -/
theorem tinit_go {H : Hp} {x dx : Addr} {lo hi : Int} {sv n : V} {os : Option (List (Option (V × V)))} {R : Hp → Prop} {E : XK} (hx : H x = none) (hdx : H dx = none) (hst : StAt K H sv os)
    (good : ∀ its, os = some its → (∀ o ∈ its, inS lo hi o = true) → ∀ (acc : List Str2) (ys : List Str2) H', Same H H' → TrAt C H' x lo hi acc n → ys.Perm (its.map oOf) → ys.Pairwise (fun p q => p.1 ≤ q.1) → acc = ys.foldl few1 [] → R H')
    (none0 : os = none → ∀ d H', Same H H' → H' d = some (.xd [("at", .non)]) → E (.ref CB) (some d) H')
    (bad : ∀ its (i : Nat) o, os = some its → its[i]? = some o → inS lo hi o = false → (∀ j o, j < i → its[j]? = some o → inS lo hi o = true) → ∀ d H', Same H H' → H' d = some (.xd [("at", .int i)]) → E (.ref CB) (some d) H') :
    spTInit K C CB [.ref x, .int lo, .int hi, sv, n] (upd (upd H dx (.own x)) x (.ins C dx [])) (fun v H2 => v = .non ∧ R H2) E := by
  have s3 : Same H (upd (upd H dx (.own x)) x (.ins C dx [])) := fun b o e => by
    rw [upd_ne (ne_of_none e hx), upd_ne (ne_of_none e hdx)]
    exact e
  refine ⟨x, dx, lo, hi, sv, n, os, rfl, upd_same, hst.same s3, fun its e hall ys c js H' hperm hpw off ha hc hpr => ⟨rfl, good its e hall _ ys H' (fun b o e => off _ _ (ne_of_none e hx) (s3 _ _ e)) ⟨dx, c, js, ha, hc, hpr⟩ hperm hpw rfl⟩, fun e d H' s hd => none0 e d H' (s3.trans s) hd, fun its i o e h1 h2 h3 d H' s hd => bad its i o e h1 h2 h3 d H' (s3.trans s) hd⟩
/-- a stretch as an item -/
def itO (q : Str2) : Option (V × V) := some (.int q.1, .int q.2)
theorem itO_map (acc : List Str2) : (acc.map itO).map oOf = acc := by
  rw [List.map_map]
  exact (List.map_congr_left fun q _ => rfl).trans (List.map_id _)
theorem inS_it {lo hi : Int} {q : Str2} (h0 : 0 ≤ lo) (h3 : hi ≤ 1000000000000000000000000000000) (h : lo ≤ q.1 ∧ q.1 ≤ q.2 ∧ q.2 ≤ hi) : inS lo hi (itO q) = true := by
  have g1 : gMom (.int q.1) = true := decide_eq_true ⟨by omega, by omega⟩
  have g2 : gMom (.int q.2) = true := decide_eq_true ⟨by omega, by omega⟩
  unfold itO inS
  simp only [g1, g2]
  simp [h.1, h.2.1, h.2.2]
theorem cov_perm {xs ys : List Str2} (h : xs.Perm ys) {m : Int} : cov xs m ↔ cov ys m := ⟨fun ⟨q, hq, e⟩ => ⟨q, h.mem_iff.mp hq, e⟩, fun ⟨q, hq, e⟩ => ⟨q, h.mem_iff.mpr hq, e⟩⟩
theorem few_is {acc ys : List Str2} {us : List Int} {lo hi : Int} (h0 : 0 ≤ lo) (hok : ∀ q ∈ acc, lo ≤ q.1 ∧ q.1 ≤ q.2 ∧ q.2 ≤ hi) (hp : ys.Perm acc) (hs : ys.Pairwise (fun p q => p.1 ≤ q.1)) (hu : us.Pairwise (· < ·)) (e : ∀ m, m ∈ us ↔ cov acc m) : ys.foldl few1 [] = us.foldl run1 [] :=
  few_runs (fun q hq => by
    have := hok q (hp.mem_iff.mp hq)
    exact ⟨this.2.1, by omega⟩) hs hu fun m => (e m).trans (cov_perm hp).symm
/-- Turns made of stretches within the life -/
theorem tinit_ok {H : Hp} {x dx : Addr} {lo hi : Int} {sv n : V} {acc : List Str2} {us : List Int} {R : Hp → Prop} {E : XK} (hx : H x = none) (hdx : H dx = none) (hst : StAt K H sv (some (acc.map itO))) (h0 : 0 ≤ lo) (h3 : hi ≤ 1000000000000000000000000000000)
    (hok : ∀ q ∈ acc, lo ≤ q.1 ∧ q.1 ≤ q.2 ∧ q.2 ≤ hi) (hu : us.Pairwise (· < ·)) (e : ∀ m, m ∈ us ↔ cov acc m) (good : ∀ H', Same H H' → TrAt C H' x lo hi (us.foldl run1 []) n → R H') :
    spTInit K C CB [.ref x, .int lo, .int hi, sv, n] (upd (upd H dx (.own x)) x (.ins C dx [])) (fun v H2 => v = .non ∧ R H2) E := by
  refine tinit_go hx hdx hst (fun its ei _ acc' ys H' s hT hp hs ea => ?_) (fun z => by cases z) (fun its i o ei hi2 hb _ => ?_)
  · cases ei
    rw [itO_map] at hp
    rw [ea, few_is h0 hok hp hs hu e] at hT
    exact good H' s hT
  · cases ei
    obtain ⟨q, hq, rfl⟩ := List.mem_map.mp (List.mem_of_getElem? hi2)
    rw [inS_it h0 h3 (hok q hq)] at hb
    cases hb
theorem prAt_of {H : Hp} {js : List Addr} {acc : List Str2} (h : PrL H js acc) : Paired (PrAt H) (js.map V.ref) (acc.map itO) := by
  induction h with
  | nil => exact .nil
  | cons h t ih => exact .cons (.inr ⟨_, _, _, _, _, rfl, rfl, h, .int _, .int _⟩) ih
theorem Paired.rev {α β : Type} {R : α → β → Prop} : ∀ {l : List α} {m : List β}, Paired R l m → Paired R l.reverse m.reverse
  | _, _, .nil => .nil
  | _, _, .cons h t => by
    rw [List.reverse_cons, List.reverse_cons]
    exact (Paired.rev t).snoc h
theorem prl_rev {H : Hp} {js : List Addr} {acc : List Str2} (h : PrL H js acc) : PrL H js.reverse acc.reverse := Paired.rev h
theorem cov_rev {xs : List Str2} {m : Int} : cov xs.reverse m ↔ cov xs m := cov_perm (List.reverse_perm xs)
theorem ok_list {acc : List Str2} (hl : acc.length ≤ 20) (h : ∀ p ∈ acc, p.1.natAbs < 2 ^ 250 ∧ p.2.natAbs < 2 ^ 250) : (PyData.list (acc.map dPr)).showable = true ∧ (PyData.list (acc.map dPr)).depth ≤ 60 ∧ (PyData.list (acc.map dPr)).shown.length ≤ sizeLine := by
  refine ((OkD.list (n := 4007) (m := 2) (ds := acc.map dPr) fun d hd => ?_).mono (n' := 90000) (m' := 4) ?_ (by decide)).repr (by decide) (by decide)
  · obtain ⟨p, hp, rfl⟩ := List.mem_map.mp hd
    exact ok_pr (h p hp)
  · rw [List.length_map]
    omega
theorem rg_pairwise (a b : Int) : (rgI a b).Pairwise (· < ·) := by
  unfold rgI
  refine List.Pairwise.map _ (fun i j h => ?_) List.pairwise_lt_range
  omega
theorem run_rg {lo hi : Int} (h0 : 0 ≤ lo) (h : lo ≤ hi) : (rgI lo (hi + 1)).foldl run1 [] = [(lo, hi)] := by
  refine (few_is (acc := [(lo, hi)]) (ys := [(lo, hi)]) (lo := lo) (hi := hi) h0 (fun q hq => ?_) (List.Perm.refl _) (List.pairwise_singleton _ _) (rg_pairwise _ _) fun m => ?_).symm
  · rw [List.mem_singleton.mp hq]
    exact ⟨Int.le_refl _, h, Int.le_refl _⟩
  · rw [mem_rgI]
    constructor
    · rintro ⟨a, b⟩
      exact ⟨_, List.mem_singleton.mpr rfl, a, by show m ≤ hi; omega⟩
    · rintro ⟨q, hq, a, b⟩
      rw [List.mem_singleton.mp hq] at a b
      exact ⟨a, by have b : m ≤ hi := b; omega⟩
end
end K48

/-! own binary operators of two instances of one class -/
namespace So
open PySem PySem.Spec PyProof.Rows L2
section
variable {X : Cx} {CX : CXT} {k : Nat} {C f : Addr} {fd : FuncData} {ps : List Str} {sp : Sp} {E : XK}
def rBinOwn (C : Addr) (sp : Sp) (E : XK) : R2 := fun x y H Q => ∃ (a dx : Addr) (fs : List (Str × V)) (a' dx' : Addr) (fs' : List (Str × V)), x = .ref a ∧ y = .ref a' ∧ H a = some (.ins C dx fs) ∧ H a' = some (.ins C dx' fs') ∧ sp [.ref a, .ref a'] H Q E
theorem op_binOwn {op : Operator} (F : FnOk X.prog X.w X.K X.mg X.base CX k f fd ps sp) (hs : PySem.W.findIn X.K (.ref C) (PySem.dunder op.info.2) = some (some (.ref f))) (hf : PySem.W.isFn X.K (.ref f) = true) (hb : Binds X.K fd ps []) (hx : Passes CX X E) (hr : Room k X.A)
    (hc : PySem.W.selfFirst X.K C = true) : OpR X (binaryOp op) (rBinOwn C sp E) := by
  intro pins s σ H x y v u Q I rx ry h
  obtain ⟨a, dx, fs, a', dx', fs', rfl, rfl, ha, ha', q⟩ := h
  cases rx
  cases ry
  obtain ⟨mA, J, _⟩ := ins_get I.hok ha
  obtain ⟨od, J, _⟩ := J.look
  obtain ⟨mB, J', _⟩ := ins_get I.hok ha'
  obtain ⟨od', J', _⟩ := J'.look
  obtain ⟨m, hF⟩ := I.fr
  refine PySem.W.binop_K hF I.ok.mod.kin J J'.type hc hs hf ?_
  refine wpAny_mono (run_fn (us := [.ref a, .ref a']) (vs := [.ref a, .ref a']) F hr hb .nil hx I (.cons rfl (.cons rfl .nil)) q) (fun w s' z => ?_) fun _ _ z => z
  obtain ⟨v, H', I', r, q'⟩ := z
  cases w <;> first | exact ⟨v, H', I', r, q'⟩ | (cases v <;> simp [L2.RelV] at r)
end
end So

/-! a comprehension of two fors: the outer walk, the inner walk -/
namespace So
open PySem PySem.Spec PyProof.Rows L2
/-- what the inner for of a comprehension asks; Nx: what holds behind it -/
def Inn (J : It) (g : TG) (tt : TT) (te : TE) (vs : List Nat) (σ : L2.St) (D : Addr) (H0 : Hp) (Nx : Hp → Prop) : Prop :=
  ∃ W1 : Nat → Nat → Hp → Prop, (∃ m, W1 0 m H0) ∧ ∀ j k H, W1 j k H → (J.stop j H ∧ Nx H) ∨ (J.go j H ∧ ∃ N1 : Hp → Prop, (∀ H', N1 H' → ∃ k', k' < k ∧ W1 (j + 1) k' H') ∧ ∀ x H', J.yld j H x H' → g x (wipe σ vs) H' fun σ3 H5 => wipe σ3 vs = wipe σ vs ∧ tt σ3 H5 fun b H6 =>
    if b = true then te σ3 H6 fun y H7 => ∃ acc, H7 D = some (.lst acc) ∧ acc.length < sizeLine ∧ N1 (upd H7 D (.lst (acc ++ [y]))) else N1 H6)
section
variable {n : Nat} {J : It} {G : Hp → Prop} {Y : Nat → Hp → V → Hp → Prop}
theorem inn_it (w : Walk J n G Y) {g : TG} {tt : TT} {te : TE} {vs : List Nat} {σ : L2.St} {H0 : Hp} {D : Addr} {Nx : Hp → Prop} (Pv : Nat → Hp → Prop) (h0 : Pv 0 H0) (hG : ∀ i H, i ≤ n → Pv i H → G H)
    (hs : ∀ i x H H', i < n → Pv i H → Y i H x H' → g x (wipe σ vs) H' fun σ2 H2 => wipe σ2 vs = wipe σ vs ∧ tt σ2 H2 fun b H3 =>
      if b = true then te σ2 H3 fun y H4 => ∃ acc, H4 D = some (.lst acc) ∧ acc.length < sizeLine ∧ Pv (i + 1) (upd H4 D (.lst (acc ++ [y]))) else Pv (i + 1) H3) (hd : ∀ H, Pv n H → Nx H) : Inn J g tt te vs σ D H0 Nx := by
  refine ⟨fun i m H => m = n - i ∧ i ≤ n ∧ Pv i H, ⟨n, (Nat.sub_zero n).symm, Nat.zero_le _, h0⟩, ?_⟩
  rintro i m H ⟨rfl, hi, p⟩
  have q := hG i H hi p
  rcases Nat.lt_or_ge i n with hlt | hge
  · refine .inr ⟨w.goes i H hlt q, Pv (i + 1), fun H' p' => ⟨n - (i + 1), by omega, rfl, hlt, p'⟩, fun x H' y => hs i x H H' hlt p (w.yields i H x H' hlt q y)⟩
  · obtain rfl : i = n := by omega
    exact .inl ⟨w.stops H q, hd H p⟩
theorem lc2_it (w : Walk J n G Y) {g g1 : TG} {tt tt1 : TT} {te : TE} {wi1 : TI} {vs vs1 : List Nat} {σ : L2.St} {H1 : Hp} {D : Addr} {Qd : Hp → Prop} (Pv : Nat → Hp → Prop) (h0 : Pv 0 (upd H1 D (.lst []))) (hG : ∀ i H, i ≤ n → Pv i H → G H)
    (hs : ∀ i x H H', i < n → Pv i H → Y i H x H' → g x (wipe σ vs) H' fun σ2 H2 => wipe σ2 vs = wipe σ vs ∧ tt σ2 H2 fun b H3 =>
      if b = true then wi1 σ2 H3 fun J1 H4 => Inn J1 g1 tt1 te vs1 σ2 D H4 (Pv (i + 1)) else Pv (i + 1) H3) (hd : ∀ H, Pv n H → Qd H) :
    ∃ W : Nat → Nat → Hp → Prop, (∃ m, W 0 m (upd H1 D (.lst []))) ∧ ∀ i m H, W i m H →
      (J.stop i H ∧ Qd H) ∨ (J.go i H ∧ ∃ Nx : Hp → Prop, (∀ H', Nx H' → ∃ m', m' < m ∧ W (i + 1) m' H') ∧ ∀ x H', J.yld i H x H' → g x (wipe σ vs) H' fun σ2 H2 => wipe σ2 vs = wipe σ vs ∧ tt σ2 H2 fun b H3 =>
        if b = true then wi1 σ2 H3 fun J1 H4 => Inn J1 g1 tt1 te vs1 σ2 D H4 Nx else Nx H3) := by
  refine ⟨fun i m H => m = n - i ∧ i ≤ n ∧ Pv i H, ⟨n, (Nat.sub_zero n).symm, Nat.zero_le _, h0⟩, ?_⟩
  rintro i m H ⟨rfl, hi, p⟩
  have q := hG i H hi p
  rcases Nat.lt_or_ge i n with hlt | hge
  · refine .inr ⟨w.goes i H hlt q, Pv (i + 1), fun H' p' => ⟨n - (i + 1), by omega, rfl, hlt, p'⟩, fun x H' y => hs i x H H' hlt p (w.yields i H x H' hlt q y)⟩
  · obtain rfl : i = n := by omega
    exact .inl ⟨w.stops H q, hd H p⟩
end
end So

/-! rules within a comprehension's block, the written part told -/
namespace So
open PySem PySem.Spec PyProof.Rows L2
section
variable {X : Cx} {K : PySem.W.Frag} {tg l e : Expr} {tl ta : TE} {f : Str} {pos : Pos}
theorem pi_tupK (h : X.K = K) (hl : PE X l tl) : PI X tg l (iTup K tl) := by
  subst h
  exact pi_tup hl
theorem pi_listK (h : X.K = K) (hl : PE X l tl) : PI X tg l (iList K tl) := by
  subst h
  exact pi_list hl
theorem pe_fldK (h : X.K = K) (he : PE X e ta) (hb : attributeBase e f X.env (eval e X.env) = eval e X.env) : PE X (.Attribute e f pos) (tFld K ta f) := by
  subst h
  exact pe_fld he hb
theorem ix_listK (h : X.K = K) : IxR X (rIxL K) := h ▸ ix_list
theorem ix_tupK (h : X.K = K) : IxR X (rIxT K) := h ▸ ix_tup
theorem op_inK (h : X.K = K) : OpR X (compareOp .In) (rIn K false) := by
  subst h
  exact op_in_seq
theorem op_notInK (h : X.K = K) : OpR X (compareOp .NotIn) (rIn K true) := by
  subst h
  exact op_notIn_seq
theorem lenK (h : X.K = K) : CallR X (.builtin "len") (fun xs H Q => ∃ (p : Addr) (ys : List V), xs = [V.ref p] ∧ (SqL K H p ys ∨ SqT K H p ys) ∧ Q (.int (ys.length : Nat)) H) := by
  subst h
  exact call_len_seq
end
end So

namespace K48
open PySem PySem.Spec PyProof.Rows L2 So
abbrev sSameL : Stmt := topS 11
abbrev sAnd : Stmt := inClass (topS 13) 5
abbrev sOr : Stmt := inClass (topS 13) 6
abbrev sInv : Stmt := inClass (topS 13) 7
abbrev sWithin : Stmt := inClass (topS 13) 8
abbrev andN : List Str := ["self", "other", "pairs", "common", "low", "high", "least", "most"]
abbrev invN : List Str := ["self", "lows", "highs", "gaps", "low", "high"]
theorem scSameL : FnScope ["one", "other"] ["one", "other"] (defScope sSameL) := ⟨rfl, rfl, rfl, by decide +kernel, rfl, by decide +kernel, by decide +kernel⟩
theorem scAnd : FnScope andN ["self", "other"] (defScope sAnd) := ⟨rfl, rfl, rfl, by decide +kernel, rfl, by decide +kernel, by decide +kernel⟩
theorem scOr : FnScope ["self", "other"] ["self", "other"] (defScope sOr) := ⟨rfl, rfl, rfl, by decide +kernel, rfl, by decide +kernel, by decide +kernel⟩
theorem scInv : FnScope invN ["self"] (defScope sInv) := ⟨rfl, rfl, rfl, by decide +kernel, rfl, by decide +kernel, by decide +kernel⟩
theorem scWithin : FnScope ["self", "other"] ["self", "other"] (defScope sWithin) := ⟨rfl, rfl, rfl, by decide +kernel, rfl, by decide +kernel, by decide +kernel⟩
theorem passNo {X : Cx} {P : Program} {w : World} : Passes (L2.CX P w) X (fun _ _ _ => False) := fun _ _ _ _ _ _ _ h => by
  obtain ⟨_, _, _, _, _, _, _, _, _, _, _, _, hE⟩ := h
  exact hE.elim
/-- a Turns of a life from lo to hi with these moments -/
structure TrU (C : Addr) (H : Hp) (a : Addr) (lo hi : Int) (us : List Int) (n : Bool) : Prop where
  at' : TrAt C H a lo hi (us.foldl run1 []) (.bl n)
  pw : us.Pairwise (· < ·)
  mem : ∀ m ∈ us, lo ≤ m ∧ m ≤ hi
  b0 : 0 ≤ lo
  b1 : lo ≤ hi
  b2 : hi ≤ lo + 12
  b3 : hi ≤ 1000000000000000000000000000000
theorem TrU.same {C : Addr} {H H' : Hp} {a : Addr} {lo hi : Int} {us : List Int} {n : Bool} (h : TrU C H a lo hi us n) (s : Same H H') : TrU C H' a lo hi us n := by
  obtain ⟨dx, c, js, e1, e2, e3⟩ := h.at'
  exact ⟨⟨dx, c, js, s _ _ e1, s _ _ e2, prl_same e3 s⟩, h.pw, h.mem, h.b0, h.b1, h.b2, h.b3⟩
theorem pw_len : ∀ {us : List Int} {lo hi : Int}, us.Pairwise (· < ·) → (∀ m ∈ us, lo ≤ m ∧ m ≤ hi) → (us.length : Int) ≤ max 0 (hi - lo + 1)
  | [], lo, hi, _, _ => by
    show (0 : Int) ≤ _
    omega
  | u :: r, lo, hi, h, hm => by
    rw [List.pairwise_cons] at h
    have h1 := hm u List.mem_cons_self
    have ih := pw_len (us := r) (lo := u + 1) (hi := hi) h.2 fun m hr => ⟨by have := h.1 m hr; omega, (hm m (List.mem_cons_of_mem _ hr)).2⟩
    rw [List.length_cons]
    push_cast
    omega
theorem TrU.len {C : Addr} {H : Hp} {a : Addr} {lo hi : Int} {us : List Int} {n : Bool} (h : TrU C H a lo hi us n) : us.length ≤ 13 := by
  have h1 := pw_len h.pw h.mem
  have h2 := h.b2
  have h3 := h.b1
  omega
/-- the moments of a life that p takes -/
def pick (lo hi : Int) (p : Int → Bool) : List Int := (rgI lo (hi + 1)).filter p
theorem mem_pick {lo hi m : Int} {p : Int → Bool} : m ∈ pick lo hi p ↔ (lo ≤ m ∧ m ≤ hi) ∧ p m = true := by
  unfold pick
  rw [List.mem_filter, mem_rgI]
  constructor
  · rintro ⟨⟨a, b⟩, c⟩
    exact ⟨⟨a, by omega⟩, c⟩
  · rintro ⟨⟨a, b⟩, c⟩
    exact ⟨⟨a, by omega⟩, c⟩
theorem pick_pw (lo hi : Int) (p : Int → Bool) : (pick lo hi p).Pairwise (· < ·) := (rg_pairwise _ _).filter _
/-- two lists of ascending moments with the same moments are one -/
theorem pick_is {us : List Int} {lo hi : Int} {p : Int → Bool} (h : us.Pairwise (· < ·)) (e : ∀ m, m ∈ us ↔ (lo ≤ m ∧ m ≤ hi) ∧ p m = true) : us = pick lo hi p := pairwise_ext h (pick_pw lo hi p) fun m => (e m).trans mem_pick.symm
section
variable {P : Program} {w : World} {K : PySem.W.Frag} {mg : Str → Option Value} {base : Heap}
/-- Turns made, of the moments that p takes -/
theorem tinit_U {C CB : Addr} {H : Hp} {x dx : Addr} {lo hi : Int} {sv : V} {n : Bool} {acc : List Str2} {R : Hp → Prop} {E : XK} (p : Int → Bool) (hx : H x = none) (hdx : H dx = none) (hst : StAt K H sv (some (acc.map itO))) (h0 : 0 ≤ lo) (h1 : lo ≤ hi) (h2 : hi ≤ lo + 12) (h3 : hi ≤ 1000000000000000000000000000000)
    (hok : ∀ q ∈ acc, lo ≤ q.1 ∧ q.1 ≤ q.2 ∧ q.2 ≤ hi) (e : ∀ m, lo ≤ m → m ≤ hi → (p m = true ↔ cov acc m)) (good : ∀ H', Same H H' → TrU C H' x lo hi (pick lo hi p) n → R H') :
    spTInit K C CB [.ref x, .int lo, .int hi, sv, .bl n] (upd (upd H dx (.own x)) x (.ins C dx [])) (fun v H2 => v = .non ∧ R H2) E := by
  refine tinit_ok hx hdx hst h0 h3 hok (pick_pw lo hi p) (fun m => ?_) fun H' s hT => good H' s ⟨hT, pick_pw lo hi p, fun m hm => (mem_pick.mp hm).1, h0, h1, h2, h3⟩
  rw [mem_pick]
  constructor
  · rintro ⟨⟨a, b⟩, c⟩
    exact (e m a b).mp c
  · rintro ⟨q, hq, a, b⟩
    have := hok q hq
    exact ⟨⟨by omega, by omega⟩, (e m (by omega) (by omega)).mpr ⟨q, hq, a, b⟩⟩
/-! ### sets of turns of one life -/
def spSameL (C CB : Addr) : Sp := fun vs H Q E => ∃ (a a' : Addr) (lo hi lo' hi' : Int) (us us' : List Int) (n n' : Bool), vs = [.ref a, .ref a'] ∧ TrU C H a lo hi us n ∧ TrU C H a' lo' hi' us' n' ∧ (lo = lo' ∧ hi = hi' → ∀ H', Same H H' → Q .non H') ∧ (¬ (lo = lo' ∧ hi = hi') → ∀ d H', Same H H' → H' d = some (.xd [("at", .non)]) → E (.ref CB) (some d) H')
theorem ok_sameL {C CB f : Addr} {fd : FuncData} (F : Fun K "check_same_life" "check_same_life" sSameL f fd) (T : Trn K mg C) (R : ∃ (f : Addr) (fd : FuncData), OneE K mg "BadTurns" "at" CB f fd ∧ Fun K "__init__" "BadTurns.__init__" sEB f fd) : FnOk P w K mg base (L2.CX P w) 3 f fd ["one", "other"] (spSameL C CB) := by
  obtain ⟨f1, fd1, O1, F1⟩ := R
  have G1 : FnOk P w K mg base CX0 1 f1 fd1 ["self", "at"] (spOneE CB "at") := ok_eB F1 O1
  refine F.okX scSameL (fun vs H Q E h => ?_) (fun cdv A outer s H vs Q E hr h => ?_)
  · obtain ⟨_, _, _, _, _, _, _, _, _, _, rfl, _⟩ := h
    rfl
  · obtain ⟨a, a', lo, hi, lo', hi', us, us', n, n', rfl, hT, hT', qy, qn⟩ := h
    obtain ⟨dx, c, js, h1, _⟩ := hT.at'
    obtain ⟨dx', c', js', h1', _⟩ := hT'.at'
    refine ⟨_, pss_one (ps_if (pt_cmpR (op_neD hr.units) (pe_tup (pa_cons (pe_fld (pv 0) rfl) (pa_cons (pe_fld (pv 0) rfl) pa_nil))) (pe_tup (pa_cons (pe_fld (pv 1) rfl) (pa_cons (pe_fld (pv 1) rfl) pa_nil))) (nomark _)) (pss_one (ps_raiseOne O1 G1 rfl (hr.mono (by decide)) (takes_of rfl rfl rfl rfl) (by rfl) (pa_cons pe_non pa_nil))) pss_nil), ?_⟩
    refine ⟨_, rfl, a, C, dx, _, _, rfl, h1, T.cl, T.nL, rfl, _, rfl, a, C, dx, _, _, rfl, h1, T.cl, T.nH, rfl, by show 2 ≤ sizeLine; decide, fun p1 hp1 => ?_⟩
    have s1 := same_upd0 (o := .tup [.int lo, .int hi]) hp1
    refine ⟨_, rfl, a', C, dx', _, _, rfl, s1 _ _ h1', T.cl, T.nL, rfl, _, rfl, a', C, dx', _, _, rfl, s1 _ _ h1', T.cl, T.nH, rfl, by show 2 ≤ sizeLine; decide, fun p2 hp2 => ?_⟩
    have s2 := same_upd0 (o := .tup [.int lo', .int hi']) hp2
    refine ⟨dPr (lo, hi), dPr (lo', hi'), .tup (SqT.of (s2 _ _ upd_same)) (.cons (.int _) (.cons (.int _) .nil)), .tup (SqT.of upd_same) (.cons (.int _) (.cons (.int _) .nil)), shaped_pr _, shaped_pr _, _, rfl, ?_⟩
    rw [eqv_pr]
    refine ite2 (fun e => ?_) (fun e => ?_)
    · have en : ¬ (lo = lo' ∧ hi = hi') := fun z => by
        rw [z.1, z.2, decide_eq_true rfl] at e
        cases e
      exact mkOne rfl fun d H' s3 _ e => qn en d H' ((s1.trans s2).trans s3) e
    · have ey : (lo, hi) = (lo', hi') := by
        by_cases z : (lo, hi) = (lo', hi')
        · exact z
        · rw [decide_eq_false z] at e
          exact absurd rfl e
      injection ey with ey1 ey2
      exact qy ⟨ey1, ey2⟩ _ (s1.trans s2)
/-! ### one & other -/
def cutP (a b : Str2) : Str2 := (max a.1 b.1, min a.2 b.2)
def pairsL (acc acc' : List Str2) : List Str2 := acc.flatMap fun a => acc'.map (cutP a)
theorem pairsL_len (acc acc' : List Str2) : (pairsL acc acc').length = acc.length * acc'.length := by
  induction acc with
  | nil => simp [pairsL]
  | cons a r ih =>
    have e : pairsL (a :: r) acc' = acc'.map (cutP a) ++ pairsL r acc' := rfl
    rw [e, List.length_append, List.length_map, ih, List.length_cons, Nat.succ_mul]
    omega
def okQ (q : Str2) : Bool := decide (q.1 ≤ q.2)
theorem cov_and {acc acc' : List Str2} {m : Int} : cov ((pairsL acc acc').filter okQ) m ↔ cov acc m ∧ cov acc' m := by
  constructor
  · rintro ⟨q, hq, h1, h2⟩
    obtain ⟨hq, _⟩ := List.mem_filter.mp hq
    obtain ⟨a, ha, hq⟩ := List.mem_flatMap.mp hq
    obtain ⟨b, hb, rfl⟩ := List.mem_map.mp hq
    have h1 : max a.1 b.1 ≤ m := h1
    have h2 : m ≤ min a.2 b.2 := h2
    exact ⟨⟨a, ha, by omega, by omega⟩, ⟨b, hb, by omega, by omega⟩⟩
  · rintro ⟨⟨a, ha, a1, a2⟩, ⟨b, hb, b1, b2⟩⟩
    have h1 : max a.1 b.1 ≤ m := by omega
    have h2 : m ≤ min a.2 b.2 := by omega
    refine ⟨cutP a b, List.mem_filter.mpr ⟨List.mem_flatMap.mpr ⟨a, ha, List.mem_map.mpr ⟨b, hb, rfl⟩⟩, decide_eq_true ?_⟩, h1, h2⟩
    show max a.1 b.1 ≤ min a.2 b.2
    omega
theorem and_in {acc acc' : List Str2} {lo hi : Int} (h : ∀ q ∈ acc, lo ≤ q.1 ∧ q.2 ≤ hi) : ∀ q ∈ (pairsL acc acc').filter okQ, lo ≤ q.1 ∧ q.1 ≤ q.2 ∧ q.2 ≤ hi := by
  intro q hq
  obtain ⟨hq, ho⟩ := List.mem_filter.mp hq
  obtain ⟨a, ha, hq⟩ := List.mem_flatMap.mp hq
  obtain ⟨b, hb, rfl⟩ := List.mem_map.mp hq
  have := h a ha
  have ho : max a.1 b.1 ≤ min a.2 b.2 := of_decide_eq_true ho
  exact ⟨by show lo ≤ max a.1 b.1; omega, ho, by show min a.2 b.2 ≤ hi; omega⟩
theorem TrU.cv {C : Addr} {H : Hp} {a : Addr} {lo hi : Int} {us : List Int} {n : Bool} (h : TrU C H a lo hi us n) (m : Int) : cov (us.foldl run1 []) m ↔ m ∈ us := (run_facts h.pw).cv m
theorem TrU.in' {C : Addr} {H : Hp} {a : Addr} {lo hi : Int} {us : List Int} {n : Bool} (h : TrU C H a lo hi us n) : ∀ q ∈ us.foldl run1 [], lo ≤ q.1 ∧ q.1 ≤ q.2 ∧ q.2 ≤ hi := fun q hq => by
  have R := run_facts h.pw
  obtain ⟨a1, a2⟩ := run_both R hq
  exact ⟨(h.mem _ a1).1, R.sep.ok q hq, (h.mem _ a2).2⟩
theorem TrU.alen {C : Addr} {H : Hp} {a : Addr} {lo hi : Int} {us : List Int} {n : Bool} (h : TrU C H a lo hi us n) : (us.foldl run1 []).length ≤ 13 := by
  have := runs_len us []
  rw [List.length_nil] at this
  have := h.len
  omega
/-- what a two-sided sign tells: g of the moments, gn of None -/
def spTwo (C CB : Addr) (g : Bool → Bool → Bool) : Sp := fun vs H Q E => ∃ (a a' : Addr) (lo hi lo' hi' : Int) (us us' : List Int) (n n' : Bool), vs = [.ref a, .ref a'] ∧ TrU C H a lo hi us n ∧ TrU C H a' lo' hi' us' n' ∧
  (lo = lo' ∧ hi = hi' → ∀ x H', Same H H' → TrU C H' x lo hi (pick lo hi fun m => g (decide (m ∈ us)) (decide (m ∈ us'))) (g n n') → Q (.ref x) H') ∧ (¬ (lo = lo' ∧ hi = hi') → ∀ d H', Same H H' → H' d = some (.xd [("at", .non)]) → E (.ref CB) (some d) H')
theorem ok_and {C CB f fS fI : Addr} {fd fdS fdI : FuncData} (F : Fun K "__and__" "Turns.__and__" sAnd f fd) (T : Trn K mg C) (mx : mg "max" = none) (mn : mg "min" = none)
    (FS : Fun K "check_same_life" "check_same_life" sSameL fS fdS) (bS : Binds K fdS ["one", "other"] []) (gS : mg "check_same_life" = some (.ref fS)) (GS : FnOk P w K mg base (L2.CX P w) 3 fS fdS ["one", "other"] (spSameL C CB))
    (MI : Mk K C fI) (bI : Binds K fdI ["self", "first", "last", "stretches", "has_none"] []) (GI : FnOk P w K mg base (L2.CX P w) 4 fI fdI ["self", "first", "last", "stretches", "has_none"] (spTInit K C CB)) :
    FnOk P w K mg base (L2.CX P w) 6 f fd ["self", "other"] (spTwo C CB and) := by
  refine F.okX scAnd (fun vs H Q E h => ?_) (fun cdv A outer s H vs Q E hr h => ?_)
  · obtain ⟨_, _, _, _, _, _, _, _, _, _, rfl, _⟩ := h
    rfl
  · obtain ⟨a, a', lo, hi, lo', hi', us, us', n, n', rfl, hT, hT', qy, qn⟩ := h
    have hr3 : Room 3 _ := hr.mono (by decide)
    refine ⟨_, pss_cons (ps_expr (pe_call GS hr3 (by rfl) gS FS.kp bS .nil (passes_call (takes_of rfl rfl rfl rfl) (fun _ _ _ _ h => h)) (pa_cons (pv 0) (pa_cons (pv 1) pa_nil))))
      (pss_cons (ps_setLc2 (i := 2) (own := [("low", 4), ("high", 5), ("least", 6), ("most", 7)]) (vs1 := [6, 7]) (g := gTup K 2 (gCons (gName 4) (gCons (gName 5) gNil))) (g1 := gTup K 2 (gCons (gName 6) (gCons (gName 7) gNil))) (tt := tYes) (tt1 := tYes) rfl scAnd.nd rfl rfl (sw_true rfl rfl rfl (by decide +kernel)) (pi_tup (pe_fld (pv 0) rfl)) (blkOk_by (N := andN) (sc := defScope sAnd) (by decide +kernel)) (by decide)
          (fun _ _ _ _ _ => pg_tup rfl (pgs_cons (pg_name (i := 4) scAnd.nd rfl (Or.inl rfl)) (pgs_cons (pg_name (i := 5) scAnd.nd rfl (Or.inl rfl)) pgs_nil))) (fun _ _ _ _ _ => pts_nil)
          (fun _ _ _ _ _ => pi_tupK (K := K) rfl (pe_fldK (K := K) rfl (pv 1) rfl)) (fun _ _ _ _ _ => pg_tup rfl (pgs_cons (pg_name (i := 6) scAnd.nd rfl (Or.inl rfl)) (pgs_cons (pg_name (i := 7) scAnd.nd rfl (Or.inl rfl)) pgs_nil))) (fun _ _ _ _ _ => pts_nil)
          (fun _ _ _ _ _ => pe_tup (pa_cons (pe_callB (call_max2 rfl) (by rfl) mx (by decide +kernel) (pa_cons (pv 4) (pa_cons (pv 6) pa_nil))) (pa_cons (pe_callB (call_min2 rfl) (by rfl) mn (by decide +kernel) (pa_cons (pv 5) (pa_cons (pv 7) pa_nil))) pa_nil))))
      (pss_cons (ps_setLc (i := 3) (own := [("low", 4), ("high", 5)]) (g := gTup K 2 (gCons (gName 4) (gCons (gName 5) gNil))) rfl scAnd.nd rfl rfl (sw_true rfl rfl rfl (by decide +kernel)) (pi_list (pv 2)) (blkOk_by (N := andN) (sc := defScope sAnd) (by decide +kernel))
          (fun _ _ _ _ _ => pg_tup rfl (pgs_cons (pg_name (i := 4) scAnd.nd rfl (Or.inl rfl)) (pgs_cons (pg_name (i := 5) scAnd.nd rfl (Or.inl rfl)) pgs_nil))) (fun _ _ _ _ _ => pts_one (pt_cmpR op_le (pv 4) (pv 5) (nomark _)))
          (fun _ _ _ _ _ => pe_tup (pa_cons (pv 4) (pa_cons (pv 5) pa_nil))))
      (pss_one (ps_ret (pe_make MI GI hr (by rfl) T.mgC bI .nil passNo (pa_cons (pe_fld (pv 0) rfl) (pa_cons (pe_fld (pv 0) rfl) (pa_cons (pv 3) (pa_cons (pe_cut (pe_and (pe_fld (pv 0) rfl) (pe_one (pe_fld (pv 1) rfl)))) pa_nil))))))))), ?_⟩
    have hsz := sizeLine_eq
    obtain ⟨dx, c, js, h1, h2, h3⟩ := id hT.at'
    obtain ⟨dx', c', js', h1', h2', h3'⟩ := id hT'.at'
    refine ⟨_, rfl, _, rfl, a, a', lo, hi, lo', hi', us, us', n, n', rfl, hT, hT', fun ey H1 s1 => ?_, fun en d H' s e => qn en d H' s e⟩
    obtain ⟨rfl, rfl⟩ := ey
    have hal := hT.alen
    have hal' := hT'.alen
    have cva := hT.cv
    have cva' := hT'.cv
    have hina := hT.in'
    generalize us.foldl run1 [] = acc at h3 hal cva hina
    generalize us'.foldl run1 [] = acc' at h3' hal' cva'
    have hjl := prl_len h3
    have hjl' := prl_len h3'
    refine ⟨_, rfl, a, C, dx, _, _, rfl, s1 _ _ h1, T.cl, T.nS, rfl, c, rfl, ⟨_, SqT.of (s1 _ _ h2)⟩, fun D hD => ?_⟩
    refine lc2_it walk_tup (fun k H' => Same H1 H' ∧ ∃ rs : List Addr, H' D = some (.lst (rs.map V.ref)) ∧ PrL H' rs (pairsL (acc.take k) acc')) ⟨same_upd0 hD, [], upd_same, .nil⟩ (fun _ _ _ y => SqT.of (y.1 _ _ (s1 _ _ h2))) ?_ ?_
    · rintro k x H2 H3 hk ⟨s2, rs, hD2, hpr⟩ ⟨rfl, hx⟩
      rw [List.length_map] at hk
      rw [List.getElem?_map] at hx
      obtain ⟨t, ht, rfl⟩ : ∃ t, js[k]? = some t ∧ x = .ref t := by
        cases e : js[k]? with
        | none => rw [e] at hx; cases hx
        | some t => rw [e] at hx; exact ⟨t, rfl, (Option.some.inj hx).symm⟩
      have s12 := s1.trans s2
      obtain ⟨p, hp, hpt⟩ := L2.paired_get (prl_same h3 s12) ht
      have et : pairsL (acc.take (k + 1)) acc' = pairsL (acc.take k) acc' ++ acc'.map (cutP p) := by
        rw [List.take_add_one, hp]
        unfold pairsL
        rw [List.flatMap_append]
        simp
      have hlk : (pairsL (acc.take k) acc').length ≤ 13 * 13 := by
        rw [pairsL_len, List.length_take]
        exact Nat.mul_le_mul (by omega) hal'
      refine ⟨t, _, rfl, SqT.of hpt, rfl, _, _, rfl, _, _, rfl, rfl, rfl, ?_⟩
      refine ⟨_, rfl, a', C, dx', _, _, rfl, s12 _ _ h1', T.cl, T.nS, rfl, c', rfl, ⟨_, SqT.of (s12 _ _ h2')⟩, ?_⟩
      refine inn_it walk_tup (fun j H' => Same H1 H' ∧ ∃ rs : List Addr, H' D = some (.lst (rs.map V.ref)) ∧ PrL H' rs (pairsL (acc.take k) acc' ++ (acc'.take j).map (cutP p))) ⟨s2, rs, hD2, by rw [List.take_zero, List.map_nil, List.append_nil]; exact hpr⟩ (fun _ _ _ y => SqT.of (y.1 _ _ (s1 _ _ h2'))) ?_ ?_
      · rintro j x H4 H5 hj ⟨s4, rs4, hD4, hpr4⟩ ⟨rfl, hx⟩
        rw [List.length_map] at hj
        rw [List.getElem?_map] at hx
        obtain ⟨t2, ht2, rfl⟩ : ∃ t, js'[j]? = some t ∧ x = .ref t := by
          cases e : js'[j]? with
          | none => rw [e] at hx; cases hx
          | some t => rw [e] at hx; exact ⟨t, rfl, (Option.some.inj hx).symm⟩
        obtain ⟨q, hq, hqt⟩ := L2.paired_get (prl_same h3' (s1.trans s4)) ht2
        refine ⟨t2, _, rfl, SqT.of hqt, rfl, _, _, rfl, _, _, rfl, rfl, rfl, ?_⟩
        refine ⟨_, rfl, _, rfl, _, _, rfl, _, rfl, _, rfl, _, _, rfl, by show 2 ≤ sizeLine; decide, fun tn htn => ?_⟩
        have e1 : (if q.1 > p.1 then q.1 else p.1) = (cutP p q).1 := by
          show _ = max p.1 q.1
          split <;> omega
        have e2 : (if q.2 < p.2 then q.2 else p.2) = (cutP p q).2 := by
          show _ = min p.2 q.2
          split <;> omega
        have s5 := same_upd0 (o := .tup [.int (if q.1 > p.1 then q.1 else p.1), .int (if q.2 < p.2 then q.2 else p.2)]) htn
        have htn5 : (upd H5 tn (.tup [.int (if q.1 > p.1 then q.1 else p.1), .int (if q.2 < p.2 then q.2 else p.2)])) tn = some (.tup [.int (cutP p q).1, .int (cutP p q).2]) := by rw [upd_same, e1, e2]
        have hD5 := s5 _ _ hD4
        have eq2 : (acc'.take (j + 1)).map (cutP p) = (acc'.take j).map (cutP p) ++ [cutP p q] := by
          rw [List.take_add_one, hq, List.map_append]
          rfl
        refine ⟨_, hD5, ?_, over2 (s4.trans s5) hD, rs4 ++ [tn], ?_, ?_⟩
        · have := prl_len hpr4
          rw [List.length_append, List.length_map, List.length_take] at this
          rw [List.length_map]
          omega
        · rw [upd_same, List.map_append]
          rfl
        · rw [eq2, ← List.append_assoc]
          exact (prl_upd (prl_same hpr4 s5) hD5).snoc ((upd_ne (ne_of htn5 hD5 (fun z => nomatch z))).trans htn5)
      · rintro H4 ⟨s4, rs4, hD4, hpr4⟩
        rw [List.length_map, hjl', List.take_length] at hpr4
        exact ⟨s4, rs4, hD4, by rw [et]; exact hpr4⟩
    rintro H2 ⟨s2, rs, hD2, hpr⟩
    rw [List.length_map, hjl, List.take_length] at hpr
    have hpl : (pairsL acc acc').length ≤ 13 * 13 := by
      rw [pairsL_len]
      exact Nat.mul_le_mul hal hal'
    have hrl := prl_len hpr
    refine ⟨_, rfl, D, rfl, ⟨_, SqL.of hD2⟩, fun D2 hD20 => ?_⟩
    refine lc_it walk_list (fun k H' => Same H2 H' ∧ ∃ rs2 : List Addr, H' D2 = some (.lst (rs2.map V.ref)) ∧ PrL H' rs2 (((pairsL acc acc').take k).filter okQ)) ⟨same_upd0 hD20, [], upd_same, .nil⟩ (fun _ _ _ y => SqL.of (y.1 _ _ hD2)) ?_ ?_
    · rintro k x H3 H4 hk ⟨s3, rs3, hD3, hpr3⟩ ⟨rfl, hx⟩
      rw [List.length_map] at hk
      rw [List.getElem?_map] at hx
      obtain ⟨t, ht, rfl⟩ : ∃ t, rs[k]? = some t ∧ x = .ref t := by
        cases e : rs[k]? with
        | none => rw [e] at hx; cases hx
        | some t => rw [e] at hx; exact ⟨t, rfl, (Option.some.inj hx).symm⟩
      obtain ⟨q, hq, hqt⟩ := L2.paired_get (prl_same hpr s3) ht
      have et : ((pairsL acc acc').take (k + 1)).filter okQ = ((pairsL acc acc').take k).filter okQ ++ (if okQ q = true then [q] else []) := by
        rw [List.take_add_one, hq, List.filter_append]
        congr 1
        cases e : okQ q <;> simp [e]
      refine ⟨t, _, rfl, SqT.of hqt, rfl, _, _, rfl, _, _, rfl, rfl, rfl, ?_⟩
      refine ⟨_, rfl, _, rfl, _, _, rfl, rfl, _, rfl, ite2 (fun cc => ?_) (fun cc => ?_)⟩
      · refine ⟨_, rfl, _, rfl, by show 2 ≤ sizeLine; decide, fun tn htn => ?_⟩
        have s5 := same_upd0 (o := .tup [.int q.1, .int q.2]) htn
        have htn5 : (upd H4 tn (.tup [.int q.1, .int q.2])) tn = some (.tup [.int q.1, .int q.2]) := upd_same
        have hD5 := s5 _ _ hD3
        refine ⟨_, hD5, ?_, over2 (s3.trans s5) hD20, rs3 ++ [tn], ?_, ?_⟩
        · have h5 := prl_len hpr3
          have h6 := List.length_filter_le okQ ((pairsL acc acc').take k)
          rw [List.length_take] at h6
          rw [List.length_map]
          omega
        · rw [upd_same, List.map_append]
          rfl
        · rw [et, if_pos (show okQ q = true from cc)]
          exact (prl_upd (prl_same hpr3 s5) hD5).snoc ((upd_ne (ne_of htn5 hD5 (fun z => nomatch z))).trans htn5)
      · refine ⟨s3, rs3, hD3, ?_⟩
        rw [et, if_neg (show ¬ okQ q = true from cc), List.append_nil]
        exact hpr3
    rintro H3 ⟨s3, rs3, hD3, hpr3⟩
    rw [List.length_map, hrl, List.take_length] at hpr3
    have s13 := s1.trans (s2.trans s3)
    have hlf : ((pairsL acc acc').filter okQ).length ≤ 13 * 13 := Nat.le_trans (List.length_filter_le _ _) hpl
    refine ⟨_, rfl, a, C, dx, _, _, rfl, s13 _ _ h1, T.cl, T.nL, rfl, _, rfl, a, C, dx, _, _, rfl, s13 _ _ h1, T.cl, T.nH, rfl, _, rfl, fun v H' => v = .bl (n && n') ∧ H' = H3, ⟨_, rfl, a, C, dx, _, _, rfl, s13 _ _ h1, T.cl, T.nN, rfl, n, rfl, ?_⟩, ?_⟩
    · cases n with
      | true => exact iteT ⟨_, rfl, a', C, dx', _, _, rfl, s13 _ _ h1', T.cl, T.nN, rfl, rfl, rfl⟩
      | false => exact iteF ⟨rfl, rfl⟩
    rintro v H' ⟨rfl, rfl⟩ x dx2 hx hdx ne
    refine tinit_U (acc := (pairsL acc acc').filter okQ) (fun m => decide (m ∈ us) && decide (m ∈ us')) hx hdx (.inr ⟨D2, _, _, "list", rfl, rfl, .inl (.lst hD3), .inr rfl, .inl (SqL.of hD3), prAt_of hpr3, by rw [List.length_map, prl_len hpr3]; omega⟩) hT.b0 hT.b1 hT.b2 hT.b3 (and_in fun q hq => ⟨(hina q hq).1, (hina q hq).2.2⟩) (fun m _ _ => ?_) (fun H' s hU => qy ⟨rfl, rfl⟩ x H' (s13.trans s) hU)
    rw [cov_and, cva m, cva' m, Bool.and_eq_true, decide_eq_true_eq, decide_eq_true_eq]
end
end K48

namespace K48
open PySem PySem.Spec PyProof.Rows L2 So
/-! ### the gaps -/
def gp (hi : Int) : Int → List Str2 → List Str2
  | lo, [] => [(lo, hi)]
  | lo, q :: r => (lo, q.1 - 1) :: gp hi (q.2 + 1) r
theorem gp_zip (hi : Int) : ∀ (acc : List Str2) (lo : Int), (lo :: acc.map fun q => q.2 + 1).zip ((acc.map fun q => q.1 - 1) ++ [hi]) = gp hi lo acc
  | [], lo => rfl
  | q :: r, lo => by
    rw [List.map_cons, List.map_cons, List.cons_append, List.zip_cons_cons, gp_zip hi r (q.2 + 1)]
    rfl
theorem gp_len (hi : Int) : ∀ (acc : List Str2) (lo : Int), (gp hi lo acc).length = acc.length + 1
  | [], lo => rfl
  | q :: r, lo => by
    show (gp hi (q.2 + 1) r).length + 1 = _
    rw [gp_len hi r, List.length_cons]
theorem gp_in {hi : Int} : ∀ {acc : List Str2} {lo : Int}, Sep acc → (∀ q ∈ acc, lo ≤ q.1 ∧ q.2 ≤ hi) → ∀ q ∈ (gp hi lo acc).filter okQ, lo ≤ q.1 ∧ q.1 ≤ q.2 ∧ q.2 ≤ hi
  | [], lo, _, _ => fun q hq => by
    obtain ⟨hq, ho⟩ := List.mem_filter.mp hq
    rw [List.mem_singleton.mp hq] at ho ⊢
    exact ⟨Int.le_refl _, of_decide_eq_true ho, Int.le_refl _⟩
  | p :: r, lo, hs, h => fun q hq => by
    obtain ⟨hq, ho⟩ := List.mem_filter.mp hq
    have hp := h p List.mem_cons_self
    have hp2 := hs.ok p List.mem_cons_self
    rcases List.mem_cons.mp hq with e | e
    · rw [e] at ho ⊢
      have ho : lo ≤ p.1 - 1 := of_decide_eq_true ho
      exact ⟨Int.le_refl _, ho, by show p.1 - 1 ≤ hi; omega⟩
    · have := gp_in (hi := hi) (acc := r) (lo := p.2 + 1) hs.tail (fun q' hq' => by
        have a := (List.pairwise_cons.mp hs.ap).1 q' hq'
        have b := h q' (List.mem_cons_of_mem _ hq')
        exact ⟨by omega, b.2⟩) q (List.mem_filter.mpr ⟨e, ho⟩)
      exact ⟨by omega, this.2⟩
theorem gp_cov {hi m : Int} : ∀ {acc : List Str2} {lo : Int}, Sep acc → (∀ q ∈ acc, lo ≤ q.1 ∧ q.2 ≤ hi) → (cov ((gp hi lo acc).filter okQ) m ↔ (lo ≤ m ∧ m ≤ hi) ∧ ¬ cov acc m)
  | [], lo, _, _ => by
    constructor
    · rintro ⟨q, hq, a, b⟩
      obtain ⟨hq, ho⟩ := List.mem_filter.mp hq
      rw [List.mem_singleton.mp hq] at a b
      exact ⟨⟨a, b⟩, cov_nil⟩
    · rintro ⟨⟨a, b⟩, _⟩
      exact ⟨(lo, hi), List.mem_filter.mpr ⟨List.mem_singleton.mpr rfl, decide_eq_true (by show lo ≤ hi; omega)⟩, a, b⟩
  | p :: r, lo, hs, h => by
    have hp := h p List.mem_cons_self
    have hp2 := hs.ok p List.mem_cons_self
    have ih := gp_cov (hi := hi) (m := m) (acc := r) (lo := p.2 + 1) hs.tail fun q' hq' => by
      have a := (List.pairwise_cons.mp hs.ap).1 q' hq'
      have b := h q' (List.mem_cons_of_mem _ hq')
      exact ⟨by omega, b.2⟩
    have e : (gp hi lo (p :: r)).filter okQ = (if okQ (lo, p.1 - 1) = true then [(lo, p.1 - 1)] else []) ++ (gp hi (p.2 + 1) r).filter okQ := by
      show ((lo, p.1 - 1) :: gp hi (p.2 + 1) r).filter okQ = _
      rw [List.filter_cons]
      split <;> rfl
    rw [e, cov_append, ih, cov_cons]
    have e1 : cov (if okQ (lo, p.1 - 1) = true then [(lo, p.1 - 1)] else []) m ↔ lo ≤ m ∧ m ≤ p.1 - 1 := by
      constructor
      · rintro ⟨q, hq, a, b⟩
        split at hq
        · rw [List.mem_singleton.mp hq] at a b
          exact ⟨a, b⟩
        · cases hq
      · rintro ⟨a, b⟩
        refine ⟨(lo, p.1 - 1), ?_, a, b⟩
        rw [if_pos (show okQ (lo, p.1 - 1) = true from decide_eq_true (by show lo ≤ p.1 - 1; omega))]
        exact List.mem_singleton.mpr rfl
    rw [e1]
    constructor
    · rintro (⟨a, b⟩ | ⟨⟨a, b⟩, c⟩)
      · refine ⟨⟨a, by omega⟩, ?_⟩
        rintro (⟨c1, _⟩ | c)
        · omega
        · have := hs.beyond c
          omega
      · refine ⟨⟨by omega, b⟩, ?_⟩
        rintro (⟨_, c2⟩ | c2)
        · omega
        · exact c c2
    · rintro ⟨⟨a, b⟩, c⟩
      by_cases d : m ≤ p.1 - 1
      · exact .inl ⟨a, d⟩
      · refine .inr ⟨⟨?_, b⟩, fun z => c (.inr z)⟩
        have : ¬ (p.1 ≤ m ∧ m ≤ p.2) := fun z => c (.inl z)
        omega
theorem paired_append {α β : Type} {R : α → β → Prop} {l' : List α} {m' : List β} (h' : Paired R l' m') : ∀ {l : List α} {m : List β}, Paired R l m → Paired R (l ++ l') (m ++ m')
  | _, _, .nil => h'
  | _, _, .cons h t => .cons h (paired_append h' t)
section
variable {P : Program} {w : World} {K : PySem.W.Frag} {mg : Str → Option Value} {base : Heap}
theorem ok_or {C CB f fS fI : Addr} {fd fdS fdI : FuncData} (F : Fun K "__or__" "Turns.__or__" sOr f fd) (T : Trn K mg C)
    (FS : Fun K "check_same_life" "check_same_life" sSameL fS fdS) (bS : Binds K fdS ["one", "other"] []) (gS : mg "check_same_life" = some (.ref fS)) (GS : FnOk P w K mg base (L2.CX P w) 3 fS fdS ["one", "other"] (spSameL C CB))
    (MI : Mk K C fI) (bI : Binds K fdI ["self", "first", "last", "stretches", "has_none"] []) (GI : FnOk P w K mg base (L2.CX P w) 4 fI fdI ["self", "first", "last", "stretches", "has_none"] (spTInit K C CB)) :
    FnOk P w K mg base (L2.CX P w) 6 f fd ["self", "other"] (spTwo C CB or) := by
  refine F.okX scOr (fun vs H Q E h => ?_) (fun cdv A outer s H vs Q E hr h => ?_)
  · obtain ⟨_, _, _, _, _, _, _, _, _, _, rfl, _⟩ := h
    rfl
  · obtain ⟨a, a', lo, hi, lo', hi', us, us', n, n', rfl, hT, hT', qy, qn⟩ := h
    have hr3 : Room 3 _ := hr.mono (by decide)
    refine ⟨_, pss_cons (ps_expr (pe_call GS hr3 (by rfl) gS FS.kp bS .nil (passes_call (takes_of rfl rfl rfl rfl) (fun _ _ _ _ h => h)) (pa_cons (pv 0) (pa_cons (pv 1) pa_nil))))
      (pss_one (ps_ret (pe_make MI GI hr (by rfl) T.mgC bI .nil passNo (pa_cons (pe_fld (pv 0) rfl) (pa_cons (pe_fld (pv 0) rfl) (pa_cons (pe_cut (pe_op op_catA (pe_fld (pv 0) rfl) (pe_fld (pv 1) rfl))) (pa_cons (pe_cut (pe_or (pe_fld (pv 0) rfl) (pe_one (pe_fld (pv 1) rfl)))) pa_nil))))))), ?_⟩
    have hsz := sizeLine_eq
    obtain ⟨dx, c, js, h1, h2, h3⟩ := id hT.at'
    obtain ⟨dx', c', js', h1', h2', h3'⟩ := id hT'.at'
    refine ⟨_, rfl, _, rfl, a, a', lo, hi, lo', hi', us, us', n, n', rfl, hT, hT', fun ey H1 s1 => ?_, fun en d H' s e => qn en d H' s e⟩
    obtain ⟨rfl, rfl⟩ := ey
    have hal := hT.alen
    have hal' := hT'.alen
    have cva := hT.cv
    have cva' := hT'.cv
    have hina := hT.in'
    have hina' := hT'.in'
    generalize us.foldl run1 [] = acc at h3 hal cva hina
    generalize us'.foldl run1 [] = acc' at h3' hal' cva' hina'
    have hjl := prl_len h3
    have hjl' := prl_len h3'
    refine ⟨_, rfl, a, C, dx, _, _, rfl, s1 _ _ h1, T.cl, T.nL, rfl, _, rfl, a, C, dx, _, _, rfl, s1 _ _ h1, T.cl, T.nH, rfl, fun v H' => ∃ (r : Addr) (rs : List Addr), v = .ref r ∧ Same H1 H' ∧ H' r = some (.tup (rs.map V.ref)) ∧ PrL H' rs (acc ++ acc'),
      ⟨_, rfl, a, C, dx, _, _, rfl, s1 _ _ h1, T.cl, T.nS, rfl, _, rfl, a', C, dx', _, _, rfl, s1 _ _ h1', T.cl, T.nS, rfl, ?_⟩, ?_⟩
    · refine ⟨c, c', _, _, rfl, rfl, SqT.of (s1 _ _ h2), SqT.of (s1 _ _ h2'), by rw [List.length_map, List.length_map]; omega, fun e => ?_, fun e1 e => ?_, fun e1 e2 r hr2 => ?_⟩
      · have : acc = [] := by
          have : js = [] := List.map_eq_nil_iff.mp e
          rw [this] at h3
          cases h3
          rfl
        subst this
        exact ⟨c', js', rfl, Same.refl _, s1 _ _ h2', prl_same h3' s1⟩
      · have : acc' = [] := by
          have : js' = [] := List.map_eq_nil_iff.mp e
          rw [this] at h3'
          cases h3'
          rfl
        subst this
        rw [List.append_nil]
        exact ⟨c, js, rfl, Same.refl _, s1 _ _ h2, prl_same h3 s1⟩
      · have s2 := same_upd0 (o := .tup (js.map V.ref ++ js'.map V.ref)) hr2
        refine ⟨r, js ++ js', rfl, s2, by rw [upd_same, List.map_append], ?_⟩
        exact paired_append (prl_same h3' (s1.trans s2)) (prl_same h3 (s1.trans s2))
    rintro v H2 ⟨r, rs, rfl, s2, hr2, hpr⟩
    have s12 := s1.trans s2
    refine ⟨fun v H' => v = .bl (n || n') ∧ H' = H2, ⟨_, rfl, a, C, dx, _, _, rfl, s12 _ _ h1, T.cl, T.nN, rfl, n, rfl, ?_⟩, ?_⟩
    · cases n with
      | true => exact iteT ⟨rfl, rfl⟩
      | false => exact iteF ⟨_, rfl, a', C, dx', _, _, rfl, s12 _ _ h1', T.cl, T.nN, rfl, rfl, rfl⟩
    rintro v H' ⟨rfl, rfl⟩ x dx2 hx hdx ne
    refine tinit_U (acc := acc ++ acc') (fun m => decide (m ∈ us) || decide (m ∈ us')) hx hdx (.inr ⟨r, _, _, "tuple", rfl, rfl, .inl (.tup hr2), .inl rfl, .inr (SqT.of hr2), prAt_of hpr, by rw [List.length_map, prl_len hpr, List.length_append]; omega⟩) hT.b0 hT.b1 hT.b2 hT.b3
      (fun q hq => (List.mem_append.mp hq).elim (hina q) (hina' q)) (fun m _ _ => ?_) (fun H' s hU => qy ⟨rfl, rfl⟩ x H' (s12.trans s) hU)
    rw [cov_append, cva m, cva' m, Bool.or_eq_true, decide_eq_true_eq, decide_eq_true_eq]
end
end K48

namespace K48
open PySem PySem.Spec PyProof.Rows L2 So
section
variable {P : Program} {w : World} {K : PySem.W.Frag} {mg : Str → Option Value} {base : Heap}
/-- what ~ tells -/
def spInv (C : Addr) : Sp := fun vs H Q E => ∃ (a : Addr) (lo hi : Int) (us : List Int) (n : Bool), vs = [.ref a] ∧ TrU C H a lo hi us n ∧
  (∀ x H', Same H H' → TrU C H' x lo hi (pick lo hi fun m => !decide (m ∈ us)) (!n) → Q (.ref x) H')
theorem ok_inv {C CB fI : Addr} {f : Addr} {fd fdI : FuncData} (F : Fun K "__invert__" "Turns.__invert__" sInv f fd) (T : Trn K mg C) (mz : mg "zip" = none)
    (MI : Mk K C fI) (bI : Binds K fdI ["self", "first", "last", "stretches", "has_none"] []) (GI : FnOk P w K mg base (L2.CX P w) 4 fI fdI ["self", "first", "last", "stretches", "has_none"] (spTInit K C CB)) :
    FnOk P w K mg base (L2.CX P w) 6 f fd ["self"] (spInv C) := by
  refine F.okX scInv (fun vs H Q E h => ?_) (fun cdv A outer s H vs Q E hr h => ?_)
  · obtain ⟨_, _, _, _, _, rfl, _⟩ := h
    rfl
  · obtain ⟨a, lo, hi, us, n, rfl, hT, qy⟩ := h
    refine ⟨_, pss_cons (ps_set scInv.nd (i := 1) rfl (Or.inl rfl) (pe_op op_cat (pe_lst (pa_cons (pe_fld (pv 0) rfl) pa_nil)) (pe_lc (own := [("low", 4), ("high", 5)]) (g := gTup K 2 (gCons (gName 4) (gCons (gName 5) gNil))) (tt := tYes) rfl scInv.nd (pi_tup (pe_fld (pv 0) rfl)) (blkOk_by (N := invN) (sc := defScope sInv) (by decide +kernel))
          (fun _ _ _ _ _ => pg_tup rfl (pgs_cons (pg_name (i := 4) scInv.nd rfl (Or.inl rfl)) (pgs_cons (pg_name (i := 5) scInv.nd rfl (Or.inl rfl)) pgs_nil))) (fun _ _ _ _ _ => pts_nil)
          (fun _ _ _ _ _ => pe_op op_add (pv 5) pe_int))))
      (pss_cons (ps_set scInv.nd (i := 2) rfl (Or.inl rfl) (pe_op op_cat (pe_lc (own := [("low", 4), ("high", 5)]) (g := gTup K 2 (gCons (gName 4) (gCons (gName 5) gNil))) (tt := tYes) rfl scInv.nd (pi_tup (pe_fld (pv 0) rfl)) (blkOk_by (N := invN) (sc := defScope sInv) (by decide +kernel))
          (fun _ _ _ _ _ => pg_tup rfl (pgs_cons (pg_name (i := 4) scInv.nd rfl (Or.inl rfl)) (pgs_cons (pg_name (i := 5) scInv.nd rfl (Or.inl rfl)) pgs_nil))) (fun _ _ _ _ _ => pts_nil)
          (fun _ _ _ _ _ => pe_op op_sub (pv 4) pe_int)) (pe_lst (pa_cons (pe_fld (pv 0) rfl) pa_nil))))
      (pss_cons (ps_setLc (i := 3) (own := [("low", 4), ("high", 5)]) (g := gTup K 2 (gCons (gName 4) (gCons (gName 5) gNil))) rfl scInv.nd rfl rfl (sw_true rfl rfl rfl (by decide +kernel)) (pi_zip (by rfl) mz (pa_cons (pv 1) (pa_cons (pv 2) pa_nil))) (blkOk_by (N := invN) (sc := defScope sInv) (by decide +kernel))
          (fun _ _ _ _ _ => pg_tup rfl (pgs_cons (pg_name (i := 4) scInv.nd rfl (Or.inl rfl)) (pgs_cons (pg_name (i := 5) scInv.nd rfl (Or.inl rfl)) pgs_nil))) (fun _ _ _ _ _ => pts_one (pt_cmpR op_le (pv 4) (pv 5) (nomark _)))
          (fun _ _ _ _ _ => pe_tup (pa_cons (pv 4) (pa_cons (pv 5) pa_nil))))
      (pss_one (ps_ret (pe_make MI GI hr (by rfl) T.mgC bI .nil passNo (pa_cons (pe_fld (pv 0) rfl) (pa_cons (pe_fld (pv 0) rfl) (pa_cons (pv 3) (pa_cons (pe_not (pe_fld (pv 0) rfl)) pa_nil))))))))), ?_⟩
    have hsz := sizeLine_eq
    obtain ⟨dx, c, js, h1, h2, h3⟩ := id hT.at'
    have R0 := run_facts hT.pw
    have hal := hT.alen
    have cva := hT.cv
    have hina := hT.in'
    have hsep := R0.sep
    generalize us.foldl run1 [] = acc at h3 hal cva hina hsep
    have hjl := prl_len h3
    refine ⟨_, rfl, a, C, dx, _, _, rfl, h1, T.cl, T.nL, rfl, by show 1 ≤ sizeLine; decide, fun p1 hp1 => ?_⟩
    have s1 := same_upd0 (o := .lst [.int lo]) hp1
    refine ⟨_, rfl, a, C, dx, _, _, rfl, s1 _ _ h1, T.cl, T.nS, rfl, c, rfl, ⟨_, SqT.of (s1 _ _ h2)⟩, fun D1 hD1 => ?_⟩
    refine lc_it walk_tup (fun k H' => Same (upd H p1 (.lst [.int lo])) H' ∧ H' D1 = some (.lst (((acc.take k).map fun q : Str2 => q.2 + 1).map V.int))) ⟨same_upd0 hD1, upd_same⟩ (fun _ _ _ y => SqT.of (y.1 _ _ (s1 _ _ h2))) ?_ ?_
    · rintro k x H2 H3 hk ⟨s2, hD2⟩ ⟨rfl, hx⟩
      rw [List.length_map] at hk
      rw [List.getElem?_map] at hx
      obtain ⟨t, ht, rfl⟩ : ∃ t, js[k]? = some t ∧ x = .ref t := by
        cases e : js[k]? with
        | none => rw [e] at hx; cases hx
        | some t => rw [e] at hx; exact ⟨t, rfl, (Option.some.inj hx).symm⟩
      obtain ⟨q, hq, hqt⟩ := L2.paired_get (prl_same h3 (s1.trans s2)) ht
      refine ⟨t, _, rfl, SqT.of hqt, rfl, _, _, rfl, _, _, rfl, rfl, rfl, ?_⟩
      refine ⟨_, rfl, _, _, rfl, rfl, _, hD2, ?_, over2 s2 hD1, ?_⟩
      · rw [List.length_map, List.length_map, List.length_take]
        omega
      · rw [List.take_add_one, hq, List.map_append, List.map_append]
        exact upd_same
    rintro H2 ⟨s2, hD2⟩
    rw [List.length_map, hjl, List.take_length] at hD2
    have s12 := s1.trans s2
    refine ⟨p1, D1, _, _, rfl, rfl, s2 _ _ upd_same, hD2, by rw [List.length_map, List.length_map]; show 1 + _ ≤ _; omega, fun p2 hp2 => ?_⟩
    have s3 := same_upd0 (o := .lst ([.int lo] ++ (acc.map fun q : Str2 => q.2 + 1).map V.int)) hp2
    have hlow : (upd H2 p2 (.lst ([.int lo] ++ (acc.map fun q : Str2 => q.2 + 1).map V.int))) p2 = some (.lst ((lo :: acc.map fun q : Str2 => q.2 + 1).map V.int)) := upd_same
    have s13 := s12.trans s3
    revert s13 hlow
    generalize upd H2 p2 (.lst ([.int lo] ++ (acc.map fun q : Str2 => q.2 + 1).map V.int)) = H3
    intro hlow s13
    refine ⟨_, rfl, a, C, dx, _, _, rfl, s13 _ _ h1, T.cl, T.nS, rfl, c, rfl, ⟨_, SqT.of (s13 _ _ h2)⟩, fun D4 hD4 => ?_⟩
    refine lc_it walk_tup (fun k H' => Same H3 H' ∧ H' D4 = some (.lst (((acc.take k).map fun q : Str2 => q.1 - 1).map V.int))) ⟨same_upd0 hD4, upd_same⟩ (fun _ _ _ y => SqT.of (y.1 _ _ (s13 _ _ h2))) ?_ ?_
    · rintro k x H4 H5 hk ⟨s4, hD5⟩ ⟨rfl, hx⟩
      rw [List.length_map] at hk
      rw [List.getElem?_map] at hx
      obtain ⟨t, ht, rfl⟩ : ∃ t, js[k]? = some t ∧ x = .ref t := by
        cases e : js[k]? with
        | none => rw [e] at hx; cases hx
        | some t => rw [e] at hx; exact ⟨t, rfl, (Option.some.inj hx).symm⟩
      obtain ⟨q, hq, hqt⟩ := L2.paired_get (prl_same h3 (s13.trans s4)) ht
      refine ⟨t, _, rfl, SqT.of hqt, rfl, _, _, rfl, _, _, rfl, rfl, rfl, ?_⟩
      refine ⟨_, rfl, _, _, rfl, rfl, _, hD5, ?_, over2 s4 hD4, ?_⟩
      · rw [List.length_map, List.length_map, List.length_take]
        omega
      · rw [List.take_add_one, hq, List.map_append, List.map_append]
        exact upd_same
    rintro H4 ⟨s4, hD5⟩
    rw [List.length_map, hjl, List.take_length] at hD5
    have s14 := s13.trans s4
    refine ⟨_, rfl, a, C, dx, _, _, rfl, s14 _ _ h1, T.cl, T.nH, rfl, by show 1 ≤ sizeLine; decide, fun p5 hp5 => ?_⟩
    have s5 := same_upd0 (o := .lst [.int hi]) hp5
    refine ⟨D4, p5, _, _, rfl, rfl, s5 _ _ hD5, upd_same, by rw [List.length_map, List.length_map]; show _ + 1 ≤ _; omega, fun p6 hp6 => ?_⟩
    have s6 := same_upd0 (o := .lst ((acc.map fun q : Str2 => q.1 - 1).map V.int ++ [.int hi])) hp6
    have hhigh : (upd (upd H4 p5 (.lst [.int hi])) p6 (.lst ((acc.map fun q : Str2 => q.1 - 1).map V.int ++ [.int hi]))) p6 = some (.lst (((acc.map fun q : Str2 => q.1 - 1) ++ [hi]).map V.int)) := by
      rw [upd_same, List.map_append]
      rfl
    have s15 := s14.trans (s5.trans s6)
    have hlow6 := (s4.trans (s5.trans s6)) _ _ hlow
    revert s15 hhigh hlow6
    generalize upd (upd H4 p5 (.lst [.int hi])) p6 (.lst ((acc.map fun q : Str2 => q.1 - 1).map V.int ++ [.int hi])) = H6
    intro hhigh s15 hlow6
    refine ⟨_, rfl, _, rfl, p2, p6, _, _, rfl, SqL.of hlow6, SqL.of hhigh, fun D7 hD7 => ?_⟩
    have hgl := gp_len hi acc lo
    have hgz := gp_zip hi acc lo
    refine lc_it (walk_zip (n := acc.length + 1) (by rw [List.length_map, List.length_map, List.length_cons, List.length_append, List.length_map, List.length_map]; show _ = min _ (_ + 1); omega)) (fun k H' => Same H6 H' ∧ ∃ rs : List Addr, H' D7 = some (.lst (rs.map V.ref)) ∧ PrL H' rs (((gp hi lo acc).take k).filter okQ)) ⟨same_upd0 hD7, [], upd_same, .nil⟩ (fun _ _ _ y => ⟨SqL.of (y.1 _ _ hlow6), SqL.of (y.1 _ _ hhigh)⟩) ?_ ?_
    · rintro k x H7 H8 hk ⟨s7, rs, hD8, hpr⟩ ⟨t, u, v, rfl, ht, rfl, hu, hv⟩
      have hkg : k < (gp hi lo acc).length := by omega
      obtain ⟨i, hi', rfl⟩ : ∃ i, (lo :: acc.map fun q : Str2 => q.2 + 1)[k]? = some i ∧ u = .int i := by
        replace hu : ((lo :: acc.map fun q : Str2 => q.2 + 1).map V.int)[k]? = some u := hu
        rw [List.getElem?_map] at hu
        cases e : (lo :: acc.map fun q : Str2 => q.2 + 1)[k]? with
        | none => rw [e] at hu; cases hu
        | some t => rw [e] at hu; exact ⟨t, rfl, (Option.some.inj hu).symm⟩
      obtain ⟨j, hj', rfl⟩ : ∃ i, ((acc.map fun q : Str2 => q.1 - 1) ++ [hi])[k]? = some i ∧ v = .int i := by
        replace hv : (((acc.map fun q : Str2 => q.1 - 1) ++ [hi]).map V.int)[k]? = some v := hv
        rw [List.getElem?_map] at hv
        cases e : ((acc.map fun q : Str2 => q.1 - 1) ++ [hi])[k]? with
        | none => rw [e] at hv; cases hv
        | some t => rw [e] at hv; exact ⟨t, rfl, (Option.some.inj hv).symm⟩
      have hq : (gp hi lo acc)[k]? = some (i, j) := by
        rw [← hgz, List.getElem?_zip_eq_some]
        exact ⟨hi', hj'⟩
      have s8 := same_upd0 (o := .tup [.int i, .int j]) ht
      have et : ((gp hi lo acc).take (k + 1)).filter okQ = ((gp hi lo acc).take k).filter okQ ++ (if okQ (i, j) = true then [(i, j)] else []) := by
        rw [List.take_add_one, hq, List.filter_append]
        congr 1
        cases e : okQ (i, j) <;> simp [e]
      refine ⟨t, _, rfl, SqT.of upd_same, rfl, _, _, rfl, _, _, rfl, rfl, rfl, ?_⟩
      refine ⟨_, rfl, _, rfl, _, _, rfl, rfl, _, rfl, ite2 (fun cc => ?_) (fun cc => ?_)⟩
      · refine ⟨_, rfl, _, rfl, by show 2 ≤ sizeLine; decide, fun tn htn => ?_⟩
        have s9 := s8.trans (same_upd0 (o := .tup [.int i, .int j]) htn)
        have htn9 : (upd (upd H7 t (.tup [.int i, .int j])) tn (.tup [.int i, .int j])) tn = some (.tup [.int (i, j).1, .int (i, j).2]) := upd_same
        have hD9 := s9 _ _ hD8
        refine ⟨_, hD9, ?_, over2 (s7.trans s9) hD7, rs ++ [tn], ?_, ?_⟩
        · have h5 := prl_len hpr
          have h6 := List.length_filter_le okQ ((gp hi lo acc).take k)
          rw [List.length_take] at h6
          rw [List.length_map]
          omega
        · rw [upd_same, List.map_append]
          rfl
        · rw [et, if_pos (show okQ (i, j) = true from cc)]
          exact (prl_upd (prl_same hpr s9) hD9).snoc ((upd_ne (ne_of htn9 hD9 (fun z => nomatch z))).trans htn9)
      · refine ⟨s7.trans s8, rs, s8 _ _ hD8, ?_⟩
        rw [et, if_neg (show ¬ okQ (i, j) = true from cc), List.append_nil]
        exact prl_same hpr s8
    rintro H7 ⟨s7, rs, hD8, hpr⟩
    rw [← hgl, List.take_length] at hpr
    have s17 := s15.trans s7
    have hrl := prl_len hpr
    have hlf := List.length_filter_le okQ (gp hi lo acc)
    have hin2 : ∀ q ∈ acc, lo ≤ q.1 ∧ q.2 ≤ hi := fun q hq => ⟨(hina q hq).1, (hina q hq).2.2⟩
    refine ⟨_, rfl, a, C, dx, _, _, rfl, s17 _ _ h1, T.cl, T.nL, rfl, _, rfl, a, C, dx, _, _, rfl, s17 _ _ h1, T.cl, T.nH, rfl, _, rfl, _, rfl, a, C, dx, _, _, rfl, s17 _ _ h1, T.cl, T.nN, rfl, n, rfl, ?_⟩
    intro x dx2 hx hdx ne
    refine tinit_U (acc := (gp hi lo acc).filter okQ) (fun m => !decide (m ∈ us)) hx hdx (.inr ⟨D7, _, _, "list", rfl, rfl, .inl (.lst hD8), .inr rfl, .inl (SqL.of hD8), prAt_of hpr, by rw [List.length_map]; omega⟩) hT.b0 hT.b1 hT.b2 hT.b3 (gp_in hsep hin2) (fun m m1 m2 => ?_) (fun H' s hU => qy x H' (s17.trans s) hU)
    rw [gp_cov hsep hin2, cva m, Bool.not_eq_true', decide_eq_false_iff_not]
    exact ⟨fun h => ⟨⟨m1, m2⟩, h⟩, fun h => h.2⟩
end
end K48

namespace K48
open PySem PySem.Spec PyProof.Rows L2 So
theorem fnok_or {P : Program} {w : World} {K : PySem.W.Frag} {mg : Str → Option Value} {base : Heap} {CX : CXT} {k : Nat} {f : Addr} {fd : FuncData} {ps : List Str} {sp sp' : Sp} (F : FnOk P w K mg base CX k f fd ps sp) (G : FnOk P w K mg base CX k f fd ps sp') :
    FnOk P w K mg base CX k f fd ps (fun vs H Q E => sp vs H Q E ∨ sp' vs H Q E) :=
  ⟨fun vs H Q E q => q.elim (F.len vs H Q E) (G.len vs H Q E), fun A outer s H args us vs Q E hr he hb hv hs => hs.elim (F.run A outer s H args us vs Q E hr he hb hv) (G.run A outer s H args us vs Q E hr he hb hv)⟩
/-- whether all moments, and None, are in the others -/
def isIn (us us' : List Int) (n n' : Bool) : Bool := us.all (fun m => decide (m ∈ us')) && (!n || n')
theorem emp_run {us : List Int} (hpw : us.Pairwise (· < ·)) : (us.foldl run1 []).isEmpty = us.isEmpty := by
  have R := run_facts hpw
  cases us with
  | nil => rfl
  | cons u r =>
    have h := (R.cv u).mpr List.mem_cons_self
    obtain ⟨q, hq, _⟩ := h
    show _ = false
    rw [List.isEmpty_eq_false_iff]
    intro z
    rw [z] at hq
    cases hq
theorem emp_within {us us' : List Int} {lo hi : Int} (h : ∀ m ∈ us, lo ≤ m ∧ m ≤ hi) :
    (pick lo hi fun m => decide (m ∈ us) && decide (m ∈ pick lo hi fun m => !decide (m ∈ us'))).isEmpty = us.all fun m => decide (m ∈ us') := by
  rw [Bool.eq_iff_iff, List.isEmpty_iff, List.all_eq_true]
  constructor
  · intro e m hm
    rw [decide_eq_true_eq]
    by_cases c : m ∈ us'
    · exact c
    · have b := h m hm
      have : m ∈ pick lo hi fun m => decide (m ∈ us) && decide (m ∈ pick lo hi fun m => !decide (m ∈ us')) :=
        mem_pick.mpr ⟨b, by rw [decide_eq_true hm, decide_eq_true (mem_pick.mpr ⟨b, by rw [decide_eq_false c]; rfl⟩)]; rfl⟩
      rw [e] at this
      cases this
  · intro e
    cases ep : pick lo hi fun m => decide (m ∈ us) && decide (m ∈ pick lo hi fun m => !decide (m ∈ us')) with
    | nil => rfl
    | cons m r =>
      have hm : m ∈ pick lo hi fun m => decide (m ∈ us) && decide (m ∈ pick lo hi fun m => !decide (m ∈ us')) := by
        rw [ep]
        exact List.mem_cons_self
      have h2 := (mem_pick.mp hm).2
      simp only [Bool.and_eq_true, decide_eq_true_eq] at h2
      have h3 := (mem_pick.mp h2.2).2
      have h4 := of_decide_eq_true (e m h2.1)
      simp [h4] at h3
section
variable {P : Program} {w : World} {K : PySem.W.Frag} {mg : Str → Option Value} {base : Heap}
/-- == of a Turns and another value -/
def spEqN (K : PySem.W.Frag) (C : Addr) : Sp := fun vs H Q _ => ∃ (a : Addr) (y : V) (T : String), vs = [.ref a, y] ∧ TyX K H y (.type T) ∧ PySem.W.kitOne K (.type T) (.ref C) = some false ∧ Q (.bl false) H
theorem ok_eqN {C f : Addr} {fd : FuncData} (F : Fun K "__eq__" "Turns.__eq__" sEq f fd) (T : Trn K mg C) (W : Words K mg) : FnOk P w K mg base CX0 1 f fd ["self", "other"] (spEqN K C) := by
  refine F.ok scEq (fun vs H Q E h => ?_) (fun cdv A outer s H vs Q E hr h => ?_)
  · obtain ⟨_, _, _, rfl, _⟩ := h
    rfl
  · obtain ⟨a, y, T0, rfl, hy, no, q⟩ := h
    refine ⟨_, pss_cons (ps_if (PW.pt (pw_or (pt_not (pt_val (pe_callB call_isi (by rfl) W.isi (by decide +kernel) (pa_cons (pv 1) (pa_cons (pe_glob (v := .ref C) rfl T.mgC rfl) pa_nil)))))
        (pw_or1 (pt_cmpR (op_neD hr.units) (pe_tup (pa_cons (pe_fld (pv 0) rfl) (pa_cons (pe_fld (pv 0) rfl) pa_nil))) (pe_tup (pa_cons (pe_fld (pv 1) rfl) (pa_cons (pe_fld (pv 1) rfl) pa_nil))) (nomark _))))) (pss_one (ps_ret pe_bl)) pss_nil)
      (pss_one (ps_ret (pe_and (pe_cmpR (op_eqD hr.units) (pe_fld (pv 0) rfl) (pe_fld (pv 1) rfl) (nomark _)) (pe_one (pe_cmpR op_eq (pe_fld (pv 0) rfl) (pe_fld (pv 1) rfl) (nomark _)))))), ?_⟩
    exact ⟨_, rfl, _, _, _, _, false, rfl, .own C, hy, no, false, rfl, iteT q⟩
def spEqA (K : PySem.W.Frag) (C : Addr) : Sp := fun vs H Q E => spEq C vs H Q E ∨ spEqN K C vs H Q E
theorem ok_eqA {C f : Addr} {fd : FuncData} (F : Fun K "__eq__" "Turns.__eq__" sEq f fd) (T : Trn K mg C) (I : TrnI K C) (W : Words K mg) : FnOk P w K mg base CX0 1 f fd ["self", "other"] (spEqA K C) := fnok_or (ok_eq F T I W) (ok_eqN F T W)
/-- within -/
def spWithin (C CB : Addr) : Sp := fun vs H Q E => ∃ (a a' : Addr) (lo hi lo' hi' : Int) (us us' : List Int) (n n' : Bool), vs = [.ref a, .ref a'] ∧ TrU C H a lo hi us n ∧ TrU C H a' lo' hi' us' n' ∧
  (lo = lo' ∧ hi = hi' → ∀ H', Same H H' → Q (.bl (isIn us us' n n')) H') ∧ (¬ (lo = lo' ∧ hi = hi') → ∀ d H', Same H H' → H' d = some (.xd [("at", .non)]) → E (.ref CB) (some d) H')
theorem ok_within {C CB f fA fI fB : Addr} {fd fdA fdI fdB : FuncData} (F : Fun K "within" "Turns.within" sWithin f fd) (T : Trn K mg C) (W : Words K mg) (sf : PySem.W.selfFirst K C = true)
    (sA : PySem.W.findIn K (.ref C) "__and__" = some (some (.ref fA))) (iA : PySem.W.isFn K (.ref fA) = true) (bA : Binds K fdA ["self", "other"] []) (GA : FnOk P w K mg base (L2.CX P w) 6 fA fdA ["self", "other"] (spTwo C CB and))
    (sI : PySem.W.findIn K (.ref C) "__invert__" = some (some (.ref fI))) (iI : PySem.W.isFn K (.ref fI) = true) (bI : Binds K fdI ["self"] []) (GI : FnOk P w K mg base (L2.CX P w) 6 fI fdI ["self"] (spInv C))
    (sB : PySem.W.findIn K (.ref C) "__bool__" = some (some (.ref fB))) (iB : PySem.W.isFn K (.ref fB) = true) (bB : Binds K fdB ["self"] []) (GB : FnOk P w K mg base CX0 1 fB fdB ["self"] (spBool C)) :
    FnOk P w K mg base (L2.CX P w) 7 f fd ["self", "other"] (spWithin C CB) := by
  refine F.okX scWithin (fun vs H Q E h => ?_) (fun cdv A outer s H vs Q E hr h => ?_)
  · obtain ⟨_, _, _, _, _, _, _, _, _, _, rfl, _⟩ := h
    rfl
  · obtain ⟨a, a', lo, hi, lo', hi', us, us', n, n', rfl, hT, hT', qy, qn⟩ := h
    have hr3 : Room 3 _ := hr.mono (by decide)
    refine ⟨_, pss_one (ps_ret (pe_not (pe_callTy (call_boolO GB sB iB bB pass0 hr3) (by rfl) W.bool (by decide +kernel) (pa_cons (pe_op (op_binOwn (op := .BitAnd) GA sA iA bA (passes_call (takes_of rfl rfl rfl rfl) (fun _ _ _ _ h => h)) hr sf) (pv 0) (pe_un (un_invOwn (E := fun _ _ _ => False) GI sI iI bI passNo hr) (pv 1))) pa_nil)))), ?_⟩
    obtain ⟨dx, c, js, h1, h2, h3⟩ := id hT.at'
    obtain ⟨dx', c', js', h1', h2', h3'⟩ := id hT'.at'
    refine ⟨_, rfl, _, rfl, a', dx', _, rfl, h1', a', lo', hi', us', n', rfl, hT', fun x H1 s1 hx => ?_⟩
    obtain ⟨dx1, c1, js1, k1, k2, k3⟩ := id hx.at'
    refine ⟨a, dx, _, x, dx1, _, rfl, rfl, s1 _ _ h1, k1, a, x, lo, hi, lo', hi', us, _, n, _, rfl, hT.same s1, hx, fun ey z H2 s2 hz => ?_, fun en d H' s e => qn en d H' (s1.trans s) e⟩
    obtain ⟨dx2, c2, js2, m1, m2, m3⟩ := id hz.at'
    refine ⟨z, dx2, _, rfl, m1, z, _, _, _, _, rfl, hz.at', _, rfl, ?_⟩
    have q := qy ey H2 (s1.trans s2)
    obtain ⟨rfl, rfl⟩ := ey
    rw [emp_run hz.pw, emp_within hT.mem]
    have e : (!(!(us.all fun m => decide (m ∈ us')) || n && !n')) = isIn us us' n n' := by
      unfold isIn
      cases (us.all fun m => decide (m ∈ us')) <;> cases n <;> cases n' <;> rfl
    exact ⟨_, rfl, by rw [e]; exact q⟩
end
end K48

namespace K48
open PySem PySem.Spec PyProof.Rows L2 So
/-- a keyword's value behind the receiver -/
def kOth {α : Type} : List α → List α → List α
  | [u], [v] => [u, v]
  | _, _ => []
section
variable {P : Program} {w : World} {K : PySem.W.Frag} {mg : Str → Option Value} {base : Heap}
/-- the signs of Turns, to the law's defs -/
structure OMs (K : PySem.W.Frag) (P : Program) (w : World) (mg : Str → Option Value) (base : Heap) (C CB : Addr) : Prop where
  M : TMs K P w mg base C
  sf : PySem.W.selfFirst K C = true
  I : TrnI K C
  nE : PySem.W.findIn K (.ref C) "__ne__" = some (some (.builtin "object.__ne__"))
  and' : ∃ (g : Addr) (fd : FuncData), PySem.W.findIn K (.ref C) "__and__" = some (some (.ref g)) ∧ PySem.W.isFn K (.ref g) = true ∧ Binds K fd ["self", "other"] [] ∧ FnOk P w K mg base (L2.CX P w) 6 g fd ["self", "other"] (spTwo C CB and)
  or' : ∃ (g : Addr) (fd : FuncData), PySem.W.findIn K (.ref C) "__or__" = some (some (.ref g)) ∧ PySem.W.isFn K (.ref g) = true ∧ Binds K fd ["self", "other"] [] ∧ FnOk P w K mg base (L2.CX P w) 6 g fd ["self", "other"] (spTwo C CB or)
  inv : ∃ (g : Addr) (fd : FuncData), PySem.W.findIn K (.ref C) "__invert__" = some (some (.ref g)) ∧ PySem.W.isFn K (.ref g) = true ∧ Binds K fd ["self"] [] ∧ FnOk P w K mg base (L2.CX P w) 6 g fd ["self"] (spInv C)
  within : ∃ (g : Addr) (fd : FuncData), Meth K C "within" g ∧ Binds K fd ["self", "other"] [] ∧ KBinds K fd ["self", "other"] ["other"] kOth kOth ∧ FnOk P w K mg base (L2.CX P w) 7 g fd ["self", "other"] (spWithin C CB)
  eq : ∃ (g : Addr) (fd : FuncData), PySem.W.findIn K (.ref C) "__eq__" = some (some (.ref g)) ∧ PySem.W.isFn K (.ref g) = true ∧ Binds K fd ["self", "other"] [] ∧ FnOk P w K mg base CX0 1 g fd ["self", "other"] (spEqA K C)
/-- a set of turns with its moments and whether it has None -/
def TlAt (C : Addr) (H : Hp) (t : Addr) (lo hi : Int) (us : List Int) (n : Bool) : Prop := ∃ a b, H t = some (.tup [.ref a, .ref b, .bl n]) ∧ H b = some (.lst (us.map V.int)) ∧ TrU C H a lo hi us n
theorem TlAt.same {C : Addr} {H H' : Hp} {t : Addr} {lo hi : Int} {us : List Int} {n : Bool} (h : TlAt C H t lo hi us n) (s : Same H H') : TlAt C H' t lo hi us n := by
  obtain ⟨a, b, h1, h2, h3⟩ := h
  exact ⟨a, b, s _ _ h1, s _ _ h2, h3.same s⟩

/-! ### the rules used, of sets of one life -/
theorem nil_ {σ : L2.St} {G : Hp} {Q : List V → Hp → Prop} (h : Q [] G) : tNil σ G Q := h
variable {C CB : Addr} {H : Hp} {lo hi : Int} {us us' : List Int} {n n' : Bool}
theorem right_of {x c : Addr} {Q : VK} {E : XK} (hT : TrU C H x lo hi us n) (hc : H c = some (.lst (us.map V.int))) (l11 : hi ≤ lo + 11) (q : ∀ H', Same H H' → Q (.bl true) H') : spRight C [.ref x, .int lo, .int hi, .ref c, .bl n] H Q E :=
  ⟨x, c, lo, hi, us, n, rfl, hT.at', hc, hT.pw, hT.mem, by have := hT.len; omega, hT.b0, hT.b1, l11, hT.b3, q⟩
theorem bin_of {a a' : Addr} {g : Bool → Bool → Bool} {Q : VK} {E : XK} (hT : TrU C H a lo hi us n) (hT' : TrU C H a' lo hi us' n') (q : ∀ x H', Same H H' → TrU C H' x lo hi (pick lo hi fun m => g (decide (m ∈ us)) (decide (m ∈ us'))) (g n n') → Q (.ref x) H') :
    rBinOwn C (spTwo C CB g) E (.ref a) (.ref a') H Q := by
  obtain ⟨dx, c, js, h1, _⟩ := id hT.at'
  obtain ⟨dx', c', js', h1', _⟩ := id hT'.at'
  exact ⟨a, dx, _, a', dx', _, rfl, rfl, h1, h1', a, a', lo, hi, lo, hi, us, us', n, n', rfl, hT, hT', fun _ => q, fun e => absurd ⟨rfl, rfl⟩ e⟩
theorem inv_of {a : Addr} {Q : VK} {E : XK} (hT : TrU C H a lo hi us n) (q : ∀ x H', Same H H' → TrU C H' x lo hi (pick lo hi fun m => !decide (m ∈ us)) (!n) → Q (.ref x) H') :
    ∃ b dx fs, V.ref a = .ref b ∧ H b = some (.ins C dx fs) ∧ spInv C [.ref b] H Q E := by
  obtain ⟨dx, c, js, h1, _⟩ := id hT.at'
  exact ⟨a, dx, _, rfl, h1, a, lo, hi, us, n, rfl, hT, q⟩
theorem run_inj (h : us.Pairwise (· < ·)) (h' : us'.Pairwise (· < ·)) : us.foldl run1 [] = us'.foldl run1 [] ↔ us = us' := by
  constructor
  · intro e
    exact pairwise_ext h h' fun m => by rw [← (run_facts h).cv m, ← (run_facts h').cv m, e]
  · intro e
    rw [e]
theorem eq_of {a a' : Addr} {g : Bool → Bool} {Q : VK} {E : XK} (I : TrnI K C) (cl : Cls K C) (hT : TrU C H a lo hi us n) (hT' : TrU C H a' lo hi us' n') (q : ∀ H', Same H H' → Q (.bl (g (decide (us = us' ∧ n = n')))) H') :
    rOwn C K (spEqA K C) E g (.ref a) (.ref a') H Q := by
  obtain ⟨dx, c, js, h1, _⟩ := id hT.at'
  obtain ⟨dx', c', js', h1', _⟩ := id hT'.at'
  have l1 := hT.alen
  have l2 := hT'.alen
  refine ⟨a, dx, _, _, rfl, h1, .base (.ins h1' cl I.ha I.hn I.htk I.hm), by simp [PySem.W.notFirst], .inl ⟨a, a', lo, hi, lo, hi, _, _, n, n', rfl, hT.at', hT'.at', by omega, by omega, fun H' s => ⟨_, rfl, ?_⟩⟩⟩
  have e : decide (lo = lo ∧ hi = hi ∧ us.foldl run1 [] = us'.foldl run1 [] ∧ n = n') = decide (us = us' ∧ n = n') := by
    rw [decide_eq_decide, run_inj hT.pw hT'.pw]
    exact ⟨fun h => h.2.2, fun h => ⟨rfl, rfl, h⟩⟩
  rw [e]
  exact q H' s
theorem within_of {a a' : Addr} {Q : VK} {E : XK} (hT : TrU C H a lo hi us n) (hT' : TrU C H a' lo hi us' n') (q : ∀ H', Same H H' → Q (.bl (isIn us us' n n')) H') : spWithin C CB [.ref a, .ref a'] H Q E :=
  ⟨a, a', lo, hi, lo, hi, us, us', n, n', rfl, hT, hT', fun _ => q, fun e => absurd ⟨rfl, rfl⟩ e⟩
theorem bin_no {a a' : Addr} {lo' hi' : Int} {g : Bool → Bool → Bool} {Q : VK} {E : XK} (hT : TrU C H a lo hi us n) (hT' : TrU C H a' lo' hi' us' n') (ne : ¬ (lo = lo' ∧ hi = hi')) (q : ∀ d H', Same H H' → H' d = some (.xd [("at", .non)]) → E (.ref CB) (some d) H') :
    rBinOwn C (spTwo C CB g) E (.ref a) (.ref a') H Q := by
  obtain ⟨dx, c, js, h1, _⟩ := id hT.at'
  obtain ⟨dx', c', js', h1', _⟩ := id hT'.at'
  exact ⟨a, dx, _, a', dx', _, rfl, rfl, h1, h1', a, a', lo, hi, lo', hi', us, us', n, n', rfl, hT, hT', fun e => absurd e ne, fun _ => q⟩
theorem within_no {a a' : Addr} {lo' hi' : Int} {Q : VK} {E : XK} (hT : TrU C H a lo hi us n) (hT' : TrU C H a' lo' hi' us' n') (ne : ¬ (lo = lo' ∧ hi = hi')) (q : ∀ d H', Same H H' → H' d = some (.xd [("at", .non)]) → E (.ref CB) (some d) H') : spWithin C CB [.ref a, .ref a'] H Q E :=
  ⟨a, a', lo, hi, lo', hi', us, us', n, n', rfl, hT, hT', fun e => absurd e ne, fun _ => q⟩
theorem eq_off {a a' : Addr} {lo' hi' : Int} {Q : VK} {E : XK} (I : TrnI K C) (cl : Cls K C) (hT : TrU C H a lo hi us n) (hT' : TrU C H a' lo' hi' us' n') (ne : ¬ (lo = lo' ∧ hi = hi')) (q : ∀ H', Same H H' → Q (.bl false) H') : rOwn C K (spEqA K C) E id (.ref a) (.ref a') H Q := by
  obtain ⟨dx, c, js, h1, _⟩ := id hT.at'
  obtain ⟨dx', c', js', h1', _⟩ := id hT'.at'
  have l1 := hT.alen
  have l2 := hT'.alen
  refine ⟨a, dx, _, _, rfl, h1, .base (.ins h1' cl I.ha I.hn I.htk I.hm), by simp [PySem.W.notFirst], .inl ⟨a, a', lo, hi, lo', hi', _, _, n, n', rfl, hT.at', hT'.at', by omega, by omega, fun H' s => ⟨_, rfl, ?_⟩⟩⟩
  rw [decide_eq_false (fun z => ne ⟨z.1, z.2.1⟩)]
  exact q H' s
theorem eq_no {a : Addr} {y : V} {Ty : String} {Q : VK} {E : XK} (hT : TrU C H a lo hi us n) (ty : TyX K H y (.type Ty)) (no : PySem.W.kitOne K (.type Ty) (.ref C) = some false ∧ PySem.W.notFirst K C (.type Ty) = true) (q : Q (.bl false) H) : rOwn C K (spEqA K C) E id (.ref a) y H Q := by
  obtain ⟨dx, c, js, h1, _⟩ := id hT.at'
  exact ⟨a, dx, _, _, rfl, h1, ty, no.2, .inr ⟨a, y, Ty, rfl, ty, no.1, _, rfl, q⟩⟩
theorem pick_nil : pick lo hi (fun _ => false) = [] := by
  unfold pick
  rw [List.filter_eq_nil_iff]
  exact fun _ _ z => nomatch z
/-- sorted(set(a + b)) -/
theorem set_sorted {w : World} {pz : Addr} {ns : List Int} {Q : VK} (hs : H pz = some (.lst (ns.map V.int))) (hl : ns.length < 64) (q : ∀ (zs : List Int) (D : Addr) (H' : Hp), zs.Pairwise (· < ·) → (∀ m, m ∈ zs ↔ m ∈ ns) → Same H H' → H' D = some (.lst (zs.map V.int)) → Q (.ref D) H') :
    rSetI K w [.ref pz] H (fun v H1 => rSortedSet w [v] H1 Q) :=
  ⟨pz, ns, rfl, .inl (SqL.of hs), hl, fun ps cc hps hcc => ⟨ps, _, cc, rfl, upd_same, by omega, fun zs D hpw hm _ hD => q zs D _ hpw (fun m => by rw [hm m, decide_eq_true_eq]) ((same_upd0 hps).trans (same_upd0 hD)) upd_same⟩⟩
/-! ### moments picked -/
theorem pick_congr {p p' : Int → Bool} (h : ∀ m, lo ≤ m → m ≤ hi → p m = p' m) : pick lo hi p = pick lo hi p' := by
  refine pairwise_ext (pick_pw _ _ _) (pick_pw _ _ _) fun m => ?_
  rw [mem_pick, mem_pick]
  constructor
  · rintro ⟨⟨a, b⟩, c⟩
    exact ⟨⟨a, b⟩, by rw [← h m a b]; exact c⟩
  · rintro ⟨⟨a, b⟩, c⟩
    exact ⟨⟨a, b⟩, by rw [h m a b]; exact c⟩
theorem dec_pick {p : Int → Bool} {m : Int} (a : lo ≤ m) (b : m ≤ hi) : decide (m ∈ pick lo hi p) = p m := by
  rw [Bool.eq_iff_iff, decide_eq_true_eq, mem_pick]
  exact ⟨fun h => h.2, fun h => ⟨⟨a, b⟩, h⟩⟩
theorem filt_is {p : Int → Bool} (h : us.Pairwise (· < ·)) (hm : ∀ m ∈ us, lo ≤ m ∧ m ≤ hi) : us.filter p = pick lo hi fun m => decide (m ∈ us) && p m :=
  pick_is (h.filter _) fun m => by
    rw [List.mem_filter, Bool.and_eq_true, decide_eq_true_eq]
    exact ⟨fun ⟨a, b⟩ => ⟨hm m a, a, b⟩, fun ⟨_, a, b⟩ => ⟨a, b⟩⟩
theorem inv_inv (h : us.Pairwise (· < ·)) (hm : ∀ m ∈ us, lo ≤ m ∧ m ≤ hi) : (pick lo hi fun m => !decide (m ∈ pick lo hi fun m => !decide (m ∈ us))) = us :=
  (pick_is h fun m => by
    constructor
    · intro e
      have := hm m e
      refine ⟨this, ?_⟩
      rw [dec_pick this.1 this.2, decide_eq_true e]
      rfl
    · rintro ⟨⟨a, b⟩, c⟩
      rw [dec_pick a b, Bool.not_not, decide_eq_true_eq] at c
      exact c).symm
theorem morgan1 : (pick lo hi fun m => !decide (m ∈ pick lo hi fun m => decide (m ∈ us) && decide (m ∈ us'))) = pick lo hi fun m => decide (m ∈ pick lo hi fun m => !decide (m ∈ us)) || decide (m ∈ pick lo hi fun m => !decide (m ∈ us')) :=
  pick_congr fun m a b => by rw [dec_pick a b, dec_pick a b, dec_pick a b, Bool.not_and]
theorem morgan2 : (pick lo hi fun m => !decide (m ∈ pick lo hi fun m => decide (m ∈ us) || decide (m ∈ us'))) = pick lo hi fun m => decide (m ∈ pick lo hi fun m => !decide (m ∈ us)) && decide (m ∈ pick lo hi fun m => !decide (m ∈ us')) :=
  pick_congr fun m a b => by rw [dec_pick a b, dec_pick a b, dec_pick a b, Bool.not_or]
theorem isIn_is : ((us.filter fun m => !decide (m ∈ us')).isEmpty && (n' || !n)) = isIn us us' n n' := by
  have e : (us.filter fun m => !decide (m ∈ us')).isEmpty = us.all fun m => decide (m ∈ us') := by
    rw [Bool.eq_iff_iff, List.isEmpty_iff, List.filter_eq_nil_iff, List.all_eq_true]
    constructor
    · intro h m hm
      have := h m hm
      simpa using this
    · intro h m hm
      have := h m hm
      simp only [decide_eq_true_eq] at this
      simp [this]
  unfold isIn
  rw [e, Bool.or_comm]
theorem eqvAll_ints : ∀ ns ms : List Int, PyData.eqvAll (ns.map PyData.int) (ms.map PyData.int) = decide (ns = ms)
  | [], [] => by simp [PyData.eqvAll]
  | [], _ :: _ => by simp [PyData.eqvAll]
  | _ :: _, [] => by simp [PyData.eqvAll]
  | a :: r, b :: t => by
    simp only [List.map_cons, PyData.eqvAll]
    rw [eqvAll_ints r t]
    have e : PyData.eqv (.int a) (.int b) = decide (a = b) := by
      by_cases c : a = b <;> simp [PyData.eqv, c]
    rw [e]
    by_cases h1 : a = b <;> by_cases h2 : r = t <;> simp [h1, h2]
def dTl (us : List Int) (n : Bool) : PyData := .tuple [.list (us.map PyData.int), .bool n]
theorem eqv_tl : PyData.eqv (dTl us n) (dTl us' n') = decide (us = us' ∧ n = n') := by
  have e : PyData.eqv (.bool n) (.bool n') = decide (n = n') := by
    cases n <;> cases n' <;> simp [PyData.eqv]
  unfold dTl
  simp only [PyData.eqv, PyData.eqvAll, Bool.and_true]
  rw [eqvAll_ints]
  by_cases h1 : us = us' <;> by_cases h2 : n = n' <;> simp [h1, h2, PyData.eqv]
theorem shaped_tl : SeqAt.shaped (dTl us n) = true := by
  have h := shaped_ints us
  unfold SeqAt.shaped at h ⊢
  rw [Bool.and_eq_true] at h ⊢
  obtain ⟨h1, h2⟩ := h
  have hd := depth_ints us
  refine ⟨?_, decide_eq_true ?_⟩
  · simp only [PyData.canLay0, PyData.canLayAll0, dTl] at h1 ⊢
    simp [h1]
  · simp only [dTl, PyData.depth, PyData.depthAll]
    omega
end
end K48

namespace K48
open PySem PySem.Spec PyProof.Rows L2 So
abbrev sJoin : Stmt := topS 25
abbrev joinN : List Str := ["_law_low", "_law_high", "_law_left", "_law_right_here", "_law_one", "_law_two", "_law_both", "_law_any_so", "_law_rest", "_law_is_in", "_law_tick"]
theorem scJoin : FnScope joinN ["_law_low", "_law_high", "_law_left", "_law_right_here"] (defScope sJoin) := ⟨rfl, rfl, rfl, by decide +kernel, rfl, by decide +kernel, by decide +kernel⟩
section
variable {P : Program} {w : World} {K : PySem.W.Frag} {mg : Str → Option Value} {base : Heap}
def spJoin (C : Addr) : Sp := fun vs H Q _ => ∃ (t t' : Addr) (lo hi : Int) (us us' : List Int) (n n' : Bool), vs = [.int lo, .int hi, .ref t, .ref t'] ∧ TlAt C H t lo hi us n ∧ TlAt C H t' lo hi us' n' ∧ hi ≤ lo + 11 ∧ ∀ H', Same H H' → Q (.bl true) H'
theorem ok_join {C CB f fR : Addr} {fd fdR : FuncData} (F : Fun K "_law_joined_right" "_law_joined_right" sJoin f fd) (O : OMs K P w mg base C CB) (ms : mg "sorted" = none) (me : mg "set" = none)
    (FR : Fun K "_law_right" "_law_right" sRight fR fdR) (bR : Binds K fdR ["_law_made", "_law_low", "_law_high", "_law_ticks_here", "_law_has_so"] []) (gR : mg "_law_right" = some (.ref fR)) (GR : FnG P w K mg base CX0 5 fR fdR ["_law_made", "_law_low", "_law_high", "_law_ticks_here", "_law_has_so"] (spRight C)) :
    FnG P w K mg base CX0 8 f fd ["_law_low", "_law_high", "_law_left", "_law_right_here"] (spJoin C) := by
  obtain ⟨gA, fdA, sA, iA, bA, GA⟩ := O.and'
  obtain ⟨gO, fdO, sO, iO, bO, GO⟩ := O.or'
  obtain ⟨gI, fdI, sI, iI, bI, GI⟩ := O.inv
  obtain ⟨gW, fdW, mW, bW, kW, GW⟩ := O.within
  obtain ⟨gE, fdE, sE, iE, bE, GE⟩ := O.eq
  have T := O.M.T
  have mp := O.M.repr
  have mr := O.M.range
  have nE := O.nE
  have mE := O.I.hm
  refine fnG_of F scJoin (fun vs H Q E h => ?_) (fun cdv A outer s H vs Q E hg hr h => ?_)
  · obtain ⟨_, _, _, _, _, _, _, _, rfl, _⟩ := h
    rfl
  · obtain ⟨t, t', lo, hi, us, us', n, n', rfl, hL, hL', l11, q⟩ := h
    have hr2 : Room 2 _ := hr.mono (by decide)
    have hr1 : Room 1 _ := hr.mono (by decide)
    have hr5 : Room 5 _ := hr.mono (by decide)
    have hr6 : Room 6 _ := hr.mono (by decide)
    refine ⟨_, pss_cons (ps_par (i := 4) (j := 5) (by rfl) scJoin.nd rfl rfl (by decide) rfl rfl (pa_cons (pe_ix ix_tup (pv 2) pe_int (fun _ _ => rfl)) (pa_cons (pe_ix ix_tup (pv 3) pe_int (fun _ _ => rfl)) pa_nil)) (by rfl))
      (pss_cons (ps_setLc (i := 6) (own := [("_law_tick", 10)]) (g := gName 10) rfl scJoin.nd rfl rfl (sw_true rfl rfl rfl (by decide +kernel)) (pi_list (pe_ix ix_tup (pv 2) pe_int (fun _ _ => rfl))) (blkOk_by (N := joinN) (sc := defScope sJoin) (by decide +kernel))
          (fun _ _ _ _ _ => pg_name (i := 10) scJoin.nd rfl (Or.inl rfl)) (fun _ _ _ _ _ => pts_one (pt_cmpR (op_inK (K := K) rfl) (pv 10) (pe_ix (ix_tupK (K := K) rfl) (pv 3) pe_int (fun _ _ => rfl)) (by rfl))) (fun _ _ _ _ _ => pv 10))
      (pss_cons (ps_set (i := 7) scJoin.nd rfl (.inl rfl) (pe_cut (pe_callB (cr_sortedSet rfl) (by rfl) ms (by decide +kernel) (pa_cons (pe_callTy (cr_setI rfl) (by rfl) me (by decide +kernel) (pa_cons (pe_op op_cat (pe_ix ix_tup (pv 2) pe_int (fun _ _ => rfl)) (pe_ix ix_tup (pv 3) pe_int (fun _ _ => rfl))) pa_nil)) pa_nil))))
      (pss_cons (ps_setLc (i := 8) (own := [("_law_tick", 10)]) (g := gName 10) rfl scJoin.nd rfl rfl (sw_true rfl rfl rfl (by decide +kernel)) (pi_rgW (prg_2 (by rfl) mr (pv 0) (pe_op op_add (pv 1) pe_int))) (blkOk_by (N := joinN) (sc := defScope sJoin) (by decide +kernel))
          (fun _ _ _ _ _ => pg_name (i := 10) scJoin.nd rfl (Or.inl rfl)) (fun _ _ _ _ _ => pts_one (pt_cmpR (op_notInK (K := K) rfl) (pv 10) (pe_ix (ix_tupK (K := K) rfl) (pv 2) pe_int (fun _ _ => rfl)) (by rfl))) (fun _ _ _ _ _ => pv 10))
      (pss_cons (ps_if (pt_not (pt_val (pe_callG GR hg hr5 (by rfl) gR FR.kp bR .nil pass0 (pa_cons (pe_op (op_binOwn (E := fun _ _ _ => False) (op := .BitAnd) GA sA iA bA passNo hr6 O.sf) (pv 4) (pv 5)) (pa_cons (pv 0) (pa_cons (pv 1) (pa_cons (pv 6) (pa_cons (pe_cut (pe_and (pe_ix ix_tup (pv 2) pe_int (fun _ _ => rfl)) (pe_one (pe_ix ix_tup (pv 3) pe_int (fun _ _ => rfl))))) pa_nil)))))))) (pss_one (ps_ret pe_bl)) pss_nil)
      (pss_cons (ps_if (pt_not (pt_val (pe_callG GR hg hr5 (by rfl) gR FR.kp bR .nil pass0 (pa_cons (pe_op (op_binOwn (E := fun _ _ _ => False) (op := .BitOr) GO sO iO bO passNo hr6 O.sf) (pv 4) (pv 5)) (pa_cons (pv 0) (pa_cons (pv 1) (pa_cons (pv 7) (pa_cons (pe_cut (pe_or (pe_ix ix_tup (pv 2) pe_int (fun _ _ => rfl)) (pe_one (pe_ix ix_tup (pv 3) pe_int (fun _ _ => rfl))))) pa_nil)))))))) (pss_one (ps_ret pe_bl)) pss_nil)
      (pss_cons (ps_if (PW.pt (pw_or (pt_not (pt_val (pe_callG GR hg hr5 (by rfl) gR FR.kp bR .nil pass0 (pa_cons (pe_un (un_invOwn (E := fun _ _ _ => False) GI sI iI bI passNo hr6) (pv 4)) (pa_cons (pv 0) (pa_cons (pv 1) (pa_cons (pv 8) (pa_cons (pe_not (pe_ix ix_tup (pv 2) pe_int (fun _ _ => rfl))) pa_nil))))))))
          (pw_or1 (pt_cmpR (op_neOwn GE sE iE bE pass0 hr2 nE mE) (pe_un (un_invOwn (E := fun _ _ _ => False) GI sI iI bI passNo hr6) (pe_un (un_invOwn (E := fun _ _ _ => False) GI sI iI bI passNo hr6) (pv 4))) (pv 4) (nomark _))))) (pss_one (ps_ret pe_bl)) pss_nil)
      (pss_cons (ps_if (PW.pt (pw_or (pt_cmpR (op_neOwn GE sE iE bE pass0 hr2 nE mE) (pe_un (un_invOwn (E := fun _ _ _ => False) GI sI iI bI passNo hr6) (pe_op (op_binOwn (E := fun _ _ _ => False) (op := .BitAnd) GA sA iA bA passNo hr6 O.sf) (pv 4) (pv 5)))
            (pe_op (op_binOwn (E := fun _ _ _ => False) (op := .BitOr) GO sO iO bO passNo hr6 O.sf) (pe_un (un_invOwn (E := fun _ _ _ => False) GI sI iI bI passNo hr6) (pv 4)) (pe_un (un_invOwn (E := fun _ _ _ => False) GI sI iI bI passNo hr6) (pv 5))) (nomark _))
          (pw_or1 (pt_cmpR (op_neOwn GE sE iE bE pass0 hr2 nE mE) (pe_un (un_invOwn (E := fun _ _ _ => False) GI sI iI bI passNo hr6) (pe_op (op_binOwn (E := fun _ _ _ => False) (op := .BitOr) GO sO iO bO passNo hr6 O.sf) (pv 4) (pv 5)))
            (pe_op (op_binOwn (E := fun _ _ _ => False) (op := .BitAnd) GA sA iA bA passNo hr6 O.sf) (pe_un (un_invOwn (E := fun _ _ _ => False) GI sI iI bI passNo hr6) (pv 4)) (pe_un (un_invOwn (E := fun _ _ _ => False) GI sI iI bI passNo hr6) (pv 5))) (nomark _))))) (pss_one (ps_ret pe_bl)) pss_nil)
      (pss_cons (ps_set (i := 9) scJoin.nd rfl (.inl rfl) (pe_cut (pe_and (pe_cmpR (op_eqD hr.units) (pe_lc (own := [("_law_tick", 10)]) (g := gName 10) rfl scJoin.nd (pi_list (pe_ix ix_tup (pv 2) pe_int (fun _ _ => rfl))) (blkOk_by (N := joinN) (sc := defScope sJoin) (by decide +kernel))
            (fun _ _ _ _ _ => pg_name (i := 10) scJoin.nd rfl (Or.inl rfl)) (fun _ _ _ _ _ => pts_one (pt_cmpR (op_notInK (K := K) rfl) (pv 10) (pe_ix (ix_tupK (K := K) rfl) (pv 3) pe_int (fun _ _ => rfl)) (by rfl))) (fun _ _ _ _ _ => pv 10)) (pe_lst pa_nil) (nomark _))
          (pe_one (pe_or (pe_ix ix_tup (pv 3) pe_int (fun _ _ => rfl)) (pe_one (pe_not (pe_ix ix_tup (pv 2) pe_int (fun _ _ => rfl)))))))))
      (pss_cons (ps_if (pt_cmpR op_ne (pe_callB (call_reprG hg hr.units) (by rfl) mp (by decide +kernel) (pa_cons (pe_lst (pa_cons (pe_meth (pv 4) T.cl mW GW hr bW .nil passNo (pa_cons (pv 5) pa_nil)) (pa_cons (pe_methK (pv 4) T.cl mW GW hr kW passNo (pk_cons (pv 5) pk_nil)) pa_nil))) pa_nil))
          (pe_callB (call_reprG hg hr.units) (by rfl) mp (by decide +kernel) (pa_cons (pe_lst (pa_cons (pv 9) (pa_cons (pv 9) pa_nil))) pa_nil)) (nomark _)) (pss_one (ps_ret pe_bl)) pss_nil)
      (pss_one (ps_ret (pe_and (pe_cmpR op_eq (pe_callB (call_reprG hg hr.units) (by rfl) mp (by decide +kernel) (pa_cons (pe_cmpR (op_eqOwn GE sE iE bE pass0 hr1) (pv 4) (pv 5) (nomark _)) pa_nil))
            (pe_callB (call_reprG hg hr.units) (by rfl) mp (by decide +kernel) (pa_cons (pe_cmpR (op_eqD hr.units) (pe_slice sl_tup (pv 2) (po_some pe_int) po_none) (pe_slice sl_tup (pv 3) (po_some pe_int) po_none) (nomark _)) pa_nil)) (nomark _))
          (pe_one (pe_callG GR hg hr5 (by rfl) gR FR.kp bR .nil pass0 (pa_cons (pv 4) (pa_cons (pv 0) (pa_cons (pv 1) (pa_cons (pe_ix ix_tup (pv 2) pe_int (fun _ _ => rfl)) (pa_cons (pe_ix ix_tup (pv 2) pe_int (fun _ _ => rfl)) pa_nil))))))))))))))))))), ?_⟩
    have hsz := sizeLine_eq
    obtain ⟨a, b, ht, hb, hU⟩ := id hL
    obtain ⟨a', b', ht', hb', hU'⟩ := id hL'
    have hln := hU.len
    have hln' := hU'.len
    have l0 := hU.b0
    have l1 := hU.b1
    have l3 := hU.b3
    have flat : ∀ ns : List Int, (ns.map V.int).all flatV = true := fun ns => List.all_eq_true.mpr fun x hx => by
      obtain ⟨y, _, rfl⟩ := List.mem_map.mp hx
      rfl
    refine ⟨_, rfl, t, _, _, _, rfl, rfl, SqT.of ht, atI_nat (j := 0) rfl, _, rfl, t', _, _, _, rfl, rfl, SqT.of ht', atI_nat (j := 0) rfl, _, _, rfl, ?_⟩
    -- both
    refine ⟨_, rfl, t, _, _, _, rfl, rfl, SqT.of ht, atI_nat (j := 1) rfl, b, rfl, ⟨_, SqL.of hb⟩, fun D6 hD6 => ?_⟩
    refine lc_it walk_list (fun k H' => Same H H' ∧ H' D6 = some (.lst (((us.take k).filter fun m => decide (m ∈ us')).map V.int))) ⟨same_upd0 hD6, upd_same⟩ (fun _ _ _ y => SqL.of (y.1 _ _ hb)) ?_ ?_
    · rintro k x H2 H3 hk ⟨s2, hD2⟩ ⟨rfl, hx⟩
      rw [List.getElem?_map] at hx
      obtain ⟨m, hm, rfl⟩ : ∃ m, us[k]? = some m ∧ x = .int m := by
        cases e : us[k]? with
        | none => rw [e] at hx; cases hx
        | some m => rw [e] at hx; exact ⟨m, rfl, (Option.some.inj hx).symm⟩
      have et : ((us.take (k + 1)).filter fun m => decide (m ∈ us')) = ((us.take k).filter fun m => decide (m ∈ us')) ++ (if decide (m ∈ us') = true then [m] else []) := by
        rw [List.take_add_one, hm, List.filter_append]
        congr 1
        by_cases c : m ∈ us' <;> simp [c]
      refine ⟨rfl, _, rfl, _, rfl, t', _, _, _, rfl, rfl, SqT.of (s2 _ _ ht'), atI_nat (j := 1) rfl, b', _, rfl, .inl (SqL.of (s2 _ _ hb')), rfl, flat _, ?_⟩
      rw [show (if false = true then !inV (V.int m) (us'.map V.int) else inV (V.int m) (us'.map V.int)) = decide (m ∈ us') from inV_int us' m]
      refine ⟨_, rfl, ite2 (fun cc => ?_) (fun cc => ?_)⟩
      · refine ⟨_, rfl, _, hD2, ?_, over2 s2 hD6, ?_⟩
        · have h6 := List.length_filter_le (fun m => decide (m ∈ us')) (us.take k)
          rw [List.length_take] at h6
          rw [List.length_map]
          omega
        · rw [upd_same, et, if_pos cc, List.map_append]
          rfl
      · exact ⟨s2, by rw [et, if_neg cc, List.append_nil]; exact hD2⟩
    rintro H6 ⟨s6, hc6⟩
    rw [List.length_map, List.take_length, filt_is hU.pw hU.mem] at hc6
    -- any
    refine ⟨fun v G => ∃ D, v = .ref D ∧ Same H6 G ∧ G D = some (.lst ((pick lo hi fun m => decide (m ∈ us) || decide (m ∈ us')).map V.int)), ⟨_, rfl, t, _, _, _, rfl, rfl, SqT.of (s6 _ _ ht), atI_nat (j := 1) rfl, _, rfl, t', _, _, _, rfl, rfl, SqT.of (s6 _ _ ht'), atI_nat (j := 1) rfl, b, b', _, _, rfl, rfl, s6 _ _ hb, s6 _ _ hb', by rw [List.length_map, List.length_map]; omega, fun pz hpz => ?_⟩, ?_⟩
    · refine ⟨pz, us ++ us', rfl, .inl (SqL.of (by rw [List.map_append]; exact upd_same)), by rw [List.length_append]; omega, fun ps cc hps hcc => ⟨ps, _, cc, rfl, upd_same, by rw [List.length_append] at hcc; omega, fun ns D7 hpw hm hl hD7 => ?_⟩⟩
      obtain rfl : ns = pick lo hi fun m => decide (m ∈ us) || decide (m ∈ us') := pick_is hpw fun m => by
        rw [hm m, decide_eq_true_eq, List.mem_append, Bool.or_eq_true, decide_eq_true_eq, decide_eq_true_eq]
        exact ⟨fun h => ⟨h.elim (hU.mem m) (hU'.mem m), h⟩, fun h => h.2⟩
      exact ⟨D7, rfl, (same_upd0 hpz).trans ((same_upd0 hps).trans (same_upd0 hD7)), upd_same⟩
    rintro _ H7 ⟨D7, rfl, s7, hc7⟩
    have hc67 := s7 _ _ hc6
    replace s7 := s6.trans s7
    -- rest
    refine ⟨_, rfl, _, rfl, _, _, rfl, rfl, _, _, rfl, rfl, fun D8 hD8 => ?_⟩
    refine lc_it (walk_range (lo := lo) (n := (hi + 1 - lo).toNat)) (fun k H' => Same H7 H' ∧ H' D8 = some (.lst ((((List.range k).map fun i => lo + ((i : Nat) : Int)).filter fun m => !decide (m ∈ us)).map V.int))) ⟨same_upd0 hD8, upd_same⟩ (fun _ _ _ _ => trivial) ?_ ?_
    · rintro k x H2 H3 hk ⟨s2, hD2⟩ ⟨rfl, rfl⟩
      have s72 := s7.trans s2
      have et : (((List.range (k + 1)).map fun i => lo + ((i : Nat) : Int)).filter fun m => !decide (m ∈ us)) = (((List.range k).map fun i => lo + ((i : Nat) : Int)).filter fun m => !decide (m ∈ us)) ++ (if (!decide (lo + ((k : Nat) : Int) ∈ us)) = true then [lo + ((k : Nat) : Int)] else []) := by
        rw [List.range_succ, List.map_append, List.filter_append]
        congr 1
        by_cases c : lo + ((k : Nat) : Int) ∈ us <;> simp [c]
      refine ⟨rfl, _, rfl, _, rfl, t, _, _, _, rfl, rfl, SqT.of (s72 _ _ ht), atI_nat (j := 1) rfl, b, _, rfl, .inl (SqL.of (s72 _ _ hb)), rfl, flat _, ?_⟩
      rw [show (if true = true then !inV (V.int (lo + ((k : Nat) : Int))) (us.map V.int) else inV (V.int (lo + ((k : Nat) : Int))) (us.map V.int)) = !decide (lo + ((k : Nat) : Int) ∈ us) from congrArg (!·) (inV_int us _)]
      refine ⟨_, rfl, ite2 (fun cc => ?_) (fun cc => ?_)⟩
      · refine ⟨_, rfl, _, hD2, ?_, over2 s2 hD8, ?_⟩
        · have h6 := List.length_filter_le (fun m => !decide (m ∈ us)) ((List.range k).map fun i => lo + ((i : Nat) : Int))
          rw [List.length_map, List.length_range] at h6
          rw [List.length_map]
          omega
        · rw [upd_same, et, if_pos cc, List.map_append]
          rfl
      · exact ⟨s2, by rw [et, if_neg cc, List.append_nil]; exact hD2⟩
    rintro H8 ⟨s8, hc8⟩
    replace hc8 : H8 D8 = some (.lst ((pick lo hi fun m => !decide (m ∈ us)).map V.int)) := hc8
    have hc78 := s8 _ _ hc7
    have hc68 := s8 _ _ hc67
    have sH := s7.trans s8
    clear s7 s8 hc7 hc67 hc6 s6 hD8 hD6
    -- and
    refine ⟨_, rfl, _, rfl, bin_of (hU.same sH) (hU'.same sH) fun x9 H9 s9 hx9 => ⟨_, rfl, _, rfl, _, rfl, fun v G => v = .bl (n && n') ∧ G = H9, ⟨_, rfl, t, _, _, _, rfl, rfl, SqT.of (s9 _ _ (sH _ _ ht)), atI_nat (j := 2) rfl, n, rfl, ?_⟩, ?_⟩⟩
    · cases n with
      | true => exact iteT ⟨_, rfl, t', _, _, _, rfl, rfl, SqT.of (s9 _ _ (sH _ _ ht')), atI_nat (j := 2) rfl, rfl, rfl⟩
      | false => exact iteF ⟨rfl, rfl⟩
    rintro v G ⟨rfl, rfl⟩
    refine nil_ (right_of hx9 (s9 _ _ hc68) l11 fun H10 s10 => ⟨_, rfl, iteF ?_⟩)
    have hc7' := s10 _ _ (s9 _ _ hc78)
    have hc8' := s10 _ _ (s9 _ _ hc8)
    replace sH := sH.trans (s9.trans s10)
    clear hx9 s9 s10 hc68 hc78 hc8
    -- or
    refine ⟨_, rfl, _, rfl, bin_of (hU.same sH) (hU'.same sH) fun x9 H9 s9 hx9 => ⟨_, rfl, _, rfl, _, rfl, fun v G => v = .bl (n || n') ∧ G = H9, ⟨_, rfl, t, _, _, _, rfl, rfl, SqT.of (s9 _ _ (sH _ _ ht)), atI_nat (j := 2) rfl, n, rfl, ?_⟩, ?_⟩⟩
    · cases n with
      | true => exact iteT ⟨rfl, rfl⟩
      | false => exact iteF ⟨_, rfl, t', _, _, _, rfl, rfl, SqT.of (s9 _ _ (sH _ _ ht')), atI_nat (j := 2) rfl, rfl, rfl⟩
    rintro v G ⟨rfl, rfl⟩
    refine nil_ (right_of hx9 (s9 _ _ hc7') l11 fun H11 s10 => ⟨_, rfl, iteF ?_⟩)
    have hc8 := s10 _ _ (s9 _ _ hc8')
    replace sH := sH.trans (s9.trans s10)
    clear hx9 s9 s10 hc7' hc8'
    -- not
    refine ⟨_, rfl, inv_of (hU.same sH) fun x9 H9 s9 hx9 => ⟨_, rfl, _, rfl, _, rfl, _, rfl, t, _, _, _, rfl, rfl, SqT.of (s9 _ _ (sH _ _ ht)), atI_nat (j := 2) rfl, n, rfl, ?_⟩⟩
    refine nil_ (right_of hx9 (s9 _ _ hc8) l11 fun H12 s10 => ⟨_, rfl, iteF ?_⟩)
    replace sH := sH.trans (s9.trans s10)
    clear hx9 s9 s10 hc8
    refine ⟨_, rfl, inv_of (hU.same sH) fun x9 H9 s9 hx9 => inv_of hx9 fun x10 H10 s10 hx10 => ⟨_, rfl, ?_⟩⟩
    rw [inv_inv hU.pw hU.mem, Bool.not_not] at hx10
    replace sH := sH.trans (s9.trans s10)
    refine eq_of O.I T.cl hx10 (hU.same sH) fun H13 s13 => ⟨_, rfl, ite2 (fun e => absurd e (by simp)) (fun _ => ?_)⟩
    replace sH := sH.trans s13
    clear hx9 hx10 s9 s10 s13
    -- exchanged
    refine ⟨_, rfl, _, rfl, bin_of (hU.same sH) (hU'.same sH) fun x1 G1 s1 hx1 => inv_of hx1 fun x2 G2 s2 hx2 => ⟨_, rfl, inv_of (hU.same (sH.trans (s1.trans s2))) fun x3 G3 s3 hx3 => ⟨_, rfl, inv_of (hU'.same (sH.trans (s1.trans (s2.trans s3)))) fun x4 G4 s4 hx4 =>
      bin_of (hx3.same s4) hx4 fun x5 G5 s5 hx5 => eq_of O.I T.cl (hx2.same (s3.trans (s4.trans s5))) hx5 fun G6 s6 => ⟨_, rfl, ite2 (fun e => absurd e ?_) (fun _ => ?_)⟩⟩⟩⟩
    · rw [decide_eq_true ⟨morgan1, Bool.not_and n n'⟩]
      decide
    replace sH := sH.trans (s1.trans (s2.trans (s3.trans (s4.trans (s5.trans s6)))))
    clear hx1 hx2 hx3 hx4 hx5 s1 s2 s3 s4 s5 s6
    refine ⟨_, rfl, _, rfl, bin_of (hU.same sH) (hU'.same sH) fun x1 G1 s1 hx1 => inv_of hx1 fun x2 G2 s2 hx2 => ⟨_, rfl, inv_of (hU.same (sH.trans (s1.trans s2))) fun x3 G3 s3 hx3 => ⟨_, rfl, inv_of (hU'.same (sH.trans (s1.trans (s2.trans s3)))) fun x4 G4 s4 hx4 =>
      bin_of (hx3.same s4) hx4 fun x5 G5 s5 hx5 => eq_of O.I T.cl (hx2.same (s3.trans (s4.trans s5))) hx5 fun G6 s6 => ⟨_, rfl, ite2 (fun e => absurd e ?_) (fun _ => ?_)⟩⟩⟩⟩
    · rw [decide_eq_true ⟨morgan2, Bool.not_or n n'⟩]
      decide
    replace sH := sH.trans (s1.trans (s2.trans (s3.trans (s4.trans (s5.trans s6)))))
    clear hx1 hx2 hx3 hx4 hx5 s1 s2 s3 s4 s5 s6
    revert sH
    generalize G6 = H14
    intro sH
    -- is in
    refine ⟨fun v G => v = .bl (isIn us us' n n') ∧ Same H14 G, ⟨_, rfl, t, _, _, _, rfl, rfl, SqT.of (sH _ _ ht), atI_nat (j := 1) rfl, b, rfl, ⟨_, SqL.of (sH _ _ hb)⟩, fun D6 hD6 => ?_⟩, ?_⟩
    · refine lc_it walk_list (fun k H' => Same H14 H' ∧ H' D6 = some (.lst (((us.take k).filter fun m => !decide (m ∈ us')).map V.int))) ⟨same_upd0 hD6, upd_same⟩ (fun _ _ _ y => SqL.of (y.1 _ _ (sH _ _ hb))) ?_ ?_
      · rintro k x H2 H3 hk ⟨s2, hD2⟩ ⟨rfl, hx⟩
        rw [List.getElem?_map] at hx
        obtain ⟨m, hm, rfl⟩ : ∃ m, us[k]? = some m ∧ x = .int m := by
          cases e : us[k]? with
          | none => rw [e] at hx; cases hx
          | some m => rw [e] at hx; exact ⟨m, rfl, (Option.some.inj hx).symm⟩
        have et : ((us.take (k + 1)).filter fun m => !decide (m ∈ us')) = ((us.take k).filter fun m => !decide (m ∈ us')) ++ (if (!decide (m ∈ us')) = true then [m] else []) := by
          rw [List.take_add_one, hm, List.filter_append]
          congr 1
          by_cases c : m ∈ us' <;> simp [c]
        have s2' := sH.trans s2
        refine ⟨rfl, _, rfl, _, rfl, t', _, _, _, rfl, rfl, SqT.of (s2' _ _ ht'), atI_nat (j := 1) rfl, b', _, rfl, .inl (SqL.of (s2' _ _ hb')), rfl, flat _, ?_⟩
        rw [show (if true = true then !inV (V.int m) (us'.map V.int) else inV (V.int m) (us'.map V.int)) = !decide (m ∈ us') from congrArg (!·) (inV_int us' m)]
        refine ⟨_, rfl, ite2 (fun cc => ?_) (fun cc => ?_)⟩
        · refine ⟨_, rfl, _, hD2, ?_, over2 s2 hD6, ?_⟩
          · have h6 := List.length_filter_le (fun m => !decide (m ∈ us')) (us.take k)
            rw [List.length_take] at h6
            rw [List.length_map]
            omega
          · rw [upd_same, et, if_pos cc, List.map_append]
            rfl
        · exact ⟨s2, by rw [et, if_neg cc, List.append_nil]; exact hD2⟩
      rintro H6 ⟨s6, hc6⟩
      rw [List.length_map, List.take_length] at hc6
      refine ⟨Nat.zero_le _, fun z hz => ⟨.list ((us.filter fun m => !decide (m ∈ us')).map PyData.int), .list [], .lst (SqL.of (same_upd0 hz _ _ hc6)) (dp_ints _), .lst (SqL.of upd_same) .nil, shaped_ints _, by decide, ?_⟩⟩
      have s6z := s6.trans (same_upd0 (o := .lst []) hz)
      have s6t := sH.trans s6z
      rw [eqv_nil, List.isEmpty_map, ← isIn_is]
      refine ⟨_, rfl, ?_⟩
      cases (us.filter fun m => !decide (m ∈ us')).isEmpty with
      | false => exact iteF ⟨rfl, s6z⟩
      | true =>
        refine iteT ⟨_, rfl, t', _, _, _, rfl, rfl, SqT.of (s6t _ _ ht'), atI_nat (j := 2) rfl, n', rfl, ?_⟩
        cases n' with
        | true => exact iteT ⟨rfl, s6z⟩
        | false => exact iteF ⟨_, rfl, t, _, _, _, rfl, rfl, SqT.of (s6t _ _ ht), atI_nat (j := 2) rfl, n, rfl, rfl, s6z⟩
    rintro v H15 ⟨rfl, s15⟩
    replace sH := sH.trans s15
    clear s15
    have okL : ∀ x y : Bool, (PyData.list [.bool x, .bool y]).showable = true ∧ (PyData.list [.bool x, .bool y]).depth ≤ 60 ∧ (PyData.list [.bool x, .bool y]).shown.length ≤ sizeLine := fun x y => (OkD.list (n := 2000) (m := 0) (ds := [.bool x, .bool y]) (fun d hd => by
      simp only [List.mem_cons, List.not_mem_nil, or_false] at hd
      rcases hd with h | h <;> subst h <;> exact OkD.bool _)).repr (by decide) (by show 2000 * 2 + 2 * 2 + 3 ≤ 16777216; decide)
    obtain ⟨dx, c, js, h1, _⟩ := id (hU.same sH).at'
    refine ⟨_, rfl, a, dx, _, rfl, h1, rfl, _, rfl, nil_ (within_of (hU.same sH) (hU'.same sH) fun H16 s16 => ⟨_, rfl, a, dx, _, rfl, s16 _ _ h1, rfl, _, rfl, ?_⟩)⟩
    have s15 := sH.trans s16
    refine nil_ (within_of (hU.same s15) (hU'.same s15) fun H17 s17 => ⟨by show 2 ≤ sizeLine; decide, fun z1 hz1 => ?_⟩)
    have s18 := same_upd0 (o := .lst [.bl (isIn us us' n n'), .bl (isIn us us' n n')]) hz1
    refine ⟨_, .list [.bool (isIn us us' n n'), .bool (isIn us us' n n')], rfl, .lst (SqL.of upd_same) (.cons (.bl _) (.cons (.bl _) .nil)), (okL _ _).1, (okL _ _).2.1, (okL _ _).2.2, _, rfl, _, rfl, by show 2 ≤ sizeLine; decide, fun z2 hz2 => ?_⟩
    have s19 := same_upd0 (o := .lst [.bl (isIn us us' n n'), .bl (isIn us us' n n')]) hz2
    refine ⟨_, .list [.bool (isIn us us' n n'), .bool (isIn us us' n n')], rfl, .lst (SqL.of upd_same) (.cons (.bl _) (.cons (.bl _) .nil)), (okL _ _).1, (okL _ _).2.1, (okL _ _).2.2, rfl, _, rfl, ite2 (fun e => absurd e (by simp)) (fun _ => ?_)⟩
    replace sH := s15.trans (s17.trans (s18.trans s19))
    clear h1 s15 s16 s17 s18 s19 hz1 hz2
    revert sH
    generalize upd (upd H17 z1 (.lst [.bl (isIn us us' n n'), .bl (isIn us us' n n')])) z2 (.lst [.bl (isIn us us' n n'), .bl (isIn us us' n n')]) = H20
    intro sH
    have okb : ∀ x : Bool, (PyData.bool x).showable = true ∧ (PyData.bool x).depth ≤ 60 ∧ (PyData.bool x).shown.length ≤ sizeLine := fun x => (OkD.bool x).repr (by decide) (by decide)
    -- the end
    refine ⟨_, rfl, _, rfl, eq_of (g := id) O.I T.cl (hU.same sH) (hU'.same sH) fun H21 s21 => ⟨_, _, rfl, .bl _, (okb _).1, (okb _).2.1, (okb _).2.2, ?_⟩⟩
    have sI := sH.trans s21
    refine ⟨_, rfl, _, rfl, t, _, rfl, SqT.of (sI _ _ ht), (fun z => nomatch z.1), fun p1 hp1 => ⟨_, rfl, _, rfl, t', _, rfl, SqT.of (same_upd0 hp1 _ _ (sI _ _ ht')), (fun z => nomatch z.1), fun p2 hp2 => ?_⟩⟩
    have e1 := sI.trans (same_upd0 (o := .tup (cutV [.ref a, .ref b, .bl n] (some 1) none)) hp1)
    have e2 := e1.trans (same_upd0 (o := .tup (cutV [.ref a', .ref b', .bl n'] (some 1) none)) hp2)
    have f1 : (upd (upd H21 p1 (.tup (cutV [.ref a, .ref b, .bl n] (some 1) none))) p2 (.tup (cutV [.ref a', .ref b', .bl n'] (some 1) none))) p1 = some (.tup [.ref b, .bl n]) := (same_upd0 hp2) _ _ upd_same
    have f2 : (upd (upd H21 p1 (.tup (cutV [.ref a, .ref b, .bl n] (some 1) none))) p2 (.tup (cutV [.ref a', .ref b', .bl n'] (some 1) none))) p2 = some (.tup [.ref b', .bl n']) := upd_same
    refine ⟨dTl us n, dTl us' n', .tup (SqT.of f1) (.cons (.lst (SqL.of (e2 _ _ hb)) (dp_ints us)) (.cons (.bl _) .nil)), .tup (SqT.of f2) (.cons (.lst (SqL.of (e2 _ _ hb')) (dp_ints us')) (.cons (.bl _) .nil)), shaped_tl, shaped_tl, ?_⟩
    rw [eqv_tl]
    refine ⟨_, _, rfl, .bl _, (okb _).1, (okb _).2.1, (okb _).2.2, rfl, _, rfl, ?_⟩
    rw [id, decide_eq_true rfl]
    refine iteT ⟨_, rfl, _, rfl, _, rfl, _, rfl, t, _, _, _, rfl, rfl, SqT.of (e2 _ _ ht), atI_nat (j := 1) rfl, _, rfl, t, _, _, _, rfl, rfl, SqT.of (e2 _ _ ht), atI_nat (j := 2) rfl, ?_⟩
    exact nil_ (right_of (hU.same e2) (e2 _ _ hb) l11 fun H23 s23 => q H23 (e2.trans s23))
end
end K48

namespace So
open PySem PySem.Spec PyProof.Rows L2
section
variable {P : Program} {w : World} {K : PySem.W.Frag} {mg : Str → Option Value} {base : Heap} {CX : CXT} {sp : Sp} {fd : FuncData} {ps N : List Str} {k : Nat} {f c : Addr}
/-- a def by its body, the guards and the code object told -/
theorem fnG_ofC {x qual : Str} {st : Stmt} (F : Fun K x qual st f fd) (hcode : fd.code = .ref c) (S : FnScope N ps (defScope st)) (len : ∀ vs H Q E, sp vs H Q E → vs.length = ps.length)
    (hbody : ∀ (A : Around) (outer : List Env) (s : Shared) (H : Hp) (vs : List V) (Q : VK) (E : XK), A.guards = some [] → Room k (A.deeper (envOfC qual (defScope st) s.heap.objs.size f (.ref c))) → sp vs H Q E →
      ∃ t, PSs (cxOf CX P w K mg base N qual (defScope st) f (.ref c) A outer s H E).nox (defBody st) t ∧ t { nx := fun _ H' => Q .non H', rt := Q } (start N vs) H) : FnG P w K mg base CX (k + 1) f fd ps sp := by
  obtain ⟨oc, od, kV, doc, pm, an, cdv, ct, osl, rfl, lk, hcd⟩ := F.ex
  obtain rfl : cdv = .ref c := hcode
  constructor
  · exact len
  intro A outer s H args us vs Q E hg hr e0 hb r hsp
  have old : ∀ b o, base.get? b = some o → s.heap.get? b = some o := fun b o e => (e0.bs b o e).1
  have KX := e0.mod.kin.keeps old
  have lim := e0.mod.nolimit.keeps old
  refine codeAny_call_function hr.depth (KX _ _ lk) rfl S.co S.gen rfl (PySem.W.codeRec_of KX hcd) (hb _ _ _ _ ?_)
  refine wpAny_newFunctionEnv_cells S.kind (fun y hy => ?_) fun env he s1 x => ?_
  · rcases S.par y.1 (List.of_mem_zip (show (y.1, y.2) ∈ ps.zip us from hy)).1 with q | q
    · exact Or.inl q
    · exact Or.inr (And.intro q (PySem.W.cellsFrom_some _ _ _ (Or.inl q)))
  subst he
  refine And.intro (lim.keeps x.toInCall.keep) (codeAny_func ?_)
  obtain ⟨t, ht, hq⟩ := hbody A outer s H vs Q E hg (hr.deeper _) hsp
  refine wpAny_mono (ht.nox.run [] s1 (start N vs) H _ (inv_start S hr.hd e0 (len _ _ _ _ hsp) r x) hq) (fun fl s' hs => ?_) fun _ _ hs => hs
  match fl, hs with
  | .ret u, ⟨v, σ', H', J, rv, q⟩ => exact ⟨v, H', J.os, J.bare, J.base, J.hok, rv, q⟩
  | .next, ⟨σ', H', J, q⟩ => exact ⟨V.non, H', J.os, J.bare, J.base, J.hok, rfl, q⟩
  | .brk, ⟨_, _, _, q⟩ => exact q.elim
  | .cont, ⟨_, _, _, q⟩ => exact q.elim
end
end So

namespace So
open PySem PySem.Spec PyProof.Rows L2 LamX
/-- the law's call, its one table of code objects and the guards told -/
theorem law_callTG {P : Program} {w : World} {K : PySem.W.Frag} {mg mb : Str → Option Value} {CX : CXT} {k : Nat} {fa a c T : Addr} {fd : FuncData} {x : Str} {sp : Sp} {s₁ : Shared} {vs : List Value} {ns : List Int}
    (KX : K.In s₁.heap) (hns : s₁.heap.Ns mainGlobals mg) (hb : s₁.heap.Ns builtinsNs mb) (hbb : ∀ x : Str, x ≠ "__name__" → mb x = bootBuiltins x) (hlim : s₁.heap.NoLimit) (hg : s₁.gens = #[])
    (tab : s₁.heap.get? T = some { cls := .none, data := .fields #[] }) (noT : K.lookup T = none) (cd : PySem.W.CodeHd s₁.heap c T)
    (mod : ∃ (bm : Addr) (ob : Obj), mg "__builtins__" = some (.ref bm) ∧ bm ≠ builtinsNs ∧ s₁.heap.get? bm = some ob ∧ ob.cls = .type "module" ∧ ob.dict = some builtinsNs ∧ ob.data = .plain)
    (ha : s₁.heap.get? a = some { cls := .type "list", data := .seq vs.toArray }) (hi : IntsAre vs ns) (hl : ns.length ≤ sizeLine) (hr : Room k callerA)
    (F : ∀ base : Heap, K.In base → base.Ns mainGlobals mg → TabB base mg c T → FnG P w K mg base CX k fa fd [x] sp) (hbind : ∀ (s : Shared) (u : Value), BindsTo s fd ⟨[u], []⟩ [(x, u)])
    (hsp : ∀ H : Hp, H T = some (.tbl #[]) → SqL K H a (ns.map V.int) → sp [.ref a] H (fun v _ => v = .bl true) fun _ _ _ => False)
    (hCX : ∀ H e s', CX [] H s₁ (fun _ _ _ => False) e s' → False) :
    codeAny (model P w) callerA (.call (.ref fa) ⟨[.ref a], []⟩) (fun r s' => r = .ok (.ret (.bool true)) ∧ OldK s₁.heap s'.heap ∧ s'.os = s₁.os ∧ AllBare s'.gens) s₁ := by
  have aT : a ≠ T := fun z => by
    rw [z, tab] at ha
    have := congrArg Obj.data (Option.some.inj ha)
    cases this
  -- what may be tracked at the start: the table, and the script where the written part does not hold it
  have go : ∀ H : Hp, H T = some (.tbl #[]) → (∀ b u, H b = some u → b = T ∨ (b = a ∧ K.lookup a = none ∧ ∃ o xs, u = .frz o (.lst xs))) → SqL K H a (ns.map V.int) → HOk P w H s₁.heap →
      codeAny (model P w) callerA (.call (.ref fa) ⟨[.ref a], []⟩) (fun r s' => r = .ok (.ret (.bool true)) ∧ OldK s₁.heap s'.heap ∧ s'.os = s₁.os ∧ AllBare s'.gens) s₁ := by
    intro H hT hA hS hok
    -- an object that is neither the script's list nor the table stands in the base
    have free : ∀ {b : Addr} {o : Obj}, s₁.heap.get? b = some o → (∀ vs n, o.data ≠ .seq vs n) → o.data ≠ .fields #[] → H b = none := by
      intro b o e h1 h2
      cases q : H b with
      | none => rfl
      | some u =>
        rcases hA b u q with rfl | ⟨rfl, _⟩
        · rw [tab] at e
          cases e
          exact absurd rfl h2
        · rw [ha] at e
          cases e
          exact absurd rfl (h1 _ _)
    have toBase : ∀ {b : Addr} {o : Obj}, s₁.heap.get? b = some o → H b = none → (hidT s₁.heap H).get? b = some o := fun e n => hidT_get e n
    have nsB : ∀ {b : Addr} {m : Str → Option Value}, s₁.heap.Ns b m → (hidT s₁.heap H).Ns b m := by
      rintro b m ⟨o, es, ep, e, d, r⟩
      have n : H b = none := by
        refine free e ?_ ?_
        · intro vs n z
          rw [d] at z
          cases z
        · intro z
          rw [d] at z
          cases z
      exact ⟨o, es, ep, toBase e n, d, r⟩
    have kin : K.In (hidT s₁.heap H) := by
      intro b o e
      refine toBase (KX b o e) ?_
      cases q : H b with
      | none => rfl
      | some u =>
        rcases hA b u q with rfl | ⟨rfl, z, _⟩
        · rw [noT] at e
          cases e
        · rw [z] at e
          cases e
    have lim2 : (hidT s₁.heap H).NoLimit := by
      obtain ⟨mc, h1, h2⟩ := hlim
      exact ⟨mc, nsB h1, h2⟩
    have gT : mainGlobals ≠ T := fun z => by
      obtain ⟨o, es, ep, e, d, _⟩ := hns
      rw [z, tab] at e
      cases e
      cases d
    have cd2 : PySem.W.CodeHd (hidT s₁.heap H) c T := by
      obtain ⟨o, us, fl, tf, fg, tg, inF, tx, tt, e1, r1, r2, r3, r⟩ := cd
      refine ⟨o, us, fl, tf, fg, tg, inF, tx, tt, toBase e1 (free e1 ?_ ?_), r1, r2, r3, r⟩
      · intro vs n z
        rw [r2] at z
        cases z
      · intro z
        rw [r2] at z
        cases z
        simp at r3
    have bm2 : (hidT s₁.heap H).BuiltinsAt mg T := by
      obtain ⟨bm, ob, b1, b2, b3, b4, b5, b6⟩ := mod
      have n1 : bm ≠ mainGlobals := fun z => by
        obtain ⟨o, es, ep, e, d, _⟩ := hns
        rw [z, e] at b3
        cases b3
        rw [d] at b6
        cases b6
      have n2 : bm ≠ T := fun z => by
        rw [z, tab] at b3
        cases b3
        cases b6
      refine ⟨bm, ob, b1, b2, n1, n2, toBase b3 (free b3 ?_ ?_), b4, b5, b6⟩
      · intro vs n z
        rw [b6] at z
        cases z
      · intro z
        rw [b6] at z
        cases z
    have e0 : Env0 P w K mg (hidT s₁.heap H) callerA [] s₁ H := by
      refine ⟨rfl, ⟨kin, nsB hns, ⟨mb, nsB hb, hbb⟩, lim2⟩, fun b o e => of_hidT e, Nat.le_of_eq (hidT_size _ _), True.intro, ?_, hok, .of_eq hg⟩
      intro b hb
      cases hb
    refine codeAny_mono ((F _ kin (nsB hns) ⟨cd2, bm2, gT⟩).runG callerA [] s₁ H ⟨[.ref a], []⟩ [.ref a] [.ref a] _ _ rfl hr e0 (hbind s₁ (.ref a)) (.cons rfl .nil) (hsp H hT hS)) fun r s' h => ?_
    match r, h with
    | .error e, h => exact (hCX H e s' h).elim
    | .ok .next, h => exact h.elim
    | .ok .brk, h => exact h.elim
    | .ok .cont, h => exact h.elim
    | .ok (.ret u), ⟨v, H', os, bare, un, hok', rv, q⟩ =>
      have q2 : v = .bl true := q
      subst q2
      cases rv
      obtain ⟨more, hm⟩ := un.tbls T #[] hT
      have grown : s'.heap.get? T = some { cls := .none, data := .fields (#[] ++ more) } := hok' T _ hm
      have stay : ∀ b o, b ≠ T → s₁.heap.get? b = some o → s'.heap.get? b = some o := by
        intro b o n e
        cases q : H b with
        | none => exact un.keep b o e q (fun z => nomatch z) (fun z => nomatch z)
        | some u =>
          rcases hA b u q with z | ⟨_, _, ob, xs, rfl⟩
          · exact absurd z n
          · have z1 := (hok b _ q).1
            have z2 := (hok' b _ (un.frzs b ob _ q)).1
            rw [z1] at e
            rw [z2, e]
      refine ⟨rfl, ⟨fun b o e => ?_, fun b o e => ?_⟩, os, bare⟩
      · by_cases n : b = T
        · subst n
          rw [tab] at e
          cases e
          refine .inr (.inl ⟨(cd.tab tab).isCodeTable, rfl, #[], more, rfl, grown⟩)
        · exact .inl (stay b o n e)
      · by_cases n : b = T
        · subst n
          exact ⟨_, grown⟩
        · exact ⟨o, stay b o n e⟩
  have rv := vals_ints hi
  have hlen : (ns.map V.int).length ≤ sizeLine := by rw [List.length_map]; exact hl
  cases hk : K.lookup a with
  | some o =>
    have e := KX a o hk
    rw [ha] at e
    cases e
    refine go (fun b => if b = T then some (.tbl #[]) else none) (if_pos rfl) (fun b u z => ?_) (Or.inr ⟨_, vs.toArray, _, hk, rfl, rfl, rfl, by rw [List.size_toArray, hi.length]; exact hl, by simpa using rv⟩) fun b u z => ?_
    · try dsimp only at z
      by_cases n : b = T
      · exact Or.inl n
      · rw [if_neg n] at z
        cases z
    · try dsimp only at z
      by_cases n : b = T
      · rw [if_pos n] at z
        cases z
        rw [n]
        exact tab
      · rw [if_neg n] at z
        cases z
  | none =>
    refine go (fun b => if b = T then some (.tbl #[]) else if b = a then some (.frz { cls := .type "list", data := .seq vs.toArray } (.lst (ns.map V.int))) else none) (if_pos rfl) (fun b u z => ?_) (Or.inl (Or.inr ⟨_, (if_neg aT).trans (if_pos rfl)⟩)) fun b u z => ?_
    · try dsimp only at z
      by_cases n : b = T
      · exact Or.inl n
      · rw [if_neg n] at z
        by_cases n2 : b = a
        · rw [if_pos n2] at z
          cases z
          exact Or.inr ⟨n2, hk, _, _, rfl⟩
        · rw [if_neg n2] at z
          cases z
    · try dsimp only at z
      by_cases n : b = T
      · rw [if_pos n] at z
        cases z
        rw [n]
        exact tab
      · rw [if_neg n] at z
        by_cases n2 : b = a
        · rw [if_pos n2] at z
          cases z
          rw [n2]
          exact ⟨ha, hlen, vs, _, rv, ha⟩
        · rw [if_neg n2] at z
          cases z
end So

namespace K48
open PySem PySem.Spec PyProof.Rows L2 So LamX
abbrev sHeard : Stmt := topS 24
abbrev heardN : List Str := ["_law_ask", "_law_caught", "error"]
theorem scHeard : FnScope heardN ["_law_ask"] (defScope sHeard) := ⟨rfl, rfl, rfl, by decide +kernel, rfl, by decide +kernel, by decide +kernel⟩
theorem takes_len {X : Cx} {W : WX} (tk : Takes X W) : Takes X (fun c d σ H => σ.length = X.N.length → W c d σ H) := fun u s' ⟨a, B, sI, pins, σ, H, cls, d, e, I, nb, up, sky, na, os, ag, w⟩ =>
  tk u s' ⟨a, B, sI, pins, σ, H, cls, d, e, I, nb, up, sky, na, os, ag, w I.len⟩
/-- a BadTurns is heard: its field in a list -/
def EchT (CB : Addr) (Q : VK) : XK := fun cls d H' => ∃ (v : V) (dd : Addr), cls = .ref CB ∧ d = some dd ∧ H' dd = some (.xd [("at", v)]) ∧ ∀ (H'' : Hp) (r : Addr), Same H' H'' → H'' r = some (.lst [v]) → Q (.ref r) H''
def QtT (Q : VK) : VK := fun _ H' => Q .non H'
def TTT (CB : Addr) : (XK → Hp → VK → Prop) → Hp → VK → Prop := fun tl H Q => tl (EchT CB Q) H (QtT Q)
/-- what the top says of the errors, to the law's heard -/
structure HrT (K : PySem.W.Frag) (mg : Str → Option Value) (CT CB : Addr) : Prop where
  gT : mg "TillError" = some (.ref CT)
  gB : mg "BadTurns" = some (.ref CB)
  isi : mg "isinstance" = none
  te : PySem.W.exmOne K (.ref CB) (.ref CT) = some true
  er : Err K CB
  bb : PySem.W.kitOne K (.ref CB) (.ref CB) = some true
  fA : PySem.W.findIn K (.ref CB) "at" = some none
section
variable {X : Cx}
theorem heard_gives {q : Str} {g CT CB : Addr} {cdg : Value} (R : HrT X.K X.mg CT CB) : GivesTo X heardN "_law_heard" (defScope sHeard) g cdg (defBody sHeard) "_law_ask" q (TTT CB) := by
  intro f c' s H Q tl act hc h
  refine ⟨_, (pss_cons (ps_set (i := 1) scHeard.nd rfl (.inl rfl) pe_non)
      (pss_cons (ps_try_keep (X := (cxOf C8.CX0 X.prog X.w X.K X.mg X.base heardN "_law_heard" (defScope sHeard) g cdg X.A X.stack s H C8.E0).nox) (i := 2) (n := "error") (c := .ref CT)
        (tb := fun W D σ H => ∃ Ech : XK, (∀ cls d σ' H', Ech cls d H' → σ'.length = 3 → W cls d σ' H') ∧ σ[0]? = some (some (.ref f)) ∧ H c' = some (CodeO c' q) ∧ ∃ Q0 : VK, tl Ech H Q0 ∧ ∀ v H', Q0 v H' → D.nx σ H')
        rfl rfl rfl scHeard.nd rfl rfl ⟨rfl, by decide, .inl R.gT⟩ LamX.takes0 (fun W pn xe tk _ => ?_) (fun a pn => pss_one (ps_set (i := 1) scHeard.nd rfl (.inl rfl) (pv 2))))
      (pss_cons (ps_if (pt_cmpR op_isN (pv 1) pe_non (nomark _)) (pss_one (ps_ret pe_non)) pss_nil)
      (pss_one (ps_ret (pe_ifExp (pt_val (pe_callB call_isXo (by rfl) R.isi (by decide +kernel) (pa_cons (pv 1) (pa_cons (pe_glob (v := .ref CB) rfl R.gB rfl) pa_nil))))
        (pe_lst (pa_cons (pe_xo R.er R.fA (pv 1)) pa_nil)) pe_str)))))), ?_⟩
  · refine ⟨fun pins s' σ H' D I h' => ?_⟩
    obtain ⟨Ech, hW, h1, h2, Q0, h3, h4⟩ := h'
    refine (pss_one (ps_expr (pe_cut (act (fun c d σ H => σ.length = 3 → W c d σ H) pn xe Ech _ _ (takes_len tk) hW)))).run pins s' σ H' D I ?_
    exact ⟨Q0, ⟨h1, h2, h3⟩, h4⟩
  · refine ⟨EchT CB Q, fun cls d σ' H' ⟨v, dd, e1, e2, e3, q3⟩ hl => ?_, rfl, hc, QtT Q, h, fun v H' z => ?_⟩
    · obtain ⟨x0, x1, x2, rfl⟩ : ∃ x0 x1 x2, σ' = [x0, x1, x2] := by
        match σ', hl with
        | [x0, x1, x2], _ => exact ⟨x0, x1, x2, rfl⟩
      subst e1 e2
      refine ⟨true, R.te, (fun _ a ha => ?_), (fun y => nomatch y)⟩
      have s0 : Same H' (upd H' a (Xo (.ref CB) (some dd) a)) := same_upd0 ha
      have HA : (upd H' a (Xo (.ref CB) (some dd) a)) a = some (Xo (.ref CB) (some dd) a) := upd_same
      have HD := s0 _ _ e3
      refine ⟨_, rfl, _, rfl, rfl, _, rfl, ite2 (fun e => absurd (of_decide_eq_true e) (fun z => nomatch z)) (fun _ => ?_)⟩
      refine ⟨_, rfl, a, _, dd, _, _, _, true, rfl, HA, HD, R.er, .own _, R.bb, _, rfl, iteT ?_⟩
      exact ⟨_, rfl, a, dd, _, v, rfl, HA, HD, by simp [List.lookup], by show 1 ≤ sizeLine; decide, fun r hr => q3 _ r (s0.trans (same_upd0 hr)) upd_same⟩
    · exact ⟨_, rfl, rfl, _, rfl, ite2 (fun _ => z) (fun e => absurd (decide_eq_true rfl) e)⟩
end
end K48

/-! a value as data over a part of memory that stays; text * int -/
namespace So
open PySem PySem.Spec PyProof.Rows L2
section
variable {X : Cx}
theorem op_mul_str : OpR X (binaryOp .Mult) (fun x y H Q => ∃ z n, x = .str z ∧ y = .int n ∧ MulOk z n ∧ Q (.str (Txt.mul z n)) H) := by
  intro pins s σ H x y v u Q I rx ry h
  obtain ⟨z, n, rfl, rfl, ok, q⟩ := h
  obtain ⟨t, rfl⟩ := rx
  obtain ⟨t', rfl⟩ := ry
  exact SB.mul ok fun t' k => ⟨.str (Txt.mul z n), H, I.tok _, ⟨_, rfl⟩, q⟩
end
/-- memory without p -/
def hole (p : Addr) (H : Hp) : Hp := fun b => if b = p then none else H b
theorem hole_ne {p b : Addr} {H : Hp} (h : b ≠ p) : hole p H b = H b := if_neg h
theorem hole_at {p : Addr} {H : Hp} : hole p H p = none := if_pos rfl
theorem hole_same {p : Addr} {H : Hp} : Same (hole p H) H := fun b o e => by
  by_cases z : b = p
  · subst z
    rw [hole_at] at e
    cases e
  · rwa [hole_ne z] at e
/-- v is the data d, by a part of memory that has no p -/
def Kp (K : PySem.W.Frag) (p : Addr) (H : Hp) (v : V) (d : PyData) : Prop := ∃ F, F p = none ∧ Same F H ∧ Dd K F v d
section
variable {K : PySem.W.Frag} {p : Addr} {H H' : Hp} {v : V} {d : PyData}
theorem Kp.same (h : Kp K p H v d) (s : Same H H') : Kp K p H' v d := h.elim fun F e => ⟨F, e.1, e.2.1.trans s, e.2.2⟩
theorem Kp.off (h : Kp K p H v d) (s : ∀ b o, b ≠ p → H b = some o → H' b = some o) : Kp K p H' v d := h.elim fun F e => ⟨F, e.1, fun b o z => s b o (fun y => by
  subst y
  rw [e.1] at z
  cases z) (e.2.1 b o z), e.2.2⟩
theorem Kp.dd (h : Kp K p H v d) : Dd K H v d := h.elim fun F e => Dd.same (fun b o z => e.2.1 b o z) e.2.2
theorem Kp.hole (h : Dd K (So.hole p H) v d) : Kp K p H v d := ⟨So.hole p H, hole_at, hole_same, h⟩
theorem Kp.at (h : Dd K H v d) (e : H p = none) (s : Same H H') : Kp K p H' v d := ⟨H, e, s, h⟩
theorem Kp.non : Kp K p H .non .none := .hole .non
theorem Kp.bl (b : Bool) : Kp K p H (.bl b) (.bool b) := .hole (.bl b)
theorem Kp.int (i : Int) : Kp K p H (.int i) (.int i) := .hole (.int i)
theorem Kp.str (z : Str) : Kp K p H (.str z) (.str z) := .hole (.str z)
end
end So

/-! memory without the tables of code objects -/
namespace So
open PySem PySem.Spec PyProof.Rows L2 LamX
def unt (H : Hp) : Hp := fun b => match H b with
  | some (.tbl _) => none
  | o => o
theorem unt_get {H : Hp} {b : Addr} {o : HO} (h : H b = some o) (n : ∀ ps, o ≠ .tbl ps) : unt H b = some o := by
  unfold unt
  rw [h]
  cases o with
  | tbl ps => exact absurd rfl (n ps)
  | _ => rfl
theorem unt_of {H : Hp} {b : Addr} {o : HO} (h : unt H b = some o) : H b = some o ∧ ∀ ps, o ≠ .tbl ps := by
  unfold unt at h
  cases e : H b with
  | none => rw [e] at h; cases h
  | some u =>
    rw [e] at h
    cases u with
    | tbl ps => cases h
    | _ => cases h; exact ⟨rfl, fun ps z => nomatch z⟩
theorem unt_none {H : Hp} {b : Addr} (h : H b = none) : unt H b = none := by
  unfold unt
  rw [h]
theorem unt_same (H : Hp) : Same (unt H) H := fun b o e => (unt_of e).1
theorem unt_ext {H H' : Hp} (e : ExtN H H') : Same (unt H) H' := fun b o h => e b o (unt_of h).1 (unt_of h).2
theorem unt_mono {F H : Hp} (s : Same F H) : Same (unt F) (unt H) := fun b o h => unt_get (s _ _ (unt_of h).1) (unt_of h).2
theorem rd_unt {H : Hp} {a : Addr} {u : HO} (h : Rd H a u) (n : ∀ ps, u ≠ .tbl ps) : Rd (unt H) a u := by
  rcases h with h | ⟨o, h⟩
  · exact .inl (unt_get h n)
  · exact .inr ⟨o, unt_get h fun ps z => nomatch z⟩
theorem sql_unt {K : PySem.W.Frag} {H : Hp} {a : Addr} {xs : List V} (h : SqL K H a xs) : SqL K (unt H) a xs := by
  rcases h with h | h
  · exact .inl (rd_unt h fun ps z => nomatch z)
  · exact .inr h
theorem sqt_unt {K : PySem.W.Frag} {H : Hp} {a : Addr} {xs : List V} (h : SqT K H a xs) : SqT K (unt H) a xs := by
  rcases h with h | h
  · exact .inl (rd_unt h fun ps z => nomatch z)
  · exact .inr h
mutual
theorem dd_unt {K : PySem.W.Frag} {H : Hp} : ∀ {d : PyData} {v : V}, Dd K H v d → Dd K (unt H) v d
  | _, _, .non => .non
  | _, _, .bl b => .bl b
  | _, _, .int i => .int i
  | _, _, .str x => .str x
  | _, _, .lst e h => .lst (sql_unt e) (ddAll_unt h)
  | _, _, .tup e h => .tup (sqt_unt e) (ddAll_unt h)
  | _, _, .dct e h => .dct (unt_get e fun ps z => nomatch z) (ddKv_unt h)
theorem ddAll_unt {K : PySem.W.Frag} {H : Hp} : ∀ {ds : List PyData} {vs : List V}, DdAll K H vs ds → DdAll K (unt H) vs ds
  | _, _, .nil => .nil
  | _, _, .cons h t => .cons (dd_unt h) (ddAll_unt t)
theorem ddKv_unt {K : PySem.W.Frag} {H : Hp} : ∀ {ds : List (PyData × PyData)} {vs : List (Key × V)}, DdKv K H vs ds → DdKv K (unt H) vs ds
  | _, _, .nil => .nil
  | _, _, .cons h t => .cons (dd_unt h) (ddKv_unt t)
end
theorem Kp.extN {K : PySem.W.Frag} {p : Addr} {H H' : Hp} {v : V} {d : PyData} (h : Kp K p H v d) (e : ExtN H H') : Kp K p H' v d := by
  obtain ⟨F, h1, h2, h3⟩ := h
  exact ⟨unt F, unt_none h1, (unt_mono h2).trans (unt_ext e), dd_unt h3⟩
end So

namespace K48
open PySem PySem.Spec PyProof.Rows L2 So LamX
abbrev sLaw : Stmt := topS 26
abbrev lawN : List Str := ["_law_script", "_law_pen_here", "_law_turn", "_law_low", "_law_high", "_law_some", "_law_again", "_law_drawn", "_law_has_so", "_law_left", "_law_right_here", "_law_told", "_law_same", "_law_off", "_law_one", "_law_thing"]
theorem scLaw : FnScope lawN ["_law_script"] (defScope sLaw) := ⟨rfl, rfl, rfl, by decide +kernel, rfl, by decide +kernel, by decide +kernel⟩
abbrev qLaw : Str := "law.<locals>.<lambda>"
theorem extN_of {H H' : Hp} (s : Same H H') : ExtN H H' := fun b o e _ => s b o e
theorem tabs_off {T : List (Addr × Str)} {H H' : Hp} {p : Addr} {xs : List V} (hp : H p = some (.lst xs)) (t : Tabs T H) (o : Off p H H') : Tabs T H' := by
  intro y hy
  obtain ⟨ps, h1, h2, h3⟩ := t y hy
  refine ⟨ps, o _ _ (ne_of h1 hp (fun z => nomatch z)) h1, h2, fun pos cv hc => ?_⟩
  obtain ⟨c, e1, e2⟩ := h3 pos cv hc
  refine ⟨c, e1, o _ _ (fun z => ?_) e2⟩
  rw [z, hp] at e2
  cases e2
theorem tabs_same {T : List (Addr × Str)} {H H' : Hp} (t : Tabs T H) (s : Same H H') : Tabs T H' := t.ext s
theorem lst_ne {xs : List V} : ∀ ps, HO.lst xs ≠ .tbl ps := fun ps z => nomatch z
theorem tup_ne {xs : List V} : ∀ ps, HO.tup xs ≠ .tbl ps := fun ps z => nomatch z
theorem Pen.ext {H H' : Hp} {p l : Addr} {ns : List Int} {n : Nat} {g : Int} (h : Pen H p l ns n g) (s : ExtN H H') : Pen H' p l ns n g := ⟨s _ _ h.pen lst_ne, s _ _ h.cells lst_ne, h.left⟩
theorem cut63 (xs : List V) : cutV xs none (some 63) = xs.take 63 := by
  unfold cutV
  rw [HT.sIx_none, show HT.sIx xs.length xs.length (some 63) = min 63 xs.length from HT.sIx_nat xs.length xs.length 63]
  simp
theorem TrU.keep {C : Addr} {H H' : Hp} {a : Addr} {lo hi : Int} {us : List Int} {n : Bool} (h : TrU C H a lo hi us n) (k : ∀ u o, (∀ xs, o ≠ .lst xs) → (∀ ps, o ≠ .tbl ps) → H u = some o → H' u = some o) : TrU C H' a lo hi us n := by
  obtain ⟨dx, c, js, e1, e2, e3⟩ := h.at'
  exact ⟨⟨dx, c, js, k _ _ (fun _ z => nomatch z) (fun _ z => nomatch z) e1, k _ _ (fun _ z => nomatch z) (fun _ z => nomatch z) e2, L2.Paired.mapP e3 fun r q e => k _ _ (fun _ z => nomatch z) (fun _ z => nomatch z) e⟩, h.pw, h.mem, h.b0, h.b1, h.b2, h.b3⟩
/-- a set of turns with its moments, apart from two lists -/
def TlP (p cs C : Addr) (H : Hp) (t : Addr) (lo hi : Int) (us : List Int) (n : Bool) : Prop := ∃ a b, H t = some (.tup [.ref a, .ref b, .bl n]) ∧ H b = some (.lst (us.map V.int)) ∧ TrU C H a lo hi us n ∧ b ≠ p ∧ b ≠ cs
theorem TlP.keep {p cs C : Addr} {H H' : Hp} {t : Addr} {lo hi : Int} {us : List Int} {n : Bool} {xs ys : List V} (h : TlP p cs C H t lo hi us n) (hp : H p = some (.lst xs)) (hc : H cs = some (.lst ys)) (k : ∀ u o, u ≠ p → u ≠ cs → H u = some o → H' u = some o) : TlP p cs C H' t lo hi us n := by
  obtain ⟨a, b, e1, e2, e3, e4, e5⟩ := h
  have k' : ∀ u o, (∀ xs, o ≠ .lst xs) → (∀ ps, o ≠ .tbl ps) → H u = some o → H' u = some o := fun u o ho _ e => k u o (fun z => by
    rw [z, hp] at e
    exact ho _ (Option.some.inj e).symm) (fun z => by
    rw [z, hc] at e
    exact ho _ (Option.some.inj e).symm) e
  exact ⟨a, b, k' _ _ (fun _ z => nomatch z) (fun _ z => nomatch z) e1, k _ _ e4 e5 e2, e3.keep k', e4, e5⟩
theorem TlP.at {p cs C : Addr} {H : Hp} {t : Addr} {lo hi : Int} {us : List Int} {n : Bool} (h : TlP p cs C H t lo hi us n) : TlAt C H t lo hi us n := by
  obtain ⟨a, b, e1, e2, e3, _⟩ := h
  exact ⟨a, b, e1, e2, e3⟩
/-- whether a moment is in a stretch -/
def inAny (acc : List Str2) (m : Int) : Bool := acc.any fun q => decide (q.1 ≤ m) && decide (m ≤ q.2)
theorem inAny_iff {acc : List Str2} {m : Int} : inAny acc m = true ↔ cov acc m := by
  unfold inAny
  rw [List.any_eq_true]
  constructor
  · rintro ⟨q, hq, e⟩
    simp only [Bool.and_eq_true, decide_eq_true_eq] at e
    exact ⟨q, hq, e⟩
  · rintro ⟨q, hq, e⟩
    exact ⟨q, hq, by simp only [Bool.and_eq_true, decide_eq_true_eq]; exact e⟩
/-- == by an own __eq__, K told -/
theorem op_eqOwnK {X : Cx} {K : PySem.W.Frag} {CX : CXT} {k : Nat} {C f : Addr} {fd : FuncData} {ps : List Str} {sp : Sp} {E : XK} (h : X.K = K) (F : FnOk X.prog X.w X.K X.mg X.base CX k f fd ps sp) (hs : PySem.W.findIn X.K (.ref C) "__eq__" = some (some (.ref f))) (hf : PySem.W.isFn X.K (.ref f) = true) (hb : Binds X.K fd ps []) (hx : Passes CX X E) (hr : Room k X.A) :
    OpR X (compareOp .Eq) (rOwn C K sp E id) := by
  subst h
  exact op_eqOwn F hs hf hb hx hr
section
variable {P : Program} {w : World} {K : PySem.W.Frag} {mg : Str → Option Value} {base : Heap}
def spPen (K : PySem.W.Frag) : Sp := fun vs H Q _ => ∃ (a : Addr) (ns : List Int), vs = [.ref a] ∧ SqL K H a (ns.map V.int) ∧ ∀ (H' : Hp) (p l : Addr) (ns' : List Int), Same H H' → Pen H' p l ns' 0 0 → Q (.ref p) H'
theorem ok_pen {f : Addr} {fd : FuncData} (F : Fun K "_law_pen" "_law_pen" sPen f fd) (ml : mg "list" = none) : FnOk P w K mg base CX0 1 f fd ["_law_script"] (spPen K) := by
  refine F.ok scPen (fun vs H Q E h => ?_) (fun cdv A outer s H vs Q E hr h => ?_)
  · obtain ⟨a, ns, rfl, _⟩ := h
    rfl
  · obtain ⟨a, ns, rfl, hS, q⟩ := h
    refine ⟨_, pss_one (ps_ret (pe_lst (pa_cons (pe_callTy call_list_of (by rfl) ml (by decide +kernel) (pa_cons (pe_slice sl_list (pv 0) po_none (po_some pe_int)) pa_nil)) (pa_cons pe_int (pa_cons pe_int pa_nil))))), ?_⟩
    refine ⟨_, rfl, 63, rfl, a, ns.map V.int, rfl, hS, fun c hc => ?_⟩
    rw [cut63, ← List.map_take]
    refine ⟨c, _, rfl, .inl (SqL.of upd_same), fun l hl => ?_⟩
    refine ⟨by show 3 ≤ sizeLine; decide, fun p hp => ?_⟩
    have s1 : Same H (upd (upd (upd H c (.lst ((ns.take 63).map V.int))) l (.lst ((ns.take 63).map V.int))) p (.lst [.ref l, .int 0, .int 0])) := by
      refine ((same_upd0 hc).trans (same_upd0 hl)).trans (same_upd0 hp)
    have nlp : l ≠ p := fun e => by
      rw [e, upd_same] at hp
      cases hp
    exact q _ p l (ns.take 63) s1 ⟨upd_same, (upd_ne nlp).trans upd_same, Int.le_refl 0⟩
def spLaw (K : PySem.W.Frag) (P0 : Addr) : Sp := fun vs H Q _ => ∃ (a : Addr) (ns : List Int), vs = [.ref a] ∧ SqL K H a (ns.map V.int) ∧ H P0 = some (.tbl #[]) ∧ ∀ H', Q (.bl true) H'
theorem ok_law {f c0 P0 C CB CT fPen fSp fSt fD fTk fJ fH fI : Addr} {fd fdPen fdSp fdSt fdD fdTk fdJ fdH fdI : FuncData} (F : Fun K "law" "law" sLaw f fd) (hcode : fd.code = .ref c0) (TB : TabB base mg c0 P0) (O : OMs K P w mg base C CB) (R : HrT K mg CT CB)
    (FPen : Fun K "_law_pen" "_law_pen" sPen fPen fdPen) (bPen : Binds K fdPen ["_law_script"] []) (gPen : mg "_law_pen" = some (.ref fPen)) (GPen : FnOk P w K mg base CX0 1 fPen fdPen ["_law_script"] (spPen K))
    (FSp : Fun K "_law_span" "_law_span" sSpan fSp fdSp) (bSp : Binds K fdSp ["_law_pen_here"] []) (gSp : mg "_law_span" = some (.ref fSp)) (GSp : FnOk P w K mg base CX0 3 fSp fdSp ["_law_pen_here"] spSpan)
    (FSt : Fun K "_law_stretches" "_law_stretches" sStre fSt fdSt) (bSt : Binds K fdSt ["_law_pen_here", "_law_low", "_law_high"] []) (gSt : mg "_law_stretches" = some (.ref fSt)) (GSt : FnOk P w K mg base CX0 2 fSt fdSt ["_law_pen_here", "_law_low", "_law_high"] spStre)
    (FD : Fun K "_law_draw" "_law_draw" sDraw fD fdD) (bD : Binds K fdD ["_law_pen_here", "_law_many"] []) (gD : mg "_law_draw" = some (.ref fD)) (GD : FnOk P w K mg base CX0 1 fD fdD ["_law_pen_here", "_law_many"] spDraw)
    (FTk : Fun K "_law_ticks" "_law_ticks" sTicks fTk fdTk) (bTk : Binds K fdTk ["_law_some"] []) (gTk : mg "_law_ticks" = some (.ref fTk)) (GTk : FnOk P w K mg base CX0 1 fTk fdTk ["_law_some"] spTicks)
    (FJ : Fun K "_law_joined_right" "_law_joined_right" sJoin fJ fdJ) (bJ : Binds K fdJ ["_law_low", "_law_high", "_law_left", "_law_right_here"] []) (gJ : mg "_law_joined_right" = some (.ref fJ)) (GJ : FnG P w K mg base CX0 8 fJ fdJ ["_law_low", "_law_high", "_law_left", "_law_right_here"] (spJoin C))
    (FH : Fun K "_law_heard" "_law_heard" sHeard fH fdH) (bH0 : Binds K fdH ["_law_ask"] []) (gH : mg "_law_heard" = some (.ref fH))
    (MI : Mk K C fI) (GI : FnOk P w K mg base (L2.CX P w) 4 fI fdI ["self", "first", "last", "stretches", "has_none"] (spTInit K C CB)) (b4 : Binds K fdI ["self", "first", "last", "stretches", "has_none"] [])
    (no : ∀ T, T ∈ ["str", "NoneType", "int", "list"] → PySem.W.kitOne K (.type T) (.ref C) = some false ∧ PySem.W.notFirst K C (.type T) = true) :
    FnG P w K mg base CX0 10 f fd ["_law_script"] (spLaw K P0) := by
  obtain ⟨ocH, odH, kVH, docH, pmH, anH, cdvH, ctH, oslH, efd, lkH, hcH⟩ := FH.ex
  subst efd
  have bH := bH0
  obtain ⟨gA, fdA, sA, iA, bA, GA⟩ := O.and'
  obtain ⟨gO, fdO, sO, iO, bO, GO⟩ := O.or'
  obtain ⟨gW, fdW, mW, bW, kW, GW⟩ := O.within
  obtain ⟨gE, fdE, sE, iE, bE, GE⟩ := O.eq
  obtain ⟨gS, fdS, s4, i4, b4s, G4⟩ := O.M.str
  have T := O.M.T
  have W := O.M.W
  have mp := O.M.repr
  have mr := O.M.range
  refine fnG_ofC F hcode scLaw (fun vs H Q E h => ?_) (fun A outer s H vs Q E hg hr h => ?_)
  · obtain ⟨a, ns, rfl, _⟩ := h
    rfl
  · obtain ⟨a, ns, rfl, hS, hT0, q⟩ := h
    have hr1 : Room 1 _ := hr.mono (by decide)
    have hr2 : Room 2 _ := hr.mono (by decide)
    have hr3 : Room 3 _ := hr.mono (by decide)
    have hr4 : Room 4 _ := hr.mono (by decide)
    have hr5 : Room 5 _ := hr.mono (by decide)
    have hr8 : Room 8 _ := hr.mono (by decide)
    refine ⟨_, (pss_cons (ps_set (i := 1) scLaw.nd rfl (.inl rfl) (pe_call GPen hr1 (by rfl) gPen FPen.kp bPen .nil pass0 (pa_cons (pv 0) pa_nil)))
      (pss_cons (ps_for PassesOwn.never rfl (pi_range1 (by rfl) mr (pa_cons pe_int pa_nil)) (pg_name (i := 2) scLaw.nd rfl (Or.inl rfl))
      (pss_cons (ps_asg (pe_call GSp hr3 (by rfl) gSp FSp.kp bSp .nil pass0 (pa_cons (pv 1) pa_nil)) (pg_tup rfl (pgs_cons (pg_name (i := 3) scLaw.nd rfl (Or.inl rfl)) (pgs_cons (pg_name (i := 4) scLaw.nd rfl (Or.inl rfl)) pgs_nil))))
      (pss_cons (ps_set (i := 5) scLaw.nd rfl (.inl rfl) (pe_lst pa_nil))
      (pss_cons (ps_for PassesOwn.never rfl (pi_range1 (by rfl) mr (pa_cons (pe_op op_add pe_int (pe_call GD hr1 (by rfl) gD FD.kp bD .nil pass0 (pa_cons (pv 1) (pa_cons pe_int pa_nil)))) pa_nil)) (pg_name (i := 6) scLaw.nd rfl (Or.inl rfl))
        (pss_cons (ps_par (i := 7) (j := 8) (by rfl) scLaw.nd rfl rfl (by decide) rfl rfl (pa_cons (pe_call GSt hr2 (by rfl) gSt FSt.kp bSt .nil pass0 (pa_cons (pv 1) (pa_cons (pv 3) (pa_cons (pv 4) pa_nil)))) (pa_cons (pe_cmpR op_eq (pe_call GD hr1 (by rfl) gD FD.kp bD .nil pass0 (pa_cons (pv 1) (pa_cons pe_int pa_nil))) pe_int (nomark _)) pa_nil)) (by rfl))
        (pss_one (ps_expr (pe_bm PySem.F.plainAttrs_list PySem.F.slot_list_append PySem.F.type_list_append mt_append (pv 5) (pa_cons (pe_tup (pa_cons (pe_make MI GI hr5 (by rfl) T.mgC b4 .nil passNo (pa_cons (pv 3) (pa_cons (pv 4) (pa_cons (pv 7) (pa_cons (pv 8) pa_nil)))))
          (pa_cons (pe_call GTk hr1 (by rfl) gTk FTk.kp bTk .nil pass0 (pa_cons (pv 7) pa_nil)) (pa_cons (pv 8) pa_nil)))) pa_nil))))))
      (pss_cons (ps_for PassesOwn.never rfl (pi_list (pv 5)) (pg_name (i := 9) scLaw.nd rfl (Or.inl rfl))
        (pss_one (ps_for PassesOwn.never rfl (pi_list (pv 5)) (pg_name (i := 10) scLaw.nd rfl (Or.inl rfl))
          (pss_one (ps_if (pt_not (pt_val (pe_callG GJ hg hr8 (by rfl) gJ FJ.kp bJ .nil pass0 (pa_cons (pv 3) (pa_cons (pv 4) (pa_cons (pv 9) (pa_cons (pv 10) pa_nil))))))) (pss_one (ps_ret pe_bl)) pss_nil)))))
      (pss_cons (ps_set (i := 13) scLaw.nd rfl (.inr rfl) (pe_cut (pe_ifExp (pt_cmpR op_lt (pv 4) (pe_op op_pow pe_int pe_int) (nomark _)) (pe_make MI GI hr5 (by rfl) T.mgC b4 .nil passNo (pa_cons (pv 3) (pa_cons (pe_op op_add (pv 4) pe_int) (pa_cons (pe_lst pa_nil) (pa_cons pe_bl pa_nil)))))
          (pe_make MI GI hr5 (by rfl) T.mgC b4 .nil passNo (pa_cons (pe_op op_sub (pv 3) pe_int) (pa_cons (pv 4) (pa_cons (pe_lst pa_nil) (pa_cons pe_bl pa_nil))))))))
      (pss_cons (ps_set (i := 14) scLaw.nd rfl (.inr rfl) (pe_ix ix_tup (pe_ix ix_list (pv 5) pe_int (fun _ _ => rfl)) pe_int (fun _ _ => rfl)))
      (pss_cons (ps_set (i := 11) scLaw.nd rfl (.inl rfl) (pe_lst (pa_cons (pe_cut
          (pe_lamcall (T := [(P0, _)]) (TT := TTT CB) (t := _) (k := 7) (by rfl) gH FH.kp lkH hcH bH scHeard rfl (Or.inl rfl) (heard_gives R) TB rfl (by exact List.mem_singleton.mpr rfl) (fun q hq _ => by rw [List.mem_singleton.mp hq]) hr
            (lamS_by (sc := defScope sLaw) (by decide +kernel)) rfl (fun _ _ _ _ _ => rfl) (fun A outer s H E f c' hr' => pe_op (op_binOwn (op := .BitAnd) GA sA iA bA (passes_call (takes_of rfl rfl rfl rfl) (fun _ _ _ _ h => h)) (hr'.mono (by decide)) O.sf) (pv 14) (pv 13)))) pa_nil)))
      (pss_cons (ps_expr (pe_bm PySem.F.plainAttrs_list PySem.F.slot_list_append PySem.F.type_list_append mt_append (pv 11) (pa_cons (pe_cut
          (pe_lamcall (T := [(P0, _)]) (TT := TTT CB) (t := _) (k := 7) (by rfl) gH FH.kp lkH hcH bH scHeard rfl (Or.inl rfl) (heard_gives R) TB rfl (by exact List.mem_singleton.mpr rfl) (fun q hq _ => by rw [List.mem_singleton.mp hq]) hr
            (lamS_by (sc := defScope sLaw) (by decide +kernel)) rfl (fun _ _ _ _ _ => rfl) (fun A outer s H E f c' hr' => pe_op (op_binOwn (op := .BitOr) GO sO iO bO (passes_call (takes_of rfl rfl rfl rfl) (fun _ _ _ _ h => h)) (hr'.mono (by decide)) O.sf) (pv 13) (pv 14)))) pa_nil)))
      (pss_cons (ps_expr (pe_bm PySem.F.plainAttrs_list PySem.F.slot_list_append PySem.F.type_list_append mt_append (pv 11) (pa_cons (pe_cut
          (pe_lamcall (T := [(P0, _)]) (TT := TTT CB) (t := _) (k := 7) (by rfl) gH FH.kp lkH hcH bH scHeard rfl (Or.inl rfl) (heard_gives R) TB rfl (by exact List.mem_singleton.mpr rfl) (fun q hq _ => by rw [List.mem_singleton.mp hq]) hr
            (lamS_by (sc := defScope sLaw) (by decide +kernel)) rfl (fun _ _ _ _ _ => rfl) (fun A outer s H E f c' hr' => pe_meth (pv 14) T.cl mW GW (hr'.mono (by decide)) bW .nil (passes_call (takes_of rfl rfl rfl rfl) (fun _ _ _ _ h => h)) (pa_cons (pv 13) pa_nil)))) pa_nil)))
      (pss_cons (ps_setLc (i := 12) (own := [("_law_thing", 15)]) (g := gName 15) rfl scLaw.nd rfl rfl (sw_true rfl rfl rfl (by decide +kernel)) (pi_list (pe_lst (pa_cons (pv 13) (pa_cons (pe_ix ix_tup (pe_ix ix_list (pv 5) pe_int (fun _ _ => rfl)) pe_int (fun _ _ => rfl)) (pa_cons pe_non (pa_cons (pe_callTy (call_strOwn G4 s4 i4 b4s pass0 hr4) (by rfl) W.str (by decide +kernel) (pa_cons (pv 14) pa_nil)) (pa_cons pe_int pa_nil))))))) (blkOk_by (N := lawN) (sc := defScope sLaw) (by decide +kernel))
          (fun _ _ _ _ _ => pg_name (i := 15) scLaw.nd rfl (Or.inl rfl)) (fun _ _ _ _ _ => pts_one (pt_cmpR (op_eqOwnK (K := K) rfl GE sE iE bE pass0 hr1) (pv 14) (pv 15) (nomark _))) (fun _ _ _ _ _ => pv 15))
      (pss_one (ps_if (PW.pt (pw_or (pt_cmpR op_ne (pe_callB (call_reprG hg hr.units) (by rfl) mp (by decide +kernel) (pa_cons (pv 11) pa_nil))
            (pe_callB (call_reprG hg hr.units) (by rfl) mp (by decide +kernel) (pa_cons (pe_op op_mulL (pe_lst (pa_cons (pe_lst (pa_cons pe_non pa_nil)) pa_nil)) pe_int) pa_nil)) (nomark _))
          (pw_or1 (pt_cmpR (op_neD hr.units) (pv 12) (pe_lst pa_nil) (nomark _))))) (pss_one (ps_ret pe_bl)) pss_nil)))))))))))))
      (pss_one (ps_ret pe_bl)))), ?_⟩
    refine ⟨_, rfl, a, ns, rfl, hS, fun H1 p l cc s1 pen1 => ?_⟩
    obtain ⟨qn, hqn⟩ : ∃ qn, qn = ((envOfC "law" (defScope sLaw) s.heap.objs.size f (.ref c0)).qual ++ "<lambda>") := ⟨_, rfl⟩
    have t1 : Tabs [(P0, qn)] H1 := by
      intro y hy
      rw [List.mem_singleton.mp hy]
      exact TabS.nil (s1 _ _ hT0)
    have hsz := sizeLine_eq
    refine ⟨4, rfl, by decide, by decide, for_range (lo := 0) (n := 4) (fun i σ H' => ∃ x2 x3 x4 x5 x6 x7 x8 x9 x10 x11 x12 x13 x14 n' g', σ = [some (.ref a), some (.ref p), x2, x3, x4, x5, x6, x7, x8, x9, x10, x11, x12, x13, x14, none] ∧ Pen H' p l cc n' g' ∧ n' ≤ 60 * i ∧ Tabs [(P0, qn)] H')
      ⟨none, none, none, none, none, none, none, none, none, none, none, none, none, 0, 0, rfl, pen1, Nat.zero_le _, t1⟩ ?_ ?_⟩
    case refine_2 =>
      rintro σ H2 ⟨x2, x3, x4, x5, x6, x7, x8, x9, x10, x11, x12, x13, x14, n', g', rfl, pen, hn, t2⟩
      exact q _
    rintro i σ H2 hi2 ⟨x2, x3, x4, x5, x6, x7, x8, x9, x10, x11, x12, x13, x14, n2, g2, rfl, pen2, hn2, t2⟩
    -- the life
    refine ⟨_, rfl, p, l, cc, n2, g2, rfl, pen2, by omega, fun lo hi t n3 g3 H3 l0 l1 l2 l3 hn3 off3 pen3 ht3 => ?_⟩
    refine ⟨t, _, rfl, SqT.of ht3, rfl, _, _, rfl, _, _, rfl, rfl, ?_⟩
    have t3 := tabs_off pen2.pen t2 off3
    clear off3 ht3 t2 pen2
    -- some
    refine ⟨Nat.zero_le _, fun sm hsm => ?_⟩
    have s4 := same_upd0 (o := .lst []) hsm
    have pen4 := pen3.same' s4
    have t4 := tabs_same t3 s4
    have nsp := pen3.ne' hsm
    have nsl := pen3.nl hsm
    have hsm4 : (upd H3 sm (.lst [])) sm = some (.lst []) := upd_same
    clear s4 hsm pen3 t3
    revert pen4 t4 hsm4
    generalize upd H3 sm (.lst []) = H4
    intro pen4 t4 hsm4
    refine ⟨_, rfl, p, l, cc, n3, g3, _, rfl, pen4, by omega, by decide, by decide, fun d n5 g5 H5 d0 d1 hn5 off5 pen5 => ?_⟩
    have t5 := tabs_off pen4.pen t4 off5
    have hsm5 := off5 _ _ nsp hsm4
    clear off5 t4 hsm4 pen4
    refine ⟨_, _, rfl, rfl, 2 + d, rfl, by omega, by omega, for_range (lo := 0) (n := (2 + d).toNat) (fun j σ H' => ∃ (y6 y7 y8 : Option V) (ts : List Addr) (n' : Nat) (g' : Int), σ = [some (.ref a), some (.ref p), some (.int (0 + ((i : Nat) : Int))), some (.int lo), some (.int hi), some (.ref sm), y6, y7, y8, x9, x10, x11, x12, x13, x14, none] ∧ Pen H' p l cc n' g' ∧ n' ≤ n5 + 12 * j ∧ Tabs [(P0, qn)] H' ∧ H' sm = some (.lst (ts.map V.ref)) ∧ ts.length = j ∧ ∀ t ∈ ts, ∃ us n, TlP p sm C H' t lo hi us n)
      ⟨x6, x7, x8, [], n5, g5, rfl, pen5, by omega, t5, hsm5, rfl, fun _ h => nomatch h⟩ ?_ ?_⟩
    · rintro j σ H6 hj ⟨y6, y7, y8, ts, n6, g6, rfl, pen6, hn6, t6, hsm6, htl, hts⟩
      -- drawn, has_so
      refine ⟨_, rfl, _, rfl, _, rfl, p, l, cc, n6, g6, lo, hi, rfl, pen6, by omega, l1, l2, fun acc c js n7 g7 H7 hal hok hn7 off7 pen7 hc7 ncp hcn hpr7 => ?_⟩
      refine ⟨_, rfl, p, l, cc, n7, g7, _, rfl, pen7, by omega, by decide, by decide, fun e n8 g8 H8 e0 e1 hn8 off8 pen8 => ⟨rfl, _, _, rfl, ?_⟩⟩
      generalize decide (V.int e = V.int 1) = b
      have off78 := off7.trans off8
      have ncs : c ≠ sm := fun z => by rw [z, hsm6] at hcn; cases hcn
      have t8 := tabs_off pen6.pen t6 off78
      have hsm8 := off78 _ _ nsp hsm6
      have hc8 := off8 _ _ ncp hc7
      have hpr8 := prl_off hpr7 pen7.pen off8
      have hts8 : ∀ t ∈ ts, ∃ us n, TlP p sm C H8 t lo hi us n := fun t ht => (hts t ht).elim fun us h => h.elim fun n h => ⟨us, n, h.keep pen6.pen hsm6 fun u o n1 _ e => off78 _ _ n1 e⟩
      clear off7 off8 off78 hc7 hpr7 t6 hsm6 pen7 pen6 hts
      have hok' : ∀ q ∈ acc, lo ≤ q.1 ∧ q.1 ≤ q.2 ∧ q.2 ≤ hi := fun q hq => ⟨(hok q hq).1, (hok q hq).2.1, (hok q hq).2.2.1⟩
      have stc : StAt K H8 (.ref c) (some (acc.map itO)) := .inr ⟨c, _, _, "list", rfl, rfl, .inl (.lst hc8), .inr rfl, .inl (SqL.of hc8), prAt_of hpr8, by rw [List.length_map, prl_len hpr8]; omega⟩
      -- made, kept
      refine ⟨_, rfl, .inl ⟨rfl, _, SqL.of hsm8⟩, _, rfl, _, rfl, _, rfl, _, rfl, fun x dx hx hdx ne => tinit_U (inAny acc) hx hdx stc l0 l1 (by omega) l3 hok' (fun m _ _ => inAny_iff) fun H9 s9 hT9 => ?_⟩
      refine ⟨_, rfl, c, js, acc, rfl, s9 _ _ hc8, prl_same hpr8 s9, hal, (fun q hq => ⟨(hok q hq).2.1, (hok q hq).2.2.2⟩), fun us cu H10 hpw hmem hul s10 hcun hcu => ⟨_, rfl, by show 3 ≤ sizeLine; decide, fun tp htp => ?_⟩⟩
      obtain rfl : us = pick lo hi (inAny acc) := pick_is hpw fun m => by
        rw [hmem m, inAny_iff]
        exact ⟨fun h => ⟨h.elim fun q hq => by have := hok' q hq.1; have := hq.2; omega, h⟩, fun h => h.2⟩
      have s11 := same_upd0 (o := .tup [.ref x, .ref cu, .bl b]) htp
      have sA := s9.trans (s10.trans s11)
      have hsm11 := sA _ _ hsm8
      have hcu11 := s11 _ _ hcu
      have htp11 : (upd H10 tp (.tup [.ref x, .ref cu, .bl b])) tp = some (.tup [.ref x, .ref cu, .bl b]) := upd_same
      have pen11 := pen8.same' sA
      have t11 := tabs_same t8 sA
      have hT11 := hT9.same (s10.trans s11)
      have ncup : cu ≠ p := fun z => by rw [z, (pen8.same' s9).pen] at hcun; cases hcun
      have ncus : cu ≠ sm := fun z => by rw [z, s9 _ _ hsm8] at hcun; cases hcun
      have hts11 : ∀ t ∈ ts, ∃ us n, TlP p sm C (upd H10 tp (.tup [.ref x, .ref cu, .bl b])) t lo hi us n := fun t ht => (hts8 t ht).elim fun us h => h.elim fun n h => ⟨us, n, h.keep pen8.pen hsm8 fun u o _ _ e => sA _ _ e⟩
      revert hsm11 hcu11 htp11 pen11 t11 hT11 hts11
      generalize upd H10 tp (.tup [.ref x, .ref cu, .bl b]) = H11
      intro hsm11 hcu11 htp11 pen11 t11 hT11 hts11
      have kp : ∀ u o, u ≠ p → u ≠ sm → H11 u = some o → (upd H11 sm (.lst (ts.map V.ref ++ [.ref tp]))) u = some o := fun u o _ n2 e => (upd_ne n2).trans e
      have hTp : TlP p sm C H11 tp lo hi (pick lo hi (inAny acc)) b := ⟨x, cu, htp11, hcu11, hT11, ncup, ncus⟩
      refine ⟨sm, _, _, rfl, rfl, hsm11, by rw [List.length_map]; omega, _, _, _, ts ++ [tp], n8, g8, rfl, pen11.upd (Ne.symm nsp |> Ne.symm) nsl, by omega, tabs_off hsm11 t11 Off.refl.upd, ?_, by rw [List.length_append, htl]; rfl, fun t ht => ?_⟩
      · rw [upd_same, List.map_append]
        rfl
      · rcases List.mem_append.mp ht with h | h
        · exact (hts11 t h).elim fun us h => h.elim fun n h => ⟨us, n, h.keep pen11.pen hsm11 kp⟩
        · rw [List.mem_singleton.mp h]
          exact ⟨_, _, hTp.keep pen11.pen hsm11 kp⟩
    rintro σ H6 ⟨y6, y7, y8, ts, n6, g6, rfl, pen6, hn6, t6, hsm6, htl, hts⟩
    -- joined, all by all
    have tget : ∀ {k : Nat} {x : V}, (ts.map V.ref)[k]? = some x → ∃ t, t ∈ ts ∧ x = .ref t := fun {k x} hx => by
      rw [List.getElem?_map] at hx
      cases e : ts[k]? with
      | none => rw [e] at hx; cases hx
      | some t => rw [e] at hx; exact ⟨t, List.mem_of_getElem? e, (Option.some.inj hx).symm⟩
    refine ⟨_, rfl, sm, rfl, ⟨_, SqL.of hsm6⟩, for_it walk_list (fun k σ H' => (∃ z9 z10, σ = [some (.ref a), some (.ref p), some (.int (0 + ((i : Nat) : Int))), some (.int lo), some (.int hi), some (.ref sm), y6, y7, y8, z9, z10, x11, x12, x13, x14, none]) ∧ Same H6 H') ⟨⟨_, _, rfl⟩, Same.refl _⟩ (fun _ _ _ _ y => SqL.of (y.2 _ _ hsm6)) ?_ ?_⟩
    · rintro k x σ H7 H8 hk ⟨⟨z9, z10, rfl⟩, s7⟩ ⟨rfl, hx⟩
      obtain ⟨t, ht, rfl⟩ := tget hx
      obtain ⟨us, n, hTt⟩ := hts t ht
      refine ⟨_, rfl, sm, rfl, ⟨_, SqL.of (s7 _ _ hsm6)⟩, for_it walk_list (fun k' σ H' => (∃ z10, σ = [some (.ref a), some (.ref p), some (.int (0 + ((i : Nat) : Int))), some (.int lo), some (.int hi), some (.ref sm), y6, y7, y8, some (.ref t), z10, x11, x12, x13, x14, none]) ∧ Same H6 H') ⟨⟨_, rfl⟩, s7⟩ (fun _ _ _ _ y => SqL.of (y.2 _ _ hsm6)) ?_ ?_⟩
      · rintro k' x' σ H9 H10 hk' ⟨⟨z10', rfl⟩, s9⟩ ⟨rfl, hx'⟩
        obtain ⟨t', ht', rfl⟩ := tget hx'
        obtain ⟨us', n', hTt'⟩ := hts t' ht'
        refine ⟨_, rfl, _, rfl, _, rfl, _, rfl, t, t', lo, hi, us, us', n, n', rfl, hTt.at.same s9, hTt'.at.same s9, l2, fun H11 s11 => ⟨_, rfl, iteF ?_⟩⟩
        exact ⟨⟨_, rfl⟩, s9.trans s11⟩
      · rintro σ H9 ⟨⟨z10', rfl⟩, s9⟩
        exact ⟨⟨_, _, rfl⟩, s9⟩
    rintro σ H7 ⟨⟨z9, z10, rfl⟩, s7⟩
    have pen7 := pen6.same' s7
    have t7 := tabs_same t6 s7
    have hsm7 := s7 _ _ hsm6
    obtain ⟨h0, us0, n0, ts', hts0, hT0⟩ : ∃ h0 us0 n0 ts', ts = h0 :: ts' ∧ TlP p sm C H7 h0 lo hi us0 n0 := by
      cases ts with
      | nil => rw [List.length_nil] at htl; omega
      | cons h0 ts' =>
        obtain ⟨us, n, h⟩ := hts h0 List.mem_cons_self
        exact ⟨h0, us, n, ts', rfl, h.keep pen6.pen hsm6 fun u o _ _ e => s7 _ _ e⟩
    subst hts0
    obtain ⟨one, b0, hh0, hb0, hone, nbp, nbs⟩ := hT0
    clear tget hts hsm6 t6 pen6 s7 htl
    -- off
    refine ⟨fun v G => ∃ (x : Addr) (lo' hi' : Int), v = .ref x ∧ Same H7 G ∧ TrU C G x lo' hi' [] true ∧ ¬ (lo = lo' ∧ hi = hi'), ?_, ?_⟩
    · have stn : ∀ {G : Hp} {z : Addr}, StAt K (upd G z (.lst [])) (.ref z) (some (([] : List Str2).map itO)) := fun {G z} => .inr ⟨z, [], [], "list", rfl, rfl, .inl (.lst upd_same), .inr rfl, .inl (SqL.of upd_same), .nil, by decide⟩
      refine ⟨_, rfl, _, _, rfl, rfl, ⟨by decide, by decide, by decide⟩, _, _, rfl, rfl, _, rfl, ite2 (fun e => ?_) (fun e => ?_)⟩
      · have e2 : hi < 1000000000000000000000000000000 := of_decide_eq_true e
        refine ⟨_, rfl, _, rfl, _, _, rfl, rfl, Nat.zero_le _, fun z hz => fun x dx hx hdx ne => ?_⟩
        refine tinit_U (acc := []) (fun _ => false) hx hdx stn l0 (by omega) (by omega) (by omega) (fun _ h => nomatch h) (fun m _ _ => ⟨(fun z => nomatch z), fun h => absurd h cov_nil⟩) fun H9 s9 hT9 => ?_
        rw [pick_nil] at hT9
        exact ⟨x, _, _, rfl, (same_upd0 hz).trans s9, hT9, fun z => by have := z.2; omega⟩
      · have e2 : ¬ hi < 1000000000000000000000000000000 := fun z => e (decide_eq_true z)
        refine ⟨_, rfl, _, _, rfl, rfl, _, rfl, Nat.zero_le _, fun z hz => fun x dx hx hdx ne => ?_⟩
        refine tinit_U (acc := []) (fun _ => false) hx hdx stn (by omega) (by omega) (by omega) (by omega) (fun _ h => nomatch h) (fun m _ _ => ⟨(fun z => nomatch z), fun h => absurd h cov_nil⟩) fun H9 s9 hT9 => ?_
        rw [pick_nil] at hT9
        exact ⟨x, _, _, rfl, (same_upd0 hz).trans s9, hT9, fun z => by have := z.1; omega⟩
    rintro _ H8 ⟨off, lo', hi', rfl, s8, hoff, hno⟩
    -- one
    refine ⟨_, rfl, sm, _, _, _, rfl, rfl, SqL.of (s8 _ _ hsm7), atI_nat (j := 0) rfl, h0, _, _, _, rfl, rfl, SqT.of (s8 _ _ hh0), atI_nat (j := 0) rfl, ?_⟩
    have pen8 := pen7.same' s8
    have t8 := tabs_same t7 s8
    have hsm8 := s8 _ _ hsm7
    have hh8 := s8 _ _ hh0
    have hb8 := s8 _ _ hb0
    have hone8 := hone.same s8
    clear s8 pen7 t7 hsm7 hh0 hb0 hone
    have kx : ∀ {G G' : Hp}, ExtN G G' → ∀ u o, (∀ xs, o ≠ .lst xs) → (∀ ps, o ≠ .tbl ps) → G u = some o → G' u = some o := fun x u o _ h e => x u o e h
    have hno' : ¬ (lo' = lo ∧ hi' = hi) := fun z => hno ⟨z.1.symm, z.2.symm⟩
    -- told
    refine ⟨fun v G => ∃ r, v = .ref r ∧ G r = some (.lst [.non]) ∧ ExtN H8 G ∧ Tabs [(P0, qn)] G, ⟨by rw [hqn] at t8; exact t8, fun H9 x9 t9 => ?_⟩, ?_⟩
    · replace t9 : Tabs [(P0, qn)] H9 := by rw [hqn]; exact t9
      exact ⟨_, rfl, _, rfl, bin_no (hone8.keep (kx x9)) (hoff.keep (kx x9)) hno fun d3 H10 s10 hd3 => ⟨.non, d3, rfl, rfl, hd3, fun H11 r s11 hr => ⟨r, rfl, hr, x9.trans (extN_of (s10.trans s11)), tabs_same t9 (s10.trans s11)⟩⟩⟩
    rintro _ H9 ⟨r1, rfl, hr1, x9, t9⟩
    refine ⟨by show 1 ≤ sizeLine; decide, fun tl htl => ?_⟩
    have xtl : ∀ {G : Hp} {xs : List V}, G tl = none → ExtN G (upd G tl (.lst xs)) := fun h => extN_of (same_upd0 h)
    have x10 := x9.trans (xtl (xs := [.ref r1]) htl)
    have htl10 : (upd H9 tl (.lst [.ref r1])) tl = some (.lst [.ref r1]) := upd_same
    have hr10 := same_upd0 (o := .lst [.ref r1]) htl _ _ hr1
    have t10 := tabs_same t9 (same_upd0 (o := .lst [.ref r1]) htl)
    have nrt : r1 ≠ tl := fun z => by rw [z, htl] at hr1; cases hr1
    have pen10 := pen8.ext x10
    have hsm10 := x10 _ _ hsm8 lst_ne
    have hh10 := x10 _ _ hh8 tup_ne
    have hb10 := x10 _ _ hb8 lst_ne
    have hone10 := hone8.keep (kx x10)
    have hoff10 := hoff.keep (kx x10)
    have ntp : tl ≠ p := fun z => by rw [z, (pen8.ext x9).pen] at htl; cases htl
    have ntl : tl ≠ l := fun z => by rw [z, (pen8.ext x9).cells] at htl; cases htl
    have nts : tl ≠ sm := fun z => by rw [z, x9 _ _ hsm8 lst_ne] at htl; cases htl
    have ntb : tl ≠ b0 := fun z => by rw [z, x9 _ _ hb8 lst_ne] at htl; cases htl
    clear x9 x10 hr1 t9 htl hone8 hoff hb8 hh8 hsm8 pen8 t8
    revert htl10 hr10 t10 pen10 hsm10 hh10 hb10 hone10 hoff10
    generalize upd H9 tl (.lst [.ref r1]) = H10
    intro htl10 hr10 t10 pen10 hsm10 hh10 hb10 hone10 hoff10
    have kup : ∀ {G : Hp} {xs ys : List V}, G tl = some (.lst xs) → ∀ u o, (∀ xs, o ≠ .lst xs) → (∀ ps, o ≠ .tbl ps) → G u = some o → (upd G tl (.lst ys)) u = some o := fun {G xs ys} ht u o h _ e => (upd_ne (fun z => by
      rw [z, ht] at e
      exact h _ (Option.some.inj e).symm)).trans e
    have ktu : ∀ {G : Hp} {xs ys : List V}, G tl = some (.lst xs) → ∀ u ws, G u = some (.tup ws) → (upd G tl (.lst ys)) u = some (.tup ws) := fun ht u ws e => kup ht u (.tup ws) (fun _ z => nomatch z) (fun _ z => nomatch z) e
    -- the second
    refine ⟨_, rfl, .inl ⟨rfl, _, SqL.of htl10⟩, fun v G => ∃ r, v = .ref r ∧ G r = some (.lst [.non]) ∧ ExtN H10 G ∧ Tabs [(P0, qn)] G, ⟨by rw [hqn] at t10; exact t10, fun H11 x11 t11 => ?_⟩, ?_⟩
    · replace t11 : Tabs [(P0, qn)] H11 := by rw [hqn]; exact t11
      exact ⟨_, rfl, _, rfl, bin_no (hoff10.keep (kx x11)) (hone10.keep (kx x11)) hno' fun d3 H12 s12 hd3 => ⟨.non, d3, rfl, rfl, hd3, fun H13 r s13 hr => ⟨r, rfl, hr, x11.trans (extN_of (s12.trans s13)), tabs_same t11 (s12.trans s13)⟩⟩⟩
    rintro _ H11 ⟨r2, rfl, hr2, x11, t11⟩
    have htl11 := x11 _ _ htl10 lst_ne
    refine ⟨tl, _, _, rfl, rfl, htl11, by show 1 < sizeLine; decide, ?_⟩
    have hr1_12 := (upd_ne (o := .lst ([.ref r1] ++ [.ref r2])) nrt).trans (x11 _ _ hr10 lst_ne)
    have nr2 : r2 ≠ tl := fun z => by rw [z, htl11] at hr2; cases hr2
    have hr2_12 := (upd_ne (o := .lst ([.ref r1] ++ [.ref r2])) nr2).trans hr2
    have htl12 : (upd H11 tl (.lst ([.ref r1] ++ [.ref r2]))) tl = some (.lst [.ref r1, .ref r2]) := upd_same
    have t12 := tabs_off htl11 t11 (Off.refl.upd (o := .lst ([.ref r1] ++ [.ref r2])))
    have pen12 := (pen10.ext x11).upd (o := .lst ([.ref r1] ++ [.ref r2])) ntp ntl
    have hsm12 := (upd_ne (o := .lst ([.ref r1] ++ [.ref r2])) (Ne.symm nts)).trans (x11 _ _ hsm10 lst_ne)
    have hb12 := (upd_ne (o := .lst ([.ref r1] ++ [.ref r2])) (Ne.symm ntb)).trans (x11 _ _ hb10 lst_ne)
    have hh12 := ktu (ys := [.ref r1] ++ [.ref r2]) htl11 _ _ (x11 _ _ hh10 tup_ne)
    have hone12 := (hone10.keep (kx x11)).keep (kup (ys := [.ref r1] ++ [.ref r2]) htl11)
    have hoff12 := (hoff10.keep (kx x11)).keep (kup (ys := [.ref r1] ++ [.ref r2]) htl11)
    clear hr2 x11 t11 htl11 hr10 htl10 t10 pen10 hsm10 hh10 hb10 hone10 hoff10
    revert hr1_12 hr2_12 htl12 t12 pen12 hsm12 hb12 hh12 hone12 hoff12
    generalize upd H11 tl (.lst ([.ref r1] ++ [.ref r2])) = H12
    intro hr1_12 hr2_12 htl12 t12 pen12 hsm12 hb12 hh12 hone12 hoff12
    -- the third
    refine ⟨_, rfl, .inl ⟨rfl, _, SqL.of htl12⟩, fun v G => ∃ r, v = .ref r ∧ G r = some (.lst [.non]) ∧ ExtN H12 G ∧ Tabs [(P0, qn)] G, ⟨by rw [hqn] at t12; exact t12, fun H13 x13 t13 => ?_⟩, ?_⟩
    · replace t13 : Tabs [(P0, qn)] H13 := by rw [hqn]; exact t13
      obtain ⟨dx, c, js, h1, _⟩ := id (hone12.keep (kx x13)).at'
      exact ⟨_, rfl, one, dx, _, rfl, h1, rfl, _, rfl, nil_ (within_no (hone12.keep (kx x13)) (hoff12.keep (kx x13)) hno fun d3 H14 s14 hd3 => ⟨.non, d3, rfl, rfl, hd3, fun H15 r s15 hr => ⟨r, rfl, hr, x13.trans (extN_of (s14.trans s15)), tabs_same t13 (s14.trans s15)⟩⟩)⟩
    rintro _ H13 ⟨r3, rfl, hr3, x13, t13⟩
    have htl13 := x13 _ _ htl12 lst_ne
    refine ⟨tl, _, _, rfl, rfl, htl13, by show 2 < sizeLine; decide, ?_⟩
    have nr3 : r3 ≠ tl := fun z => by rw [z, htl13] at hr3; cases hr3
    have hr1_14 := (upd_ne (o := .lst ([.ref r1, .ref r2] ++ [.ref r3])) nrt).trans (x13 _ _ hr1_12 lst_ne)
    have hr2_14 := (upd_ne (o := .lst ([.ref r1, .ref r2] ++ [.ref r3])) nr2).trans (x13 _ _ hr2_12 lst_ne)
    have hr3_14 := (upd_ne (o := .lst ([.ref r1, .ref r2] ++ [.ref r3])) nr3).trans hr3
    have htl14 : (upd H13 tl (.lst ([.ref r1, .ref r2] ++ [.ref r3]))) tl = some (.lst [.ref r1, .ref r2, .ref r3]) := upd_same
    have t14 := tabs_off htl13 t13 (Off.refl.upd (o := .lst ([.ref r1, .ref r2] ++ [.ref r3])))
    have pen14 := (pen12.ext x13).upd (o := .lst ([.ref r1, .ref r2] ++ [.ref r3])) ntp ntl
    have hsm14 := (upd_ne (o := .lst ([.ref r1, .ref r2] ++ [.ref r3])) (Ne.symm nts)).trans (x13 _ _ hsm12 lst_ne)
    have hb14 := (upd_ne (o := .lst ([.ref r1, .ref r2] ++ [.ref r3])) (Ne.symm ntb)).trans (x13 _ _ hb12 lst_ne)
    have hh14 := ktu (ys := [.ref r1, .ref r2] ++ [.ref r3]) htl13 _ _ (x13 _ _ hh12 tup_ne)
    have hone14 := (hone12.keep (kx x13)).keep (kup (ys := [.ref r1, .ref r2] ++ [.ref r3]) htl13)
    have hoff14 := (hoff12.keep (kx x13)).keep (kup (ys := [.ref r1, .ref r2] ++ [.ref r3]) htl13)
    clear hr3 x13 t13 htl13 hr1_12 hr2_12 htl12 t12 pen12 hsm12 hb12 hh12 hone12 hoff12
    revert hr1_14 hr2_14 hr3_14 htl14 t14 pen14 hsm14 hb14 hh14 hone14 hoff14
    generalize upd H13 tl (.lst ([.ref r1, .ref r2] ++ [.ref r3])) = H14
    intro hr1 hr2 hr3 htl14 t14 pen14 hsm14 hb14 hh14 hone14 hoff14
    -- same
    have R14 := run_facts hone14.pw
    have hlog : ∀ p ∈ us0.foldl run1 [], LogP p := fun p hp => by
      obtain ⟨h1, h2⟩ := run_both R14 hp
      have e1 := hone14.mem _ h1
      have e2 := hone14.mem _ h2
      have := hone14.b3
      have := hone14.b0
      exact ⟨logP_of ⟨by omega, by omega⟩, logP_of ⟨by omega, by omega⟩⟩
    have hal := hone14.alen
    obtain ⟨dx, c, js, h1, _⟩ := id hone14.at'
    refine ⟨_, rfl, _, rfl, sm, _, _, _, rfl, rfl, SqL.of hsm14, atI_nat (j := 0) rfl, h0, _, _, _, rfl, rfl, SqT.of hh14, atI_nat (j := 1) rfl, _, rfl, one, dx, _, rfl, h1, one, lo, hi, _, n0, rfl, hone14.at', by omega, hlog, fun H15 s15 => ⟨_, rfl, by show 5 ≤ sizeLine; decide, fun tb htb => ?_⟩⟩
    have sB := s15.trans (same_upd0 (o := .lst [.ref off, .ref b0, .non, .str (txtT (us0.foldl run1 []) n0), .int 0]) htb)
    have htb15 : (upd H15 tb (.lst [.ref off, .ref b0, .non, .str (txtT (us0.foldl run1 []) n0), .int 0])) tb = some (.lst [.ref off, .ref b0, .non, .str (txtT (us0.foldl run1 []) n0), .int 0]) := upd_same
    revert sB htb15
    generalize upd H15 tb (.lst [.ref off, .ref b0, .non, .str (txtT (us0.foldl run1 []) n0), .int 0]) = H16
    intro sB htb16
    have key : ∀ x ∈ [V.ref off, .ref b0, .non, .str (txtT (us0.foldl run1 []) n0), .int 0], ∀ (G : Hp) (Q' : VK), Same H16 G → (∀ G', Same G G' → Q' (.bl false) G') → rOwn C K (spEqA K C) E0 id (.ref one) x G Q' := fun x hx G Q' sG hq => by
      have sC := sB.trans sG
      simp only [List.mem_cons, List.not_mem_nil, or_false] at hx
      rcases hx with h | h | h | h | h <;> subst h
      · exact eq_off O.I T.cl (hone14.same sC) (hoff14.same sC) hno hq
      · exact eq_no (hone14.same sC) (.base (.lst (sC _ _ hb14))) (no "list" (by decide)) (hq G (Same.refl _))
      · exact eq_no (hone14.same sC) (.base .non) (no "NoneType" (by decide)) (hq G (Same.refl _))
      · exact eq_no (hone14.same sC) (.base (.str _)) (no "str" (by decide)) (hq G (Same.refl _))
      · exact eq_no (hone14.same sC) (.base (.int _)) (no "int" (by decide)) (hq G (Same.refl _))
    refine ⟨tb, rfl, ⟨_, SqL.of htb16⟩, fun D hD => ?_⟩
    refine lc_it (walk_list (xs := [V.ref off, .ref b0, .non, .str (txtT (us0.foldl run1 []) n0), .int 0])) (fun k H' => Same H16 H' ∧ H' D = some (.lst [])) ⟨same_upd0 hD, upd_same⟩ (fun _ _ _ y => SqL.of (y.1 _ _ htb16)) ?_ ?_
    · rintro k x G G' hk ⟨sG, hDk⟩ ⟨rfl, hx⟩
      exact ⟨rfl, _, rfl, _, rfl, key x (List.mem_of_getElem? hx) _ _ sG fun G2 s2 => ⟨_, rfl, iteF ⟨sG.trans s2, s2 _ _ hDk⟩⟩⟩
    rintro H17 ⟨s17, hD17⟩
    have sE := sB.trans s17
    have htl17 := sE _ _ htl14
    have okT : (PyData.list [.list [.none], .list [.none], .list [.none]]).showable = true ∧ (PyData.list [.list [.none], .list [.none], .list [.none]]).depth ≤ 60 ∧ (PyData.list [.list [.none], .list [.none], .list [.none]]).shown.length ≤ sizeLine :=
      ((OkD.list (n := 90000) (m := 2) (ds := [.list [.none], .list [.none], .list [.none]]) fun d hd => by
        have e : d = .list [.none] := by simpa using hd
        rw [e]
        exact (OkD.list (n := 2000) (m := 0) (ds := [.none]) fun d hd => by rw [List.mem_singleton.mp hd]; exact OkD.none).mono (by decide) (by decide)).repr (by decide) (by show 90000 * 3 + 2 * 3 + 3 ≤ 16777216; decide))
    have dN : ∀ {G : Hp} {r : Addr}, G r = some (.lst [.non]) → Dd K G (.ref r) (.list [.none]) := fun h => .lst (SqL.of h) (.cons .non .nil)
    refine ⟨_, rfl, _, _, rfl, .lst (SqL.of htl17) (.cons (dN (sE _ _ hr1)) (.cons (dN (sE _ _ hr2)) (.cons (dN (sE _ _ hr3)) .nil))), okT.1, okT.2.1, okT.2.2, ?_⟩
    refine ⟨by show 1 ≤ sizeLine; decide, fun z1 hz1 => ⟨by show 1 ≤ sizeLine; decide, fun z2 hz2 => ⟨z2, _, 3, rfl, rfl, SqL.of upd_same, by decide, by decide, by show 1 ≤ 1000; decide, fun z3 hz3 => ?_⟩⟩⟩
    have f1 : (upd (upd (upd H17 z1 (.lst [.non])) z2 (.lst [.ref z1])) z3 (.lst (List.replicate (3 : Int).toNat [V.ref z1]).flatten)) z1 = some (.lst [.non]) := same_upd0 hz3 _ _ (same_upd0 hz2 _ _ upd_same)
    have s18 := (same_upd0 (o := .lst [.non]) hz1).trans ((same_upd0 (o := .lst [.ref z1]) hz2).trans (same_upd0 (o := .lst (List.replicate (3 : Int).toNat [V.ref z1]).flatten) hz3))
    refine ⟨_, .list [.list [.none], .list [.none], .list [.none]], rfl, .lst (SqL.of upd_same) (.cons (dN f1) (.cons (dN f1) (.cons (dN f1) .nil))), okT.1, okT.2.1, okT.2.2, rfl, _, rfl, ite2 (fun e => absurd e (by simp)) (fun _ => ?_)⟩
    refine ⟨_, rfl, Nat.zero_le _, fun z4 hz4 => ⟨.list [], .list [], .lst (SqL.of (same_upd0 hz4 _ _ (s18 _ _ hD17))) .nil, .lst (SqL.of upd_same) .nil, by decide, by decide, _, rfl, ite2 (fun e => absurd e (by simp [PyData.eqv, PyData.eqvAll])) (fun _ => ?_)⟩⟩
    have sZ := sE.trans (s18.trans (same_upd0 (o := .lst []) hz4))
    exact ⟨_, _, _, _, _, _, _, _, _, _, _, _, _, n6, g6, rfl, pen14.same' sZ, by omega, tabs_same t14 sZ⟩
end
end K48

namespace K48
open PySem PySem.Spec PyProof.Rows L2 So
section
variable {K : PySem.W.Frag}
abbrev psI : List Str := ["self", "first", "last", "stretches", "has_none"]
theorem bI4 {f aE : Addr} {fd : FuncData} (F : FunD K "__init__" "Turns.__init__" (defArgs sTInit) (defBody sTInit) (defScope sTInit) [.ref aE, .bl false] [] f fd) : Binds K fd psI [] := by
  obtain ⟨ds, v, b⟩ := F.binds1 (ps := psI) 5 2 (by simp) rfl fun T kV doc pm an cdv ct us its h1 h2 => match us, its, h1, h2 with
    | [_, _, _, _, _], [_, _], _, _ => ⟨_, rfl, rfl⟩
  cases v
  exact b
/-- a keyword's value behind the receiver -/
theorem kb_oth {fd : FuncData} (h : ∀ (s : Shared) (u w : Value), BindsTo s fd ⟨[u], [("other", w)]⟩ [("self", u), ("other", w)]) : KBinds K fd ["self", "other"] ["other"] kOth kOth := by
  refine ⟨fun s us ws _ hl => ?_, fun {vs us zs ws} r rz => ?_⟩
  · match us, ws, hl with
    | [u], [w], _ => exact h s u w
    | [], _, hl => cases hl
    | [_], [], hl => cases hl
    | [_], _ :: _ :: _, hl => cases hl
    | _ :: _ :: _, _, hl => cases hl
  · cases r with
    | nil => exact .nil
    | cons r1 r =>
      cases r with
      | cons _ _ => exact .nil
      | nil =>
        cases rz with
        | nil => exact .nil
        | cons r2 rz =>
          cases rz with
          | nil => exact .cons r1 (.cons r2 .nil)
          | cons _ _ => exact .nil
end
end K48

namespace K48
open PySem PySem.Spec PyProof.Rows L2 So LamX
section
variable {K : PySem.W.Frag}
theorem exm_own {D S : Addr} (h2 : PySem.W.isClsIn K S = true) (h3 : PySem.W.typeIn K (.ref S) = some (.type "type")) (h1 : PySem.W.subIn K (.ref S) (.type "BaseException") = some true) (h4 : PySem.W.subIn K (.ref D) (.ref S) = some true) (_ : PySem.W.subIn K (.ref S) (.ref S) = some true) : PySem.W.exmOne K (.ref D) (.ref S) = some true := by
  unfold PySem.W.exmOne PySem.W.kitCls
  unfold PySem.W.isClsIn at h2
  simp [h1, h2, h3, h4]
theorem tab_by {x : Str} {f c P : Addr} {o1 u1 : Value} {o2 u2 : Option Addr} {o3 u3 : Array (Option Value)} {fd : FuncData} {vs : Array Value} (a : PySem.W.nsIn K mainGlobals x = some (some (.ref f))) (l : K.lookup f = some ⟨o1, o2, .func fd, o3⟩) (hc : fd.code = .ref c)
    (lc : K.lookup c = some ⟨u1, u2, .fields vs, u3⟩) (hv : (vs[11]? : Option Value) = some (.ref P)) : PySem.W.tabIn K x = some (c, P) := by
  unfold PySem.W.tabIn
  rw [a]
  simp only [l, hc, lc, hv]
theorem kit_VE {D : Addr} (h : PySem.W.subIn K (.ref D) (.type "ValueError") = some true) : PySem.W.kitOne K (.ref D) (.type "ValueError") = some true := by
  unfold PySem.W.kitOne PySem.W.kitCls
  have e : PySem.W.kitMeta "ValueError" = true := by decide +kernel
  simp [h, e]
theorem kit_own {D C : Addr} {b : Bool} (hc : PySem.W.isClsIn K C = true) (ht : PySem.W.typeIn K (.ref C) = some (.type "type")) (hs : PySem.W.subIn K (.ref D) (.ref C) = some b) (self : PySem.W.subIn K (.ref C) (.ref C) = some true) : PySem.W.kitOne K (.ref D) (.ref C) = some b := by
  by_cases e : D = C
  · subst e
    rw [self] at hs
    rw [kit_self, hs]
  · unfold PySem.W.kitOne PySem.W.kitCls
    unfold PySem.W.isClsIn at hc
    simp [hc, ht, hs, e]
end
theorem all_mk {l : PySem.W.OpenLaw} {w : World} {K : PySem.W.Frag} {h : Heap} {mg : Str → Option Value} {fa c0 P0 fpen fdraw fpick fspan fstre fticks fruns ftext fright fheard fjoin fsamel flaw fwhole fmoment fisstr ffew fword C dT aE finit fhas fbool feq fstr pleast fleast fand foor finv fwithin CT CB feB : Addr} (X : K.In h) (G : h.Ns mainGlobals mg) (hfa : mg "law" = some (.ref fa))
    {odpen anpen oddraw andraw odpick anpick odspan anspan odstre anstre odticks anticks odruns anruns odtext antext odright anright odheard anheard odjoin anjoin odsamel ansamel odlaw anlaw odwhole anwhole odmoment anmoment odisstr anisstr odfew anfew odword anword odinit aninit oddT odaE odhas anhas odbool anbool odeq aneq odstr anstr odleast anleast odand anand odoor anoor odinv aninv odwithin anwithin odeB aneB odcode : Option Addr} {slpen sldraw slpick slspan slstre slticks slruns sltext slright slheard sljoin slsamel sllaw slwhole slmoment slisstr slfew slword slinit sldT slaE slhas slbool sleq slstr slleast sland sloor slinv slwithin sleB slcode : Array (Option Value)} {ocpen kVpen dcpen pmpen ctpen cdpen ocdraw kVdraw dcdraw pmdraw ctdraw cddraw ocpick kVpick dcpick pmpick ctpick cdpick ocspan kVspan dcspan pmspan ctspan cdspan ocstre kVstre dcstre pmstre ctstre cdstre octicks kVticks dcticks pmticks ctticks cdticks ocruns kVruns dcruns pmruns ctruns cdruns octext kVtext dctext pmtext cttext cdtext ocright kVright dcright pmright ctright cdright ocheard kVheard dcheard pmheard ctheard cdheard ocjoin kVjoin dcjoin pmjoin ctjoin cdjoin ocsamel kVsamel dcsamel pmsamel ctsamel cdsamel oclaw kVlaw dclaw pmlaw ctlaw ocwhole kVwhole dcwhole pmwhole ctwhole cdwhole ocmoment kVmoment dcmoment pmmoment ctmoment cdmoment ocisstr kVisstr dcisstr pmisstr ctisstr cdisstr ocfew kVfew dcfew pmfew ctfew cdfew ocword kVword dcword pmword ctword cdword ocinit kVinit dcinit pminit ctinit cdinit ocdT ochas kVhas dchas pmhas cthas cdhas ocbool kVbool dcbool pmbool ctbool cdbool oceq kVeq dceq pmeq cteq cdeq ocstr kVstr dcstr pmstr ctstr cdstr ocleast kVleast dcleast pmleast ctleast cdleast ocand kVand dcand pmand ctand cdand ocoor kVoor dcoor pmoor ctoor cdoor ocinv kVinv dcinv pminv ctinv cdinv ocwithin kVwithin dcwithin pmwithin ctwithin cdwithin oceB kVeB dceB pmeB cteB cdeB occode : Value} {restleast : List Value} {vscode : Array Value} {tG : Tok} {itsT itsE : Array Value} {nT0 nE0 : Nat} {nmB qB : Str} {NB : Addr} {bsB subB : List Value} {snB : List Str} {abB : Bool} {colB : Option Bool} {ddB : Option Addr} {m0B m1B m2B m3B m5B : Option Value}
    (apen : PySem.W.nsIn K mainGlobals "_law_pen" = some (some (.ref fpen)))
    (lpen : K.lookup fpen = some ⟨ocpen, odpen, .func (PySem.W.fnOf "_law_pen" "_law_pen" (defArgs sPen) (defBody sPen) (defScope sPen) .none kVpen dcpen pmpen anpen cdpen ctpen), slpen⟩)
    (cpen : PySem.W.codeIn K cdpen "_law_pen" = true)
    (kpen : PySem.W.keepIn K (.ref fpen) = true)
    (adraw : PySem.W.nsIn K mainGlobals "_law_draw" = some (some (.ref fdraw)))
    (ldraw : K.lookup fdraw = some ⟨ocdraw, oddraw, .func (PySem.W.fnOf "_law_draw" "_law_draw" (defArgs sDraw) (defBody sDraw) (defScope sDraw) .none kVdraw dcdraw pmdraw andraw cddraw ctdraw), sldraw⟩)
    (cdraw : PySem.W.codeIn K cddraw "_law_draw" = true)
    (kdraw : PySem.W.keepIn K (.ref fdraw) = true)
    (apick : PySem.W.nsIn K mainGlobals "_law_pick" = some (some (.ref fpick)))
    (lpick : K.lookup fpick = some ⟨ocpick, odpick, .func (PySem.W.fnOf "_law_pick" "_law_pick" (defArgs sPick) (defBody sPick) (defScope sPick) .none kVpick dcpick pmpick anpick cdpick ctpick), slpick⟩)
    (cpick : PySem.W.codeIn K cdpick "_law_pick" = true)
    (kpick : PySem.W.keepIn K (.ref fpick) = true)
    (aspan : PySem.W.nsIn K mainGlobals "_law_span" = some (some (.ref fspan)))
    (lspan : K.lookup fspan = some ⟨ocspan, odspan, .func (PySem.W.fnOf "_law_span" "_law_span" (defArgs sSpan) (defBody sSpan) (defScope sSpan) .none kVspan dcspan pmspan anspan cdspan ctspan), slspan⟩)
    (cspan : PySem.W.codeIn K cdspan "_law_span" = true)
    (kspan : PySem.W.keepIn K (.ref fspan) = true)
    (astre : PySem.W.nsIn K mainGlobals "_law_stretches" = some (some (.ref fstre)))
    (lstre : K.lookup fstre = some ⟨ocstre, odstre, .func (PySem.W.fnOf "_law_stretches" "_law_stretches" (defArgs sStre) (defBody sStre) (defScope sStre) .none kVstre dcstre pmstre anstre cdstre ctstre), slstre⟩)
    (cstre : PySem.W.codeIn K cdstre "_law_stretches" = true)
    (kstre : PySem.W.keepIn K (.ref fstre) = true)
    (aticks : PySem.W.nsIn K mainGlobals "_law_ticks" = some (some (.ref fticks)))
    (lticks : K.lookup fticks = some ⟨octicks, odticks, .func (PySem.W.fnOf "_law_ticks" "_law_ticks" (defArgs sTicks) (defBody sTicks) (defScope sTicks) .none kVticks dcticks pmticks anticks cdticks ctticks), slticks⟩)
    (cticks : PySem.W.codeIn K cdticks "_law_ticks" = true)
    (kticks : PySem.W.keepIn K (.ref fticks) = true)
    (aruns : PySem.W.nsIn K mainGlobals "_law_runs" = some (some (.ref fruns)))
    (lruns : K.lookup fruns = some ⟨ocruns, odruns, .func (PySem.W.fnOf "_law_runs" "_law_runs" (defArgs sRuns) (defBody sRuns) (defScope sRuns) .none kVruns dcruns pmruns anruns cdruns ctruns), slruns⟩)
    (cruns : PySem.W.codeIn K cdruns "_law_runs" = true)
    (kruns : PySem.W.keepIn K (.ref fruns) = true)
    (atext : PySem.W.nsIn K mainGlobals "_law_text" = some (some (.ref ftext)))
    (ltext : K.lookup ftext = some ⟨octext, odtext, .func (PySem.W.fnOf "_law_text" "_law_text" (defArgs sText) (defBody sText) (defScope sText) .none kVtext dctext pmtext antext cdtext cttext), sltext⟩)
    (ctext : PySem.W.codeIn K cdtext "_law_text" = true)
    (ktext : PySem.W.keepIn K (.ref ftext) = true)
    (aright : PySem.W.nsIn K mainGlobals "_law_right" = some (some (.ref fright)))
    (lright : K.lookup fright = some ⟨ocright, odright, .func (PySem.W.fnOf "_law_right" "_law_right" (defArgs sRight) (defBody sRight) (defScope sRight) .none kVright dcright pmright anright cdright ctright), slright⟩)
    (cright : PySem.W.codeIn K cdright "_law_right" = true)
    (kright : PySem.W.keepIn K (.ref fright) = true)
    (aheard : PySem.W.nsIn K mainGlobals "_law_heard" = some (some (.ref fheard)))
    (lheard : K.lookup fheard = some ⟨ocheard, odheard, .func (PySem.W.fnOf "_law_heard" "_law_heard" (defArgs sHeard) (defBody sHeard) (defScope sHeard) .none kVheard dcheard pmheard anheard cdheard ctheard), slheard⟩)
    (cheard : PySem.W.codeIn K cdheard "_law_heard" = true)
    (kheard : PySem.W.keepIn K (.ref fheard) = true)
    (ajoin : PySem.W.nsIn K mainGlobals "_law_joined_right" = some (some (.ref fjoin)))
    (ljoin : K.lookup fjoin = some ⟨ocjoin, odjoin, .func (PySem.W.fnOf "_law_joined_right" "_law_joined_right" (defArgs sJoin) (defBody sJoin) (defScope sJoin) .none kVjoin dcjoin pmjoin anjoin cdjoin ctjoin), sljoin⟩)
    (cjoin : PySem.W.codeIn K cdjoin "_law_joined_right" = true)
    (kjoin : PySem.W.keepIn K (.ref fjoin) = true)
    (asamel : PySem.W.nsIn K mainGlobals "check_same_life" = some (some (.ref fsamel)))
    (lsamel : K.lookup fsamel = some ⟨ocsamel, odsamel, .func (PySem.W.fnOf "check_same_life" "check_same_life" (defArgs sSameL) (defBody sSameL) (defScope sSameL) .none kVsamel dcsamel pmsamel ansamel cdsamel ctsamel), slsamel⟩)
    (csamel : PySem.W.codeIn K cdsamel "check_same_life" = true)
    (ksamel : PySem.W.keepIn K (.ref fsamel) = true)
    (alaw : PySem.W.nsIn K mainGlobals "law" = some (some (.ref flaw)))
    (llaw : K.lookup flaw = some ⟨oclaw, odlaw, .func (PySem.W.fnOf "law" "law" (defArgs sLaw) (defBody sLaw) (defScope sLaw) .none kVlaw dclaw pmlaw anlaw (.ref c0) ctlaw), sllaw⟩)
    (claw : PySem.W.codeIn K (.ref c0) "law" = true)
    (klaw : PySem.W.keepIn K (.ref flaw) = true)
    (awhole : PySem.W.nsIn K mainGlobals "is_whole" = some (some (.ref fwhole)))
    (lwhole : K.lookup fwhole = some ⟨ocwhole, odwhole, .func (PySem.W.fnOf "is_whole" "is_whole" (defArgs sWhole) (defBody sWhole) (defScope sWhole) .none kVwhole dcwhole pmwhole anwhole cdwhole ctwhole), slwhole⟩)
    (cwhole : PySem.W.codeIn K cdwhole "is_whole" = true)
    (kwhole : PySem.W.keepIn K (.ref fwhole) = true)
    (amoment : PySem.W.nsIn K mainGlobals "is_moment" = some (some (.ref fmoment)))
    (lmoment : K.lookup fmoment = some ⟨ocmoment, odmoment, .func (PySem.W.fnOf "is_moment" "is_moment" (defArgs sMoment) (defBody sMoment) (defScope sMoment) .none kVmoment dcmoment pmmoment anmoment cdmoment ctmoment), slmoment⟩)
    (cmoment : PySem.W.codeIn K cdmoment "is_moment" = true)
    (kmoment : PySem.W.keepIn K (.ref fmoment) = true)
    (aisstr : PySem.W.nsIn K mainGlobals "is_stretch" = some (some (.ref fisstr)))
    (lisstr : K.lookup fisstr = some ⟨ocisstr, odisstr, .func (PySem.W.fnOf "is_stretch" "is_stretch" (defArgs sIsStr) (defBody sIsStr) (defScope sIsStr) .none kVisstr dcisstr pmisstr anisstr cdisstr ctisstr), slisstr⟩)
    (cisstr : PySem.W.codeIn K cdisstr "is_stretch" = true)
    (kisstr : PySem.W.keepIn K (.ref fisstr) = true)
    (afew : PySem.W.nsIn K mainGlobals "fewest" = some (some (.ref ffew)))
    (lfew : K.lookup ffew = some ⟨ocfew, odfew, .func (PySem.W.fnOf "fewest" "fewest" (defArgs sFew) (defBody sFew) (defScope sFew) .none kVfew dcfew pmfew anfew cdfew ctfew), slfew⟩)
    (cfew : PySem.W.codeIn K cdfew "fewest" = true)
    (kfew : PySem.W.keepIn K (.ref ffew) = true)
    (aword : PySem.W.nsIn K mainGlobals "stretch_word" = some (some (.ref fword)))
    (lword : K.lookup fword = some ⟨ocword, odword, .func (PySem.W.fnOf "stretch_word" "stretch_word" (defArgs sWord) (defBody sWord) (defScope sWord) .none kVword dcword pmword anword cdword ctword), slword⟩)
    (cword : PySem.W.codeIn K cdword "stretch_word" = true)
    (kword : PySem.W.keepIn K (.ref fword) = true)
    (aC : PySem.W.nsIn K mainGlobals "Turns" = some (some (.ref C)))
    (pgC : PySem.W.plainGet K C Str.empty = true)
    (hdC : PySem.W.hasDictIn K C = true)
    (poC : PySem.W.plainOver K C = true)
    (saC : PySem.W.findIn K (.ref C) "__setattr__" = some (some (.builtin "object.__setattr__")))
    (mkC : PySem.W.makesIn K C = true)
    (kcC : PySem.W.keepIn K (.ref C) = true)
    (nC_low : PySem.W.findIn K (.ref C) "low" = some none)
    (nC_high : PySem.W.findIn K (.ref C) "high" = some none)
    (nC_stretches : PySem.W.findIn K (.ref C) "stretches" = some none)
    (nC_has_none : PySem.W.findIn K (.ref C) "has_none" = some none)
    (thn : PySem.W.specialIn K (.builtin "object.__class__") "__get__" = some (some (.builtin "getset_descriptor.__get__")))
    (tht : PySem.W.takesIn K (.builtin "object.__class__") = some true)
    (thaC : PySem.W.findIn K (.ref C) "__class__" = some (some (.builtin "object.__class__")))
    (thmC : PySem.W.mroIn K C (.type "object") = some true)
    (hclsC : PySem.W.isClsIn K C = true)
    (htypC : PySem.W.typeIn K (.ref C) = some (.type "type"))
    (ainit : PySem.W.findIn K (.ref C) "__init__" = some (some (.ref finit)))
    (iinit : PySem.W.isFn K (.ref finit) = true)
    (linit : K.lookup finit = some ⟨ocinit, odinit, .func (PySem.W.fnOf "__init__" "Turns.__init__" (defArgs sTInit) (defBody sTInit) (defScope sTInit) (.ref dT) kVinit dcinit pminit aninit cdinit ctinit), slinit⟩)
    (cinit : PySem.W.codeIn K cdinit "Turns.__init__" = true)
    (kinit : PySem.W.keepIn K (.ref finit) = true)
    (ldT : K.lookup dT = some ⟨ocdT, oddT, .seq itsT nT0, sldT⟩)
    (vdT : itsT = #[.ref aE, .bool false])
    (laE : K.lookup aE = some ⟨.type "tuple", odaE, .seq itsE nE0, slaE⟩)
    (vaE : itsE = #[])
    (ahas : PySem.W.findIn K (.ref C) "__contains__" = some (some (.ref fhas)))
    (ihas : PySem.W.isFn K (.ref fhas) = true)
    (lhas : K.lookup fhas = some ⟨ochas, odhas, .func (PySem.W.fnOf "__contains__" "Turns.__contains__" (defArgs sHas) (defBody sHas) (defScope sHas) .none kVhas dchas pmhas anhas cdhas cthas), slhas⟩)
    (chas : PySem.W.codeIn K cdhas "Turns.__contains__" = true)
    (khas : PySem.W.keepIn K (.ref fhas) = true)
    (abool : PySem.W.findIn K (.ref C) "__bool__" = some (some (.ref fbool)))
    (ibool : PySem.W.isFn K (.ref fbool) = true)
    (lbool : K.lookup fbool = some ⟨ocbool, odbool, .func (PySem.W.fnOf "__bool__" "Turns.__bool__" (defArgs sBool) (defBody sBool) (defScope sBool) .none kVbool dcbool pmbool anbool cdbool ctbool), slbool⟩)
    (cbool : PySem.W.codeIn K cdbool "Turns.__bool__" = true)
    (kbool : PySem.W.keepIn K (.ref fbool) = true)
    (aeq : PySem.W.findIn K (.ref C) "__eq__" = some (some (.ref feq)))
    (ieq : PySem.W.isFn K (.ref feq) = true)
    (leq : K.lookup feq = some ⟨oceq, odeq, .func (PySem.W.fnOf "__eq__" "Turns.__eq__" (defArgs sEq) (defBody sEq) (defScope sEq) .none kVeq dceq pmeq aneq cdeq cteq), sleq⟩)
    (ceq : PySem.W.codeIn K cdeq "Turns.__eq__" = true)
    (keq : PySem.W.keepIn K (.ref feq) = true)
    (astr : PySem.W.findIn K (.ref C) "__str__" = some (some (.ref fstr)))
    (istr : PySem.W.isFn K (.ref fstr) = true)
    (lstr : K.lookup fstr = some ⟨ocstr, odstr, .func (PySem.W.fnOf "__str__" "Turns.__str__" (defArgs sStr) (defBody sStr) (defScope sStr) .none kVstr dcstr pmstr anstr cdstr ctstr), slstr⟩)
    (cstr : PySem.W.codeIn K cdstr "Turns.__str__" = true)
    (kstr : PySem.W.keepIn K (.ref fstr) = true)
    (nne : PySem.W.findIn K (.ref C) "__ne__" = some (some (.builtin "object.__ne__")))
    (aleast : PySem.W.findIn K (.ref C) "least" = some (some (.ref pleast)))
    (gleast : PySem.W.specialIn K (.ref pleast) "__get__" = some (some (.builtin "property.__get__")))
    (tleast : PySem.W.takesIn K (.ref pleast) = some true)
    (rleast : PySem.W.recIn K pleast "property" = some (.ref fleast :: restleast))
    (lleast : K.lookup fleast = some ⟨ocleast, odleast, .func (PySem.W.fnOf "least" "Turns.least" (defArgs sLeast) (defBody sLeast) (defScope sLeast) .none kVleast dcleast pmleast anleast cdleast ctleast), slleast⟩)
    (cleast : PySem.W.codeIn K cdleast "Turns.least" = true)
    (kleast : PySem.W.keepIn K (.ref fleast) = true)
    (aand : PySem.W.findIn K (.ref C) "__and__" = some (some (.ref fand)))
    (iand : PySem.W.isFn K (.ref fand) = true)
    (land : K.lookup fand = some ⟨ocand, odand, .func (PySem.W.fnOf "__and__" "Turns.__and__" (defArgs sAnd) (defBody sAnd) (defScope sAnd) .none kVand dcand pmand anand cdand ctand), sland⟩)
    (cand : PySem.W.codeIn K cdand "Turns.__and__" = true)
    (kand : PySem.W.keepIn K (.ref fand) = true)
    (aoor : PySem.W.findIn K (.ref C) "__or__" = some (some (.ref foor)))
    (ioor : PySem.W.isFn K (.ref foor) = true)
    (loor : K.lookup foor = some ⟨ocoor, odoor, .func (PySem.W.fnOf "__or__" "Turns.__or__" (defArgs sOr) (defBody sOr) (defScope sOr) .none kVoor dcoor pmoor anoor cdoor ctoor), sloor⟩)
    (coor : PySem.W.codeIn K cdoor "Turns.__or__" = true)
    (koor : PySem.W.keepIn K (.ref foor) = true)
    (ainv : PySem.W.findIn K (.ref C) "__invert__" = some (some (.ref finv)))
    (iinv : PySem.W.isFn K (.ref finv) = true)
    (linv : K.lookup finv = some ⟨ocinv, odinv, .func (PySem.W.fnOf "__invert__" "Turns.__invert__" (defArgs sInv) (defBody sInv) (defScope sInv) .none kVinv dcinv pminv aninv cdinv ctinv), slinv⟩)
    (cinv : PySem.W.codeIn K cdinv "Turns.__invert__" = true)
    (kinv : PySem.W.keepIn K (.ref finv) = true)
    (awithin : PySem.W.findIn K (.ref C) "within" = some (some (.ref fwithin)))
    (iwithin : PySem.W.isFn K (.ref fwithin) = true)
    (lwithin : K.lookup fwithin = some ⟨ocwithin, odwithin, .func (PySem.W.fnOf "within" "Turns.within" (defArgs sWithin) (defBody sWithin) (defScope sWithin) .none kVwithin dcwithin pmwithin anwithin cdwithin ctwithin), slwithin⟩)
    (cwithin : PySem.W.codeIn K cdwithin "Turns.within" = true)
    (kwithin : PySem.W.keepIn K (.ref fwithin) = true)
    (sfC : PySem.W.selfFirst K C = true)
    (gG : PySem.W.nsIn K mainGlobals "GREATEST" = some (some (.int 1000000000000000000000000000000 tG)))
    (b_isinstance : PySem.W.nsIn K mainGlobals "isinstance" = some none)
    (b_int : PySem.W.nsIn K mainGlobals "int" = some none)
    (b_bool : PySem.W.nsIn K mainGlobals "bool" = some none)
    (b_str : PySem.W.nsIn K mainGlobals "str" = some none)
    (b_len : PySem.W.nsIn K mainGlobals "len" = some none)
    (b_tuple : PySem.W.nsIn K mainGlobals "tuple" = some none)
    (b_list : PySem.W.nsIn K mainGlobals "list" = some none)
    (b_abs : PySem.W.nsIn K mainGlobals "abs" = some none)
    (b_range : PySem.W.nsIn K mainGlobals "range" = some none)
    (b_min : PySem.W.nsIn K mainGlobals "min" = some none)
    (b_max : PySem.W.nsIn K mainGlobals "max" = some none)
    (b_set : PySem.W.nsIn K mainGlobals "set" = some none)
    (b_sorted : PySem.W.nsIn K mainGlobals "sorted" = some none)
    (b_enumerate : PySem.W.nsIn K mainGlobals "enumerate" = some none)
    (b_any : PySem.W.nsIn K mainGlobals "any" = some none)
    (b_repr : PySem.W.nsIn K mainGlobals "repr" = some none)
    (b_zip : PySem.W.nsIn K mainGlobals "zip" = some none)
    (aT : PySem.W.nsIn K mainGlobals "TillError" = some (some (.ref CT)))
    (iT : PySem.W.isClsIn K CT = true)
    (tT : PySem.W.typeIn K (.ref CT) = some (.type "type"))
    (eT : PySem.W.subIn K (.ref CT) (.type "BaseException") = some true)
    (sT : PySem.W.subIn K (.ref CT) (.ref CT) = some true)
    (aB : PySem.W.nsIn K mainGlobals "BadTurns" = some (some (.ref CB)))
    (xB : K.lookup CB = some (excClassObj nmB qB CB NB bsB [.ref CT, .type "ValueError", .type "Exception", .type "BaseException", .type "object"] true snB subB abB colB ddB m0B m1B m2B m3B m5B "ValueError.__new__"))
    (seB : PySem.W.findIn K (.ref CB) "__setattr__" = some (some (.builtin "object.__setattr__")))
    (geB : PySem.W.findIn K (.ref CB) "__getattribute__" = some (some (.builtin "BaseException.__getattribute__")))
    (heB : PySem.W.findIn K (.ref CB) "__getattr__" = some none)
    (neB : PySem.W.findIn K (.ref CB) "at" = some none)
    (aeB : PySem.W.findIn K (.ref CB) "__init__" = some (some (.ref feB)))
    (teB : PySem.W.typeIn K (.ref feB) = some (.type "function"))
    (leB : K.lookup feB = some ⟨oceB, odeB, .func (PySem.W.fnOf "__init__" "BadTurns.__init__" (defArgs sEB) (defBody sEB) (defScope sEB) .none kVeB dceB pmeB aneB cdeB cteB), sleB⟩)
    (ceB : PySem.W.codeIn K cdeB "BadTurns.__init__" = true)
    (keB : PySem.W.keepIn K (.ref feB) = true)
    (kkeB : PySem.W.keepIn K (.ref CB) = true)
    (exeB : PySem.W.subIn K (.ref CB) (.type "BaseException") = some true)
    (tyeB : PySem.W.typeIn K (.ref CB) = some (.type "type"))
    (hdeB : PySem.W.hasDictIn K CB = true)
    (iceB : PySem.W.isClsIn K CB = true)
    (veeB : PySem.W.subIn K (.ref CB) (.type "ValueError") = some true)
    (uteB : PySem.W.subIn K (.ref CB) (.ref CT) = some true)
    (caeB : PySem.W.findIn K (.ref CB) "__class__" = some (some (.builtin "object.__class__")))
    (cmeB : PySem.W.mroIn K CB (.type "object") = some true)
    (lcode : K.lookup c0 = some ⟨occode, odcode, .fields vscode, slcode⟩)
    (vcode : (vscode[11]? : Option Value) = some (.ref P0))
    (nT : K.lookup P0 = none)
    : ∃ (fd : FuncData) (c0 P0 : Addr), PySem.W.tabIn K "law" = some (c0, P0) ∧ K.lookup P0 = none ∧ (∀ (s : Shared) (v : Value), BindsTo s fd ⟨[v], []⟩ [("_law_script", v)]) ∧
      ∀ base : Heap, K.In base → base.Ns mainGlobals mg → TabB base mg c0 P0 → FnG l.prog w K mg base CX0 10 fa fd ["_law_script"] (spLaw K P0) := by
  have e := hfa.symm.trans (PySem.W.mg_of X G alaw)
  cases e
  have g1 := fun {n : Str} {v : Value} (e : PySem.W.nsIn K mainGlobals n = some (some v)) => PySem.W.mg_of X G e
  have g0 := fun {n : Str} (e : PySem.W.nsIn K mainGlobals n = some none) => PySem.W.mg_none_of X G e
  have F_pen := fun_mk (st := sPen) lpen cpen kpen
  have F_draw := fun_mk (st := sDraw) ldraw cdraw kdraw
  have F_pick := fun_mk (st := sPick) lpick cpick kpick
  have F_span := fun_mk (st := sSpan) lspan cspan kspan
  have F_stre := fun_mk (st := sStre) lstre cstre kstre
  have F_ticks := fun_mk (st := sTicks) lticks cticks kticks
  have F_runs := fun_mk (st := sRuns) lruns cruns kruns
  have F_text := fun_mk (st := sText) ltext ctext ktext
  have F_right := fun_mk (st := sRight) lright cright kright
  have F_heard := fun_mk (st := sHeard) lheard cheard kheard
  have F_join := fun_mk (st := sJoin) ljoin cjoin kjoin
  have F_samel := fun_mk (st := sSameL) lsamel csamel ksamel
  have F_law := fun_mk (st := sLaw) llaw claw klaw
  have F_whole := fun_mk (st := sWhole) lwhole cwhole kwhole
  have F_moment := fun_mk (st := sMoment) lmoment cmoment kmoment
  have F_isstr := fun_mk (st := sIsStr) lisstr cisstr kisstr
  have F_few := fun_mk (st := sFew) lfew cfew kfew
  have F_word := fun_mk (st := sWord) lword cword kword
  have F_has := fun_mk (st := sHas) lhas chas khas
  have F_bool := fun_mk (st := sBool) lbool cbool kbool
  have F_eq := fun_mk (st := sEq) leq ceq keq
  have F_str := fun_mk (st := sStr) lstr cstr kstr
  have F_least := fun_mk (st := sLeast) lleast cleast kleast
  have F_and := fun_mk (st := sAnd) land cand kand
  have F_oor := fun_mk (st := sOr) loor coor koor
  have F_inv := fun_mk (st := sInv) linv cinv kinv
  have F_within := fun_mk (st := sWithin) lwithin cwithin kwithin
  have F_eB := fun_mk (st := sEB) leB ceB keB
  have b_pen_ := F_pen.binds (ps := ["_law_script"]) fun _ _ _ _ _ _ us hl => match us, hl with | [_], _ => rfl
  have b_draw_ := F_draw.binds (ps := ["_law_pen_here", "_law_many"]) fun _ _ _ _ _ _ us hl => match us, hl with | [_, _], _ => rfl
  have b_pick_ := F_pick.binds (ps := ["_law_pen_here", "_law_some"]) fun _ _ _ _ _ _ us hl => match us, hl with | [_, _], _ => rfl
  have b_span_ := F_span.binds (ps := ["_law_pen_here"]) fun _ _ _ _ _ _ us hl => match us, hl with | [_], _ => rfl
  have b_stre_ := F_stre.binds (ps := ["_law_pen_here", "_law_low", "_law_high"]) fun _ _ _ _ _ _ us hl => match us, hl with | [_, _, _], _ => rfl
  have b_ticks_ := F_ticks.binds (ps := ["_law_some"]) fun _ _ _ _ _ _ us hl => match us, hl with | [_], _ => rfl
  have b_runs_ := F_runs.binds (ps := ["_law_ticks_here"]) fun _ _ _ _ _ _ us hl => match us, hl with | [_], _ => rfl
  have b_text_ := F_text.binds (ps := ["_law_ticks_here", "_law_has_so"]) fun _ _ _ _ _ _ us hl => match us, hl with | [_, _], _ => rfl
  have b_right_ := F_right.binds (ps := ["_law_made", "_law_low", "_law_high", "_law_ticks_here", "_law_has_so"]) fun _ _ _ _ _ _ us hl => match us, hl with | [_, _, _, _, _], _ => rfl
  have b_heard_ := F_heard.binds (ps := ["_law_ask"]) fun _ _ _ _ _ _ us hl => match us, hl with | [_], _ => rfl
  have b_join_ := F_join.binds (ps := ["_law_low", "_law_high", "_law_left", "_law_right_here"]) fun _ _ _ _ _ _ us hl => match us, hl with | [_, _, _, _], _ => rfl
  have b_samel_ := F_samel.binds (ps := ["one", "other"]) fun _ _ _ _ _ _ us hl => match us, hl with | [_, _], _ => rfl
  have b_law_ := F_law.binds (ps := ["_law_script"]) fun _ _ _ _ _ _ us hl => match us, hl with | [_], _ => rfl
  have b_whole_ := F_whole.binds (ps := ["value"]) fun _ _ _ _ _ _ us hl => match us, hl with | [_], _ => rfl
  have b_moment_ := F_moment.binds (ps := ["value"]) fun _ _ _ _ _ _ us hl => match us, hl with | [_], _ => rfl
  have b_isstr_ := F_isstr.binds (ps := ["first", "last", "value"]) fun _ _ _ _ _ _ us hl => match us, hl with | [_, _, _], _ => rfl
  have b_few_ := F_few.binds (ps := ["stretches"]) fun _ _ _ _ _ _ us hl => match us, hl with | [_], _ => rfl
  have b_word_ := F_word.binds (ps := ["low", "high"]) fun _ _ _ _ _ _ us hl => match us, hl with | [_, _], _ => rfl
  have b_has_ := F_has.binds (ps := ["self", "turn"]) fun _ _ _ _ _ _ us hl => match us, hl with | [_, _], _ => rfl
  have b_bool_ := F_bool.binds (ps := ["self"]) fun _ _ _ _ _ _ us hl => match us, hl with | [_], _ => rfl
  have b_eq_ := F_eq.binds (ps := ["self", "other"]) fun _ _ _ _ _ _ us hl => match us, hl with | [_, _], _ => rfl
  have b_str_ := F_str.binds (ps := ["self"]) fun _ _ _ _ _ _ us hl => match us, hl with | [_], _ => rfl
  have b_least_ := F_least.binds (ps := ["self"]) fun _ _ _ _ _ _ us hl => match us, hl with | [_], _ => rfl
  have b_and_ := F_and.binds (ps := ["self", "other"]) fun _ _ _ _ _ _ us hl => match us, hl with | [_, _], _ => rfl
  have b_oor_ := F_oor.binds (ps := ["self", "other"]) fun _ _ _ _ _ _ us hl => match us, hl with | [_, _], _ => rfl
  have b_inv_ := F_inv.binds (ps := ["self"]) fun _ _ _ _ _ _ us hl => match us, hl with | [_], _ => rfl
  have b_within_ := F_within.binds (ps := ["self", "other"]) fun _ _ _ _ _ _ us hl => match us, hl with | [_, _], _ => rfl
  have b_eB_ := F_eB.binds (ps := ["self", "at"]) fun _ _ _ _ _ _ us hl => match us, hl with | [_, _], _ => rfl
  have L_C : Cls K C := ⟨pgC, hdC, poC, saC⟩
  have P_least : PropOf K C "least" pleast fleast := ⟨aleast, gleast, tleast, ⟨_, rleast⟩⟩
  have RB : Err K CB := ⟨geB, heB, exeB, hdeB, caeB, thn, tht, cmeB⟩
  have OB : OneE K mg "BadTurns" "at" CB feB _ := ⟨⟨⟨_, _, _, _, _, _, _, _, _, _, _, _, _, _, _, xB, by rfl⟩, seB, exeB, tyeB, kkeB⟩, aeB, teB, g1 aB, neB, RB, b_eB_⟩
  have T : Trn K mg C := ⟨L_C, nC_low, nC_high, nC_stretches, nC_has_none, g1 aC⟩
  have I0 : TrnI K C := ⟨thaC, thn, tht, thmC, kit_self⟩
  have W : Words K mg := ⟨⟨_, g1 gG⟩, g0 b_isinstance, g0 b_int, g0 b_bool, g0 b_str, g0 b_len, g0 b_tuple, g0 b_list⟩
  subst vdT vaE
  have FI : FunD K "__init__" "Turns.__init__" (defArgs sTInit) (defBody sTInit) (defScope sTInit) [.ref aE, .bl false] [] finit _ := ⟨⟨_, _, _, _, _, _, _, _, _, _, rfl, linit, cinit, .inr ⟨by simp, dT, _, [.ref aE, .bool false], _, rfl, ldT, rfl, .cons rfl (.cons rfl .nil)⟩, .inl rfl⟩, kinit⟩
  have RR : ∃ (f : Addr) (fd : FuncData), OneE K mg "BadTurns" "at" CB f fd ∧ Fun K "__init__" "BadTurns.__init__" sEB f fd := ⟨_, _, OB, F_eB⟩
  have HR : HrT K mg CT CB := ⟨g1 aT, g1 aB, g0 b_isinstance, exm_own iT tT eT uteB sT, RB, kit_self, neB⟩
  have Mk0 : Mk K C finit := ⟨mkC, ainit, iinit, kcC⟩
  have no : ∀ T, T ∈ ["str", "NoneType", "int", "list"] → PySem.W.kitOne K (.type T) (.ref C) = some false ∧ PySem.W.notFirst K C (.type T) = true := fun T hT => by
    simp only [List.mem_cons, List.not_mem_nil, or_false] at hT
    rcases hT with h | h | h | h <;> subst h <;> exact ⟨kit_no hclsC htypC (by decide +kernel), notFirst_ty (by decide +kernel)⟩
  refine ⟨PySem.W.fnOf "law" "law" (defArgs sLaw) (defBody sLaw) (defScope sLaw) .none kVlaw dclaw pmlaw anlaw (.ref c0) ctlaw, c0, P0, tab_by alaw llaw rfl lcode vcode, nT, fun s v => .of_eq rfl, fun base _ _ TB => ?_⟩
  have GD := ok_draw (P := l.prog) (w := w) (base := base) F_draw (g0 b_len) (g0 b_int) (g0 b_abs)
  have GPk := ok_pick (P := l.prog) (w := w) (base := base) F_pick (g0 b_len) F_draw b_draw_ (g1 adraw) GD
  have GPen := ok_pen (P := l.prog) (w := w) (base := base) F_pen (g0 b_list)
  have GM := ok_moment (P := l.prog) (w := w) (base := base) F_moment W F_whole b_whole_ (g1 awhole)
  have GIs := ok_isStr (P := l.prog) (w := w) (base := base) F_isstr W F_moment b_moment_ (g1 amoment) GM
  have GFew := ok_few (P := l.prog) (w := w) (base := base) F_few (g0 b_sorted) (g0 b_max) (g0 b_tuple)
  have GI := ok_tinit (P := l.prog) (w := w) (base := base) FI T W RR (g0 b_enumerate) F_isstr b_isstr_ (g1 aisstr) GIs F_few b_few_ (g1 afew) GFew
  have GL := ok_least (P := l.prog) (w := w) (base := base) F_least T
  have GB := ok_bool (P := l.prog) (w := w) (base := base) F_bool T W
  have GH := ok_has (P := l.prog) (w := w) (base := base) F_has T W (g0 b_any) F_moment b_moment_ (g1 amoment) GM
  have GWd := ok_word (P := l.prog) (w := w) (base := base) F_word W
  have GS := ok_str (P := l.prog) (w := w) (base := base) F_str T F_word b_word_ (g1 aword) GWd
  have GE := ok_eqA (P := l.prog) (w := w) (base := base) F_eq T I0 W
  have GL2 := ok_sameL (P := l.prog) (w := w) (base := base) F_samel T RR
  have GAn := ok_and (P := l.prog) (w := w) (base := base) F_and T (g0 b_max) (g0 b_min) F_samel b_samel_ (g1 asamel) GL2 Mk0 (bI4 FI) GI
  have GOr := ok_or (P := l.prog) (w := w) (base := base) F_oor T F_samel b_samel_ (g1 asamel) GL2 Mk0 (bI4 FI) GI
  have GIv := ok_inv (P := l.prog) (w := w) (base := base) (CB := CB) F_inv T (g0 b_zip) Mk0 (bI4 FI) GI
  have GWi := ok_within (P := l.prog) (w := w) (base := base) F_within T W sfC aand iand b_and_ GAn ainv iinv b_inv_ GIv abool ibool b_bool_ GB
  have GSp := ok_span (P := l.prog) (w := w) (base := base) F_span F_pick b_pick_ (g1 apick) GPk F_draw b_draw_ (g1 adraw) GD
  have GSt := ok_stre (P := l.prog) (w := w) (base := base) F_stre (g0 b_range) (g0 b_min) F_draw b_draw_ (g1 adraw) GD
  have GTk := ok_ticks (P := l.prog) (w := w) (base := base) F_ticks (g0 b_range) (g0 b_list) (g0 b_sorted) (g0 b_set)
  have GRn := ok_runs (P := l.prog) (w := w) (base := base) F_runs (g0 b_tuple)
  have GTx := ok_text (P := l.prog) (w := w) (base := base) F_text (g0 b_str) (g0 b_int) F_runs b_runs_ (g1 aruns) GRn
  have MM : TMs K l.prog w mg base C := ⟨T, W, g0 b_repr, g0 b_range, ⟨_, _, _, P_least, b_least_, GL⟩, ⟨_, _, ahas, ihas, b_has_, GH⟩, ⟨_, _, abool, ibool, b_bool_, GB⟩, ⟨_, _, astr, istr, b_str_, GS⟩⟩
  have GR := ok_right (P := l.prog) (w := w) (base := base) F_right MM F_runs b_runs_ (g1 aruns) GRn F_text b_text_ (g1 atext) GTx
  have OO : OMs K l.prog w mg base C CB := ⟨MM, sfC, I0, nne, ⟨_, _, aand, iand, b_and_, GAn⟩, ⟨_, _, aoor, ioor, b_oor_, GOr⟩, ⟨_, _, ainv, iinv, b_inv_, GIv⟩, ⟨_, _, ⟨awithin, iwithin, kwithin⟩, b_within_, kb_oth fun s u v => .of_eq rfl, GWi⟩, ⟨_, _, aeq, ieq, b_eq_, GE⟩⟩
  have GJ := ok_join (P := l.prog) (w := w) (base := base) F_join OO (g0 b_sorted) (g0 b_set) F_right b_right_ (g1 aright) GR
  exact ok_law F_law rfl TB OO HR F_pen b_pen_ (g1 apen) GPen F_span b_span_ (g1 aspan) GSp F_stre b_stre_ (g1 astre) GSt F_draw b_draw_ (g1 adraw) GD F_ticks b_ticks_ (g1 aticks) GTk
    F_join b_join_ (g1 ajoin) GJ F_heard b_heard_ (g1 aheard) Mk0 GI (bI4 FI) no
theorem walk {l : PySem.W.OpenLaw} {q : Program} {loose : List Str} {XP : (Str → Option Value) → Heap → Prop} {YP : World → Heap → Prop} {d : DefRec} {K : Params → PySem.W.Frag} (hn : l.most = some 63) (hdf : d.params.defaults = []) (hnm : d.name = "law")
    (hrec : ((recsOf q).find? (fun e => e.name == ("law" : Str))).isSome = true) (hY : ∀ (w : World) (h : Heap), YP w h → (K w.params).In h)
    (F : ∀ (w : World) (mg : Str → Option Value) (fa : Addr) (h : Heap), (K w.params).In h → h.Ns mainGlobals mg → mg "law" = some (.ref fa) →
      ∃ (fd : FuncData) (c0 P0 : Addr), PySem.W.tabIn (K w.params) "law" = some (c0, P0) ∧ (K w.params).lookup P0 = none ∧ (∀ (s : Shared) (u : Value), BindsTo s fd ⟨[u], []⟩ [("_law_script", u)]) ∧
        ∀ base : Heap, (K w.params).In base → base.Ns mainGlobals mg → TabB base mg c0 P0 → FnG l.prog w (K w.params) mg base CX0 10 fa fd ["_law_script"] (spLaw (K w.params) P0)) :
    PySem.W.WalkO q loose XP YP l.row.toRowW d [] (fun f vs => PySem.call f vs) := by
  apply Att.attach_callB hn hdf
  intro w s₀ s₁ mg mb fa o pm cd doc a vs ns G Y _ _ _ hmg hobj hints hlen hbits hg
  have KX := hY w _ Y
  rw [hnm] at hmg
  obtain ⟨fd, c0, P0, ht, nT, hb, hF⟩ := F w mg fa _ KX G.T.g hmg
  obtain ⟨d', hd'⟩ := Option.isSome_iff_exists.mp hrec
  obtain ⟨C, tb⟩ := PySem.W.tab_of G.T KX hd' ht
  exact law_callTG KX G.T.g G.T.b G.T.builtins G.T.nolimit hg tb nT C G.T.bmain hobj hints (Nat.le_trans hlen (by decide)) ⟨rfl, by decide, by decide⟩ hF hb (fun H hT hS => ⟨a, ns, rfl, hS, hT, fun _ => rfl⟩) fun _ _ _ z => z
end K48

open PySem PySem.W PyProof.Rows in
set_option maxRecDepth 100000 in
set_option maxHeartbeats 0 in
theorem PySem.Challenge.cw_soundtill_k48_turns_joined_holds : PySem.Challenge.rw_soundtill_k48_turns_joined.Holds := by
  w_on; o_law; k_head; (case hw => w_witness2)
  k_fill
  refine K48.walk (l := PySem.Challenge.rw_soundtill_k48_turns_joined) rfl rfl rfl (by decide +kernel) (fun w h Y => PySem.W.km_in_of Y) ?F
  case F =>
    intro w mg fa h KX G hmg
    refine' K48.all_mk KX G hmg ?apen ?lpen ?cpen ?kpen ?adraw ?ldraw ?cdraw ?kdraw ?apick ?lpick ?cpick ?kpick ?aspan ?lspan ?cspan ?kspan ?astre ?lstre ?cstre ?kstre ?aticks ?lticks ?cticks ?kticks ?aruns ?lruns ?cruns ?kruns ?atext ?ltext ?ctext ?ktext ?aright ?lright ?cright ?kright ?aheard ?lheard ?cheard ?kheard ?ajoin ?ljoin ?cjoin ?kjoin ?asamel ?lsamel ?csamel ?ksamel ?alaw ?llaw ?claw ?klaw ?awhole ?lwhole ?cwhole ?kwhole ?amoment ?lmoment ?cmoment ?kmoment ?aisstr ?lisstr ?cisstr ?kisstr ?afew ?lfew ?cfew ?kfew ?aword ?lword ?cword ?kword ?aC ?pgC ?hdC ?poC ?saC ?mkC ?kcC ?nC_low ?nC_high ?nC_stretches ?nC_has_none ?thn ?tht ?thaC ?thmC ?hclsC ?htypC ?ainit ?iinit ?linit ?cinit ?kinit ?ldT ?vdT ?laE ?vaE ?ahas ?ihas ?lhas ?chas ?khas ?abool ?ibool ?lbool ?cbool ?kbool ?aeq ?ieq ?leq ?ceq ?keq ?astr ?istr ?lstr ?cstr ?kstr ?nne ?aleast ?gleast ?tleast ?rleast ?lleast ?cleast ?kleast ?aand ?iand ?land ?cand ?kand ?aoor ?ioor ?loor ?coor ?koor ?ainv ?iinv ?linv ?cinv ?kinv ?awithin ?iwithin ?lwithin ?cwithin ?kwithin ?sfC ?gG ?b_isinstance ?b_int ?b_bool ?b_str ?b_len ?b_tuple ?b_list ?b_abs ?b_range ?b_min ?b_max ?b_set ?b_sorted ?b_enumerate ?b_any ?b_repr ?b_zip ?aT ?iT ?tT ?eT ?sT ?aB ?xB ?seB ?geB ?heB ?neB ?aeB ?teB ?leB ?ceB ?keB ?kkeB ?exeB ?tyeB ?hdeB ?iceB ?veeB ?uteB ?caeB ?cmeB ?lcode ?vcode ?nT
    (case apen => k_is)
    (case lpen => k_is)
    (case cpen => k_is)
    (case kpen => k_is)
    (case adraw => k_is)
    (case ldraw => k_is)
    (case cdraw => k_is)
    (case kdraw => k_is)
    (case apick => k_is)
    (case lpick => k_is)
    (case cpick => k_is)
    (case kpick => k_is)
    (case aspan => k_is)
    (case lspan => k_is)
    (case cspan => k_is)
    (case kspan => k_is)
    (case astre => k_is)
    (case lstre => k_is)
    (case cstre => k_is)
    (case kstre => k_is)
    (case aticks => k_is)
    (case lticks => k_is)
    (case cticks => k_is)
    (case kticks => k_is)
    (case aruns => k_is)
    (case lruns => k_is)
    (case cruns => k_is)
    (case kruns => k_is)
    (case atext => k_is)
    (case ltext => k_is)
    (case ctext => k_is)
    (case ktext => k_is)
    (case aright => k_is)
    (case lright => k_is)
    (case cright => k_is)
    (case kright => k_is)
    (case aheard => k_is)
    (case lheard => k_is)
    (case cheard => k_is)
    (case kheard => k_is)
    (case ajoin => k_is)
    (case ljoin => k_is)
    (case cjoin => k_is)
    (case kjoin => k_is)
    (case asamel => k_is)
    (case lsamel => k_is)
    (case csamel => k_is)
    (case ksamel => k_is)
    (case alaw => k_is)
    (case llaw => k_is)
    (case claw => k_is)
    (case klaw => k_is)
    (case awhole => k_is)
    (case lwhole => k_is)
    (case cwhole => k_is)
    (case kwhole => k_is)
    (case amoment => k_is)
    (case lmoment => k_is)
    (case cmoment => k_is)
    (case kmoment => k_is)
    (case aisstr => k_is)
    (case lisstr => k_is)
    (case cisstr => k_is)
    (case kisstr => k_is)
    (case afew => k_is)
    (case lfew => k_is)
    (case cfew => k_is)
    (case kfew => k_is)
    (case aword => k_is)
    (case lword => k_is)
    (case cword => k_is)
    (case kword => k_is)
    (case aC => k_is)
    (case pgC => k_is)
    (case hdC => k_is)
    (case poC => k_is)
    (case saC => k_is)
    (case mkC => k_is)
    (case kcC => k_is)
    (case nC_low => k_is)
    (case nC_high => k_is)
    (case nC_stretches => k_is)
    (case nC_has_none => k_is)
    (case thn => k_is)
    (case tht => k_is)
    (case thaC => k_is)
    (case thmC => k_is)
    (case hclsC => k_is)
    (case htypC => k_is)
    (case ainit => k_is)
    (case iinit => k_is)
    (case linit => k_is)
    (case cinit => k_is)
    (case kinit => k_is)
    (case ldT => k_is)
    (case vdT => rfl)
    (case laE => k_is)
    (case vaE => rfl)
    (case ahas => k_is)
    (case ihas => k_is)
    (case lhas => k_is)
    (case chas => k_is)
    (case khas => k_is)
    (case abool => k_is)
    (case ibool => k_is)
    (case lbool => k_is)
    (case cbool => k_is)
    (case kbool => k_is)
    (case aeq => k_is)
    (case ieq => k_is)
    (case leq => k_is)
    (case ceq => k_is)
    (case keq => k_is)
    (case astr => k_is)
    (case istr => k_is)
    (case lstr => k_is)
    (case cstr => k_is)
    (case kstr => k_is)
    (case nne => k_is)
    (case aleast => k_is)
    (case gleast => k_is)
    (case tleast => k_is)
    (case rleast => k_is)
    (case lleast => k_is)
    (case cleast => k_is)
    (case kleast => k_is)
    (case aand => k_is)
    (case iand => k_is)
    (case land => k_is)
    (case cand => k_is)
    (case kand => k_is)
    (case aoor => k_is)
    (case ioor => k_is)
    (case loor => k_is)
    (case coor => k_is)
    (case koor => k_is)
    (case ainv => k_is)
    (case iinv => k_is)
    (case linv => k_is)
    (case cinv => k_is)
    (case kinv => k_is)
    (case awithin => k_is)
    (case iwithin => k_is)
    (case lwithin => k_is)
    (case cwithin => k_is)
    (case kwithin => k_is)
    (case sfC => k_is)
    (case gG => k_is)
    (case b_isinstance => k_is)
    (case b_int => k_is)
    (case b_bool => k_is)
    (case b_str => k_is)
    (case b_len => k_is)
    (case b_tuple => k_is)
    (case b_list => k_is)
    (case b_abs => k_is)
    (case b_range => k_is)
    (case b_min => k_is)
    (case b_max => k_is)
    (case b_set => k_is)
    (case b_sorted => k_is)
    (case b_enumerate => k_is)
    (case b_any => k_is)
    (case b_repr => k_is)
    (case b_zip => k_is)
    (case aT => k_is)
    (case iT => k_is)
    (case tT => k_is)
    (case eT => k_is)
    (case sT => k_is)
    (case aB => k_is)
    (case xB => k_is)
    (case seB => k_is)
    (case geB => k_is)
    (case heB => k_is)
    (case neB => k_is)
    (case aeB => k_is)
    (case teB => k_is)
    (case leB => k_is)
    (case ceB => k_is)
    (case keB => k_is)
    (case kkeB => k_is)
    (case exeB => k_is)
    (case tyeB => k_is)
    (case hdeB => k_is)
    (case iceB => k_is)
    (case veeB => k_is)
    (case uteB => k_is)
    (case caeB => k_is)
    (case cmeB => k_is)
    (case lcode => k_is)
    (case vcode => rfl)
    (case nT => first | kernel_rfl | rfl)
