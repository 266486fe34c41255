import PyProof.Rows.All
import Wide.All
import OpenK.AllK
import Wide.FinOn
import HandS.ForMost
import HandS.OwnEq
import HandS.IsInst
import HandS.Wide
import HandS.EndBits
import HandS.Property
import KE.LtData
import HandS.NamedTupSort
import HandS.Exc
import HandS.ExcInit
import HandS.ExcIs
import HandS.ExcField
import HandS.TryOnly
import HandS.Lambda
import HandS.ClsMeth
import HandS.MakeKwOnly
import KE.KOpsOwn
import HandS.WordsExc
import HandS.WordsDict
import HandS.Codes
import HandS.Walk
import HandS.Iter
import KE.GoesEnum
import KE.GoesMore
import KE.KSuper
import HandS.Zip
import HandS.More
import HandS.Dict
import HandS.EndTab
import HandS.List
import PyProof.ReprRoads
import PyProof.StrBlock2
import HandS.Words
import PyProof.StrLawsRepr
import HandS.Text
import HandS.Call
import KE.RegKSuper
import PySem.Challenge.RW_soundtill_k12_rows_refused
set_option Elab.async false
set_option linter.all false
set_option maxRecDepth 100000
set_option maxHeartbeats 8000000
/-! So: rules of our own over the hand layer. Runs whose guards are known (for repr), repr of data, == and != by an own __eq__ with both answers, < of data, a method's call with keywords. -/
namespace So
open PySem PySem.Spec PyProof.Rows L2

/-! ### repr of data -/
mutual
theorem dp_noDict {K : PySem.W.Frag} {H : Hp} : ∀ (d : PyData) (v : V), Dp K H v d → d.hasDict = false
  | .none, _, _ => rfl
  | .bool _, _, _ => rfl
  | .int _, _, _ => rfl
  | .str _, _, _ => rfl
  | .list ds, _, h => by
    cases h with
    | lst _ ha => simpa [PyData.hasDict] using dp_noDictAll ds _ ha
  | .tuple ds, _, h => by
    cases h with
    | tup _ ha => simpa [PyData.hasDict] using dp_noDictAll ds _ ha
  | .dict _, _, h => by cases h
theorem dp_noDictAll {K : PySem.W.Frag} {H : Hp} : ∀ (ds : List PyData) (vs : List V), DpAll K H vs ds → PyData.hasDictAll ds = false
  | [], _, _ => rfl
  | d :: ds, _, h => by
    cases h with
    | cons h1 h2 => simp [PyData.hasDictAll, dp_noDict d _ h1, dp_noDictAll ds _ h2]
end

/-- repr(x): what it asks -/
def rRepr (K : PySem.W.Frag) : List V → Hp → VK → Prop := fun xs H Q => ∃ v d, xs = [v] ∧ Dp K H v d ∧ d.showable = true ∧ d.depth ≤ 60 ∧ d.shown.length ≤ sizeLine ∧ Q (.str d.shown) H
section
variable {X : Cx}
theorem call_reprD (hg : X.A.guards = some []) (hu : X.A.units + 64 < cLine) : CallR X (.builtin "repr") (rRepr X.K) := by
  intro pins s σ H xs us Q I r h
  obtain ⟨v, d, rfl, hd, hs, hdep, hz, q⟩ := h
  obtain ⟨u, rfl, rv⟩ := vals1 r
  obtain ⟨as, rd⟩ := Dp.reads I d v u hd rv
  have nd : d.hasDict = false := dp_noDict d v hd
  cases v with
  | ref a =>
    cases rv
    refine repr_of_reads' rd hs (fun z => by rw [nd] at z; cases z) hg (by omega) (fun _ _ e => e) (fun h' t tk k => ?_) hz
    exact ⟨.str d.shown, H, I.kept k, ⟨t, rfl⟩, q⟩
  | non =>
    cases hd
    cases rv
    exact PySem.P.repr_of_none ⟨.str _, H, I.tok _, ⟨_, rfl⟩, q⟩
  | bl b =>
    cases hd
    cases rv
    refine PySem.P.repr_of_bool ⟨.str (PyData.shown (.bool b)), H, I.tok _, ⟨s.toks, ?_⟩, q⟩
    cases b <;> rfl
  | int i =>
    cases hd
    obtain ⟨t, rfl⟩ := rv
    exact PySem.P.repr_of_int (by simpa [PyData.showable] using hs) ⟨.str _, H, I.tok _, ⟨_, rfl⟩, q⟩
  | str x =>
    cases hd
    obtain ⟨t, rfl⟩ := rv
    exact PySem.P.repr_of_str ⟨.str _, H, I.tok _, ⟨_, rfl⟩, q⟩ hz
  | byt b => cases hd
  | flt b => cases hd
  | ty n => cases hd

/-! ### < of data -/
def rLtD (K : PySem.W.Frag) : R2 := fun x y H Q => ∃ d e, Dp K H x d ∧ Dp K H y e ∧ PySem.W.alike d e = true ∧ d ≠ .none ∧ d.depth ≤ 60 ∧ Q (.bl (PySem.W.dataLt d e)) H
theorem op_ltD (hu : X.A.units + 64 < cLine) : OpR X (compareOp .Lt) (rLtD X.K) := by
  intro pins s σ H x y v u Q I rx ry h
  obtain ⟨d, e, hd, he, al, nn, dep, q⟩ := h
  obtain ⟨as, r1⟩ := Dp.reads I d x v hd rx
  obtain ⟨bs, r2⟩ := Dp.reads I e y u he ry
  have hm : min d.depth e.depth ≤ d.depth := Nat.min_le_left _ _
  exact PySem.W.rcLt_alike d e X.A s v u as bs r1 r2 al nn (by omega) _ _ _ _ ⟨.bl _, H, I, rfl, q⟩
end
end So

namespace So
open PySem PySem.Spec PyProof.Rows L2

/-! ### == and != by an own __eq__, both answers -/
/-- x is an instance of C, y of a type that is no class below C; the own __eq__ answers b -/
def rOwn (C : Addr) (K : PySem.W.Frag) (sp : Sp) (E : XK) (g : Bool → Bool) : R2 := fun x y H Q => ∃ a dx fs t, x = .ref a ∧ H a = some (.ins C dx fs) ∧ TyX K H y t ∧ PySem.W.notFirst K C t = true ∧
  sp [.ref a, y] H (fun v H' => ∃ b, v = .bl b ∧ Q (.bl (g b)) H') E
section
variable {X : Cx} {CX : CXT} {k : Nat} {C f : Addr} {fd : FuncData} {ps : List Str} {sp : Sp} {E : XK}
/-- what is wanted of a comparison's answer -/
def BlP (X : Cx) (pins : List (Addr × Obj)) (σ : L2.St) (g : Bool → Bool) (Q : VK) (v : Value) (s' : Shared) : Prop := ∃ b H', v = .bool b ∧ Inv X pins σ H' s' ∧ Q (.bl (g b)) H'
theorem run_eq {pins : List (Addr × Obj)} {s : Shared} {σ : L2.St} {H : Hp} {a dx : Addr} {fs : List (Str × V)} {y : V} {u : Value} {Q : VK} {g : Bool → Bool} {A : Around} (F : FnOk X.prog X.w X.K X.mg X.base CX k f fd ps sp) (hb : Binds X.K fd ps [])
    (hx : Passes CX X E) (hr : Room k A) (hf : A.frames = X.A.frames) (I : Inv X pins σ H s) (ry : RelV y u) (h : sp [.ref a, y] H (fun v H' => ∃ b, v = .bl b ∧ Q (.bl (g b)) H') E) :
    wpAny (model X.prog X.w) A (call (.ref f) [.ref a, u]) (fun v s' => BlP X pins σ g Q v s') X.xe s := by
  have e0 : Env0 X.prog X.w X.K X.mg X.base A X.stack s H := by
    have e := I.env0
    exact ⟨hf.trans e.frames, e.mod, e.bs, e.bsz, e.funs, e.frf, e.hok, e.bare⟩
  have hl : ([Value.ref a, u] ++ ([] : List Value)).length = ps.length := (F.len _ _ _ _ h : [V.ref a, y].length = ps.length)
  refine wpAny_call (codeAny_mono (F.run A X.stack s H ⟨[.ref a, u], []⟩ ([.ref a, u] ++ []) [.ref a, y] _ E hr e0 (hb s [.ref a, u] I.kIn hl) (.cons rfl (.cons ry .nil)) h) fun r s' hq => ?_)
  cases r with
  | error e => exact hx pins σ H s e s' I hq
  | ok fl =>
    cases fl with
    | ret w =>
      obtain ⟨z, H', I', rz, b, ez, q⟩ := I.after hq
      subst ez
      cases rz
      exact ⟨b, H', rfl, I', q⟩
    | next => exact False.elim hq
    | brk => exact False.elim hq
    | cont => exact False.elim hq

theorem op_eqOwn (F : FnOk X.prog X.w X.K X.mg X.base CX k f fd ps sp) (hs : PySem.W.findIn X.K (.ref C) "__eq__" = some (some (.ref f))) (hf : PySem.W.isFn X.K (.ref f) = true) (hb : Binds X.K fd ps []) (hx : Passes CX X E) (hr : Room k X.A) :
    OpR X (compareOp .Eq) (rOwn C X.K sp E id) := by
  intro pins s σ H x y v u Q I rx ry h
  obtain ⟨a, dx, fs, t, rfl, ha, ty, nf, q⟩ := h
  cases rx
  obtain ⟨mA, J, _⟩ := ins_get I.hok ha
  obtain ⟨od, J, _⟩ := J.look
  obtain ⟨P, Z, p, _⟩ := kit_of I ry ty
  obtain ⟨m, hF⟩ := I.fr
  show wpAny _ _ (richCompare .Eq (.ref a) u) _ _ s
  refine PySem.W.cmp_K (op := .Eq) (tb := t) hr.units0 hF I.ok.mod.kin J (Z.ty _ _ I.kIn p) nf hs hf ?_
  refine wpAny_mono (run_eq (dx := dx) (fs := fs) F hb hx hr rfl I ry q) (fun w s' z => ?_) fun _ _ z => z
  obtain ⟨b, H', rfl, I', q'⟩ := z
  exact ⟨.bl b, H', I', rfl, q'⟩

/-- != where the class has an own __eq__ and object's __ne__ -/
theorem op_neOwn (F : FnOk X.prog X.w X.K X.mg X.base CX k f fd ps sp) (hs : PySem.W.findIn X.K (.ref C) "__eq__" = some (some (.ref f))) (hf : PySem.W.isFn X.K (.ref f) = true) (hb : Binds X.K fd ps []) (hx : Passes CX X E) (hr : Room (k + 1) X.A)
    (hn : PySem.W.findIn X.K (.ref C) "__ne__" = some (some (.builtin "object.__ne__"))) (hm : PySem.W.mroIn X.K C (.type "object") = some true) : OpR X (compareOp .NotEq) (rOwn C X.K sp E not) := by
  intro pins s σ H x y v u Q I rx ry h
  obtain ⟨a, dx, fs, t, rfl, ha, ty, nf, q⟩ := h
  cases rx
  obtain ⟨mA, J, _⟩ := ins_get I.hok ha
  obtain ⟨od, J, _⟩ := J.look
  obtain ⟨P, Z, p, _⟩ := kit_of I ry ty
  have KI := I.kIn
  have hb' := Z.ty (model X.prog X.w) _ I.kIn p
  have hu : X.A.units < cLine := hr.units0
  show wpAny _ _ (richCompare .NotEq (.ref a) u) _ _ s
  have one : wpAny (model X.prog X.w) X.A (tryCompare (.ref a) "__ne__" u) (fun r s' => ∃ v, r = some v ∧ EP X pins σ Q v s') X.xe s := by
    unfold tryCompare
    refine wpAny_bind (NtL.csib (J.type.andThen (PySem.W.looks_findIn KI hn)) (PySem.F.cmp_object.ne.bind _) (wpAny_call (codeAny_call_builtin PySem.F.cmp_object.ne.plain PySem.F.cmpEntry_ne (PySem.W.check_slot PySem.F.cmpKind_ne PySem.F.cmpSplit_ne (J.type.andThen (PySem.W.looks_mroIn KI hm)) (PySem.F.cmpArgs_ne _ _) ?_))))
    unfold Builtin.«object.__ne__»
    refine wpAny_bind (wpAny_of_eq (a := ((Value.ref a : Value), [u])) (by first | rfl | (simp only [slotArgs]; rfl)) ?_)
    refine wpAny_bind (wpAny_cRoomFor (by show X.A.units + 1 < cLine; have := hr.units; omega) ?_)
    refine wpAny_bind (PySem.W.ifBound_K KI J hs hf (wpAny_mono (run_eq (dx := dx) (fs := fs) F hb hx hr.in1 rfl I ry q) (fun w s' z => ?_) fun _ _ z => z))
    obtain ⟨b, H', rfl, I', q'⟩ := z
    refine wpAny_bind (wpAny_truthy_bool ?_)
    refine wpAny_pure ?_
    exact wpAny_pure ⟨_, rfl, .bl (!b), H', I', rfl, q'⟩
  unfold richCompare
  simp only [oneThing_ref]
  refine wpAny_holding (wpAny_bind (wpAny_cRoomFor hu ?_))
  refine wpAny_bind (J.type.here (wpAny_bind (hb'.here ?_)))
  have fin : wpAny (model X.prog X.w) X.A (tryCompare (.ref a) "__ne__" u) (fun r s' => ∃ v, r = some v ∧ EP X pins σ Q v s') X.xe s := one
  split
  · rename_i z
    have e : PySem.W.subIn X.K t (.ref C) = some false := by
      rcases Bool.or_eq_true_iff.mp nf with e | e
      · rw [beq_iff_eq.mp e] at z; simp at z
      · exact beq_iff_eq.mp e
    refine wpAny_bind ((PySem.W.looks_subIn KI e).here ?_)
    simp only [Bool.false_eq_true, if_false]
    exact wpAny_bind (wpAny_mono fin (fun r s' z => by obtain ⟨v, rfl, hq⟩ := z; exact wpAny_pure hq) fun _ _ e => e)
  · refine wpAny_bind (wpAny_pure ?_)
    simp only [Bool.false_eq_true, if_false]
    exact wpAny_bind (wpAny_mono fin (fun r s' z => by obtain ⟨v, rfl, hq⟩ := z; exact wpAny_pure hq) fun _ _ e => e)
end
end So

namespace So
open PySem PySem.Spec PyProof.Rows L2

/-! ### runs in which no repr is under way -/
/-- as FnOk, where no repr is under way at the call -/
structure FnG (P : Program) (w : World) (K : PySem.W.Frag) (mg : Str → Option Value) (base : Heap) (CX : CXT) (k : Nat) (f : Addr) (fd : FuncData) (ps : List Str) (sp : Sp) : Prop where
  lenG : ∀ (vs : List V) (H : Hp) (Q : VK) (E : XK), sp vs H Q E → vs.length = ps.length
  runG : ∀ (A : Around) (outer : List Env) (s : Shared) (H : Hp) (args : Args) (us : List Value) (vs : List V) (Q : VK) (E : XK), A.guards = some [] → Room k A → Env0 P w K mg base A outer s H →
    BindsTo s fd args (ps.zip us) → Vals vs us → sp vs H Q E → codeAny (model P w) A (.call (.ref f) args) (CR CX outer P w H s Q E) s
section
variable {P : Program} {w : World} {K : PySem.W.Frag} {mg : Str → Option Value} {base : Heap} {CX : CXT} {sp : Sp} {fd : FuncData} {ps N : List Str} {k : Nat} {f : Addr}
theorem FnG.ofOk (F : FnOk P w K mg base CX k f fd ps sp) : FnG P w K mg base CX k f fd ps sp :=
  ⟨F.len, fun A outer s H args us vs Q E _ => F.run A outer s H args us vs Q E⟩
/-- a def by its body, as the layer's rule, the guards told -/
theorem fnG_of {x qual : Str} {st : Stmt} (F : Fun K x qual st f fd) (S : FnScope N ps (defScope st)) (len : ∀ vs H Q E, sp vs H Q E → vs.length = ps.length)
    (hbody : ∀ (cdv : Value) (A : Around) (outer : List Env) (s : Shared) (H : Hp) (vs : List V) (Q : VK) (E : XK), A.guards = some [] → Room k (A.deeper (envOfC qual (defScope st) s.heap.objs.size f cdv)) → sp vs H Q E →
      ∃ t, PSs (cxOf CX P w K mg base N qual (defScope st) f cdv A outer s H E).nox (defBody st) t ∧ t { nx := fun _ H' => Q .non H', rt := Q } (start N vs) H) : FnG P w K mg base CX (k + 1) f fd ps sp := by
  obtain ⟨oc, od, kV, doc, pm, an, cdv, ct, osl, rfl, lk, hcd⟩ := F.ex
  constructor
  · exact len
  intro A outer s H args us vs Q E hg hr e0 hb r hsp
  have old : ∀ b o, base.get? b = some o → s.heap.get? b = some o := fun b o e => (e0.bs b o e).1
  have KX := e0.mod.kin.keeps old
  have lim := e0.mod.nolimit.keeps old
  refine codeAny_call_function hr.depth (KX _ _ lk) rfl S.co S.gen rfl (PySem.W.codeRec_of KX hcd) (hb _ _ _ _ ?_)
  refine wpAny_newFunctionEnv_cells S.kind (fun y hy => ?_) fun env he s1 x => ?_
  · rcases S.par y.1 (List.of_mem_zip (show (y.1, y.2) ∈ ps.zip us from hy)).1 with q | q
    · exact Or.inl q
    · exact Or.inr (And.intro q (PySem.W.cellsFrom_some _ _ _ (Or.inl q)))
  subst he
  refine And.intro (lim.keeps x.toInCall.keep) (codeAny_func ?_)
  obtain ⟨t, ht, hq⟩ := hbody cdv A outer s H vs Q E hg (hr.deeper _) hsp
  refine wpAny_mono (ht.nox.run [] s1 (start N vs) H _ (inv_start S hr.hd e0 (len _ _ _ _ hsp) r x) hq) (fun fl s' hs => ?_) fun _ _ hs => hs
  match fl, hs with
  | .ret u, ⟨v, σ', H', J, rv, q⟩ => exact ⟨v, H', J.os, J.bare, J.base, J.hok, rv, q⟩
  | .next, ⟨σ', H', J, q⟩ => exact ⟨V.non, H', J.os, J.bare, J.base, J.hok, rfl, q⟩
  | .brk, ⟨_, _, _, q⟩ => exact q.elim
  | .cont, ⟨_, _, _, q⟩ => exact q.elim
end

/-! ### calls -/
section
variable {X : Cx} {CX : CXT} {k : Nat} {f C : Addr} {fd : FuncData} {ps ks : List Str} {sp : Sp} {E : XK} {x m : Str} {p pos apos : Pos} {e o : Expr} {es : List Expr} {kws : List Keyword} {ta : TE} {t tk : TA} {dvs : List V} {ds : List Value}
theorem run_fnG {pins : List (Addr × Obj)} {σ : L2.St} {H : Hp} {s : Shared} {Q : VK} {us : List Value} {vs : List V} (F : FnG X.prog X.w X.K X.mg X.base CX k f fd ps sp) (hg : X.A.guards = some []) (hr : Room k X.A) (hb : Binds X.K fd ps ds) (hd : Vals dvs ds)
    (hx : Passes CX X E) (I : Inv X pins σ H s) (r : Vals vs us) (h : sp (vs ++ dvs) H Q E) : wpAny (model X.prog X.w) X.A (call (.ref f) us) (EP X pins σ Q) X.xe s := by
  have r2 := r.append hd
  have hl : (us ++ ds).length = ps.length := r2.length.symm.trans (F.lenG _ _ _ _ h)
  refine wpAny_call (codeAny_mono (F.runG X.A X.stack s H ⟨us, []⟩ (us ++ ds) (vs ++ dvs) Q E hg hr I.env0 (hb s us I.kIn hl) r2 h) fun r s' hq => ?_)
  match r, hq with
  | .error e, hq => exact hx pins σ H s e s' I hq
  | .ok (.ret u), hq => exact I.after hq
  | .ok .next, hq => exact hq.elim
  | .ok .brk, hq => exact hq.elim
  | .ok .cont, hq => exact hq.elim
/-- f(e, ..), f by FnG -/
theorem pe_callG (F : FnG X.prog X.w X.K X.mg X.base CX k f fd ps sp) (hg : X.A.guards = some []) (hr : Room k X.A) (hgl : Gl X x) (hm : X.mg x = some (.ref f)) (hk : PySem.W.keepIn X.K (.ref f) = true) (hb : Binds X.K fd ps ds) (hd : Vals dvs ds) (hx : Passes CX X E)
    (ha : PA X (e :: es) t) (hdb : (x == ("__debug__" : Str)) = false := by decide) (he : starEach (e :: es) X.env = (false, eval e X.env) :: starEach es X.env := by rfl) (hpl : (backTo pos (starEach es X.env)).any (·.1) = false := by rfl) :
    PE X (.Call (.Name x p) (e :: es) [] pos) (tCall sp dvs E t) := by
  constructor
  intro pins s σ H Q I h
  refine wpAny_Call_Name_kw (ld_glob I hgl hm (PySem.W.callWith_K (h₀ := X.base) I.ok.mod.kin hk (thn (ha.run pos pins s σ H _ I h) fun us s1 q => ?_) he hpl) hdb)
  obtain ⟨vs, H1, I1, r, q⟩ := q
  exact ⟨I1.kIn, run_fnG F hg hr hb hd hx I1 r q⟩
/-- o.m(k = v, ..): keywords alone -/
theorem pe_methK {g : List Value → List Value → List Value} {gV : List V → List V → List V} {pl : Sem Bool} (he : PE X o ta) (c : Cls X.K C) (hm : Meth X.K C m f) (F : FnOk X.prog X.w X.K X.mg X.base CX k f fd ps sp) (hr : Room k X.A) (hb : KBinds X.K fd ps ks g gV)
    (hx : Passes CX X E) (hkw : PK X kws tk) (hall : (backToKw pos (keywordEach kws X.env)).all (·.1.isSome) = true := by rfl) (hks : (backToKw pos (keywordEach kws X.env)).filterMap (·.1) = ks := by rfl)
    (hpl : ((backTo pos (starEach [] X.env)).any (·.1) || (backToKw pos (keywordEach kws X.env)).any (·.1.isNone)) = false := by rfl)
    (ht : eval (.Call (.Attribute o m apos) [] kws pos) X.env = (do
      let ov ← eval o X.env
      standAt apos.atName
      let fx ← holding [ov] (getMethod ov m pl)
      callWith pos fx.1 fx.2 (backTo pos (starEach [] X.env)) (backToKw pos (keywordEach kws X.env))) := by rfl) :
    PE X (.Call (.Attribute o m apos) [] kws pos) (fun σ H Q => ta σ H fun x H1 => ∃ a dx fs, x = .ref a ∧ H1 a = some (.ins C dx fs) ∧ fs.lookup m = none ∧ tk σ H1 fun zs H2 => sp (gV [x] zs) H2 Q E) := by
  constructor
  intro pins s σ H Q I h
  refine PySem.W.methodCall_KW (pl := pl) (thn (he.run pins s σ H _ I h) fun u s1 z => ?_) ht
  obtain ⟨x, H1, I1, rx, a, dx, fs, ex, ea, l, q⟩ := z
  subst ex
  cases rx
  refine getmeth_ok I1 ea c hm l ?_
  refine PySem.W.callWith_KW0 (first := [.ref a]) (h₀ := X.base) I.ok.mod.kin hm.kp hall (thn (hkw.run pos pins s1 σ H1 _ I1 q) fun ws s2 z => ?_) hpl
  obtain ⟨zs, H2, I2, rz, q2⟩ := z
  refine ⟨I2.kIn, ?_⟩
  rw [hks]
  exact run_fnk (us := [.ref a]) (vs := [.ref a]) F hr hb hx I2 (.cons rfl .nil) rz q2
end

/-! ### the end of a law -/
theorem law_callG {P : Program} {w : World} {K : PySem.W.Frag} {mg mb : Str → Option Value} {CX : CXT} {k : Nat} {fa a : Addr} {fd : FuncData} {x : Str} {sp : Sp} {s₁ : Shared} {vs : List Value} {ns : List Int}
    (KX : K.In s₁.heap) (hns : s₁.heap.Ns mainGlobals mg) (hb : s₁.heap.Ns builtinsNs mb) (hbb : ∀ x : Str, x ≠ "__name__" → mb x = bootBuiltins x) (hlim : s₁.heap.NoLimit) (hg : s₁.gens = #[])
    (ha : s₁.heap.get? a = some { cls := .type "list", data := .seq vs.toArray }) (hi : IntsAre vs ns) (hl : ns.length ≤ sizeLine) (hr : Room k callerA)
    (F : ∀ base : Heap, K.In base → base.Ns mainGlobals mg → FnG P w K mg base CX k fa fd [x] sp) (hbind : ∀ (s : Shared) (u : Value), BindsTo s fd ⟨[u], []⟩ [(x, u)])
    (hsp : ∀ H : Hp, Only H → SqL K H a (ns.map V.int) → sp [.ref a] H (fun v _ => v = .bl true) fun _ _ _ => False)
    (hCX : ∀ H e s', CX [] H s₁ (fun _ _ _ => False) e s' → False) :
    codeAny (model P w) callerA (.call (.ref fa) ⟨[.ref a], []⟩) (fun r s' => r = .ok (.ret (.bool true)) ∧ OldK s₁.heap s'.heap ∧ s'.os = s₁.os ∧ AllBare s'.gens) s₁ := by
  -- the call itself, for a heap in which the script alone may be tracked
  have go : ∀ H : Hp, Only H → SqL K H a (ns.map V.int) → HOk P w H s₁.heap → (∀ b u, H b = some u → b = a ∧ K.lookup a = none) →
      codeAny (model P w) callerA (.call (.ref fa) ⟨[.ref a], []⟩) (fun r s' => r = .ok (.ret (.bool true)) ∧ OldK s₁.heap s'.heap ∧ s'.os = s₁.os ∧ AllBare s'.gens) s₁ := by
    intro H hO hS hok hA
    have free : ∀ b : Addr, (b ≠ a ∨ K.lookup a ≠ none) → H b = none := by
      intro b z
      cases q : H b with
      | none => rfl
      | some u => exact (z.elim (fun z => z (hA b u q).1) fun z => z (hA b u q).2).elim
    have notSeq : ∀ {b : Addr} {m : Str → Option Value}, s₁.heap.Ns b m → b ≠ a := by
      rintro b m ⟨o, es, ep, e, d, _⟩ rfl
      rw [ha] at e
      cases e
      cases d
    have inH : ∀ {b : Addr} {m : Str → Option Value}, s₁.heap.Ns b m → (hidT s₁.heap H).Ns b m := by
      intro b m n
      have nb := free b (Or.inl (notSeq n))
      obtain ⟨o, es, ep, e, r⟩ := n
      exact ⟨o, es, ep, hidT_get e nb, r⟩
    have kin : K.In (hidT s₁.heap H) := by
      intro b o e
      refine hidT_get (KX b o e) ?_
      by_cases hb : b = a
      · exact free b (Or.inr (by rw [← hb, e]; exact fun z => nomatch z))
      · exact free b (Or.inl hb)
    have lim2 : (hidT s₁.heap H).NoLimit := by
      obtain ⟨mc, h1, h2⟩ := hlim
      exact ⟨mc, inH h1, h2⟩
    have e0 : Env0 P w K mg (hidT s₁.heap H) callerA [] s₁ H := by
      refine ⟨rfl, ⟨kin, inH hns, ⟨mb, inH hb, hbb⟩, lim2⟩, fun b o e => of_hidT e, Nat.le_of_eq (hidT_size _ _), True.intro, ?_, hok, .of_eq hg⟩
      intro b hb
      cases hb
    refine codeAny_mono ((F _ kin (inH hns)).runG callerA [] s₁ H ⟨[.ref a], []⟩ [.ref a] [.ref a] _ _ rfl hr e0 (hbind s₁ (.ref a)) (.cons rfl .nil) (hsp H hO hS)) fun r s' h => ?_
    match r, h with
    | .error e, h => exact (hCX H e s' h).elim
    | .ok .next, h => exact h.elim
    | .ok .brk, h => exact h.elim
    | .ok .cont, h => exact h.elim
    | .ok (.ret u), ⟨v, H', os, bare, un, hok', rv, q⟩ =>
      have q2 : v = .bl true := q
      subst q2
      cases rv
      refine ⟨rfl, OldK.of_keep (fun b o e => ?_), os, bare⟩
      rcases hO b with z | ⟨ob, xs, z⟩
      · exact un.keep b o e z (fun z => nomatch z) (fun z => nomatch z)
      · have z1 := (hok b _ z).1
        have z2 := (hok' b _ (un.frzs b ob _ z)).1
        rw [z1] at e
        rw [z2, e]
  have rv := vals_ints hi
  have hlen : (ns.map V.int).length ≤ sizeLine := by rw [List.length_map]; exact hl
  cases hk : K.lookup a with
  | some o =>
    have e := KX a o hk
    rw [ha] at e
    cases e
    exact go (fun _ => none) (fun _ => Or.inl rfl) (Or.inr ⟨_, vs.toArray, _, hk, rfl, rfl, rfl, by rw [List.size_toArray, hi.length]; exact hl, by simpa using rv⟩) (fun b u z => nomatch z) fun b u z => nomatch z
  | none =>
    have at_ : ∀ b u, (if b = a then some (HO.frz { cls := .type "list", data := .seq vs.toArray } (.lst (ns.map V.int))) else none) = some u → b = a ∧ u = .frz { cls := .type "list", data := .seq vs.toArray } (.lst (ns.map V.int)) := by
      intro b u z
      split at z
      · rename_i hb
        exact ⟨hb, (Option.some.inj z).symm⟩
      · cases z
    refine go (fun b => if b = a then some (.frz { cls := .type "list", data := .seq vs.toArray } (.lst (ns.map V.int))) else none) (fun b => ?_) (Or.inl (Or.inr ⟨_, if_pos rfl⟩)) (fun b u z => ?_) fun b u z => ⟨(at_ b u z).1, hk⟩
    · by_cases hb : b = a
      · exact Or.inr ⟨_, _, if_pos hb⟩
      · exact Or.inl (if_neg hb)
    · obtain ⟨rfl, rfl⟩ := at_ b u z
      exact ⟨ha, hlen, vs, _, rv, ha⟩

theorem walk_ofG {l : PySem.W.OpenLaw} {n k : Nat} {q : Program} {loose : List Str} {XP : (Str → Option Value) → Heap → Prop} {YP : World → Heap → Prop} {d : DefRec} {K : Params → PySem.W.Frag} {CX : World → CXT} {sp : World → Sp} {x : Str}
    (hn : l.most = some n) (hn2 : n ≤ sizeLine) (hdf : d.params.defaults = []) (hr : Room k callerA) (hY : ∀ (w : World) (h : Heap), YP w h → (K w.params).In h)
    (F : ∀ (w : World) (mg : Str → Option Value) (fa : Addr) (h : Heap), (K w.params).In h → h.Ns mainGlobals mg → mg d.name = some (.ref fa) →
      ∃ fd : FuncData, (∀ (s : Shared) (u : Value), BindsTo s fd ⟨[u], []⟩ [(x, u)]) ∧ ∀ base : Heap, (K w.params).In base → base.Ns mainGlobals mg → FnG l.prog w (K w.params) mg base (CX w) k fa fd [x] (sp w))
    (hsp : ∀ (w : World) (H : Hp) (a : Addr) (ns : List Int), ns.length ≤ n → (∀ z ∈ ns, Builtin.Int.intBits z ≤ 1048576) → Only H → SqL (K w.params) H a (ns.map V.int) → sp w [.ref a] H (fun v _ => v = .bl true) fun _ _ _ => False)
    (hCX : ∀ (w : World) (H : Hp) (s : Shared) (e : Value) (s' : Shared), CX w [] H s (fun _ _ _ => False) e s' → False) :
    PySem.W.WalkO q loose XP YP l.row.toRowW d [] (fun f vs => PySem.call f vs) := by
  apply Att.attach_callB hn hdf
  intro w s₀ s₁ mg mb fa o pm cd doc a vs ns G Y _ _ _ hmg hobj hints hlen hbits hg
  obtain ⟨fd, hb, hF⟩ := F w mg fa _ (hY w _ Y) G.T.g hmg
  exact law_callG (hY w _ Y) G.T.g G.T.b G.T.builtins G.T.nolimit hg hobj hints (Nat.le_trans hlen hn2) hr hF hb (fun H hO hS => hsp w H a ns hlen hbits hO hS) fun H e s' => hCX w H s₁ e s'
end So

namespace So
open PySem PySem.Spec PyProof.Rows L2
section
variable {K : PySem.W.Frag} {C : Addr}
theorem kit_self : PySem.W.kitOne K (.ref C) (.ref C) = some true := by
  unfold PySem.W.kitOne
  rw [if_pos]
  simp
/-- no built-in type stands below an own class -/
theorem sub_ty {T : String} (h : (fastBuiltinMro T).map (fun l => l.all fun v => match v with | .type _ => true | _ => false) = some true) : PySem.W.subIn K (.type T) (.ref C) = some false := by
  show (fastBuiltinMro T).map (·.contains (.ref C)) = some false
  cases e : fastBuiltinMro T with
  | none => rw [e] at h; cases h
  | some l =>
    rw [e] at h
    have h2 : (l.all fun v => match v with | .type _ => true | _ => false) = true := Option.some.inj h
    show some (l.contains (.ref C)) = some false
    congr 1
    cases c : l.contains (.ref C) with
    | false => rfl
    | true =>
      have m : (Value.ref C) ∈ l := by simpa using c
      have := List.all_eq_true.mp h2 _ m
      cases this
theorem notFirst_ty {T : String} (h : (fastBuiltinMro T).map (fun l => l.all fun v => match v with | .type _ => true | _ => false) = some true) : PySem.W.notFirst K C (.type T) = true := by
  unfold PySem.W.notFirst
  rw [sub_ty h]
  simp
theorem kit_no {T : String} (hc : PySem.W.isClsIn K C = true) (ht : PySem.W.typeIn K (.ref C) = some (.type "type")) (h : (fastBuiltinMro T).map (fun l => l.all fun v => match v with | .type _ => true | _ => false) = some true) : PySem.W.kitOne K (.type T) (.ref C) = some false := by
  unfold PySem.W.kitOne PySem.W.kitCls
  unfold PySem.W.isClsIn at hc
  have hb : ((PySem.W.clsIn K C).isSome && PySem.W.typeIn K (.ref C) == some (.type "type")) = true := by
    rw [hc, ht]
    simp
  have sb := sub_ty (K := K) (C := C) h
  simp [hb, sb]
end
end So

/-! So, on: exceptions that are kept as values. -/
namespace So
open PySem PySem.Spec PyProof.Rows L2
/-- an exception object of the class cls, its dict at d, that stands at a and is nobody's news -/
def Xo (cls : Value) (d : Option Addr) (a : Addr) : HO := .ext fun h => ∃ (oe : Obj) (vs : Array Value), h.get? a = some oe ∧ Zc cls d oe ∧ oe.data = .fields vs
theorem xo_ok {P : Program} {w : World} {H : Hp} {h : Heap} {a : Addr} {cls : Value} {d : Option Addr} {oe : Obj} {vs : Array Value} (e : h.get? a = some oe) (z : Zc cls d oe) (f : oe.data = .fields vs) : ObjOk P w H h a (Xo cls d a) := by
  refine ⟨⟨oe, vs, e, z, f⟩, ⟨oe, e⟩, ?_⟩
  rintro h1 h2 ⟨o, v, q, r⟩ k
  exact ⟨o, v, k o q, r⟩
theorem xo_at {P : Program} {w : World} {H : Hp} {h : Heap} {a : Addr} {cls : Value} {d : Option Addr} (hok : HOk P w H h) (e : H a = some (Xo cls d a)) : ∃ (oe : Obj) (vs : Array Value), h.get? a = some oe ∧ Zc cls d oe ∧ oe.data = .fields vs := by
  have x : ObjOk P w H h a (.ext fun h => ∃ (oe : Obj) (vs : Array Value), h.get? a = some oe ∧ Zc cls d oe ∧ oe.data = .fields vs) := hok a _ e
  exact x.1
section
variable {X : Cx} {pins : List (Addr × Obj)} {σ : L2.St} {H : Hp} {s sI : Shared} {a : Addr} {cls : Value} {d : Option Addr} {oe : Obj} {vs : Array Value}
/-- an exception that has landed is tracked from now on -/
theorem track (J : Inv X pins σ H sI) (hex : X.ex = []) (hI : sI.heap.get? a = none) (I : Inv X pins σ H s) (he : s.heap.get? a = some oe) (hz : Zc cls d oe) (hd : oe.data = .fields vs) (na : H a = none) (nL : a ≠ X.env.locals) :
    Inv X pins σ (upd H a (Xo cls d a)) s := by
  have h0 : ∀ b o, X.s_0.heap.get? b = some o → b ≠ a := by
    rintro b o e rfl
    obtain ⟨o', e'⟩ := J.base.there b o e (by rw [hex]; exact fun z => nomatch z)
    rw [hI] at e'
    cases e'
  have hs : ∀ {b : Addr} {u : HO}, H b = some u → (upd H a (Xo cls d a)) b = some u := fun e => (upd_ne (ne_of_none e na)).trans e
  refine ⟨I.ok, I.os, I.bare, ⟨I.base.keep, I.base.slot, fun b o e n hx => (upd_ne (h0 b o e)).trans (I.base.free b o e n hx), I.base.there, fun b xs q => hs (I.base.tups b xs q), fun b o u q => hs (I.base.frzs b o u q), fun b ps q => ?_⟩,
    I.loc, I.cell, (upd_ne nL.symm).trans I.free, fun x c e => ?_, fun p hp => ?_, fun b u e => ?_, I.len⟩
  · obtain ⟨m, q'⟩ := I.base.tbls b ps q
    exact ⟨m, hs q'⟩
  · refine (upd_ne ?_).trans (I.freeC x c e)
    rintro rfl
    obtain ⟨v, o, ho, hc⟩ := I.cell x c e
    rw [he] at ho
    cases ho
    rw [hd] at hc
    cases hc
  · obtain ⟨p1, p2, p3, p4, p5⟩ := I.pin p hp
    refine ⟨p1, (upd_ne ?_).trans p2, p3, p4, p5⟩
    intro z
    have := (J.pin p hp).1
    rw [z, hI] at this
    cases this
  · by_cases hb : b = a
    · subst hb
      rw [upd_same] at e
      cases e
      exact xo_ok he hz hd
    · rw [upd_ne hb] at e
      exact (I.hok b u e).stay (fun _ _ _ q => q) (fun c q => hs q) fun c xs q => hs q
end

/-! ### try: body, except x as n: suite, the exception kept as a value -/
/-- what such a clause wishes of an exception of the body -/
def wKeep (K : PySem.W.Frag) (c : Value) (i : Nat) (ts : TS) (Wout : WX) (D : Ends) : WX := fun cls d σ H =>
  ∃ b, PySem.W.exmOne K cls c = some b ∧ (b = true → ∀ a, H a = none → ts { nx := fun σ' H' => D.nx (σ'.set i none) H', rt := D.rt, bk := fun σ' H' => D.bk (σ'.set i none) H', ct := fun σ' H' => D.ct (σ'.set i none) H' } (σ.set i (some (.ref a))) (upd H a (Xo cls d a))) ∧
    (b = false → Wout cls d σ H)
section
variable {X : Cx} {x n : Str} {c : Value} {i : Nat} {body suite : List Stmt} {b₀ : Stmt} {np pos pos' : Pos} {tb : WX → TS} {ts : TS} {Wout : WX}
theorem ps_try_keep (hs : X.stack = X.env :: X.outer) (hf : X.env.frame = some X.env.locals) (hex : X.ex = []) (hN : X.N.Nodup) (hi : X.N[i]? = some n) (hln : X.env.kindOf n = some .local) (hc : Names X x c) (tk : Takes X Wout)
    (hb : ∀ (W : WX) (pn : List (Addr × Obj)) (xe : Value → Shared → Prop), Takes (X.tr pn xe) W → PassesOwn (model X.prog X.w) X.A X.env xe → PSs (X.tr pn xe) body (tb W))
    (hsu : ∀ (a : Addr) (pn : List (Addr × Obj)), PSs (X.suite a pn) (b₀ :: suite) ts) :
    PS X (.Try body [.ExceptHandler (some (.Name x np)) (some n) (b₀ :: suite) pos'] [] [] pos) (fun D σ H => tb (wKeep X.K c i ts Wout D) D σ H) := by
  constructor
  intro pins s σ H D I h
  have ok := I.ok
  have hfr : X.A.frames = some (X.env :: X.outer) := ok.frames.trans (congrArg some hs)
  refine wpAny_Try_except (wpAny_mono ((hb (wKeep X.K c i ts Wout D) (X.pn ++ pins) (fun e s₁ => wpAny (model X.prog X.w) X.A (noteFrame e X.env) (fun _ s₂ => wpAny (model X.prog X.w) X.A (setFlight e none) (fun _ s₃ =>
    wpAny (model X.prog X.w) X.A (handleBy e X.env [.ExceptHandler (some (.Name x np)) (some n) (b₀ :: suite) pos']) (SP X pins D) X.xe s₃) X.xe s₂) X.xe s₁) (fun u s' xx => ?_) PassesOwn.looking).run [] s σ H D (I.toTry _) h) (fun f s1 hsp => ?_) fun e s1 he => he)
  · obtain ⟨a, B, sI, pins', σ', H', cls, d, rfl, J', nb, up, sky, na, os, ag, b, hb1, hyes, hno⟩ := xx
    have J : Inv X pins σ' H' sI := J'.ofTry ok
    have sky' : Sky B (X.env :: X.outer) a (Zc cls d) X.env.locals s'.heap := hs ▸ sky
    refine Sky.land Zc.steady hfr hf sky' fun h3 fl3 up3 => ?_
    have J3 : Inv X pins σ' H' { s' with heap := h3 } := J.landed nb fl3.1 (up.trans up3) os ag
    obtain ⟨oe3, vs3, he3, hz3, hd3⟩ := fl3.there
    have nfr : a ∉ frs (X.env :: X.outer) := fun hm => by
      obtain ⟨_, o', e', hnf⟩ := fl3.2.2.1.mem hm
      rw [he3] at e'
      cases e'
      exact hnf _ hd3
    have nL : a ≠ X.env.locals := fun z => nfr (by
      refine List.mem_filterMap.mpr ⟨X.env, List.mem_cons_self, ?_⟩
      rw [hf, z])
    have hBa : B.get? a = none := fl3.2.1
    have hIa : sI.heap.get? a = none := by
      cases e : sI.heap.get? a with
      | none => rfl
      | some o =>
        have := nb a o e (by rw [hs]; exact nfr)
        rw [hBa] at this
        cases this
    refine wpAny_handleBy_cons (codeAny_handlers_test ?_) (by intro q; cases q)
    have LT : PySem.W.Looks (model X.prog X.w) h3 (typeOf (.ref a)) cls := by
      intro A Q E s k q
      refine wpAny_typeOf_ref (k _ _ he3) ?_
      rw [hz3.1]
      exact q
    have LM := PySem.W.exm_one (M := model X.prog X.w) (J3.kIn) LT hb1
    have S0 : ∀ {h4 : Heap}, Inv X pins σ' H' { s' with heap := h4 } → ∀ {o : Obj} {v : Array Value}, h4.get? a = some o → Zc cls d o → o.data = .fields v → Inv (X.suite a (X.pn ++ pins)) [] σ' (upd H' a (Xo cls d a)) { s' with heap := h4 } := by
      intro h4 J4 o v e z dt
      have T := track J hex hIa J4 e z dt na nL
      exact ⟨T.ok.suite _ _, T.os, T.bare, T.base, T.loc, T.cell, T.free, T.freeC, fun p hp => T.pin p (by rwa [List.append_nil] at hp), T.hok, T.len⟩
    have S3 := S0 J3 he3 hz3 hd3
    have test : ∀ {Q : Value → Shared → Prop} {E : Value → Shared → Prop}, Q c { s' with heap := h3 } → wpAny (model X.prog X.w) (X.A.mark (some (.ref a))) (eval (.Name x np) X.env) Q E { s' with heap := h3 } := by
      intro Q E q
      rcases hc with ⟨hg, hdbg, hm | ⟨hm, hv, hnn⟩⟩
      · exact ld_glob (X := X.suite a (X.pn ++ pins)) S3 hg hm q hdbg
      · exact ld_blt (X := X.suite a (X.pn ++ pins)) S3 hg hm hv q hnn hdbg
    refine test (LM.here ?_)
    cases b with
    | true =>
      refine codeAny_handlers_suite_as (HandSPX.lands_againZ fl3 fun h4 fl4 up4 => ?_)
      have J4 : Inv X pins σ' H' { s' with heap := h4 } := J.landed nb fl4.1 ((up.trans up3).trans up4) os ag
      obtain ⟨oe4, vs4, he4, hz4, hd4⟩ := fl4.there
      have S4 := S0 J4 he4 hz4 hd4
      refine store_ok (X := X.suite a (X.pn ++ pins)) (v := .ref a) S4 hN hi (.inl hln) rfl (fun s5 S5 => ?_) (.inr hln)
      refine wpAny_mono ((hsu a (X.pn ++ pins)).run [] s5 _ _ _ S5 (hyes rfl a na)) (fun f s6 hsp => ?_) (fun _ _ z => z.elim)
      have out : ∀ {σ6 : L2.St} {H6 : Hp}, Inv (X.suite a (X.pn ++ pins)) [] σ6 H6 s6 → Inv X pins σ6 H6 s6 := fun S6 =>
        ⟨ok, S6.os, S6.bare, S6.base, S6.loc, S6.cell, S6.free, S6.freeC, fun p hp => S6.pin p (List.mem_append_left _ hp), S6.hok, S6.len⟩
      match f, hsp with
      | .next, ⟨σ6, H6, S6, q6⟩ => exact gone_ok (out S6) hN hi hln fun s7 J7 => ⟨_, _, J7, q6⟩
      | .brk, ⟨σ6, H6, S6, q6⟩ => exact gone_ok (out S6) hN hi hln fun s7 J7 => ⟨_, _, J7, q6⟩
      | .cont, ⟨σ6, H6, S6, q6⟩ => exact gone_ok (out S6) hN hi hln fun s7 J7 => ⟨_, _, J7, q6⟩
      | .ret u, ⟨v6, σ6, H6, S6, r6, q6⟩ => exact gone_ok (out S6) hN hi hln fun s7 J7 => ⟨_, _, _, J7, r6, q6⟩
    | false =>
      refine wpAny_handleBy_nil ?_
      obtain ⟨_, _, _, oe, vs, T, _, _, he, _, hd, h1, _⟩ := id fl3
      unfold PySem.passOn
      refine wpAny_bind (wpAny_field he hd h1 ?_)
      have nn : ¬ ((Value.ref T == Value.none) = true) := by simp
      rw [if_neg nn]
      have fin : wpAny (model X.prog X.w) X.A (setFlight (.ref a) X.env.frame) (fun _ s4 => wpAny (model X.prog X.w) X.A (throw (.ref a) : Sem Flow) (SP X pins D) X.xe s4) X.xe { s' with heap := h3 } := by
        rw [hf]
        refine HandSPX.setFlight_upZ fl3 fun h4 hh4 up4 => wpAny_throw (tk _ _ ⟨a, B, sI, pins, σ', H', cls, d, rfl, J, nb, (up.trans up3).trans up4, ?_, na, os, ag, hno rfl⟩)
        exact Or.inr (Or.inr (hs ▸ hh4))
      first
        | exact wpAny_bind (wpAny_pure (wpAny_bind fin))
        | exact wpAny_bind fin
  · match f, hsp with
    | .next, ⟨σ', H', J', q⟩ => exact wpAny_execs_nil ⟨σ', H', J'.ofTry ok, q⟩
    | .brk, ⟨σ', H', J', q⟩ => exact ⟨σ', H', J'.ofTry ok, q⟩
    | .cont, ⟨σ', H', J', q⟩ => exact ⟨σ', H', J'.ofTry ok, q⟩
    | .ret u, ⟨v, σ', H', J', r, q⟩ => exact ⟨v, σ', H', J'.ofTry ok, r, q⟩
end
end So

namespace So
open PySem PySem.Spec PyProof.Rows L2
/-- what an error class of the program's own says of its instances -/
structure Err (K : PySem.W.Frag) (C : Addr) : Prop where
  ga : PySem.W.findIn K (.ref C) "__getattribute__" = some (some (.builtin "BaseException.__getattribute__"))
  gg : PySem.W.findIn K (.ref C) "__getattr__" = some none
  exC : PySem.W.subIn K (.ref C) (.type "BaseException") = some true
  hdC : PySem.W.hasDictIn K C = true
  ca : PySem.W.findIn K (.ref C) "__class__" = some (some (.builtin "object.__class__"))
  cn : PySem.W.specialIn K (.builtin "object.__class__") "__get__" = some (some (.builtin "getset_descriptor.__get__"))
  ct : PySem.W.takesIn K (.builtin "object.__class__") = some true
  cm : PySem.W.mroIn K C (.type "object") = some true
section
variable {X : Cx}
/-- e.n, e an exception that is kept -/
theorem pe_xo {C : Addr} {e : Expr} {te : TE} {pos : Pos} {n : Str} (T : Err X.K C) (hno : PySem.W.findIn X.K (.ref C) n = some none) (he : PE X e te) (hb : attributeBase e n X.env (eval e X.env) = eval e X.env := by rfl) :
    PE X (.Attribute e n pos) (fun σ H Q => te σ H fun x H1 => ∃ (a dd : Addr) (fs : List (Str × V)) (v : V), x = .ref a ∧ H1 a = some (Xo (.ref C) (some dd) a) ∧ H1 dd = some (.xd fs) ∧ fs.lookup n = some v ∧ Q v H1) := by
  constructor
  intro pins s σ H Q I h
  refine attr_of hb (thn (he.run pins s σ H _ I h) fun u s1 hh => ?_)
  obtain ⟨x, H1, I1, rx, a, dd, fs, v, rfl, ha, ea, l, q⟩ := hh
  cases rx
  obtain ⟨oe, vs, hg, hz, hd⟩ := xo_at I1.hok ha
  obtain ⟨mA, hns, hr⟩ := (show ObjOk X.prog X.w H1 s1.heap dd (.xd fs) from I1.hok dd _ ea)
  obtain ⟨od, ho, hl⟩ := lookIn_ns hns
  have hrn := hr n
  rw [l] at hrn
  obtain ⟨u, hu, ru⟩ := RelO.some_of hrn
  have nc : PySem.W.notCls oe = true := by
    unfold PySem.W.notCls
    rw [hd]
  have J : PySem.W.InstAt s1.heap a oe C (some od) := by
    refine ⟨hg, hz.1, nc, ?_⟩
    rw [hz.2]
    exact ho
  have fo := PySem.W.findObj_own (K := X.K) (C := C) (od := od) (name := n) (v := u) T.hdC hno rfl (by rw [hl, hu])
  exact HandSPX.exc_get I1.kIn J T.ga T.gg T.exC fo (handed_of ru) ⟨v, H1, I1.tok _, ru, q⟩
end
/-! ### isinstance of a kept exception -/
section
open PySem.W PySem.Calls
variable {prog : Program} {w : World} {A : Around} {E : Value → Shared → Prop} {K : Frag} {x D : Addr} {ox : Obj} {od : Option Obj}
theorem err_class {Q : Option Value → Shared → Prop} (T : Err K D) (hp : Heap) (g : Array GenState) (dr : Drawn) (t : Nat) (os : OsState) (X : K.In hp) (I : InstAt hp x ox D od)
    (h : Q (some (.ref D)) ⟨hp, g, dr, t + 1, os⟩) : wpAny (model prog w) A (getAttr? (.ref x) "__class__") Q E ⟨hp, g, dr, t, os⟩ := by
  have isc : (clsIn K D).isSome = true := by
    obtain ⟨cd, hc, _⟩ := any_some T.hdC
    rw [hc]
    rfl
  have hf : findObj K D od "__class__" = some (.bind (.builtin "getset_descriptor.__get__") (.builtin "object.__class__")) := by
    cases od with
    | none => exact findObj_dataN isc T.ca T.cn T.ct
    | some o => exact findObj_data isc T.ca T.cn T.ct
  have k0 := I.type (M := model prog w)
  have k1 := looks_findIn (M := model prog w) X T.ga
  have k2 := looks_findIn (M := model prog w) X T.gg
  have k3 := looks_find (M := model prog w) X I hf
  have below : Looks (model prog w) hp (isInstance (.ref x) (.type "BaseException")) true := k0.andThen (looks_subIn X T.exC)
  have ne : (Value.builtin "BaseException.__getattribute__" == Value.builtin "object.__getattribute__") = false := by decide +kernel
  have both : (onTheHeap (Value.ref D) && Value.builtin "BaseException.__getattribute__" == Value.builtin "object.__getattribute__") = false := by
    rw [ne]
    exact Bool.and_false _
  have own : onTheHeap (Value.ref D) = true := rfl
  have noheap : (false && onTheHeap (Value.builtin "BaseException.__getattribute__")) = false := rfl
  unfold getAttr? getAttrBy? getAttrBy
  apply wpAny_bind
  apply wpAny_mkText
  apply wpAny_bind
  apply wpAny_attempt
  apply wpAny_holding
  apply wpAny_bind
  apply k0.at
  apply wpAny_bind
  apply k1.at
  show wpAny _ _ (ite ((onTheHeap (Value.ref D) && Value.builtin "BaseException.__getattribute__" == Value.builtin "object.__getattribute__") = true) _ _) _ _ _
  rw [both, if_neg (by decide)]
  unfold getAttrByItsOwn hookBefore
  apply wpAny_bind
  rw [if_pos own]
  apply k2.at
  apply wpAny_bind
  apply wpAny_attempt
  apply wpAny_holding
  unfold callGetattribute
  rw [noheap, if_neg (by decide)]
  unfold boundAndCalled
  rw [F.excAttr_ValueError.ga.bind (.ref x)]
  apply wpAny_bind
  apply wpAny_pure
  show wpAny _ _ (call (.builtin "BaseException.__getattribute__") [.ref x, .str "__class__" t]) _ _ _
  apply wpAny_call
  refine codeAny_call_builtin F.excAttr_ValueError.ga.plain F.entry_bexc_ga (@check_slot (model prog w) _ _ ⟨hp, g, dr, t + 1, os⟩ "BaseException.__getattribute__" "BaseException" "__getattribute__" (.ref x) [.str "__class__" t] [] _ (by decide +kernel) (by decide +kernel) below (F.args_bexc_ga (.ref x) (.str "__class__" t)) ?_)
  unfold Builtin.«object.__getattribute__»
  apply wpAny_bind
  refine wpAny_of_eq (a := ((Value.ref x : Value), [Value.str "__class__" t])) (by first | rfl | (simp only [slotArgs]; rfl)) ?_
  apply wpAny_bind
  apply wpAny_pure
  apply wpAny_bind
  apply k0.at
  apply wpAny_bind
  apply k3.at
  show wpAny _ _ (holding [Value.builtin "object.__class__"] (call (.builtin "getset_descriptor.__get__") [.builtin "object.__class__", .ref x, .ref D]) >>= ret) _ _ _
  apply wpAny_bind
  apply wpAny_holding
  apply wpAny_call
  refine class_get (s := ⟨hp, g, dr, t + 1, os⟩) (ox := ox) (od := od) X I T.cm (wpAny_pure ?_)
  show wpAny _ _ (handedOut (.ref D)) _ _ _
  rw [handedOut_of (v := .ref D) rfl]
  first
    | exact wpAny_pure (wpAny_pure h)
    | exact wpAny_pure h
    | exact wpAny_pure (wpAny_bind (wpAny_pure (wpAny_pure h)))
theorem kitx_err (T : Err K D) : KitX K (.ref x) (.ref D) (fun h => ∃ ox od, InstAt h x ox D od) where
  ty := fun _ _ _ ⟨_, _, I⟩ => I.type
  it := fun _ _ X _ => by
    obtain ⟨cd, hc, _⟩ := any_some T.hdC
    unfold clsIn at hc
    split at hc
    · rename_i ho
      intro A' Q' E' s' k q
      unfold isType loadHead
      exact wpAny_bind (wpAny_loadPart (k _ _ (X _ _ ho)) (wpAny_pure q))
    · cases hc
  ne := fun h tp dd its n sl X htp => by
    cases q : (Value.ref D == Value.ref tp) with
    | false => rfl
    | true =>
      have e : D = tp := Value.ref.inj (beq_iff_eq.mp q)
      subst e
      obtain ⟨cd, hc, _⟩ := any_some T.hdC
      unfold clsIn at hc
      split at hc
      · rename_i ho
        have z := (X _ _ ho).symm.trans htp
        cases z
      · cases hc
  ca := fun {prog w A E Q s} X I k => by
    obtain ⟨ox, od, I⟩ := I
    obtain ⟨hp, g, dr, t, os⟩ := s
    exact err_class T hp g dr t os X I k
end
section
variable {X : Cx}
/-- isinstance(e, c), e a kept exception, c one class -/
theorem call_isXo : CallR X (.builtin "isinstance") (fun xs H Q => ∃ (a D dd : Addr) (fs : List (Str × V)) (c : V) (u : Value) (b : Bool), xs = [.ref a, c] ∧ H a = some (Xo (.ref D) (some dd) a) ∧ H dd = some (.xd fs) ∧ Err X.K D ∧ ClsV c u ∧ PySem.W.kitOne X.K (.ref D) u = some b ∧ Q (.bl b) H) := by
  intro pins s σ H xs us Q I r h
  obtain ⟨a, D, dd, fs, c, u, b, rfl, ha, hd, T, cv, e, q⟩ := h
  obtain ⟨u1, u2, rfl, r1, r2⟩ := vals2 r
  cases r1
  have e2 := cv.eq r2
  subst e2
  obtain ⟨oe, vs, hg, hz, hdat⟩ := xo_at I.hok ha
  obtain ⟨mA, hns, _⟩ := (show ObjOk X.prog X.w H s.heap dd (.xd fs) from I.hok dd _ hd)
  obtain ⟨od, ho, _⟩ := lookIn_ns hns
  have nc : PySem.W.notCls oe = true := by
    unfold PySem.W.notCls
    rw [hdat]
  have J : PySem.W.InstAt s.heap a oe D (some od) := by
    refine ⟨hg, hz.1, nc, ?_⟩
    rw [hz.2]
    exact ho
  exact PySem.W.kia_one (kitx_err T) I.kIn ⟨oe, some od, J⟩ e (fun z => nomatch z) fun tk => ⟨.bl b, H, I.tok tk, rfl, q⟩
end
end So

namespace So
open PySem PySem.Spec PyProof.Rows L2
/-- C.m is a static method: its record at p, its def at g -/
structure Sta (K : PySem.W.Frag) (C : Addr) (mc : Value) (m : Str) (p g : Addr) : Prop where
  rd : PySem.W.readsIn K C mc = true
  ga : PySem.W.specialIn K (.ref C) "__getattribute__" = some (some (.builtin "type.__getattribute__"))
  at_ : PySem.W.findCls K (.ref C) mc m = some (.get (.builtin "staticmethod.__get__") (.ref p) .none (.ref C))
  rc : ∃ rest, PySem.W.recIn K p "staticmethod" = some (.ref g :: rest)
  kp : PySem.W.keepIn K (.ref g) = true
section
variable {X : Cx} {CX : CXT} {k : Nat} {C f p0 : Addr} {mc : Value} {fd : FuncData} {ps ks : List Str} {sp : Sp} {E : XK} {m : Str} {pos apos : Pos} {e o : Expr} {es : List Expr} {kws : List Keyword} {ta : TE} {t tk : TA}
theorem getsta_ok {pins : List (Addr × Obj)} {σ : L2.St} {H : Hp} {s : Shared} {pl : Sem Bool} {A : Around} {E' : Value → Shared → Prop} {Q : Value × List Value → Shared → Prop} (I : Inv X pins σ H s) (S : Sta X.K C mc m p0 f) (h : ∀ s', Inv X pins σ H s' → Q (.ref f, []) s') :
    wpAny (model X.prog X.w) A (getMethod (.ref C) m pl) Q E' s := by
  obtain ⟨rest, hp⟩ := S.rc
  refine PySem.W.method_cls I.kIn S.ga (PySem.W.cls_bind I.kIn S.rd S.at_ (wpAny_call (PySem.W.sm_get (s := { s with toks := s.toks + 1 }) I.kIn hp (PySem.W.handed_on rfl ?_))))
  exact h _ (I.tok _)
/-- C.m(e, ..), m static -/
theorem pe_sta {pl : Sem Bool} (he : PE X o ta) (S : Sta X.K C mc m p0 f) (F : FnOk X.prog X.w X.K X.mg X.base CX k f fd ps sp) (hr : Room k X.A) (hb : Binds X.K fd ps []) (hx : Passes CX X E) (ha : PA X (e :: es) t)
    (hst : starEach (e :: es) X.env = (false, eval e X.env) :: starEach es X.env := by rfl) (hpl : (backTo pos (starEach es X.env)).any (·.1) = false := by rfl)
    (ht : eval (.Call (.Attribute o m apos) (e :: es) [] pos) X.env = (do
      let ov ← eval o X.env
      standAt apos.atName
      let fx ← holding [ov] (getMethod ov m pl)
      callWith pos fx.1 fx.2 (backTo pos (starEach (e :: es) X.env)) (backToKw pos (keywordEach [] X.env))) := by rfl) :
    PE X (.Call (.Attribute o m apos) (e :: es) [] pos) (fun σ H Q => ta σ H fun x H1 => x = .ref C ∧ t σ H1 fun vs H2 => sp vs H2 Q E) := by
  constructor
  intro pins s σ H Q I h
  refine PySem.W.methodCall_KW (pl := pl) (thn (he.run pins s σ H _ I h) fun u s1 z => ?_) ht
  obtain ⟨x, H1, I1, rx, rfl, q⟩ := z
  cases rx
  refine getsta_ok I1 S fun s2 I2 => PySem.W.callWith_K (first := []) (h₀ := X.base) I2.ok.mod.kin S.kp (thn (ha.run pos pins s2 σ H1 _ I2 q) fun us s3 z => ?_) hst hpl
  obtain ⟨vs, H2, I3, r, q2⟩ := z
  refine ⟨I3.kIn, ?_⟩
  have q3 : sp (vs ++ []) H2 Q E := by
    rw [List.append_nil]
    exact q2
  exact run_fn F hr hb .nil hx I3 r q3
/-- C.m(k = v, ..), m static, keywords alone -/
theorem pe_staK {g : List Value → List Value → List Value} {gV : List V → List V → List V} {pl : Sem Bool} (he : PE X o ta) (S : Sta X.K C mc m p0 f) (F : FnOk X.prog X.w X.K X.mg X.base CX k f fd ps sp) (hr : Room k X.A) (hb : KBinds X.K fd ps ks g gV) (hx : Passes CX X E)
    (hkw : PK X kws tk) (hall : (backToKw pos (keywordEach kws X.env)).all (·.1.isSome) = true := by rfl) (hks : (backToKw pos (keywordEach kws X.env)).filterMap (·.1) = ks := by rfl)
    (hpl : ((backTo pos (starEach [] X.env)).any (·.1) || (backToKw pos (keywordEach kws X.env)).any (·.1.isNone)) = false := by rfl)
    (ht : eval (.Call (.Attribute o m apos) [] kws pos) X.env = (do
      let ov ← eval o X.env
      standAt apos.atName
      let fx ← holding [ov] (getMethod ov m pl)
      callWith pos fx.1 fx.2 (backTo pos (starEach [] X.env)) (backToKw pos (keywordEach kws X.env))) := by rfl) :
    PE X (.Call (.Attribute o m apos) [] kws pos) (fun σ H Q => ta σ H fun x H1 => x = .ref C ∧ tk σ H1 fun zs H2 => sp (gV [] zs) H2 Q E) := by
  constructor
  intro pins s σ H Q I h
  refine PySem.W.methodCall_KW (pl := pl) (thn (he.run pins s σ H _ I h) fun u s1 z => ?_) ht
  obtain ⟨x, H1, I1, rx, rfl, q⟩ := z
  cases rx
  refine getsta_ok I1 S fun s2 I2 => PySem.W.callWith_KW0 (first := []) (h₀ := X.base) I2.ok.mod.kin S.kp hall (thn (hkw.run pos pins s2 σ H1 _ I2 q) fun ws s3 z => ?_) hpl
  obtain ⟨zs, H2, I3, rz, q2⟩ := z
  refine ⟨I3.kIn, ?_⟩
  rw [hks]
  exact run_fnk (us := []) (vs := []) F hr hb hx I3 .nil rz q2
/-- ~o by an own __invert__ -/
theorem un_invOwn (F : FnOk X.prog X.w X.K X.mg X.base CX k f fd ps sp) (hs : PySem.W.findIn X.K (.ref C) "__invert__" = some (some (.ref f))) (hf : PySem.W.isFn X.K (.ref f) = true) (hb : Binds X.K fd ps []) (hx : Passes CX X E) (hr : Room k X.A) :
    UnR X (unaryOp .Invert) (fun x H Q => ∃ a dx fs, x = .ref a ∧ H a = some (.ins C dx fs) ∧ sp [.ref a] H Q E) := by
  intro pins s σ H x v Q I rx h
  obtain ⟨a, dx, fs, rfl, ha, q⟩ := h
  cases rx
  obtain ⟨mA, J, _⟩ := ins_get I.hok ha
  obtain ⟨od, J, _⟩ := J.look
  obtain ⟨m, hF⟩ := I.fr
  refine PySem.W.ksp_inv hF I.ok.mod.kin J hs hf ?_
  exact run_fn (us := [.ref a]) (vs := [.ref a]) F hr hb .nil hx I (.cons rfl .nil) q
end
end So

namespace So
open PySem PySem.Spec PyProof.Rows L2
/-! ### own errors with one field -/
/-- the __init__ of such an error: the field is what was passed -/
def spOneE (C : Addr) (n : Str) : Sp := fun vs H Q _ => ∃ (a : Addr) (v : V), vs = [.ref a, v] ∧ H a = some (exo a C none) ∧ ∀ dx, H dx = none → dx ≠ a → Q .non (upd (upd H dx (exd dx [(n, v)])) a (exo a C (some dx)))
/-- what the top says of such an error: its class at C, named x, its field n, its __init__ at f -/
structure OneE (K : PySem.W.Frag) (mg : Str → Option Value) (x n : Str) (C f : Addr) (fd : FuncData) : Prop where
  T : OexC K C
  iC : PySem.W.findIn K (.ref C) "__init__" = some (some (.ref f))
  tI : PySem.W.typeIn K (.ref f) = some (.type "function")
  mgC : mg x = some (.ref C)
  no : PySem.W.findIn K (.ref C) n = some none
  err : Err K C
  hb : Binds K fd ["self", n] []
/-- behind C(v) -/
theorem mkOne {C : Addr} {n : Str} {vs : List V} {v : V} {H1 : Hp} {Q : XK} (e : vs = [v]) (h : ∀ d H', Same H1 H' → H1 d = none → H' d = some (.xd [(n, v)]) → Q (.ref C) (some d) H') :
    vs.length ≤ 1000 ∧ ∀ a, H1 a = none → spOneE C n (.ref a :: (vs ++ [])) (upd H1 a (exo a C none))
      (fun v H2 => v = .non ∧ ∃ (d : Addr) (fs : List (Str × V)), H2 a = some (exo a C (some d)) ∧ H2 d = some (exd d fs) ∧ H1 d = none ∧ Q (.ref C) (some d) (upd (del H2 a) d (.xd fs))) (fun _ _ _ => False) := by
  subst e
  refine ⟨by show 1 ≤ 1000; decide, fun a ha => ⟨a, v, rfl, upd_same, fun dx hdx ne => ⟨rfl, dx, [(n, v)], upd_same, ?_, ?_, h dx _ (fun b o hb => ?_) ?_ upd_same⟩⟩⟩
  · rw [upd_ne ne, upd_same]
  · rw [upd_ne ne] at hdx
    exact hdx
  · rw [upd_ne ne] at hdx
    have hba : b ≠ a := ne_of_none hb ha
    have hbd : b ≠ dx := ne_of_none hb hdx
    rw [upd_ne hbd, del_ne hba, upd_ne hba, upd_ne hbd, upd_ne hba]
    exact hb
  · rw [upd_ne ne] at hdx
    exact hdx
section
variable {X : Cx} {x n : Str} {C f : Addr} {fd : FuncData} {ta : TA} {e : Expr} {p pos pos2 : Pos}
theorem pmk_one (O : OneE X.K X.mg x n C f fd) (F : FnOk X.prog X.w X.K X.mg X.base CX0 1 f fd ["self", n] (spOneE C n)) (hr : Room 2 X.A) (hg : Gl X x) (ha : PA X [e] ta)
    (hdb : (x == ("__debug__" : Str)) = false := by decide) (he : starEach [e] X.env = (false, eval e X.env) :: starEach [] X.env := by rfl) (hpl : (backTo pos (starEach [] X.env)).any (·.1) = false := by rfl) :
    PMk X (.Call (.Name x p) [e] [] pos) (tMkO C (spOneE C n) [] ta) :=
  pmk_oex O.T O.iC O.tI F hr O.hb .nil (fun _ _ _ _ _ _ _ h => h.elim) hg O.mgC ha hdb he hpl
/-- raise C(e) -/
theorem ps_raiseOne {W : WX} (O : OneE X.K X.mg x n C f fd) (F : FnOk X.prog X.w X.K X.mg X.base CX0 1 f fd ["self", n] (spOneE C n)) (hc : X.calm = true) (hr : Room 2 X.A) (tk : Takes X W) (hg : Gl X x) (ha : PA X [e] ta)
    (hdb : (x == ("__debug__" : Str)) = false := by decide) (he : starEach [e] X.env = (false, eval e X.env) :: starEach [] X.env := by rfl) (hpl : (backTo pos (starEach [] X.env)).any (·.1) = false := by rfl) :
    PS X (.Raise (some (.Call (.Name x p) [e] [] pos)) none pos2) (fun _ σ H => tMkO C (spOneE C n) [] ta σ H fun cls d H' => W cls d σ H') := ps_raise hc tk (pmk_one O F hr hg ha hdb he hpl)
end

/-! ### repr of data, of a tuple of a text and an empty dict -/
section
variable {X : Cx}
theorem call_reprT (hg : X.A.guards = some []) (hu : X.A.units + 64 < cLine) : CallR X (.builtin "repr") (fun xs H Q => ∃ (r a : Addr) (w : Str), xs = [.ref r] ∧ SqT X.K H r [.str w, .ref a] ∧ H a = some (.dK []) ∧ (PyData.tuple [.str w, .dict []]).shown.length ≤ sizeLine ∧ Q (.str (PyData.tuple [.str w, .dict []]).shown) H) := by
  intro pins s σ H xs us Q I r h
  obtain ⟨rr, a, w, rfl, ht, ha, hz, q⟩ := h
  obtain ⟨u, rfl, rv⟩ := vals1 r
  cases rv
  obtain ⟨its, rw', ⟨o, ho, hc, n, hd⟩, _⟩ := I.tuple ht
  obtain ⟨hz2, hsm, vs, hk, hD⟩ : ([] : List (Key × V)).length ≤ sizeLine ∧ (a == sysModules) = false ∧ ∃ vs, KV [] vs ∧ s.heap.DictOf (mixKind X.prog X.w) a vs := I.hok a _ ha
  obtain ⟨u1, u2, rfl, r1, r2⟩ := vals2 rw'
  obtain ⟨t1, rfl⟩ := r1
  cases r2
  obtain ⟨o2, es, ep, e1, e2, e3, _, e5, _⟩ := hD
  cases hk
  have es0 : es.toList = [] := by
    cases h : es.toList with
    | nil => rfl
    | cons y ys =>
      rw [h] at e5
      cases e5
  have rdD : Reads s.heap (.ref a) (.dict []) (a :: [] ++ []) := Reads.dict (kvs := []) e1 e2.1 e3 (by rw [es0]; exact ReadsAll.nil) (by rw [es0]; exact ReadsAll.nil)
  have rd : Reads s.heap (.ref rr) (.tuple [.str w, .dict []]) ([] ++ ((a :: [] ++ []) ++ [])) := Reads.tuple ho hc hd (ReadsAll.cons (Reads.str w t1) (ReadsAll.cons rdD ReadsAll.nil))
  refine repr_of_reads' rd rfl (fun _ z => ?_) hg (by show X.A.units + (2 + 1) < cLine; omega) (fun _ _ e => e) (fun h' t tk k => ?_) hz
  · have : sysModules = a := by simpa using z
    rw [this] at hsm
    simp at hsm
  · exact ⟨.str _, H, I.kept k, ⟨t, rfl⟩, q⟩
theorem CallR.or {b : Value} {r r' : List V → Hp → VK → Prop} (h : CallR X b r) (h' : CallR X b r') : CallR X b (fun xs H Q => r xs H Q ∨ r' xs H Q) := by
  intro pins s σ H xs us Q I rv q
  exact q.elim (h pins s σ H xs us Q I rv) (h' pins s σ H xs us Q I rv)
end
end So

namespace K12
open PySem PySem.Spec PyProof.Rows L2 So
/-! ### the text -/
def topS (i : Nat) : Stmt := PySem.Challenge.pw_soundtill_k12_rows_refused.main.body.getD i (.Pass ⟨0, 0, 0, 0⟩)
abbrev sPen : Stmt := topS 45
abbrev sDraw : Stmt := topS 46
abbrev sPick : Stmt := topS 47
theorem scPen : FnScope ["_law_script"] ["_law_script"] (defScope sPen) := ⟨rfl, rfl, rfl, by decide +kernel, rfl, by decide +kernel, by decide +kernel⟩
theorem scDraw : FnScope ["_law_pen_here", "_law_many", "_law_digit", "_law_at", "_law_cell", "_law_great", "_law_mixed"] ["_law_pen_here", "_law_many"] (defScope sDraw) := ⟨rfl, rfl, rfl, by decide +kernel, rfl, by decide +kernel, by decide +kernel⟩
theorem scPick : FnScope ["_law_pen_here", "_law_some"] ["_law_pen_here", "_law_some"] (defScope sPick) := ⟨rfl, rfl, rfl, by decide +kernel, rfl, by decide +kernel, by decide +kernel⟩

/-! ### the pen -/
/-- the pen at p: the cells at l, how many were begun, what is left of a great one -/
structure Pen (H : Hp) (p l : Addr) (ns : List Int) (n : Nat) (g : Int) : Prop where
  pen : H p = some (.lst [.ref l, .int n, .int g])
  cells : H l = some (.lst (ns.map V.int))
  left : 0 ≤ g
/-- all that was tracked beside p is as it was -/
def Off (p : Addr) (H H' : Hp) : Prop := ∀ b o, b ≠ p → H b = some o → H' b = some o
theorem Off.refl {p : Addr} {H : Hp} : Off p H H := fun _ _ _ e => e
theorem Off.trans {p : Addr} {H H1 H2 : Hp} (a : Off p H H1) (b : Off p H1 H2) : Off p H H2 := fun c o n e => b c o n (a c o n e)
theorem Off.upd {p : Addr} {H H1 : Hp} {o : HO} (a : Off p H H1) : Off p H (upd H1 p o) := fun c u n e => by
  rw [upd_ne n]
  exact a c u n e
theorem Off.new {p q : Addr} {H H1 : Hp} {o : HO} (a : Off p H H1) (h : H1 q = none) : Off p H (L2.upd H1 q o) := fun c u n e => by
  have e1 := a c u n e
  rw [upd_ne (ne_of_none e1 h)]
  exact e1
theorem dp_ints {K : PySem.W.Frag} {H : Hp} : ∀ ns : List Int, DpAll K H (ns.map V.int) (ns.map PyData.int)
  | [] => .nil
  | n :: r => .cons (.int n) (dp_ints r)
theorem depth_ints : ∀ ns : List Int, PyData.depthAll (ns.map PyData.int) ≤ 1
  | [] => by simp [PyData.depthAll]
  | n :: r => by
    have h := depth_ints r
    simp only [List.map_cons, PyData.depthAll, PyData.depth]
    omega
theorem shaped_ints (ns : List Int) : SeqAt.shaped (.list (ns.map PyData.int)) = true := by
  unfold SeqAt.shaped
  rw [Bool.and_eq_true]
  have hd := depth_ints ns
  refine ⟨?_, decide_eq_true ?_⟩
  · show PyData.canLay0 _ = true
    simp only [PyData.canLay0]
    induction ns with
    | nil => rfl
    | cons a r ih => simpa [PyData.canLayAll0, PyData.canLay0] using ih (depth_ints r)
  · simp only [PyData.depth]
    omega
theorem Pen.apart {H : Hp} {p l : Addr} {ns : List Int} {n : Nat} {g : Int} (h : Pen H p l ns n g) : l ≠ p := by
  refine ne_of h.cells h.pen (fun z => ?_)
  injection z with z
  cases ns with
  | nil => cases z
  | cons a r => cases z
theorem eqv_nil (ds : List PyData) : PyData.eqv (.list ds) (.list []) = ds.isEmpty := by
  cases ds <;> simp [PyData.eqv, PyData.eqvAll]
section
variable {P : Program} {w : World} {K : PySem.W.Frag} {mg : Str → Option Value} {base : Heap}
def spDraw : Sp := fun vs H Q _ => ∃ (p l : Addr) (ns : List Int) (n : Nat) (g many : Int), vs = [.ref p, .int many] ∧ Pen H p l ns n g ∧ n < 1000000 ∧ 0 < many ∧ many.natAbs < 2 ^ 200 ∧
  ∀ (d : Int) (n' : Nat) (g' : Int) (H' : Hp), 0 ≤ d → d < many → n' ≤ n + 1 → Off p H H' → Pen H' p l ns n' g' → Q (.int d) H'
theorem ok_draw {f : Addr} {fd : FuncData} (F : Fun K "_law_draw" "_law_draw" sDraw f fd) (ml : mg "len" = none) (mi : mg "int" = none) (ma : mg "abs" = none) : FnOk P w K mg base CX0 1 f fd ["_law_pen_here", "_law_many"] spDraw := by
  refine F.ok scDraw (fun vs H Q E h => ?_) (fun cdv A outer s H vs Q E hr h => ?_)
  · obtain ⟨p, l, ns, n, g, many, rfl, _⟩ := h
    rfl
  · obtain ⟨p, l, ns, n, g, many, rfl, hp, hn, hm, hm2, q⟩ := h
    refine ⟨_, pss_cons (ps_if (pt_cmpR op_gt (pe_ix ix_list (pv 0) pe_int (fun _ _ => rfl)) pe_int (nomark _))
        (pss_cons (ps_set (i := 2) scDraw.nd rfl (.inl rfl) (pe_op op_mod (pe_callTy call_int1 (by rfl) mi (by decide +kernel) (pa_cons (pe_ix ix_list (pv 0) pe_int (fun _ _ => rfl)) pa_nil)) (pv 1)))
        (pss_cons (ps_asg (pe_op op_fdivW (pe_callTy call_int1 (by rfl) mi (by decide +kernel) (pa_cons (pe_ix ix_list (pv 0) pe_int (fun _ _ => rfl)) pa_nil)) (pv 1)) (pg_sub (pv 0) pe_int set_list))
        (pss_one (ps_ret (pv 2))))) pss_nil)
      (pss_cons (ps_set (i := 3) scDraw.nd rfl (.inl rfl) (pe_ix ix_list (pv 0) pe_int (fun _ _ => rfl)))
      (pss_cons (ps_asg (pe_op op_add (pv 3) pe_int) (pg_sub (pv 0) pe_int set_list))
      (pss_cons (ps_set (i := 4) scDraw.nd rfl (.inl rfl) (pe_op op_add (pe_op op_mul pe_int (pv 3)) pe_int))
      (C8.pss_cut (ps_if (pt_cmpR (op_neD (by have := hr.units; exact this)) (pe_ix ix_list (pv 0) pe_int (fun _ _ => rfl)) (pe_lst pa_nil) (nomark _))
        (pss_one (ps_set (i := 4) scDraw.nd rfl (.inl rfl) (pe_ix ix_list (pe_ix ix_list (pv 0) pe_int (fun _ _ => rfl)) (pe_op op_mod (pe_callTy call_int1 (by rfl) mi (by decide +kernel) (pa_cons (pv 3) pa_nil)) (pe_callB call_len_seq (by rfl) ml PySem.boot_len (pa_cons (pe_ix ix_list (pv 0) pe_int (fun _ _ => rfl)) pa_nil))) (fun _ _ => rfl)))) pss_nil)
      (pss_cons (ps_if (PW.pt (pw_and (pt_cmpR op_lt (pv 3) (pe_callB call_len_seq (by rfl) ml PySem.boot_len (pa_cons (pe_ix ix_list (pv 0) pe_int (fun _ _ => rfl)) pa_nil)) (nomark _))
            (pw_and1 (pt_cmpR op_ge (pe_callB call_abs (by rfl) ma (by decide +kernel) (pa_cons (pv 4) pa_nil)) (pe_op op_pow pe_int pe_int) (nomark _)))))
        (pss_cons (ps_set (i := 5) scDraw.nd rfl (.inl rfl) (pe_op op_add (pe_op op_mul pe_int (pe_op op_sub (pe_callB call_abs (by rfl) ma (by decide +kernel) (pa_cons (pv 4) pa_nil)) (pe_op op_pow pe_int pe_int)))
            (pe_callTy call_int1 (by rfl) mi (by decide +kernel) (pa_cons (pe_cmpR op_lt (pv 4) pe_int (nomark _)) pa_nil))))
        (pss_cons (ps_asg (pe_op op_fdivW (pe_callTy call_int1 (by rfl) mi (by decide +kernel) (pa_cons (pv 5) pa_nil)) (pv 1)) (pg_sub (pv 0) pe_int set_list))
        (pss_one (ps_ret (pe_op op_mod (pe_callTy call_int1 (by rfl) mi (by decide +kernel) (pa_cons (pv 5) pa_nil)) (pv 1)))))) pss_nil)
      (pss_cons (ps_set (i := 6) scDraw.nd rfl (.inl rfl) (pe_op op_mod (pe_callTy call_int1 (by rfl) mi (by decide +kernel) (pa_cons
          (pe_op op_pow (pe_op op_add (pe_op op_add (pe_op op_mod (pe_callTy call_int1 (by rfl) mi (by decide +kernel) (pa_cons (pv 4) pa_nil)) pe_int) (pe_op op_mul pe_int (pv 3))) pe_int) pe_int) pa_nil)) pe_int))
      (pss_cons (ps_set (i := 6) scDraw.nd rfl (.inl rfl) (pe_op op_mod (pe_callTy call_int1 (by rfl) mi (by decide +kernel) (pa_cons
          (pe_op op_pow (pe_op op_add (pe_op op_add (pe_op op_mul (pv 6) (pe_op op_add (pe_op op_mul pe_int (pv 3)) pe_int)) (pe_op op_mul (pe_op op_mul pe_int (pv 3)) (pv 3))) pe_int) pe_int) pa_nil)) pe_int))
      (pss_one (ps_ret (pe_op op_mod (pe_callTy call_int1 (by rfl) mi (by decide +kernel) (pa_cons (pe_op op_fdiv (pv 6) pe_int) pa_nil)) (pv 1))))))))))), ?_⟩
    have hP : SqL K H p [.ref l, .int n, .int g] := SqL.of hp.pen
    refine ⟨_, rfl, p, _, 2, _, rfl, rfl, hP, atI_nat (j := 2) rfl, _, _, rfl, rfl, _, rfl, ite2 (fun e => ?_) (fun e => ?_)⟩
    · refine ⟨_, rfl, p, _, 2, _, rfl, rfl, hP, atI_nat (j := 2) rfl, .inl ⟨_, rfl, _, rfl, _, _, rfl, rfl, hm, ?_⟩⟩
      refine ⟨_, rfl, p, _, 2, _, rfl, rfl, hP, atI_nat (j := 2) rfl, .inl ⟨_, rfl, _, rfl, _, _, rfl, rfl, wide_div hm hm2 (by decide) (by decide), _, rfl, p, _, 2, 2, rfl, rfl, hp.pen, rfl, ?_⟩⟩
      refine ⟨_, rfl, q _ n (g / many) _ (Int.emod_nonneg _ (Int.ne_of_gt hm)) (Int.emod_lt_of_pos _ hm) (by omega) Off.refl.upd ⟨upd_same, (upd_ne hp.apart).trans hp.cells, Int.ediv_nonneg hp.left (Int.le_of_lt hm)⟩⟩
    · refine ⟨_, rfl, p, _, 1, _, rfl, rfl, hP, atI_nat (j := 1) rfl, ?_⟩
      refine ⟨_, rfl, _, _, rfl, rfl, _, rfl, p, _, 1, 1, rfl, rfl, hp.pen, rfl, ?_⟩
      have hP1 : (upd H p (.lst [.ref l, .int (n + 1), .int g])) p = some (.lst [.ref l, .int (n + 1), .int g]) := upd_same
      have hL1 : (upd H p (.lst [.ref l, .int (n + 1), .int g])) l = some (.lst (ns.map V.int)) := (upd_ne hp.apart).trans hp.cells
      have hO1 : Off p H (upd H p (.lst [.ref l, .int (n + 1), .int g])) := Off.refl.upd
      refine ⟨_, rfl, _, _, rfl, rfl, .inl ⟨by decide, by decide⟩, _, _, rfl, rfl, ?_⟩
      refine ⟨fun σ' H2 => ∃ c : Int, σ' = [some (.ref p), some (.int many), none, some (.int n), some (.int c), none, none] ∧ H2 p = some (.lst [.ref l, .int (n + 1), .int g]) ∧ H2 l = some (.lst (ns.map V.int)) ∧ Off p H H2, ?_, ?_⟩
      · refine ⟨_, rfl, p, _, 0, _, rfl, rfl, SqL.of hP1, atI_nat (j := 0) rfl, Nat.zero_le _, fun z hz => ?_⟩
        have hP2 := (upd_ne (o := .lst []) (ne_of_none hP1 hz)).trans hP1
        have hL2 := (upd_ne (o := .lst []) (ne_of_none hL1 hz)).trans hL1
        refine ⟨.list (ns.map PyData.int), .list [], .lst (SqL.of hL2) (dp_ints ns), .lst (SqL.of upd_same) .nil, shaped_ints ns, by decide, _, rfl, ite2 (fun e1 => ?_) (fun e1 => ?_)⟩
        · rw [eqv_nil] at e1
          have hlen : 0 < ns.length := by
            cases ns with
            | nil => cases e1
            | cons a r => exact Nat.succ_pos _
          have hlt : n % ns.length < ns.length := Nat.mod_lt _ hlen
          refine ⟨_, rfl, p, _, 0, _, rfl, rfl, SqL.of hP2, atI_nat (j := 0) rfl, _, rfl, .inl ⟨_, rfl, _, rfl, p, _, 0, _, rfl, rfl, SqL.of hP2, atI_nat (j := 0) rfl, l, _, rfl, .inl (SqL.of hL2), _, _, rfl, rfl, (by rw [List.length_map]; omega), l, _, _, .int ns[n % ns.length], rfl, rfl, SqL.of hL2, ?_, ?_⟩⟩
          · have e2 : ((n : Int) % (((ns.map V.int).length : Nat) : Int)) = ((n % ns.length : Nat) : Int) := by
              rw [List.length_map]
              exact (Int.natCast_emod n ns.length).symm
            rw [e2]
            refine atI_nat ?_
            rw [List.getElem?_map, List.getElem?_eq_getElem hlt]
            rfl
          · exact ⟨_, rfl, hP2, hL2, hO1.new hz⟩
        · exact ⟨_, rfl, hP2, hL2, hO1.new hz⟩
      · rintro σ' H2 ⟨c, rfl, hP2, hL2, hO2⟩
        have hmix : ∀ t : Int, 0 ≤ t % many ∧ t % many < many := fun t => ⟨Int.emod_nonneg _ (Int.ne_of_gt hm), Int.emod_lt_of_pos _ hm⟩
        have bm : ∀ Y : Int, 0 ≤ Y % 2147483587 ∧ Y % 2147483587 < 2147483587 := fun Y => ⟨Int.emod_nonneg _ (by decide), Int.emod_lt_of_pos _ (by decide)⟩
        have bd : ∀ Y : Int, -(2 ^ 64) < Y % 2147483587 ∧ Y % 2147483587 < 2 ^ 64 := fun Y => by
          have := bm Y
          omega
        have key : ∀ Y : Int, ((Y % 2147483587) * (2 * (n : Int) + 61) + 53327 * (n : Int) * (n : Int) + 29).natAbs < 2 ^ 64 := by
          intro Y
          have b2 := bm Y
          revert b2
          generalize Y % 2147483587 = m1
          intro b2
          have b3 : 0 ≤ m1 * (2 * (n : Int) + 61) ∧ m1 * (2 * (n : Int) + 61) ≤ 2147483587 * 2000061 := ⟨Int.mul_nonneg b2.1 (by omega), Int.mul_le_mul (by omega) (by omega) (by omega) (by decide)⟩
          have b4 : 0 ≤ 53327 * (n : Int) * (n : Int) ∧ 53327 * (n : Int) * (n : Int) ≤ (53327 * 1000000) * 1000000 := ⟨Int.mul_nonneg (by omega) (by omega), Int.mul_le_mul (by omega) (by omega) (by omega) (by decide)⟩
          omega
        refine ⟨_, rfl, _, rfl, p, _, 0, _, rfl, rfl, SqL.of hP2, atI_nat (j := 0) rfl, l, _, rfl, .inl (SqL.of hL2), _, _, rfl, rfl, _, rfl, ite2 (fun e1 => ⟨_, rfl, _, rfl, _, _, rfl, rfl, ⟨by decide, by decide, by decide⟩, _, _, rfl, rfl, _, rfl, ite2 (fun e2 => ?great) (fun e2 => ?late)⟩) (fun e1 => ?small)⟩
        case great =>
          have e3 : (10 : Int) ^ (18 : Int).toNat ≤ (if c < 0 then -c else c) := of_decide_eq_true e2
          refine ⟨_, rfl, _, rfl, _, _, rfl, rfl, ⟨by decide, by decide, by decide⟩, _, _, rfl, rfl, _, _, rfl, rfl, .inl ⟨by decide, by decide⟩, _, rfl, _, _, rfl, rfl, .inr ⟨_, rfl, _, _, rfl, rfl, ?_⟩⟩
          have hG : ∀ k : Bool, 0 ≤ 2 * ((if c < 0 then -c else c) - (10 : Int) ^ (18 : Int).toNat) + (if k = true then (1 : Int) else 0) := by
            intro k
            have : (0 : Int) ≤ (if k = true then (1 : Int) else 0) := by cases k <;> decide
            omega
          have hG1 := hG (decide (c < 0))
          refine ⟨_, rfl, .inl ⟨_, rfl, _, rfl, _, _, rfl, rfl, wide_div hm hm2 (by decide) (by decide), _, rfl, p, _, 2, 2, rfl, rfl, hP2, rfl, ?_⟩⟩
          exact ⟨_, rfl, .inl ⟨_, rfl, _, rfl, _, _, rfl, rfl, hm, q _ (n + 1) _ _ (hmix _).1 (hmix _).2 (Nat.le_refl _) hO2.upd ⟨upd_same, (upd_ne (Pen.apart ⟨hP2, hL2, hp.left⟩)).trans hL2, Int.ediv_nonneg hG1 (Int.le_of_lt hm)⟩⟩⟩
        all_goals
          have b1 : 0 ≤ c % 2147483549 ∧ c % 2147483549 < 2147483549 := ⟨Int.emod_nonneg _ (by decide), Int.emod_lt_of_pos _ (by decide)⟩
          refine ⟨_, rfl, .inl ⟨_, rfl, _, _, rfl, rfl, (by decide : (0 : Int) < 2147483549), _, rfl, _, _, rfl, rfl, .inl ⟨by decide, by decide⟩, _, _, rfl, rfl, _, _, rfl, rfl, _, _, rfl, rfl, ⟨by decide, by decide, ?_⟩, .inl ⟨_, rfl, _, _, rfl, rfl, (by decide : (0 : Int) < 2147483587), ?_⟩⟩⟩
          · omega
          refine ⟨_, rfl, _, rfl, _, _, rfl, rfl, .inl ⟨by decide, by decide⟩, _, _, rfl, rfl, _, _, rfl, rfl, .inl (bd _), _, rfl, _, _, rfl, rfl, .inl ⟨by decide, by decide⟩, _, rfl, _, _, rfl, rfl, .inr ⟨?_, ?_⟩, _, _, rfl, rfl, _, _, rfl, rfl, _, _, rfl, rfl, ⟨by decide, by decide, key _⟩, .inl ⟨_, rfl, _, _, rfl, rfl, (by decide : (0 : Int) < 2147483629), ?_⟩⟩
          · omega
          · omega
          exact ⟨_, rfl, _, _, rfl, rfl, ⟨by decide, by decide⟩, .inl ⟨_, rfl, _, rfl, _, _, rfl, rfl, hm, q _ (n + 1) g H2 (hmix _).1 (hmix _).2 (Nat.le_refl _) hO2 ⟨hP2, hL2, hp.left⟩⟩⟩


/-- one of a list's things, one of a text's signs -/
def spPick (K : PySem.W.Frag) : Sp := fun vs H Q _ => ∃ (p l : Addr) (ns : List Int) (n : Nat) (g : Int) (y : V), vs = [.ref p, y] ∧ Pen H p l ns n g ∧ n < 1000000 ∧
  ((∃ (q : Addr) (xs : List V), y = .ref q ∧ q ≠ p ∧ H q = some (.lst xs) ∧ 0 < xs.length ∧ xs.length ≤ 1000 ∧
    ∀ (v : V) (n' : Nat) (g' : Int) (H' : Hp), v ∈ xs → n' ≤ n + 1 → Off p H H' → Pen H' p l ns n' g' → Q v H') ∨
   (∃ z : Str, y = .str z ∧ 0 < z.length ∧ z.length ≤ 1000 ∧
    ∀ (c : Nat) (n' : Nat) (g' : Int) (H' : Hp), c ∈ z.cps.toList → n' ≤ n + 1 → Off p H H' → Pen H' p l ns n' g' → Q (.str (⟨#[c]⟩)) H'))
theorem ok_pick {f fD : Addr} {fd fdD : FuncData} (F : Fun K "_law_pick" "_law_pick" sPick f fd) (ml : mg "len" = none) (FD : Fun K "_law_draw" "_law_draw" sDraw fD fdD) (bD : Binds K fdD ["_law_pen_here", "_law_many"] []) (gD : mg "_law_draw" = some (.ref fD))
    (GD : FnOk P w K mg base CX0 1 fD fdD ["_law_pen_here", "_law_many"] spDraw) : FnOk P w K mg base CX0 2 f fd ["_law_pen_here", "_law_some"] (spPick K) := by
  refine F.ok scPick (fun vs H Q E h => ?_) (fun cdv A outer s H vs Q E hr h => ?_)
  · obtain ⟨p, l, ns, n, g, y, rfl, _⟩ := h
    rfl
  · obtain ⟨p, l, ns, n, g, y, rfl, hp, hn, k⟩ := h
    refine ⟨_, pss_one (ps_ret (pe_ix (ix_list.or ix_str) (pv 1) (pe_call GD hr (by rfl) gD FD.kp bD .nil pass0 (pa_cons (pv 0) (pa_cons (pe_callB (So.CallR.or call_len_seq call_len_str) (by rfl) ml PySem.boot_len (pa_cons (pv 1) pa_nil)) pa_nil))) (fun _ _ => rfl))), ?_⟩
    rcases k with ⟨q, xs, rfl, hne, hq, h0, h1, k⟩ | ⟨z, rfl, h0, h1, k⟩
    · refine ⟨_, rfl, _, rfl, _, rfl, .inl ⟨q, _, rfl, .inl (SqL.of hq), p, l, ns, n, g, _, rfl, hp, hn, by omega, ?_, ?_⟩⟩
      · have : ((xs.length : Nat) : Int).natAbs = xs.length := Int.natAbs_natCast _
        rw [this]
        exact Nat.lt_of_le_of_lt h1 (by decide)
      · intro d n' g' H' d0 d1 hn' off pen
        obtain ⟨j, rfl⟩ : ∃ j : Nat, d = j := ⟨d.toNat, by omega⟩
        have hlt : j < xs.length := by omega
        exact .inl ⟨q, xs, j, xs[j], rfl, rfl, SqL.of (off q _ hne hq), atI_nat (List.getElem?_eq_getElem hlt), k _ n' g' H' (List.getElem_mem hlt) hn' off pen⟩
    · refine ⟨_, rfl, _, rfl, _, rfl, .inr ⟨z, rfl, Nat.le_trans h1 (by decide), p, l, ns, n, g, _, rfl, hp, hn, by omega, ?_, ?_⟩⟩
      · have : ((z.length : Nat) : Int).natAbs = z.length := Int.natAbs_natCast _
        rw [this]
        exact Nat.lt_of_le_of_lt h1 (by decide)
      · intro d n' g' H' d0 d1 hn' off pen
        obtain ⟨j, rfl⟩ : ∃ j : Nat, d = j := ⟨d.toNat, by omega⟩
        have hz : z.length = z.cps.toList.length := Array.length_toList.symm
        have hlt : j < z.cps.toList.length := by omega
        exact .inr ⟨z, j, z.cps.toList[j], rfl, rfl, Nat.le_trans h1 (by decide), atI_nat (List.getElem?_eq_getElem hlt), k _ n' g' H' (List.getElem_mem hlt) hn' off pen⟩
theorem Pen.new {H : Hp} {p l q : Addr} {ns : List Int} {n : Nat} {g : Int} {o : HO} (h : Pen H p l ns n g) (hq : H q = none) : Pen (upd H q o) p l ns n g :=
  ⟨(upd_ne (ne_of_none h.pen hq)).trans h.pen, (upd_ne (ne_of_none h.cells hq)).trans h.cells, h.left⟩
end
end K12

namespace K12
open PySem PySem.Spec PyProof.Rows L2 So
abbrev sWhole : Stmt := topS 14
abbrev sMoment : Stmt := topS 15
abbrev sName : Stmt := topS 16
abbrev sCheck : Stmt := topS 17
abbrev sWordOf : Stmt := topS 24
theorem scWhole : FnScope ["value"] ["value"] (defScope sWhole) := ⟨rfl, rfl, rfl, by decide +kernel, rfl, by decide +kernel, by decide +kernel⟩
theorem scMoment : FnScope ["value"] ["value"] (defScope sMoment) := ⟨rfl, rfl, rfl, by decide +kernel, rfl, by decide +kernel, by decide +kernel⟩
theorem scName : FnScope ["value", "sign"] ["value"] (defScope sName) := ⟨rfl, rfl, rfl, by decide +kernel, rfl, by decide +kernel, by decide +kernel⟩
theorem scCheck : FnScope ["value", "form"] ["value", "form"] (defScope sCheck) := ⟨rfl, rfl, rfl, by decide +kernel, rfl, by decide +kernel, by decide +kernel⟩
theorem scWordOf : FnScope ["value"] ["value"] (defScope sWordOf) := ⟨rfl, rfl, rfl, by decide +kernel, rfl, by decide +kernel, by decide +kernel⟩
/-! ### what a name is -/
def letters : Str := "abcdefghijklmnopqrstuvwxyz"
def digits : Str := "0123456789"
def noNames : List Str := ["begun", "setby", "found", "trusted", "passed", "failed", "agreed", "differed", "served", "backed", "sound", "unsound", "sure", "never", "open", "none", "record", "lot", "menu", "wanted"]
def isAln (c : Nat) : Bool := decide (c ∈ (letters ++ digits).cps.toList)
def isName (z : Str) : Bool := decide (1 ≤ z.length) && decide (z.length ≤ 8) && !(noNames.contains z) && decide (z.cps.toList.headD 0 ∈ letters.cps.toList) && z.cps.toList.all isAln
/-- the module's names that the words of the package read -/
structure Words (K : PySem.W.Frag) (mg : Str → Option Value) : Prop where
  greatest : ∃ t, mg "GREATEST" = some (.int 1000000000000000000000000000000 t)
  longest : ∃ t, mg "LONGEST_NAME" = some (.int 8 t)
  letters : ∃ t, mg "LETTERS" = some (.str letters t)
  digits : ∃ t, mg "DIGITS" = some (.str digits t)
  noNames : ∃ a, mg "NO_NAMES" = some (.ref a) ∧ ∀ H : Hp, SqT K H a (noNames.map V.str)
  isi : mg "isinstance" = none
  int : mg "int" = none
  bool : mg "bool" = none
  str : mg "str" = none
  len : mg "len" = none
  all : mg "all" = none
section
variable {P : Program} {w : World} {K : PySem.W.Frag} {mg : Str → Option Value} {base : Heap}
theorem kit_int_int : PySem.W.kitOne K (.type "int") (.type "int") = some true := kit_ty (by decide +kernel)
theorem kit_int_bool : PySem.W.kitOne K (.type "int") (.type "bool") = some false := kit_ty (by decide +kernel)
theorem kit_str_str : PySem.W.kitOne K (.type "str") (.type "str") = some true := kit_ty (by decide +kernel)
theorem kit_bool_bool : PySem.W.kitOne K (.type "bool") (.type "bool") = some true := kit_ty (by decide +kernel)

/-- the values that the law draws: what each is, by its type's name -/
inductive Gv (H : Hp) : V → String → Prop where
  | non : Gv H .non "NoneType"
  | bl (b : Bool) : Gv H (.bl b) "bool"
  | int (i : Int) : Gv H (.int i) "int"
  | str (z : Str) (h : z.length ≤ 2000) : Gv H (.str z) "str"
  | lst {a : Addr} {xs : List V} (e : H a = some (.lst xs)) : Gv H (.ref a) "list"
  | tup {a : Addr} {xs : List V} (e : H a = some (.tup xs)) : Gv H (.ref a) "tuple"
  | dK {a : Addr} {kvs : List (Key × V)} (e : H a = some (.dK kvs)) : Gv H (.ref a) "dict"
theorem Gv.ty {H : Hp} {v : V} {T : String} (h : Gv H v T) : TyX K H v (.type T) := by
  cases h with
  | non => exact .base .non
  | bl b => exact .base (.bl b)
  | int i => exact .base (.int i)
  | str z h => exact .base (.str z)
  | lst e => exact .base (.lst e)
  | tup e => exact .base (.tup e)
  | dK e => exact .base (.dK e)
theorem Gv.same {H H' : Hp} {v : V} {T : String} (h : Gv H v T) (s : Same H H') : Gv H' v T := by
  cases h with
  | non => exact .non
  | bl b => exact .bl b
  | int i => exact .int i
  | str z h => exact .str z h
  | lst e => exact .lst (s _ _ e)
  | tup e => exact .tup (s _ _ e)
  | dK e => exact .dK (s _ _ e)
theorem Gv.off {H H' : Hp} {v : V} {T : String} {p : Addr} (h : Gv H v T) (n : v ≠ .ref p) (s : Off p H H') : Gv H' v T := by
  cases h with
  | non => exact .non
  | bl b => exact .bl b
  | int i => exact .int i
  | str z h => exact .str z h
  | lst e => exact .lst (s _ _ (fun z => n (by rw [z])) e)
  | tup e => exact .tup (s _ _ (fun z => n (by rw [z])) e)
  | dK e => exact .dK (s _ _ (fun z => n (by rw [z])) e)
def gInt : V → Bool
  | .int _ => true
  | _ => false
def gMom : V → Bool
  | .int i => decide (0 ≤ i ∧ i ≤ 1000000000000000000000000000000)
  | _ => false
def gNam : V → Bool
  | .str z => isName z
  | _ => false
def gTru : V → Bool
  | .bl _ => true
  | _ => false
/-- what isinstance says of such a value and a built-in type -/
theorem Gv.kit {H : Hp} {v : V} {T : String} (h : Gv H v T) (c : String) (hc : c = "int" ∨ c = "bool" ∨ c = "str") : PySem.W.kitOne K (.type T) (.type c) = some (decide (T = c ∨ (T = "bool" ∧ c = "int"))) := by
  rcases hc with rfl | rfl | rfl <;> cases h <;> exact kit_ty (by decide +kernel)
/-- is_whole -/
def spWhole : Sp := fun vs H Q _ => ∃ (v : V) (T : String), vs = [v] ∧ Gv H v T ∧ Q (.bl (gInt v)) H
theorem ok_whole {f : Addr} {fd : FuncData} (F : Fun K "is_whole" "is_whole" sWhole f fd) (W : Words K mg) : FnOk P w K mg base CX0 1 f fd ["value"] spWhole := by
  refine F.ok scWhole (fun vs H Q E h => ?_) (fun cdv A outer s H vs Q E hr h => ?_)
  · obtain ⟨v, T, rfl, _⟩ := h
    rfl
  · obtain ⟨v, T, rfl, hv, q⟩ := h
    refine ⟨_, pss_one (ps_ret (pe_and (pe_callB call_isi (by rfl) W.isi (by decide +kernel) (pa_cons (pv 0) (pa_cons (pe_bltn (v := .ty "int") (by rfl) W.int (by decide +kernel) rfl) pa_nil)))
      (pe_one (pe_not (pe_callB call_isi (by rfl) W.isi (by decide +kernel) (pa_cons (pv 0) (pa_cons (pe_bltn (v := .ty "bool") (by rfl) W.bool (by decide +kernel) rfl) pa_nil))))))), ?_⟩
    refine ⟨_, rfl, _, _, _, _, _, rfl, .ty "int", hv.ty, hv.kit "int" (.inl rfl), _, rfl, ?_⟩
    cases hv with
    | int i =>
      refine iteT ?_
      exact ⟨_, rfl, _, _, _, _, false, rfl, .ty "bool", .base (.int i), kit_int_bool, _, rfl, q⟩
    | bl b =>
      refine iteT ?_
      exact ⟨_, rfl, _, _, _, _, true, rfl, .ty "bool", .base (.bl b), kit_bool_bool, _, rfl, q⟩
    | non => exact iteF q
    | str z h => exact iteF q
    | lst e => exact iteF q
    | tup e => exact iteF q
    | dK e => exact iteF q
/-- is_moment -/
def spMoment : Sp := fun vs H Q _ => ∃ (v : V) (T : String), vs = [v] ∧ Gv H v T ∧ Q (.bl (gMom v)) H
theorem ok_moment {f fW : Addr} {fd fdW : FuncData} (F : Fun K "is_moment" "is_moment" sMoment f fd) (W : Words K mg) (FW : Fun K "is_whole" "is_whole" sWhole fW fdW) (bW : Binds K fdW ["value"] []) (gW : mg "is_whole" = some (.ref fW)) :
    FnOk P w K mg base CX0 2 f fd ["value"] spMoment := by
  have GW : FnOk P w K mg base CX0 1 fW fdW ["value"] spWhole := ok_whole FW W
  refine F.ok scMoment (fun vs H Q E h => ?_) (fun cdv A outer s H vs Q E hr h => ?_)
  · obtain ⟨v, T, rfl, _⟩ := h
    rfl
  · obtain ⟨v, T, rfl, hv, q⟩ := h
    obtain ⟨tG, hG⟩ := W.greatest
    refine ⟨_, pss_one (ps_ret (pe_and (pe_call GW hr (by rfl) gW FW.kp bW .nil pass0 (pa_cons (pv 0) pa_nil)) (pe_one (pe_chain op_le op_le pe_int (pv 0) (pe_glob (v := .int 1000000000000000000000000000000) rfl hG ⟨_, rfl⟩))))), ?_⟩
    refine ⟨_, rfl, v, T, rfl, hv, gInt v, rfl, ?_⟩
    cases hv with
    | int i =>
      refine iteT ?_
      refine ⟨_, rfl, _, _, rfl, rfl, _, rfl, ite2 (fun e => ?_) (fun e => ?_)⟩
      · have e' : 0 ≤ i := of_decide_eq_true e
        refine ⟨_, _, rfl, rfl, ?_⟩
        have : gMom (.int i) = decide (i ≤ 1000000000000000000000000000000) := by simp [gMom, e']
        rw [this] at q
        exact q
      · have e' : ¬ 0 ≤ i := fun z => e (decide_eq_true z)
        have : gMom (.int i) = false := by simp [gMom, e']
        rw [this] at q
        exact q
    | bl b => exact iteF q
    | non => exact iteF q
    | str z h => exact iteF q
    | lst e => exact iteF q
    | tup e => exact iteF q
    | dK e => exact iteF q

theorem inV_strs (z : Str) : ∀ l : List Str, inV (.str z) (l.map V.str) = l.contains z
  | [] => rfl
  | x :: r => by
    have h := inV_strs z r
    have e : eqV (.str x) (.str z) = (z == x) := Bool.beq_comm (a := x) (b := z)
    show (eqV (.str x) (.str z) || inV (.str z) (r.map V.str)) = _
    rw [h, e, List.contains_cons]
theorem flat_strs (l : List Str) : (l.map V.str).all flatV = true := by
  rw [List.all_map]
  exact List.all_eq_true.mpr fun _ _ => rfl
theorem Same.over {H H1 : Hp} {D : Addr} {o : HO} (s : Same H H1) (h : H D = none) : Same H (upd H1 D o) := fun b u e => by
  rw [upd_ne (ne_of_none e h)]
  exact s b u e
/-- is_name -/
def spName : Sp := fun vs H Q _ => ∃ (v : V) (T : String), vs = [v] ∧ Gv H v T ∧ ∀ H', Same H H' → Q (.bl (gNam v)) H'
theorem ok_name {f : Addr} {fd : FuncData} (F : Fun K "is_name" "is_name" sName f fd) (W : Words K mg) : FnOk P w K mg base CX0 1 f fd ["value"] spName := by
  refine F.ok scName (fun vs H Q E h => ?_) (fun cdv A outer s H vs Q E hr h => ?_)
  · obtain ⟨v, T, rfl, _⟩ := h
    rfl
  · obtain ⟨v, T, rfl, hv, q⟩ := h
    obtain ⟨tL, hL⟩ := W.longest
    obtain ⟨tA, hA⟩ := W.letters
    obtain ⟨tD, hD⟩ := W.digits
    obtain ⟨aN, gN, hN⟩ := W.noNames
    have gA : ∀ {X : Cx}, X.mg = mg → True := fun _ => trivial
    refine ⟨_, pss_cons (ps_if (PW.pt (pw_or (pt_not (pt_val (pe_callB call_isi (by rfl) W.isi (by decide +kernel) (pa_cons (pv 0) (pa_cons (pe_bltn (v := .ty "str") (by rfl) W.str (by decide +kernel) rfl) pa_nil)))))
        (pw_or (pt_not (pt_chain op_le op_le pe_int (pe_callB call_len_str (by rfl) W.len PySem.boot_len (pa_cons (pv 0) pa_nil)) (pe_glob (v := .int 8) rfl hL ⟨_, rfl⟩)))
          (pw_or1 (pt_cmpR op_in_seq (pv 0) (pe_glob (v := .ref aN) rfl gN rfl) (by rfl))))))
        (pss_one (ps_ret pe_bl)) pss_nil)
      (pss_one (ps_ret (pe_and (pe_cmpR op_in_sign (pe_ix ix_str (pv 0) pe_int (fun _ _ => rfl)) (pe_glob (v := .str letters) rfl hA ⟨_, rfl⟩) (by rfl))
        (pe_one (pe_callB (cr_all rfl) (by rfl) W.all (by decide +kernel) (pa_cons (pe_lc (own := [("sign", 1)]) (g := gName 1) (tt := tYes) rfl scName.nd (pi_str (pv 0)) (blkOk_by (N := ["value", "sign"]) (sc := defScope sName) (by decide +kernel))
          (fun _ _ _ _ _ => pg_name (i := 1) scName.nd rfl (Or.inl rfl)) (fun _ _ _ _ _ => pts_nil)
          (fun _ _ _ _ _ => pe_cmpR op_in_sign (pv 1) (pe_op op_add_str (pe_glob (v := .str letters) rfl hA ⟨_, rfl⟩) (pe_glob (v := .str digits) rfl hD ⟨_, rfl⟩)) (by rfl))) pa_nil)))))), ?_⟩
    refine ⟨_, rfl, _, _, _, _, _, rfl, .ty "str", hv.ty, hv.kit "str" (.inr (.inr rfl)), _, rfl, ?_⟩
    cases hv with
    | non => exact iteT (q H (Same.refl H))
    | bl b => exact iteT (q H (Same.refl H))
    | int i => exact iteT (q H (Same.refl H))
    | lst e => exact iteT (q H (Same.refl H))
    | tup e => exact iteT (q H (Same.refl H))
    | dK e => exact iteT (q H (Same.refl H))
    | str z hz => ?_
    have q : ∀ H', Same H H' → Q (.bl (isName z)) H' := q
    have hzl : z.length ≤ sizeLine := Nat.le_trans hz (by decide)
    refine iteF ?_
    have no : isName z = false → Q (.bl false) H := fun e => by
      have := q H (Same.refl H)
      rw [e] at this
      exact this
    refine ⟨_, rfl, _, rfl, hzl, _, _, rfl, rfl, _, rfl, ite2 (fun c1 => ?_) (fun c1 => ⟨_, rfl, iteT (no ?_)⟩)⟩
    case refine_2 =>
      have c1' : ¬ (1 : Int) ≤ ((z.length : Nat) : Int) := fun e => c1 (decide_eq_true e)
      unfold isName
      rw [show decide (1 ≤ z.length) = false from decide_eq_false (by omega)]
      rfl
    have c1' : (1 : Int) ≤ ((z.length : Nat) : Int) := of_decide_eq_true c1
    refine ⟨_, _, rfl, rfl, _, rfl, ?_⟩
    by_cases c2 : ((z.length : Nat) : Int) ≤ 8
    case neg =>
      rw [decide_eq_false c2]
      refine iteT (no ?_)
      unfold isName
      rw [show decide (z.length ≤ 8) = false from decide_eq_false (by omega), Bool.and_false]
      rfl
    rw [decide_eq_true c2]
    refine iteF ⟨_, rfl, aN, _, rfl, .inr (hN H), rfl, flat_strs _, ?_⟩
    refine ⟨_, rfl, ?_⟩
    rw [show inV (.str z) (noNames.map V.str) = noNames.contains z from inV_strs z noNames]
    cases c3 : noNames.contains z with
    | true =>
      refine iteT (no ?_)
      unfold isName
      rw [c3, Bool.not_true, Bool.and_false]
      rfl
    | false =>
      refine iteF ?_
      have hz0 : 0 < z.cps.toList.length := by
        have : z.length = z.cps.toList.length := Array.length_toList.symm
        omega
      obtain ⟨c0, cr, hc⟩ : ∃ c0 cr, z.cps.toList = c0 :: cr := by
        cases e : z.cps.toList with
        | nil => rw [e] at hz0; cases hz0
        | cons a r => exact ⟨a, r, rfl⟩
      have e1 : decide (1 ≤ z.length) = true := decide_eq_true (by omega)
      have e2 : decide (z.length ≤ 8) = true := decide_eq_true (by omega)
      have e3 : isName z = (decide (c0 ∈ letters.cps.toList) && z.cps.toList.all isAln) := by
        unfold isName
        rw [e1, e2, c3, hc]
        rfl
      refine ⟨_, rfl, _, _, c0, rfl, rfl, hzl, ?_, _, _, rfl, rfl, _, rfl, ite2 (fun c4 => ?_) (fun c4 => ?_)⟩
      · rw [hc]
        exact atI_nat (j := 0) rfl
      · refine ⟨_, rfl, _, rfl, fun D hD => lc_it walk_str (fun i H' => H' D = some (.lst ((z.cps.toList.take i).map fun c => V.bl (isAln c))) ∧ Same H H') ⟨?_, ?_⟩ (fun _ _ _ _ => trivial) ?_ ?_⟩
        · exact upd_same
        · exact Same.over (Same.refl H) hD
        · rintro i x H1 H2 hi ⟨h1, s1⟩ ⟨rfl, c, hc1, rfl⟩
          have hc2 : z.cps.toList[i]? = some c := by
            rw [Array.getElem?_toList]
            exact hc1
          refine ⟨rfl, _, rfl, _, _, rfl, rfl, by decide, c, _, rfl, rfl, _, h1, ?_, ?_, Same.over s1 hD⟩
          · rw [List.length_map, List.length_take]
            have : z.cps.toList.length = z.length := Array.length_toList
            exact Nat.lt_of_le_of_lt (Nat.le_trans (Nat.min_le_right _ _) (by omega)) (by decide : 2000 < sizeLine)
          · rw [upd_same, List.take_add_one, hc2, List.map_append]
            rfl
        · rintro H1 ⟨h1, s1⟩
          refine ⟨D, z.cps.toList.map isAln, rfl, SqL.of ?_, ?_⟩
          · rw [h1, List.take_of_length_le (by rw [Array.length_toList]; exact Nat.le_refl _), List.map_map]
            rfl
          · have := q H1 s1
            rw [e3, show decide (c0 ∈ letters.cps.toList) = true from c4, Bool.true_and] at this
            rw [List.all_map]
            exact this
      · refine no ?_
        rw [e3]
        have : decide (c0 ∈ letters.cps.toList) = false := by
          cases h : decide (c0 ∈ letters.cps.toList) with
          | true => exact absurd h c4
          | false => rfl
        rw [this]
        rfl
end
end K12

namespace K12
open PySem PySem.Spec PyProof.Rows L2 So
abbrev sEN : Stmt := inClass (topS 3) 0
abbrev sEM : Stmt := inClass (topS 4) 0
abbrev sES : Stmt := inClass (topS 5) 0
theorem scEN : FnScope ["self", "name"] ["self", "name"] (defScope sEN) := ⟨rfl, rfl, rfl, by decide +kernel, rfl, by decide +kernel, by decide +kernel⟩
theorem scEM : FnScope ["self", "moment"] ["self", "moment"] (defScope sEM) := ⟨rfl, rfl, rfl, by decide +kernel, rfl, by decide +kernel, by decide +kernel⟩
theorem scES : FnScope ["self", "value"] ["self", "value"] (defScope sES) := ⟨rfl, rfl, rfl, by decide +kernel, rfl, by decide +kernel, by decide +kernel⟩
section
variable {P : Program} {w : World} {K : PySem.W.Frag} {mg : Str → Option Value} {base : Heap}
theorem ok_eN {C f : Addr} {fd : FuncData} (F : Fun K "__init__" "BadName.__init__" sEN f fd) (O : OneE K mg "BadName" "name" C f fd) : FnOk P w K mg base CX0 1 f fd ["self", "name"] (spOneE C "name") := by
  refine F.ok scEN (fun vs H Q E h => ?_) (fun cdv A outer s H vs Q E hr h => ?_)
  · obtain ⟨a, v, rfl, _⟩ := h
    rfl
  · obtain ⟨a, v, rfl, ha, q⟩ := h
    exact ⟨_, pss_one (ps_ost (pv 0) (pv 1)), _, rfl, _, rfl, a, C, rfl, O.T, O.no, .inl ⟨ha, fun dx h n => q dx h n⟩⟩
theorem ok_eM {C f : Addr} {fd : FuncData} (F : Fun K "__init__" "BadMoment.__init__" sEM f fd) (O : OneE K mg "BadMoment" "moment" C f fd) : FnOk P w K mg base CX0 1 f fd ["self", "moment"] (spOneE C "moment") := by
  refine F.ok scEM (fun vs H Q E h => ?_) (fun cdv A outer s H vs Q E hr h => ?_)
  · obtain ⟨a, v, rfl, _⟩ := h
    rfl
  · obtain ⟨a, v, rfl, ha, q⟩ := h
    exact ⟨_, pss_one (ps_ost (pv 0) (pv 1)), _, rfl, _, rfl, a, C, rfl, O.T, O.no, .inl ⟨ha, fun dx h n => q dx h n⟩⟩
theorem ok_eS {C f : Addr} {fd : FuncData} (F : Fun K "__init__" "BadSaying.__init__" sES f fd) (O : OneE K mg "BadSaying" "value" C f fd) : FnOk P w K mg base CX0 1 f fd ["self", "value"] (spOneE C "value") := by
  refine F.ok scES (fun vs H Q E h => ?_) (fun cdv A outer s H vs Q E hr h => ?_)
  · obtain ⟨a, v, rfl, _⟩ := h
    rfl
  · obtain ⟨a, v, rfl, ha, q⟩ := h
    exact ⟨_, pss_one (ps_ost (pv 0) (pv 1)), _, rfl, _, rfl, a, C, rfl, O.T, O.no, .inl ⟨ha, fun dx h n => q dx h n⟩⟩
/-- the three errors of arguments -/
structure Errs (K : PySem.W.Frag) (mg : Str → Option Value) (CN CM CS : Addr) : Prop where
  n : ∃ (f : Addr) (fd : FuncData), OneE K mg "BadName" "name" CN f fd ∧ Fun K "__init__" "BadName.__init__" sEN f fd
  m : ∃ (f : Addr) (fd : FuncData), OneE K mg "BadMoment" "moment" CM f fd ∧ Fun K "__init__" "BadMoment.__init__" sEM f fd
  s : ∃ (f : Addr) (fd : FuncData), OneE K mg "BadSaying" "value" CS f fd ∧ Fun K "__init__" "BadSaying.__init__" sES f fd
def gBeg : V → Bool
  | .int i => decide (1 ≤ i ∧ i ≤ 1000000000000000000000000000000)
  | _ => false
/-- the forms: whether a value has it, the class and the field of the error where not -/
def Form (CN CM CS : Addr) (form : Str) (v : V) (ok : Bool) (C : Addr) (fl : Str) : Prop :=
  (form = "name" ∧ ok = gNam v ∧ C = CN ∧ fl = "name") ∨ (form = "moment" ∧ ok = gMom v ∧ C = CM ∧ fl = "moment") ∨ (form = "beginning" ∧ ok = gBeg v ∧ C = CM ∧ fl = "moment") ∨ (form = "truth" ∧ ok = gTru v ∧ C = CS ∧ fl = "value")
theorem notS {a b : Str} (h : a ≠ b) : ¬ (decide (V.str a = V.str b) = true) := fun e => h (V.str.inj (of_decide_eq_true e))
def spCheck (CN CM CS : Addr) : Sp := fun vs H Q E => ∃ (v : V) (T : String) (form : Str) (ok : Bool) (C : Addr) (fl : Str), vs = [v, .str form] ∧ Gv H v T ∧ Form CN CM CS form v ok C fl ∧
  (ok = true → ∀ H', Same H H' → Q .non H') ∧ (ok = false → ∀ d H', Same H H' → H' d = some (.xd [(fl, v)]) → E (.ref C) (some d) H')
theorem ok_check {CN CM CS f fM fN : Addr} {fd fdM fdN : FuncData} (F : Fun K "check_form" "check_form" sCheck f fd) (W : Words K mg) (R : Errs K mg CN CM CS) (FM : Fun K "is_moment" "is_moment" sMoment fM fdM) (bM : Binds K fdM ["value"] []) (gM : mg "is_moment" = some (.ref fM))
    (GM : FnOk P w K mg base CX0 2 fM fdM ["value"] spMoment) (FN : Fun K "is_name" "is_name" sName fN fdN) (bN : Binds K fdN ["value"] []) (gN : mg "is_name" = some (.ref fN)) (GN : FnOk P w K mg base CX0 1 fN fdN ["value"] spName) :
    FnOk P w K mg base (L2.CX P w) 3 f fd ["value", "form"] (spCheck CN CM CS) := by
  obtain ⟨f1, fd1, O1, F1⟩ := R.n
  obtain ⟨f2, fd2, O2, F2⟩ := R.m
  obtain ⟨f3, fd3, O3, F3⟩ := R.s
  have G1 : FnOk P w K mg base CX0 1 f1 fd1 ["self", "name"] (spOneE CN "name") := ok_eN F1 O1
  have G2 : FnOk P w K mg base CX0 1 f2 fd2 ["self", "moment"] (spOneE CM "moment") := ok_eM F2 O2
  have G3 : FnOk P w K mg base CX0 1 f3 fd3 ["self", "value"] (spOneE CS "value") := ok_eS F3 O3
  refine F.okX scCheck (fun vs H Q E h => ?_) (fun cdv A outer s H vs Q E hr h => ?_)
  · obtain ⟨v, T, form, ok, C, fl, rfl, _⟩ := h
    rfl
  · obtain ⟨v, T, form, ok, C, fl, rfl, hv, hf, qy, qn⟩ := h
    have hr1 : Room 1 _ := hr.mono (by decide)
    refine ⟨_, pss_cons (ps_if (PW.pt (pw_and (pt_cmpR op_eq (pv 1) pe_str (nomark _)) (pw_and1 (pt_not (pt_val (pe_call GN hr1 (by rfl) gN FN.kp bN .nil pass0 (pa_cons (pv 0) pa_nil))))))) (pss_one (ps_raiseOne O1 G1 rfl hr (takes_of rfl rfl rfl rfl) (by rfl) (pa_cons (pv 0) pa_nil))) pss_nil)
      (pss_cons (ps_if (PW.pt (pw_and (pt_cmpR op_eq (pv 1) pe_str (nomark _)) (pw_and1 (pt_not (pt_val (pe_call GM hr (by rfl) gM FM.kp bM .nil pass0 (pa_cons (pv 0) pa_nil))))))) (pss_one (ps_raiseOne O2 G2 rfl hr (takes_of rfl rfl rfl rfl) (by rfl) (pa_cons (pv 0) pa_nil))) pss_nil)
      (pss_cons (ps_if (PW.pt (pw_and (pt_cmpR op_eq (pv 1) pe_str (nomark _)) (pw_and1 (pt_not (PW.pt (pw_and (pt_val (pe_call GM hr (by rfl) gM FM.kp bM .nil pass0 (pa_cons (pv 0) pa_nil))) (pw_and1 (pt_cmpR op_gt (pv 0) pe_int (nomark _))))))))) (pss_one (ps_raiseOne O2 G2 rfl hr (takes_of rfl rfl rfl rfl) (by rfl) (pa_cons (pv 0) pa_nil))) pss_nil)
      (pss_one (ps_if (PW.pt (pw_and (pt_cmpR op_eq (pv 1) pe_str (nomark _)) (pw_and1 (pt_not (pt_val (pe_callB call_isi (by rfl) W.isi (by decide +kernel) (pa_cons (pv 0) (pa_cons (pe_bltn (v := .ty "bool") (by rfl) W.bool (by decide +kernel) rfl) pa_nil))))))))
        (pss_one (ps_raiseOne O3 G3 rfl hr (takes_of rfl rfl rfl rfl) (by rfl) (pa_cons (pv 0) pa_nil))) pss_nil)))), ?_⟩
    rcases hf with ⟨rfl, rfl, rfl, rfl⟩ | ⟨rfl, rfl, rfl, rfl⟩ | ⟨rfl, rfl, rfl, rfl⟩ | ⟨rfl, rfl, rfl, rfl⟩
    · refine ⟨_, rfl, rfl, _, rfl, ite2 (fun _ => ?_) (fun e => absurd (decide_eq_true rfl) e)⟩
      refine ⟨_, rfl, v, T, rfl, hv, fun H1 s1 => ⟨_, rfl, ?_⟩⟩
      cases hg : gNam v with
      | true =>
        refine iteF ?_
        refine ⟨_, rfl, rfl, _, rfl, ite2 (fun e => absurd e (notS (by decide +kernel))) (fun _ => ?_)⟩
        refine ⟨_, rfl, rfl, _, rfl, ite2 (fun e => absurd e (notS (by decide +kernel))) (fun _ => ?_)⟩
        refine ⟨_, rfl, rfl, _, rfl, ite2 (fun e => absurd e (notS (by decide +kernel))) (fun _ => ?_)⟩
        exact qy hg H1 s1
      | false =>
        refine iteT ?_
        exact ⟨_, rfl, mkOne rfl fun d H' s2 _ e => qn hg d H' (s1.trans s2) e⟩
    · refine ⟨_, rfl, rfl, _, rfl, ite2 (fun e => absurd e (notS (by decide +kernel))) (fun _ => ?_)⟩
      refine ⟨_, rfl, rfl, _, rfl, ite2 (fun _ => ?_) (fun e => absurd (decide_eq_true rfl) e)⟩
      refine ⟨_, rfl, v, T, rfl, hv, _, rfl, ?_⟩
      cases hg : gMom v with
      | true =>
        refine iteF ?_
        refine ⟨_, rfl, rfl, _, rfl, ite2 (fun e => absurd e (notS (by decide +kernel))) (fun _ => ?_)⟩
        refine ⟨_, rfl, rfl, _, rfl, ite2 (fun e => absurd e (notS (by decide +kernel))) (fun _ => ?_)⟩
        exact qy hg H (Same.refl H)
      | false =>
        refine iteT ?_
        exact ⟨_, rfl, mkOne rfl fun d H' s2 _ e => qn hg d H' s2 e⟩
    · refine ⟨_, rfl, rfl, _, rfl, ite2 (fun e => absurd e (notS (by decide +kernel))) (fun _ => ?_)⟩
      refine ⟨_, rfl, rfl, _, rfl, ite2 (fun e => absurd e (notS (by decide +kernel))) (fun _ => ?_)⟩
      refine ⟨_, rfl, rfl, _, rfl, ite2 (fun _ => ?_) (fun e => absurd (decide_eq_true rfl) e)⟩
      refine ⟨_, rfl, v, T, rfl, hv, _, rfl, ?_⟩
      have no : gBeg v = false → tMkO C (spOneE C "moment") [] (tCons (tVar 0) tNil) [some v, some (.str "beginning")] H fun cls d H' => E cls d H' := fun e =>
        ⟨_, rfl, mkOne rfl fun d H' s2 _ e2 => qn e d H' s2 e2⟩
      cases hg : gMom v with
      | true =>
        refine iteT ?_
        obtain ⟨i, rfl⟩ : ∃ i, v = .int i := by
          cases v with
          | int i => exact ⟨i, rfl⟩
          | _ => cases hg
        have hi : 0 ≤ i ∧ i ≤ 1000000000000000000000000000000 := of_decide_eq_true hg
        refine ⟨_, rfl, _, _, rfl, rfl, _, rfl, ?_⟩
        by_cases z : 0 < i
        · rw [show decide (i > 0) = true from decide_eq_true z]
          refine iteF ?_
          refine ⟨_, rfl, rfl, _, rfl, ite2 (fun e => absurd e (notS (by decide +kernel))) (fun _ => ?_)⟩
          exact qy (decide_eq_true ⟨by omega, hi.2⟩) H (Same.refl H)
        · rw [show decide (i > 0) = false from decide_eq_false z]
          refine iteT ?_
          exact no (decide_eq_false (by omega))
      | false =>
        refine iteF (iteT (no ?_))
        cases v with
        | int i =>
          have : ¬ (0 ≤ i ∧ i ≤ 1000000000000000000000000000000) := of_decide_eq_false hg
          exact decide_eq_false (by omega)
        | _ => rfl
    · refine ⟨_, rfl, rfl, _, rfl, ite2 (fun e => absurd e (notS (by decide +kernel))) (fun _ => ?_)⟩
      refine ⟨_, rfl, rfl, _, rfl, ite2 (fun e => absurd e (notS (by decide +kernel))) (fun _ => ?_)⟩
      refine ⟨_, rfl, rfl, _, rfl, ite2 (fun e => absurd e (notS (by decide +kernel))) (fun _ => ?_)⟩
      refine ⟨_, rfl, rfl, _, rfl, ite2 (fun _ => ?_) (fun e => absurd (decide_eq_true rfl) e)⟩
      refine ⟨_, rfl, _, _, _, _, _, rfl, .ty "bool", hv.ty, hv.kit "bool" (.inr (.inl rfl)), _, rfl, ?_⟩
      have no : gTru v = false → tMkO C (spOneE C "value") [] (tCons (tVar 0) tNil) [some v, some (.str "truth")] H fun cls d H' => E cls d H' := fun e =>
        ⟨_, rfl, mkOne rfl fun d H' s2 _ e2 => qn e d H' s2 e2⟩
      cases hv with
      | bl b => exact iteF (qy rfl H (Same.refl H))
      | non => exact iteT (no rfl)
      | int i => exact iteT (no rfl)
      | str z h => exact iteT (no rfl)
      | lst e => exact iteT (no rfl)
      | tup e => exact iteT (no rfl)
      | dK e => exact iteT (no rfl)
end
end K12

namespace K12
open PySem PySem.Spec PyProof.Rows L2 So
abbrev sLName : Stmt := topS 49
abbrev sWords : Stmt := topS 48
theorem scLName : FnScope ["_law_pen_here", "_law_letters", "_law_made_here", "_law_k"] ["_law_pen_here"] (defScope sLName) := ⟨rfl, rfl, rfl, by decide +kernel, rfl, by decide +kernel, by decide +kernel⟩
theorem scWords : FnScope ["_law_some"] [] (defScope sWords) := ⟨rfl, rfl, rfl, by decide +kernel, rfl, by decide +kernel, by decide +kernel⟩
theorem cut63 (xs : List V) : cutV xs none (some 63) = xs.take 63 := by
  unfold cutV
  rw [HT.sIx_none, show HT.sIx xs.length xs.length (some 63) = min 63 xs.length from HT.sIx_nat xs.length xs.length 63]
  simp
theorem same_upd0 {H : Hp} {p : Addr} {o : HO} (h : H p = none) : Same H (upd H p o) := Same.over (Same.refl H) h
theorem same3 {H : Hp} {a b c : Addr} {o1 o2 o3 : HO} (ha : H a = none) (hb : upd H a o1 b = none) (hc : upd (upd H a o1) b o2 c = none) : Same H (upd (upd (upd H a o1) b o2) c o3) ∧ H c = none :=
  have s2 := (same_upd0 (o := o1) ha).trans (same_upd0 (o := o2) hb)
  ⟨s2.trans (same_upd0 hc), s2.free hc⟩
section
variable {P : Program} {w : World} {K : PySem.W.Frag} {mg : Str → Option Value} {base : Heap}
def spPen (K : PySem.W.Frag) : Sp := fun vs H Q _ => ∃ (a : Addr) (ns : List Int), vs = [.ref a] ∧ SqL K H a (ns.map V.int) ∧ ∀ (H' : Hp) (p l : Addr) (ns' : List Int), Same H H' → Pen H' p l ns' 0 0 → Q (.ref p) H'
theorem ok_pen {f : Addr} {fd : FuncData} (F : Fun K "_law_pen" "_law_pen" sPen f fd) (ml : mg "list" = none) : FnOk P w K mg base CX0 1 f fd ["_law_script"] (spPen K) := by
  refine F.ok scPen (fun vs H Q E h => ?_) (fun cdv A outer s H vs Q E hr h => ?_)
  · obtain ⟨a, ns, rfl, _⟩ := h
    rfl
  · obtain ⟨a, ns, rfl, hS, q⟩ := h
    refine ⟨_, pss_one (ps_ret (pe_lst (pa_cons (pe_callTy call_list_of (by rfl) ml (by decide +kernel) (pa_cons (pe_slice sl_list (pv 0) po_none (po_some pe_int)) pa_nil)) (pa_cons pe_int (pa_cons pe_int pa_nil))))), ?_⟩
    refine ⟨_, rfl, 63, rfl, a, ns.map V.int, rfl, hS, fun c hc => ?_⟩
    rw [cut63, ← List.map_take]
    refine ⟨c, _, rfl, .inl (SqL.of upd_same), fun l hl => ?_⟩
    refine ⟨by show 3 ≤ sizeLine; decide, fun p hp => ?_⟩
    have s1 : Same H (upd (upd (upd H c (.lst ((ns.take 63).map V.int))) l (.lst ((ns.take 63).map V.int))) p (.lst [.ref l, .int 0, .int 0])) := by
      refine ((same_upd0 hc).trans (same_upd0 hl)).trans (same_upd0 hp)
    have nlp : l ≠ p := fun e => by
      rw [e, upd_same] at hp
      cases hp
    exact q _ p l (ns.take 63) s1 ⟨upd_same, (upd_ne nlp).trans upd_same, Int.le_refl 0⟩
/-- the words that are no names -/
def spWords : Sp := fun vs H Q _ => vs = [] ∧ ∀ (H' : Hp) (a : Addr), Same H H' → H a = none → H' a = some (.lst (noNames.map V.str)) → Q (.ref a) H'
theorem ok_words {f : Addr} {fd : FuncData} (F : Fun K "_law_words" "_law_words" sWords f fd) : FnOk P w K mg base CX0 1 f fd [] spWords := by
  refine F.ok scWords (fun vs H Q E h => ?_) (fun cdv A outer s H vs Q E hr h => ?_)
  · obtain ⟨rfl, _⟩ := h
    rfl
  · obtain ⟨rfl, q⟩ := h
    refine ⟨_, (pss_cons (ps_set (i := 0) scWords.nd rfl (.inl rfl) (pe_lst (pa_cons pe_str (pa_cons pe_str (pa_cons pe_str (pa_cons pe_str (pa_cons pe_str (pa_cons pe_str (pa_cons pe_str (pa_cons pe_str (pa_cons pe_str (pa_cons pe_str pa_nil))))))))))))
      (pss_one (ps_ret (pe_op op_cat (pv 0) (pe_lst (pa_cons pe_str (pa_cons pe_str (pa_cons pe_str (pa_cons pe_str (pa_cons pe_str (pa_cons pe_str (pa_cons pe_str (pa_cons pe_str (pa_cons pe_str (pa_cons pe_str pa_nil))))))))))))))), ?_⟩
    refine ⟨by show 10 ≤ sizeLine; decide, fun a ha => ?_⟩
    refine ⟨_, rfl, by show 10 ≤ sizeLine; decide, fun b hb => ?_⟩
    refine ⟨a, b, _, _, rfl, rfl, (upd_ne (ne_of_none upd_same hb)).trans upd_same, upd_same, by show 20 ≤ sizeLine; decide, fun c hc => ?_⟩
    exact q _ c (same3 ha hb hc).1 (same3 (o3 := .lst []) ha hb hc).2 upd_same
/-- what is being written of a name -/
def Nm (z : Str) (k : Nat) : Prop := 1 ≤ z.length ∧ z.length ≤ k ∧ z.cps.toList.headD 0 ∈ letters.cps.toList ∧ z.cps.toList.all isAln = true
theorem Nm.one {c : Nat} (h : c ∈ letters.cps.toList) : Nm ⟨#[c]⟩ 1 := by
  refine ⟨Nat.le_refl _, Nat.le_refl _, h, ?_⟩
  have : isAln c = true := decide_eq_true (by
    show c ∈ (letters.cps ++ digits.cps).toList
    rw [Array.toList_append]
    exact List.mem_append_left _ h)
  simp [this]
theorem Nm.more {z : Str} {k c : Nat} (h : Nm z k) (hc : c ∈ (letters ++ digits).cps.toList) : Nm (z ++ ⟨#[c]⟩) (k + 1) := by
  obtain ⟨h1, h2, h3, h4⟩ := h
  have e : (z ++ (⟨#[c]⟩ : Str)).cps.toList = z.cps.toList ++ [c] := Array.toList_append
  have el : (z ++ (⟨#[c]⟩ : Str)).length = z.length + 1 := by
    show (z ++ (⟨#[c]⟩ : Str)).cps.size = z.cps.size + 1
    rw [← Array.length_toList, e, List.length_append, Array.length_toList]
    rfl
  refine ⟨by omega, by omega, ?_, ?_⟩
  · rw [e]
    cases q : z.cps.toList with
    | nil =>
      have : z.length = z.cps.toList.length := Array.length_toList.symm
      rw [q] at this
      simp at this
      omega
    | cons a r =>
      rw [q] at h3
      exact h3
  · rw [e, List.all_append, h4]
    simp [isAln, hc]
theorem Nm.name {z : Str} (h : Nm z 8) (hn : noNames.contains z = false) : isName z = true := by
  obtain ⟨h1, h2, h3, h4⟩ := h
  unfold isName
  rw [decide_eq_true h1, decide_eq_true h2, hn, decide_eq_true h3, h4]
  rfl
theorem x_name : ∀ z ∈ noNames, isName (("x" : Str) ++ cutS z (some 1) none) = true := by decide +kernel
theorem x_len : ∀ z ∈ noNames, ("x" : Str).length + (cutS z (some 1) none).length ≤ 100 := by decide +kernel
theorem len_noNames : ∀ z ∈ noNames, z.length ≤ 8 := by decide +kernel
/-- a drawn name -/
def spLName : Sp := fun vs H Q _ => ∃ (p l : Addr) (ns : List Int) (n : Nat) (g : Int), vs = [.ref p] ∧ Pen H p l ns n g ∧ n < 999000 ∧
  ∀ (z : Str) (n' : Nat) (g' : Int) (H' : Hp), isName z = true → n' ≤ n + 9 → Off p H H' → Pen H' p l ns n' g' → Q (.str z) H'
theorem ok_lname {f fP fW : Addr} {fd fdP fdW : FuncData} (F : Fun K "_law_name" "_law_name" sLName f fd) (mr : mg "range" = none) (FP : Fun K "_law_pick" "_law_pick" sPick fP fdP) (bP : Binds K fdP ["_law_pen_here", "_law_some"] []) (gP : mg "_law_pick" = some (.ref fP))
    (GP : FnOk P w K mg base CX0 2 fP fdP ["_law_pen_here", "_law_some"] (spPick K)) (FW : Fun K "_law_words" "_law_words" sWords fW fdW) (bW : Binds K fdW [] []) (gW : mg "_law_words" = some (.ref fW)) (GW : FnOk P w K mg base CX0 1 fW fdW [] spWords) :
    FnOk P w K mg base CX0 3 f fd ["_law_pen_here"] spLName := by
  refine F.ok scLName (fun vs H Q E h => ?_) (fun cdv A outer s H vs Q E hr h => ?_)
  · obtain ⟨p, l, ns, n, g, rfl, _⟩ := h
    rfl
  · obtain ⟨p, l, ns, n, g, rfl, hp, hn, k⟩ := h
    have hr1 : Room 1 _ := hr.mono (by decide)
    refine ⟨_, pss_cons (ps_set (i := 1) scLName.nd rfl (.inl rfl) pe_str)
      (pss_cons (ps_set (i := 2) scLName.nd rfl (.inl rfl) (pe_call GP hr (by rfl) gP FP.kp bP .nil pass0 (pa_cons (pv 0) (pa_cons (pv 1) pa_nil))))
      (pss_cons (ps_for PassesOwn.never rfl (pi_range1 (by rfl) mr (pa_cons (pe_call GP hr (by rfl) gP FP.kp bP .nil pass0 (pa_cons (pv 0) (pa_cons (pe_lst (pa_cons pe_int (pa_cons pe_int (pa_cons pe_int (pa_cons pe_int (pa_cons pe_int pa_nil)))))) pa_nil))) pa_nil)) (pg_name (i := 3) scLName.nd rfl (Or.inl rfl))
        (pss_one (ps_set (i := 2) scLName.nd rfl (.inl rfl) (pe_op op_add_str (pv 2) (pe_call GP hr (by rfl) gP FP.kp bP .nil pass0 (pa_cons (pv 0) (pa_cons (pe_op op_add_str (pv 1) pe_str) pa_nil)))))))
      (pss_one (ps_ret (pe_ifExp (pt_cmpR op_notIn_seq (pv 2) (pe_call0 GW hr1 (by rfl) gW FW.kp bW .nil pass0) (by rfl)) (pv 2) (pe_op op_add_str pe_str (pe_slice sl_str (pv 2) (po_some pe_int) po_none))))))), ?_⟩
    have s26 : (0 : Nat) < letters.length ∧ letters.length ≤ 1000 := by decide +kernel
    have s36 : (0 : Nat) < (letters ++ digits).length ∧ (letters ++ digits).length ≤ 1000 ∧ letters.length + digits.length ≤ sizeLine := by decide +kernel
    refine ⟨_, rfl, _, rfl, p, l, ns, n, g, _, rfl, hp, by omega, .inr ⟨_, rfl, s26.1, s26.2, fun c n1 g1 H1 hc hn1 off1 pen1 => ?_⟩⟩
    refine ⟨_, rfl, (by show 5 ≤ sizeLine; decide), fun q1 hq1 => ?_⟩
    refine ⟨p, l, ns, n1, g1, _, rfl, pen1.new hq1, by omega, .inl ⟨q1, _, rfl, (ne_of_none pen1.pen hq1).symm, upd_same, (by show 0 < 5; decide), (by show 5 ≤ 1000; decide), fun v n2 g2 H2 hv hn2 off2 pen2 => ?_⟩⟩
    obtain ⟨r, hr7, rfl⟩ : ∃ r : Nat, r ≤ 7 ∧ v = .int r := by
      simp only [List.mem_cons, List.not_mem_nil, or_false] at hv
      rcases hv with h | h | h | h | h <;> subst h
      · exact ⟨0, by decide, rfl⟩
      · exact ⟨0, by decide, rfl⟩
      · exact ⟨1, by decide, rfl⟩
      · exact ⟨2, by decide, rfl⟩
      · exact ⟨7, by decide, rfl⟩
    have off12 : Off p H H2 := Off.trans (off1.new hq1) off2
    refine ⟨r, rfl, by omega, by omega, for_range (n := r) (fun i σ' H' => ∃ (z : Str) (x : Option V) (n' : Nat) (g' : Int), σ' = [some (.ref p), some (.str letters), some (.str z), x] ∧ Nm z (i + 1) ∧ n' ≤ n + 2 + i ∧ Off p H H' ∧ Pen H' p l ns n' g') ⟨_, none, n2, g2, rfl, Nm.one hc, by omega, off12, pen2⟩ ?_ ?_⟩
    · rintro i σ' H3 hi ⟨z, x, n3, g3, rfl, hz, hn3, off3, pen3⟩
      refine ⟨_, rfl, _, rfl, _, rfl, _, _, rfl, rfl, s36.2.2, p, l, ns, n3, g3, _, rfl, pen3, by omega, .inr ⟨_, rfl, s36.1, s36.2.1, fun c' n4 g4 H4 hc' hn4 off4 pen4 => ?_⟩⟩
      refine ⟨z, _, rfl, rfl, ?_, ?_⟩
      · have := hz.2.1
        show z.length + 1 ≤ sizeLine
        exact Nat.le_trans (by omega : z.length + 1 ≤ 100) (by decide)
      · exact ⟨_, _, n4, g4, rfl, hz.more hc', by omega, off3.trans off4, pen4⟩
    · rintro σ' H3 ⟨z, x, n3, g3, rfl, hz, hn3, off3, pen3⟩
      have hz8 : Nm z 8 := ⟨hz.1, by have := hz.2.1; omega, hz.2.2⟩
      refine ⟨_, rfl, rfl, fun H4 aW s4 hW hH4 => ?_⟩
      have pen4 : Pen H4 p l ns n3 g3 := ⟨s4 _ _ pen3.pen, s4 _ _ pen3.cells, pen3.left⟩
      have off4 : Off p H H4 := off3.trans fun b o _ e => s4 b o e
      refine ⟨aW, _, rfl, .inl (SqL.of hH4), rfl, flat_strs _, _, rfl, ?_⟩
      rw [show inV (.str z) (noNames.map V.str) = noNames.contains z from inV_strs z noNames]
      cases c3 : noNames.contains z with
      | false =>
        refine iteT ?_
        exact ⟨_, rfl, k z n3 g3 H4 (hz8.name c3) (by omega) off4 pen4⟩
      | true =>
        refine iteF ?_
        have hm : z ∈ noNames := by simpa using c3
        refine ⟨_, rfl, 1, rfl, z, rfl, ?_, _, _, rfl, rfl, ?_, k _ n3 g3 H4 (x_name z hm) (by omega) off4 pen4⟩
        · have := len_noNames z hm
          exact Nat.le_trans (by omega : z.length ≤ 100) (by decide)
        · exact Nat.le_trans (x_len z hm) (by decide)
end
end K12

/-! enumerate(a tuple) as what a for goes through -/
namespace So
open PySem PySem.Spec PyProof.Rows L2
/-- enumerate(v): what pyIter of v makes, in an enumerate's cell -/
theorem enum_new1 {v : Value} {o : Obj} {Hp0 : Heap → Prop} (B : Begins v o Hp0) : Meets (Builtin.«enumerate.__new__» ⟨[.type "enumerate", v], []⟩) (fun _ R s => Hp0 s.heap ∧
    R (.ok (.ret (.ref (s.heap.push o).objs.size))) { s with heap := (s.heap.push o).push { cls := .type "enumerate", data := .fields #[.none, .bool false, .ref s.heap.objs.size, rawInt 0, .none, .none] } }) :=
  .of_wp fun prog w A R s h => by
    obtain ⟨hp, g, d, tk, os⟩ := s
    obtain ⟨h1, h⟩ := h
    have hsub := sub_enumerate
    have q1 : ∀ {A' : Around} {E : Value → Shared → Prop} {Q : Value → Shared → Prop}, Q (.ref hp.objs.size) ⟨hp.push o, g, d, tk, os⟩ → wpAny (model prog w) A' (pyIter v) Q E ⟨hp, g, d, tk, os⟩ :=
      fun q => B.iter prog w _ _ ⟨hp, g, d, tk, os⟩ _ h1 q
    wp_walk using q1
    refine wpAny_stack_any fun st => wpAny_pure ?_
    split
    · rename_i c _ _ _ _ _
      cases (c == Value.type "enumerate") <;> (wp_walk using q1; exact ⟨_, rfl, h⟩)
    · wp_walk using q1
      exact ⟨_, rfl, h⟩
/-- behind the last item -/
theorem enum_endT {prog : Program} {w : World} {A : Around} {E : Value → Shared → Prop} {s : Shared} {e it a : Addr} {i : Int} {j : Nat} {items : Array Value} {old : Value} {Q : Option Value → Shared → Prop} (hh : A.handled = none) (he : IsEnum s.heap e it i old)
    (hit : s.heap.IsTupleIter it a j) (ht : s.heap.IsTuple a items) (hx : items[j]? = none) (hQ : ∀ h', Heap.ExtBut it s.heap h' → Q none { s with heap := h' }) : wpAny (model prog w) A (pyNext (.ref e)) Q E s := by
  have hT : s.TypeIs (.ref e) "enumerate" := ⟨_, he, rfl⟩
  unfold pyNext
  refine wpAny_bind (wpAny_attempt (wpAny_callSpecial?_slot (name := Str.ofString "__next__") hT PySem.F.slot_enumerate_next (wpAny_call_entry PySem.F.slot_enumerate_next hT PySem.F.entry_enumerate_next ?_ (PySem.F.args_enumerate_next_1 _))))
  show wpAny _ _ (field (.ref e) 2 >>= _) _ _ _
  refine wpAny_bind (wpAny_field he rfl (x := .ref it) rfl (wpAny_bind (wpAny_nextOf_tuple_end (A := A.in1) hh hit ht hx fun h' x he' hx' => ?_)))
  obtain ⟨o, ho, hc⟩ := hx'
  exact wpAny_bind (wpAny_isInstance (T := "StopIteration") (b := true) ⟨o, ho, hc⟩ isSubtype_stop (wpAny_pure (hQ _ he')))
/-- the tuple at a, each item in a new pair with its index -/
def IteT (K : PySem.W.Frag) (a : Addr) : It :=
  ⟨fun i H => ∃ (xs : List V) (x : V), SqT K H a xs ∧ xs[i]? = some x, fun i H v H' => ∃ T x, v = .ref T ∧ H T = none ∧ H' = upd H T (.tup [.int (i : Nat), x]) ∧ ∀ xs, SqT K H a xs → xs[i]? = some x, fun i H => ∃ xs : List V, SqT K H a xs ∧ xs.length ≤ i⟩
theorem walk_enumT {K : PySem.W.Frag} {a : Addr} {xs : List V} : Walk (IteT K a) xs.length (fun H => SqT K H a xs) (YPair (fun i => some (.int (i : Nat))) (fun i => xs[i]?)) := by
  refine ⟨fun i _ hi q => ⟨xs, xs[i], q, by simp [hi]⟩, fun _ q => ⟨xs, q, Nat.le_refl _⟩, fun i H v H' _ q y => ?_⟩
  obtain ⟨T, x, h1, h2, h3, h4⟩ := y
  exact ⟨T, .int (i : Nat), x, h1, h2, h3, rfl, h4 xs q⟩
theorem turn_enumT {P : Program} {w : World} {K : PySem.W.Frag} {elts : List Expr} {kk : Nat} {tpos : Pos} (a e it : Addr) :
    Turn P w K (.Tuple elts kk tpos) (IteT K a) [e, it] e (fun i h => (∃ old, IsEnum h e it ((i : Nat) : Int) old) ∧ h.IsTupleIter it a i ∧ e ≠ it ∧ a ≠ it ∧ a ≠ e) where
  mem := by simp
  obj := fun i h st b hb => by
    obtain ⟨⟨old, he⟩, ⟨o, ho, hc, hd⟩, _⟩ := st
    have e' : b = e ∨ b = it := by simpa using hb
    rcases e' with z | z
    · rw [z]
      exact ⟨_, he, fun v q => nomatch q⟩
    · rw [z]
      exact ⟨o, ho, fun v q => by rw [hd] at q; cases q⟩
  keep := fun i h h' st k => by
    obtain ⟨⟨old, he⟩, hi, ne⟩ := st
    exact ⟨⟨old, k e (by simp) _ he⟩, hi.at fun o q => k it (by simp) o q, ne⟩
  item := by
    intro X hP hw hK hc i pins s σ H E I hf st hg
    subst hP hw hK
    obtain ⟨⟨old, he⟩, hit, ne, nai, nae⟩ := st
    obtain ⟨xs, x, hq, hx⟩ := hg
    obtain ⟨its, rv, p, hz⟩ := I.tuple hq
    obtain ⟨u, hu, ru⟩ := rv.get hx
    have hel : e < s.heap.objs.size := Heap.lt_size he
    have hil : it < s.heap.objs.size := by
      obtain ⟨_, q, _⟩ := hit
      exact Heap.lt_size q
    have hT0 : s.heap.IsTuple a its.toArray := p
    have hi : i < its.toArray.size := by
      have := (List.getElem?_eq_some_iff.mp hu).1
      simpa using this
    refine wpAny_pyNext_enum_itemD (Draws.tuple (A := X.A.in1) (show X.A.in1.handled = none from I.ok.hd hc) it a nai its.toArray) he ⟨hit, hT0⟩ hi ne (by simp [ne, Ne.symm nae]) fun x' h' tk hp ho hst hT hsz hk => ?_
    have ex : x' = u := by
      have h1 : its.toArray[i]? = some x' := hp
      have h2 : its.toArray[i]? = some u := by simpa using hu
      exact Option.some.inj (h1.symm.trans h2)
    subst ex
    refine ⟨_, rfl, wpAny_letOwnedTupleGo_enum (s := { s with heap := h', toks := tk + 1 }) ho fun h'' he' sb => ?_⟩
    have hT2 : h''.get? s.heap.objs.size = some { cls := .type "tuple", data := .seq #[.int i tk, x'] } := (sb.2 _ (Nat.ne_of_gt hel)).trans hT
    have new : ObjOk X.prog X.w (upd H s.heap.objs.size (.tup [.int (i : Nat), x])) h'' s.heap.objs.size (.tup [.int (i : Nat), x]) :=
      ⟨by show 2 ≤ sizeLine; decide, [.int i tk, x'], .cons ⟨_, rfl⟩ (.cons ru .nil), ⟨_, hT2, rfl, _, rfl⟩⟩
    have I1 : Inv X pins σ (upd H s.heap.objs.size (.tup [.int (i : Nat), x])) { s with heap := h'', toks := tk + 1 } :=
      I.turnedNew (ch := [e, it]) (fun b ob hb q => (sb.2 b (fun z => hb (by simp [z]))).trans (hk b ob (fun z => hb (by simp [z])) (fun z => hb (by simp [z])) q)) hf (Nat.le_refl _) new
    refine ⟨.ref s.heap.objs.size, _, I1, rfl, ⟨_, x, rfl, I.hok.fresh (Nat.le_refl _), rfl, fun ys hy => by rw [I.tuple_inj hy hq]; exact hx⟩, ⟨⟨x', ?_⟩, hst.1.at fun o q => (sb.2 it (Ne.symm ne)).trans q, ne, nai, nae⟩, fun b hb => ?_⟩
    · have e1 : ((i + 1 : Nat) : Int) = (i : Int) + 1 := by omega
      rw [e1]
      exact he'
    · have hb' : b < s.heap.objs.size := by
        have e' : b = e ∨ b = it := by simpa using hb
        rcases e' with z | z
        · rw [z]
          exact hel
        · rw [z]
          exact hil
      rw [upd_ne (Nat.ne_of_lt hb')]
      exact (hf b hb).1
  done := by
    intro X hP hw hK hc i pins s σ H E I hf st hg
    subst hP hw hK
    obtain ⟨⟨old, he⟩, hit, ne, nai, nae⟩ := st
    obtain ⟨xs, hq, hx⟩ := hg
    obtain ⟨its, rv, p, hz⟩ := I.tuple hq
    obtain ⟨f0, f1, f2, f3, f4, f5⟩ := hf it (by simp)
    have hl := rv.length
    exact enum_endT (I.ok.hd hc) he hit (show s.heap.IsTuple a its.toArray from p) (by simp; omega) fun h' eb => ⟨rfl, I.turned (t' := s.toks) (fun b o hb q => eb b o hb q) f0 f1 f3 f4 f5⟩
  self := fun A i s Q E st h => by
    obtain ⟨⟨_, he⟩, _⟩ := st
    exact wpAny_pyIter_enum he h
def iEnumT (K : PySem.W.Frag) (ta : TA) : TI := fun σ H R => ta σ H fun vs H1 => ∃ a xs, vs = [.ref a] ∧ SqT K H1 a xs ∧ R (IteT K a) H1
theorem pi_enumT {X : Cx} {e : Expr} {ta : TA} {p pos tpos : Pos} {elts : List Expr} {kk : Nat} (hg : Gl X "enumerate") (hm : X.mg "enumerate" = none) (ha : PA X [e] ta) (hs : starEach [e] X.env = [(false, eval e X.env)] := by rfl) :
    PI X (.Tuple elts kk tpos) (.Call (.Name "enumerate" p) [e] [] pos) (iEnumT X.K ta) := by
  refine ⟨fun pins s σ H R I h => ?_⟩
  refine Call_ (ld_blt I hg hm boot_enumerate (PyProof.Rows.callWith_type1 (thn (ha.run pos pins s σ H _ I h) fun us s1 ⟨vs, H1, I1, r1, q1⟩ => ?_) hs rfl))
  obtain ⟨a, xs, rfl, hq, q⟩ := q1
  obtain ⟨u, rfl, ru⟩ := vals1 r1
  obtain rfl : u = Value.ref a := ru
  obtain ⟨its, rv, p', hz⟩ := I1.tuple hq
  have ht : s1.heap.IsTuple a its.toArray := p'
  have al : a < s1.heap.objs.size := by
    obtain ⟨o, ho, _⟩ := ht
    exact Heap.lt_size ho
  have sz : (s1.heap.push { cls := .type "tuple_iterator", data := .fields #[.ref a, .int 0 0] }).objs.size = s1.heap.objs.size + 1 := Heap.size_push ..
  refine callType_new PySem.F.called_enumerate (by decide) (PySem.F.typeCall_enumerate_1 _) (PySem.F.newCall_enumerate_1 _) (fun obj => PySem.F.args_object_init_2 obj _) PySem.F.entry_enumerate_new (enum_new1 (begins_tuple a its.toArray)) ⟨ht, ?_⟩
  show _ ∧ _
  rw [sz]
  have he : IsEnum ((s1.heap.push { cls := .type "tuple_iterator", data := .fields #[.ref a, .int 0 0] }).push { cls := .type "enumerate", data := .fields #[.none, .bool false, .ref s1.heap.objs.size, rawInt 0, .none, .none] }) (s1.heap.objs.size + 1) s1.heap.objs.size 0 .none := by
    have := Heap.get?_push_size (s1.heap.push { cls := .type "tuple_iterator", data := .fields #[.ref a, .int 0 0] }) (o := { cls := .type "enumerate", data := .fields #[.none, .bool false, .ref s1.heap.objs.size, rawInt 0, .none, .none] }) rfl
    rw [sz] at this
    exact this
  refine ⟨⟨_, he, rfl⟩, wpAny_pyIter_enum he ?_⟩
  have I2 : Inv X pins σ H1 { s1 with heap := (s1.heap.push { cls := .type "tuple_iterator", data := .fields #[.ref a, .int 0 0] }).push { cls := .type "enumerate", data := .fields #[.none, .bool false, .ref s1.heap.objs.size, rawInt 0, .none, .none] } } :=
    I1.kept (t' := s1.toks) fun b o x => Heap.get?_push_of_some _ (Heap.get?_push_of_some _ x)
  refine ⟨s1.heap.objs.size + 1, [s1.heap.objs.size + 1, s1.heap.objs.size], _, _, H1, rfl, I2, turn_enumT a (s1.heap.objs.size + 1) s1.heap.objs.size, ⟨⟨.none, he⟩, ⟨_, Heap.get?_push_of_some _ (Heap.get?_push_size _ rfl), rfl, rfl⟩, Nat.succ_ne_self _, Nat.ne_of_lt al, Nat.ne_of_lt (Nat.lt_succ_of_lt al)⟩, fun b hb => ?_, q⟩
  have e' : b = s1.heap.objs.size + 1 ∨ b = s1.heap.objs.size := by simpa using hb
  have hle : s1.heap.objs.size ≤ b := by
    rcases e' with z | z
    · rw [z]
      exact Nat.le_add_right _ _
    · rw [z]
      exact Nat.le_refl _
  exact I1.fpOk hle (I1.hok.fresh hle)
end So

/-! a method whose body is the one row super().m(..) -/
namespace So
open PySem PySem.Spec PyProof.Rows L2
/-- the env of a def that closes over its class's cell -/
abbrev envS (qual : Str) (scope : Scope) (L f : Addr) (cd : Value) (cc : Addr) : Env := PySem.W.ksEnv qual scope L f cd cc
def cxS (CX : CXT) (P : Program) (w : World) (K : PySem.W.Frag) (mg : Str → Option Value) (base : Heap) (N : List Str) (qual : Str) (scope : Scope) (f : Addr) (cd : Value) (cc : Addr) (A : Around) (outer : List Env) (s : Shared) (H : Hp) (E : XK) : Cx where
  prog := P
  w := w
  K := K
  mg := mg
  base := base
  A := A.deeper (envS qual scope s.heap.objs.size f cd cc)
  N := N
  s_0 := s
  H_0 := H
  env := envS qual scope s.heap.objs.size f cd cc
  outer := outer
  stack := envS qual scope s.heap.objs.size f cd cc :: outer
  ex := []
  calm := true
  fn := fun _ => false
  pn := []
  xe := fun e s' => wpAny (model P w) (A.deeper (envS qual scope s.heap.objs.size f cd cc)) (leaving (envS qual scope s.heap.objs.size f cd cc) e) (fun _ s'' => CX outer H s E e s'') (fun e' s'' => CX outer H s E e' s'') s'
/-- the names of such a def: all of them parameters, super and its class beside -/
structure SupScope (ps : List Str) (sc : Scope) : Prop where
  kind : sc.kind = .function
  co : sc.isCoroutine = false
  gen : sc.isGenerator = false
  nd : ps.Nodup
  par : ∀ x ∈ ps, sc.names.lookup x = some .local
  nocell : ∀ y ∈ sc.names, y.2 ≠ .cell
  free : ∀ y, sc.names.lookup y = some .free → y = "__class__"
  sup : sc.names.lookup ("super" : Str) = some .globalImplicit
  cls : sc.names.lookup ("__class__" : Str) = some .free
section
variable {CX : CXT} {P : Program} {w : World} {K : PySem.W.Frag} {mg : Str → Option Value} {base : Heap} {ps : List Str} {qual : Str} {scope : Scope} {f cc D : Addr} {cd : Value} {A : Around} {outer : List Env} {s : Shared} {H : Hp} {E : XK} {us : List Value} {vs : List V} {h₀ : Heap} {tk : Nat}
theorem zip_sub : ∀ (ps : List Str) (us : List Value), ((ps.zip us).map Prod.fst).Sublist ps
  | [], _ => by simp
  | p :: r, [] => by simp
  | p :: r, u :: t => by
    rw [List.zip_cons_cons, List.map_cons]
    exact (zip_sub r t).cons_cons p
theorem bindL_rev {qual : Str} {L f : Addr} {cd : Value} {x : Str} {v : Value} {us : List Value} {i : Nat} (nd : ps.Nodup) (h1 : ps[i]? = some x) (h2 : us[i]? = some v) : (ps.zip us).reverse.lookup x = some v := by
  have hm : (x, v) ∈ ps.zip us := by
    refine List.mem_of_getElem? (i := i) ?_
    rw [List.getElem?_zip_eq_some]
    exact ⟨h1, h2⟩
  have nd2 : ((ps.zip us).reverse.map Prod.fst).Nodup := by
    rw [List.map_reverse]
    have n0 : ((ps.zip us).map Prod.fst).Nodup := nd.sublist (zip_sub ps us)
    show List.Pairwise (· ≠ ·) _
    rw [List.pairwise_reverse]
    exact List.Pairwise.imp (fun h => Ne.symm h) n0
  have hm2 : (x, v) ∈ (ps.zip us).reverse := List.mem_reverse.mpr hm
  revert hm2 nd2
  generalize (ps.zip us).reverse = l
  intro nd2 hm2
  induction l with
  | nil => cases hm2
  | cons p r ih =>
    obtain ⟨y, u⟩ := p
    rw [List.map_cons, List.nodup_cons] at nd2
    rcases List.mem_cons.mp hm2 with e | e
    · cases e
      simp [List.lookup]
    · have ne : x ≠ y := fun z => nd2.1 (by
        rw [← z]
        exact List.mem_map.mpr ⟨_, e, rfl⟩)
      have : (x == y) = false := by simp [ne]
      rw [List.lookup_cons, this]
      exact ih nd2.2 e
theorem inv_sup (S : SupScope ps scope) (hd : A.handled = none) (e0 : Env0 P w K mg base A outer s H) (hl : vs.length = ps.length) (r : Vals vs us) {cl : Value} {cld : Option Addr} {csl : Array (Option Value)} (hcell : K.lookup cc = some ⟨cl, cld, .cell (some (.ref D)), csl⟩)
    (hns : h₀.Ns s.heap.objs.size (fun x => (ps.zip us).reverse.lookup x)) (hk : ∀ b o, s.heap.get? b = some o → h₀.get? b = some o) :
    Inv (cxS CX P w K mg base ps qual scope f cd cc A outer s H E) [] (L2.start ps vs) H { s with heap := h₀, toks := tk } := by
  have KX : K.In base := e0.mod.kin
  have cb := KX _ _ hcell
  have noA : ∀ b : Addr, b ∉ (cxS CX P w K mg base ps qual scope f cd cc A outer s H E).ex := fun b z => absurd (show b ∈ ([] : List Addr) from z) (by simp)
  have lk : ∀ {x : Str} {c : Addr}, List.lookup x [(("__class__" : Str), cc)] = some c → x = "__class__" ∧ c = cc := fun {x c} h => by
    by_cases e : x = "__class__"
    · subst e
      simp [List.lookup] at h
      exact ⟨rfl, h.symm⟩
    · have : (x == ("__class__" : Str)) = false := by simp [e]
      rw [List.lookup_cons, this] at h
      cases h
  refine ⟨⟨e0.mod, S.kind, rfl, rfl, Nat.le_refl _, fun y z c h1 h2 => ?_, fun y hy => ?_, fun y c h _ => (by cases h), fun _ => hd, Around.frames_deeper e0.frames, .inr ⟨rfl, rfl⟩, fun b z => absurd z (noA b), e0.bs, e0.bsz, fun b _ _ => noA b, fun b z => absurd z (noA b), e0.funs, e0.frf⟩,
    rfl, e0.bare, Un.kept hk, ⟨_, hns, fun i y v h1 h2 h3 => ?_⟩, fun y c h => ?_, e0.hok.fresh (Nat.le_refl _), fun y c h => ?_, fun p hp => absurd (show p ∈ ([] : List (Addr × Obj)) from hp) (by simp), e0.hok.kept hk, ?_⟩
  · exact (lk h1).1.trans (lk h2).1.symm
  · have hy : scope.names.lookup y = some .cell ∨ scope.names.lookup y = some .free := hy
    rcases hy with hy | hy
    · exact absurd rfl (S.nocell _ (PySem.mem_of_lookup hy))
    · rw [S.free y hy]
      exact ⟨cc, by show List.lookup _ [_] = _; simp [List.lookup]⟩
  · unfold L2.start at h2
    rw [hl, Nat.sub_self, List.replicate_zero, List.append_nil, List.getElem?_map] at h2
    obtain ⟨v', e1, e2⟩ : ∃ v', vs[i]? = some v' ∧ some v' = some v := by
      cases e : vs[i]? with
      | none => rw [e] at h2; cases h2
      | some a => rw [e] at h2; exact ⟨a, rfl, Option.some.inj h2⟩
    cases e2
    obtain ⟨u, hu, rv⟩ := r.get e1
    exact ⟨u, rv, .inl ⟨S.par y (List.mem_of_getElem? h1), bindL_rev (qual := qual) (L := 0) (f := 0) (cd := cd) S.nd h1 hu⟩⟩
  · obtain ⟨_, rfl⟩ := lk h
    exact ⟨_, ⟨_, hk _ _ (e0.bs _ _ cb).1, rfl⟩⟩
  · obtain ⟨_, rfl⟩ := lk h
    exact (e0.bs _ _ cb).2
  · unfold L2.start
    show _ = ps.length
    rw [List.length_append, List.length_map, List.length_replicate]
    omega
/-- what the written part says of such a def -/
structure SupFn (K : PySem.W.Frag) (P : Program) (name qual : Str) (params : Arguments) (body : List Stmt) (scope : Scope) (D cc f : Addr) (cd : Value) (fd : FuncData) : Prop where
  ex : ∃ (oc : Value) (od : Option Addr) (kV doc pm : Value) (an : Option Addr) (ct : Value) (osl : Array (Option Value)), fd = PySem.W.ksFn name qual params body scope .none kV doc pm an cd ct cc ∧ K.lookup f = some ⟨oc, od, .func fd, osl⟩ ∧ PySem.W.codeIn K cd qual = true
  kp : PySem.W.keepIn K (.ref f) = true
  cell : ∃ (cl : Value) (cld : Option Addr) (csl : Array (Option Value)), K.lookup cc = some ⟨cl, cld, .cell (some (.ref D)), csl⟩
  code : ∃ (cda : Addr) (ccl : Value) (cdd : Option Addr) (vs : Array Value) (ccs : Array (Option Value)) (file : Str) (tf : Tok), cd = .ref cda ∧ K.lookup cda = some ⟨ccl, cdd, .fields vs, ccs⟩ ∧ vs[2]? = some (.str file tf) ∧ ((P.main.file : Str) == file) = true
  top : (P.main.scope.names.lookup ("super" : Str)).isSome = false
  opq : PySem.W.nsIn K PySem.cStatics "thirdparty.any" = some none
  cls : ∃ cdD, PySem.W.clsIn K D = some cdD
theorem ok_super {k : Nat} {name self m : Str} {params : Arguments} {e : Expr} {es : List Expr} {p0 p1 pa pc pe : Pos} {fd fd2 : FuncData} {f2 C : Addr} {ps2 : List Str} {sp2 : Sp} {t : TA} {cd : Value}
    (F : SupFn K P name qual params [.Expr (.Call (.Attribute (.Call (.Name "super" p0) [] [] p1) m pa) (e :: es) [] pc) pe] scope D cc f cd fd) (S : SupScope ps scope) (hps : ps.head? = some self) (hpar : (params.posonlyargs ++ params.args).head?.map (·.arg) = some self)
    (hsup : mg "super" = none) (sub : PySem.W.mroIn K C (.ref D) = some true) (hcl : ∃ cdC, PySem.W.clsIn K C = some cdC) (hm : PySem.W.ks_superIn K C D m = some (some (.ref f2))) (ht : PySem.W.typeIn K (.ref f2) = some (.type "function")) (hfn : PySem.W.fnIn K f2 = true) (hmc : (m == ("__class__" : Str)) = false)
    (F2 : FnOk P w K mg base (L2.CX P w) k f2 fd2 ps2 sp2) (b2 : Binds K fd2 ps2 [])
    (ha : ∀ A outer s H E, PA (cxS (L2.CX P w) P w K mg base ps qual scope f cd cc A outer s H E) (e :: es) t)
    (hst : ∀ env, starEach (e :: es) env = (false, eval e env) :: starEach es env) (hpl : ∀ env, (backTo pc (starEach es env)).any (·.1) = false)
    (hsw : ∀ env, swapsWith (.Call (.Attribute (.Call (.Name "super" p0) [] [] p1) m pa) (e :: es) [] pc) none pe.line env = pure false)
    {pl : Env → Sem Bool} (hev : ∀ env, eval (.Call (.Attribute (.Call (.Name "super" p0) [] [] p1) m pa) (e :: es) [] pc) env = (do
      let ov ← attributeBase (.Call (.Name "super" p0) [] [] p1) m env (eval (.Call (.Name "super" p0) [] [] p1) env)
      standAt pa.atName
      let (f, first) ← holding [ov] (getMethod ov m (pl env))
      callWith pc f first (backTo pc (starEach (e :: es) env)) [])) :
    FnOk P w K mg base (L2.CX P w) (k + 1) f fd ps (fun vs H Q E => vs.length = ps.length ∧ ∃ (x dx : Addr) (fs : List (Str × V)) (rest : List V), vs = .ref x :: rest ∧ H x = some (.ins C dx fs) ∧ t (L2.start ps vs) H fun zs H' => sp2 (.ref x :: zs) H' (fun _ H'' => Q .non H'') E) := by
  refine ⟨fun _ _ _ _ h => h.1, fun A outer s H args us vs Q E hr e0 hb r hsp => ?_⟩
  obtain ⟨hl, x, dx, fs, rest, rfl, hx, hsp⟩ := hsp
  obtain ⟨oc, od, kV, doc, pm, an, ct, osl, rfl, lk, hcd⟩ := F.ex
  obtain ⟨cl, cld, csl, hcell⟩ := F.cell
  obtain ⟨cda, ccl, cdd, fv, ccs, file, tf, rfl, hcode, hvs, hfile⟩ := F.code
  obtain ⟨cdD, hD⟩ := F.cls
  have KX : K.In s.heap := e0.mod.kin.keeps fun b o e => (e0.bs b o e).1
  have lim : s.heap.NoLimit := e0.mod.nolimit.keeps fun b o e => (e0.bs b o e).1
  refine PySem.ks_codeAny_call_defAt (binds := ps.zip us) hr.depth (KX _ _ lk) rfl lim (PySem.W.codeRec_of KX hcd) rfl hb S.nocell (fun y hy => S.par y.1 (List.of_mem_zip (a := y.1) (b := y.2) hy).1) (fun h₀ hns hk => ?_) S.co S.gen S.kind
  have I := inv_sup (CX := L2.CX P w) (P := P) (w := w) (mg := mg) (qual := qual) (f := f) (cd := .ref cda) (A := A) (outer := outer) (E := E) (tk := s.toks + (ps.zip us).length) S hr.hd e0 hl r hcell hns hk
  obtain ⟨ar, har, hself⟩ : ∃ ar, (params.posonlyargs ++ params.args).head? = some ar ∧ ar.arg = self := by
    cases e1 : (params.posonlyargs ++ params.args).head? with
    | none => rw [e1] at hpar; cases hpar
    | some ar => rw [e1] at hpar; exact ⟨ar, rfl, Option.some.inj hpar⟩
  have K0 : K.In h₀ := KX.keeps hk
  obtain ⟨oD, hD1, hD2⟩ : ∃ oD, h₀.get? D = some oD ∧ oD.data = .cls cdD := by
    unfold PySem.W.clsIn at hD
    split at hD
    · rename_i c d cd' sl ho
      cases hD
      exact ⟨_, K0 _ _ ho, rfl⟩
    · cases hD
  refine PySem.ks_wpAt_execs_cons (PySem.ks_wpAt_Expr_any (PySem.ks_wpAt_MethodCall ?_ (hev _)) (hi := by show (scope.kind == .module && _) = false; rw [S.kind]; rfl) (hs := hsw _))
  refine PySem.ks_wpAt_super_base S.sup S.cls hmc rfl (K0 _ _ lk) rfl har rfl (K0 _ _ hcode) rfl hvs hfile F.top ?_
  obtain ⟨mb, hb1, hb2⟩ := I.mod.blt
  refine PySem.W.ks_loadName_global S.kind S.sup (Calls.loadGlobal_builtin (I.mod.glob.keeps I.bk) hsup (hb1.keeps I.bk) ((hb2 "super" (by decide)).trans PyProof.Rows.Boot.«super») ⟨rfl, ?_⟩)
  refine wpAny_loadName_free S.kind S.cls (c := cc) (by rfl) ⟨_, K0 _ _ hcell, rfl⟩ ?_
  obtain ⟨u0, us', rfl, r1, r2⟩ : ∃ u0 us', us = u0 :: us' ∧ RelV (.ref x) u0 ∧ Vals rest us' := by
    cases r with
    | cons r1 r2 => exact ⟨_, _, rfl, r1, r2⟩
  obtain rfl : u0 = .ref x := r1
  have hp0 : ps[0]? = some ar.arg := by
    rw [hself, ← hps]
    cases ps <;> rfl
  refine wpAny_loadName_local S.kind (S.par _ (List.mem_of_getElem? hp0)) hns (bindL_rev (qual := qual) (L := 0) (f := 0) (cd := .none) S.nd hp0 (by rfl)) ?_
  refine PySem.ks_wpAny_isType_cls hD1 hD2 ⟨rfl, ?_⟩
  obtain ⟨mA, J, _⟩ := ins_get I.hok hx
  obtain ⟨odx, J, _⟩ := J.look
  obtain ⟨cdC, hC⟩ := hcl
  refine PySem.ks_wpAny_call_super hD1 hD2 J.at_ J.cls (fun c e => ?_) (PySem.W.looks_mroIn K0 sub) (fun h1 ho1 k1 => ?_)
  · have := J.no
    unfold PySem.W.notCls at this
    rw [e] at this
    exact Bool.noConfusion this
  have I1 := I.kept (t' := s.toks + (ps.zip (Value.ref x :: us')).length) k1
  have K1 : K.In h1 := K0.keeps k1
  have J1 := (ins_get I1.hok hx)
  obtain ⟨of2, hof, hofc⟩ : ∃ of, h1.get? f2 = some of ∧ of.cls = .type "function" := by
    have ht' : (K.lookup f2).map (·.cls) = some (.type "function") := ht
    cases z : K.lookup f2 with
    | none => rw [z] at ht'; cases ht'
    | some of => rw [z] at ht'; exact ⟨of, K1 _ _ z, Option.some.inj ht'⟩
  have hm' : PySem.W.alongIn K m ((cdC.mro.dropWhile (· != .ref D)).drop 1) = some (some (.ref f2)) := by
    unfold PySem.W.ks_superIn at hm
    rw [hC] at hm
    exact hm
  refine PySem.ks_wpAny_getMethod_super ho1 (PySem.W.looks_opaque K1 F.opq) (l₀ := cdC.mro) ?_ rfl K1 hm' hof hofc (PySem.W.ks_ne K0 J hC) hmc ?_
  · exact fun A Q E s k q => wpAny_bind ((PySem.W.looks_clsIn K1 hC) A _ E s k (wpAny_pure q))
  have hf0 : H h1.objs.size = none := I1.hok.fresh (Nat.le_refl _)
  have hfp := I1.fpOk (Nat.le_refl _) hf0
  have hget : (h1.push (PySem.W.methodObj (.ref f2) (.ref x))).get? h1.objs.size = some (PySem.W.methodObj (.ref f2) (.ref x)) := Heap.get?_push_at rfl rfl
  have I2 := I1.kept (h' := h1.push (PySem.W.methodObj (.ref f2) (.ref x))) (t' := s.toks + (ps.zip (Value.ref x :: us')).length + 1) (fun b o e => Heap.get?_push_of_some _ e)
  have I3 : Inv (cxS (L2.CX P w) P w K mg base ps qual scope f (.ref cda) cc A outer s H E) [(h1.objs.size, PySem.W.methodObj (.ref f2) (.ref x))] _ H _ := I2.pins_of fun p hp => by
    rw [List.mem_singleton.mp hp]
    exact ⟨hget, hf0, hfp.2.1, hfp.2.2.1, fun v z => nomatch z⟩
  have hX : Passes (L2.CX P w) (cxS (L2.CX P w) P w K mg base ps qual scope f (.ref cda) cc A outer s H E) E := passes_call (takes_of rfl rfl rfl rfl) (fun _ _ _ _ h => h)
  have hnb : base.get? h1.objs.size = none := by
    cases z : base.get? h1.objs.size with
    | none => rfl
    | some o => exact absurd (Heap.lt_size (k1 _ _ (hk _ _ (e0.bs _ _ z).1))) (Nat.lt_irrefl _)
  refine PySem.W.callWith_M (K := K) (h₀ := base) (L := s.heap.objs.size) (news := [(h1.objs.size, PySem.W.methodObj (.ref f2) (.ref x))]) e0.mod.kin (fun p hp => by rw [List.mem_singleton.mp hp]; exact ⟨hget, hfp.2.1, hnb⟩) (List.mem_singleton.mpr rfl) hfn ?_ (hst _) (hpl _)
  refine thn ((ha A outer s H E).run pc _ _ _ H _ I3 hsp) fun us2 s2 ⟨zs, H2, I4, rz, q2⟩ => ?_
  have hq := (I4.pin _ (List.mem_append_right _ (List.mem_singleton.mpr rfl))).1
  refine ⟨⟨hq, I4.kIn⟩, ?_⟩
  have r3 : Vals (.ref x :: zs) (.ref x :: us2) := .cons rfl rz
  have hl2 : (Value.ref x :: us2).length = ps2.length := by rw [← r3.length]; exact F2.len _ _ _ _ q2
  refine wpAny_call (PySem.W.method_call hq (codeAny_mono (F2.run _ _ s2 H2 ⟨.ref x :: us2, []⟩ (.ref x :: us2) (.ref x :: zs) _ E (hr.deeper _) I4.env0 (by have := b2 s2 (.ref x :: us2) I4.kIn (by rw [List.append_nil]; exact hl2); rw [List.append_nil] at this; exact this) r3 q2) fun r s' hq' => ?_))
  cases r with
  | error e => exact hX _ _ H2 s2 e s' I4 hq'
  | ok fl =>
    cases fl with
    | ret u =>
      obtain ⟨v, H', J', rv, q3⟩ := I4.after hq'
      exact wpAt_of_wpAny (wpAny_pure ⟨.non, H', J'.os, J'.bare, J'.base, J'.hok, rfl, q3⟩)
    | next => exact False.elim hq'
    | brk => exact False.elim hq'
    | cont => exact False.elim hq'
end
end So

namespace K12
open PySem PySem.Spec PyProof.Rows L2 So
abbrev sChecked : Stmt := topS 27
abbrev checkedN : List Str := ["kind", "told", "value", "form"]
theorem scChecked : FnScope checkedN ["kind", "told"] (defScope sChecked) := ⟨rfl, rfl, rfl, by decide +kernel, rfl, by decide +kernel, by decide +kernel⟩
/-- zip of two tuples, walked -/
theorem walk_zipT {K : PySem.W.Frag} {a b : Addr} {xs ys : List V} {n : Nat} (hn : n = min xs.length ys.length) : Walk (RZ.ItzT K a b) n (fun H => SqT K H a xs ∧ SqT K H b ys) (YPair (fun i => xs[i]?) (fun i => ys[i]?)) := by
  subst hn
  refine ⟨fun i _ hi q => ?_, fun _ q => ⟨xs, ys, q.1, q.2, by omega⟩, fun i H v H' _ q y => ?_⟩
  · have h1 : i < xs.length := by omega
    have h2 : i < ys.length := by omega
    exact ⟨xs, ys, xs[i], ys[i], q.1, q.2, by simp [h1], by simp [h2]⟩
  · obtain ⟨T, x, z, h1, h2, h3, h4, h5⟩ := y
    exact ⟨T, x, z, h1, h2, h3, h4 xs q.1, h5 ys q.2⟩
/-- the forms of a kind's arguments -/
def formsOf (kind : Str) : List Str :=
  if kind = "begun" then ["name", "beginning"] else if kind = "setby" then ["name", "beginning", "name"] else if kind = "found" then ["name", "moment", "truth"] else if kind = "trusted" then ["name"]
  else if kind = "passed" ∨ kind = "failed" then ["name", "moment", "name"] else ["name", "moment", "name", "moment"]
def kinds : List Str := ["begun", "setby", "found", "trusted", "passed", "failed", "agreed", "differed", "served", "backed"]
def okF (form : Str) (v : V) : Bool := if form = "name" then gNam v else if form = "moment" then gMom v else if form = "beginning" then gBeg v else gTru v
/-- the first value that has not its form: the error's class, the field, the value -/
def badL (CN CM CS : Addr) : List (V × Str) → Option (Addr × Str × V)
  | [] => none
  | (v, f) :: r => if okF f v = true then badL CN CM CS r else some (if f = "name" then (CN, "name", v) else if f = "truth" then (CS, "value", v) else (CM, "moment", v))
theorem badL_at {CN CM CS : Addr} {v : V} {f : Str} : ∀ {l : List (V × Str)} {i : Nat}, badL CN CM CS (l.take i) = none → l[i]? = some (v, f) → (okF f v = true → badL CN CM CS (l.take (i + 1)) = none) ∧ (okF f v = false → badL CN CM CS l = some (if f = "name" then (CN, ("name" : Str), v) else if f = "truth" then (CS, ("value" : Str), v) else (CM, ("moment" : Str), v)))
  | [], _, _, e => by simp at e
  | p :: r, 0, _, e => by
    have e : p = (v, f) := by simpa using e
    subst e
    refine ⟨fun h => ?_, fun h => ?_⟩
    · show badL CN CM CS [(v, f)] = none
      unfold badL
      rw [if_pos h]
      rfl
    · unfold badL
      rw [if_neg (by rw [h]; exact Bool.false_ne_true)]
  | (v', f') :: r, i + 1, h, e => by
    have h : badL CN CM CS ((v', f') :: r.take i) = none := h
    unfold badL at h
    split at h
    · rename_i c
      obtain ⟨a, b⟩ := badL_at (l := r) (i := i) h (by simpa using e)
      refine ⟨fun z => ?_, fun z => ?_⟩
      · show badL CN CM CS ((v', f') :: r.take (i + 1)) = none
        unfold badL
        rw [if_pos c]
        exact a z
      · unfold badL
        rw [if_pos c]
        exact b z
    · cases h
theorem forms_in : ∀ kind ∈ kinds, ∀ f ∈ formsOf kind, f ∈ (["name", "moment", "beginning", "truth"] : List Str) := by decide +kernel
theorem form_of {CN CM CS : Addr} {f : Str} {v : V} (h : f ∈ (["name", "moment", "beginning", "truth"] : List Str)) : ∃ C fl, Form CN CM CS f v (okF f v) C fl ∧ (if f = "name" then (CN, ("name" : Str), v) else if f = "truth" then (CS, "value", v) else (CM, "moment", v)) = (C, fl, v) := by
  simp only [List.mem_cons, List.not_mem_nil, or_false] at h
  rcases h with h | h | h | h <;> subst h
  · exact ⟨CN, "name", .inl ⟨rfl, rfl, rfl, rfl⟩, rfl⟩
  · exact ⟨CM, "moment", .inr (.inl ⟨rfl, rfl, rfl, rfl⟩), rfl⟩
  · exact ⟨CM, "moment", .inr (.inr (.inl ⟨rfl, rfl, rfl, rfl⟩)), rfl⟩
  · exact ⟨CS, "value", .inr (.inr (.inr ⟨rfl, rfl, rfl, rfl⟩)), rfl⟩
section
variable {P : Program} {w : World} {K : PySem.W.Frag} {mg : Str → Option Value} {base : Heap}
/-- what the top says of the table of forms, at aF -/
structure Forms (K : PySem.W.Frag) (w : World) (mg : Str → Option Value) (aF : Addr) : Prop where
  mgF : mg "FORMS" = some (.ref aF)
  tab : ∀ kind ∈ kinds, ∃ ft, KDct K w aF kind (.ref ft) ∧ ∀ H, SqT K H ft ((formsOf kind).map V.str)
  zip : mg "zip" = none
/-- both ways out of what looks at these values -/
def WaysL (CN CM CS : Addr) (l : List (V × Str)) (H : Hp) (E : XK) (q : Prop) : Prop :=
  (badL CN CM CS l = none → q) ∧ ∀ C fl v, badL CN CM CS l = some (C, fl, v) → ∀ d H', Same H H' → H' d = some (.xd [(fl, v)]) → E (.ref C) (some d) H'
def spChecked (CN CM CS : Addr) : Sp := fun vs H Q E => ∃ (kind : Str) (tt : Addr) (xs : List V), vs = [.str kind, .ref tt] ∧ kind ∈ kinds ∧ H tt = some (.tup xs) ∧ xs.length = (formsOf kind).length ∧ (∀ x ∈ xs, ∃ T, Gv H x T) ∧
  WaysL CN CM CS (xs.zip (formsOf kind)) H E (∀ H', Same H H' → Q (.ref tt) H')
theorem ok_checked {CN CM CS f fC aF : Addr} {fd fdC : FuncData} (F : Fun K "checked" "checked" sChecked f fd) (T : Forms K w mg aF) (FC : Fun K "check_form" "check_form" sCheck fC fdC) (bC : Binds K fdC ["value", "form"] []) (gC : mg "check_form" = some (.ref fC))
    (GC : FnOk P w K mg base (L2.CX P w) 3 fC fdC ["value", "form"] (spCheck CN CM CS)) : FnOk P w K mg base (L2.CX P w) 4 f fd ["kind", "told"] (spChecked CN CM CS) := by
  refine F.okX scChecked (fun vs H Q E h => ?_) (fun cdv A outer s H vs Q E hr h => ?_)
  · obtain ⟨_, _, _, rfl, _⟩ := h
    rfl
  · obtain ⟨kind, tt, xs, rfl, hk, ht, hl, hg, qy, qn⟩ := h
    obtain ⟨ft, hd, hft⟩ := T.tab kind hk
    have hfo := forms_in kind hk
    refine ⟨_, pss_cons (ps_for PassesOwn.leaving rfl (RZ.pi_zipA (by rfl) T.zip (pa_cons (pv 1) (pa_cons (pe_ix ix_kdict (pe_glob (v := .ref aF) rfl T.mgF rfl) (pv 0) (fun _ _ => rfl)) pa_nil))) (pg_tup rfl (pgs_cons (pg_name (i := 2) scChecked.nd rfl (Or.inl rfl)) (pgs_cons (pg_name (i := 3) scChecked.nd rfl (Or.inl rfl)) pgs_nil)))
        (pss_one (ps_expr (pe_call GC hr (by rfl) gC FC.kp bC .nil (passes_call (takes_of rfl rfl rfl rfl) (fun _ _ _ _ h => h)) (pa_cons (pv 2) (pa_cons (pv 3) pa_nil))))))
      (pss_one (ps_ret (pv 1))), ?_⟩
    generalize formsOf kind = fo at hl hft hfo qy qn
    refine ⟨_, rfl, _, rfl, aF, kind, .ref ft, rfl, rfl, hd, tt, ft, xs, fo.map V.str, rfl, .inr ⟨SqT.of ht, hft _, ?_⟩⟩
    refine for_it (walk_zipT rfl) (fun i σ H' => (∃ x2 x3, σ = [some (.str kind), some (.ref tt), x2, x3]) ∧ Same H H' ∧ badL CN CM CS ((xs.zip fo).take i) = none) ⟨⟨none, none, rfl⟩, Same.refl _, rfl⟩ (fun _ _ _ _ y => ⟨SqT.of (y.2.1 _ _ ht), hft _⟩) ?_ ?_
    · rintro i x σ H2 H3 hi ⟨⟨x2, x3, rfl⟩, s2, hb⟩ ⟨T0, u, y, rfl, hT0, rfl, hu, hy⟩
      have s3 := s2.trans (same_upd0 (o := .tup [u, y]) hT0)
      replace hy : (fo.map V.str)[i]? = some y := hy
      rw [List.getElem?_map] at hy
      obtain ⟨fm, hfm, rfl⟩ : ∃ fm, fo[i]? = some fm ∧ y = .str fm := by
        cases e : fo[i]? with
        | none => rw [e] at hy; cases hy
        | some m => rw [e] at hy; exact ⟨m, rfl, (Option.some.inj hy).symm⟩
      replace hu : xs[i]? = some u := hu
      obtain ⟨Tu, hgu⟩ := hg u (List.mem_of_getElem? hu)
      have hz : (xs.zip fo)[i]? = some (u, fm) := by
        rw [List.getElem?_zip_eq_some]
        exact ⟨hu, hfm⟩
      obtain ⟨C, fl, hF, he⟩ := form_of (CN := CN) (CM := CM) (CS := CS) (v := u) (hfo fm (List.mem_of_getElem? hfm))
      obtain ⟨b1, b2⟩ := badL_at hb hz
      refine ⟨T0, _, rfl, SqT.of upd_same, rfl, _, _, rfl, _, _, rfl, rfl, ?_⟩
      refine ⟨_, rfl, _, rfl, u, Tu, fm, _, C, fl, rfl, hgu.same s3, hF, fun g H4 s4 => ⟨⟨_, _, rfl⟩, s3.trans s4, b1 g⟩, fun g d H4 s4 e => ?_⟩
      exact qn C fl u (by rw [b2 g, he]) d H4 (s3.trans s4) e
    · rintro σ H2 ⟨⟨x2, x3, rfl⟩, s2, hb⟩
      refine ⟨_, rfl, qy ?_ H2 s2⟩
      rw [List.take_of_length_le (by rw [List.length_zip, List.length_map]; exact Nat.le_refl _)] at hb
      exact hb
end
end K12

namespace K12
open PySem PySem.Spec PyProof.Rows L2 So
theorem lenC {n : Str} {v : V} {fs : List (Str × V)} {k : Nat} (h : fs.length ≤ k) : (putF n v fs).length ≤ k + 1 := Nat.le_trans (length_putF _ _ _) (Nat.succ_le_succ h)
section
variable {P : Program} {w : World} {K : PySem.W.Frag} {mg : Str → Option Value} {base : Heap}
/-- what the top says of a row's class -/
structure RowC (K : PySem.W.Frag) (C : Addr) (l : List Str) : Prop where
  cl : Cls K C
  no : ∀ n ∈ l, NoAttr K C n
def spRow (CN CM CS C : Addr) (kind : Str) : Sp := fun vs H Q E => ∃ (x dx : Addr) (xs : List V), vs = .ref x :: xs ∧ H x = some (.ins C dx []) ∧ xs.length = (formsOf kind).length ∧ (∀ y ∈ xs, ∃ T, Gv H y T) ∧
  WaysL CN CM CS (xs.zip (formsOf kind)) H E (∀ H' fs, Off x H H' → H' x = some (.ins C dx fs) → fs.lookup ("kind" : Str) = some (V.str kind) → Q .non H')
abbrev sBegun : Stmt := inClass (topS 32) 0
theorem scBegun : FnScope ["self", "tool", "moment"] ["self", "tool", "moment"] (defScope sBegun) := ⟨rfl, rfl, rfl, by decide +kernel, rfl, by decide +kernel, by decide +kernel⟩
theorem ok_Begun {CN CM CS C f fK : Addr} {fd fdK : FuncData} (F : Fun K "__init__" "Begun.__init__" sBegun f fd) (T : RowC K C ["_told", "kind", "tool", "moment"]) (FK : Fun K "checked" "checked" sChecked fK fdK) (bK : Binds K fdK ["kind", "told"] []) (gK : mg "checked" = some (.ref fK))
    (GK : FnOk P w K mg base (L2.CX P w) 4 fK fdK ["kind", "told"] (spChecked CN CM CS)) : FnOk P w K mg base (L2.CX P w) 5 f fd ["self", "tool", "moment"] (spRow CN CM CS C "begun") := by
  refine F.okX scBegun (fun vs H Q E h => ?_) (fun cdv A outer s H vs Q E hr h => ?_)
  · obtain ⟨x, dx, xs, rfl, _, hl, _⟩ := h
    show xs.length + 1 = 3
    have : (formsOf "begun").length = 2 := by decide +kernel
    omega
  · obtain ⟨x, dx, xs, rfl, hx, hl, hg, qy, qn⟩ := h
    have hkin : ("begun" : Str) ∈ kinds := by decide +kernel
    have hl4 : (formsOf "begun").length = 2 := by decide +kernel
    obtain ⟨v0, v1, rfl⟩ : ∃ v0 v1, xs = [v0, v1] := by
      rw [hl4] at hl
      match xs, hl with
      | [v0, v1], _ => exact ⟨_, _, rfl⟩
    have no := T.no
    simp only [List.forall_mem_cons] at no
    obtain ⟨n0, n1, n2, n3, _⟩ := no
    refine ⟨_, pss_cons (ps_fld (pv 0) (pe_call GK hr (by rfl) gK FK.kp bK .nil (passes_call (takes_of rfl rfl rfl rfl) (fun _ _ _ _ h => h)) (pa_cons pe_str (pa_cons (pe_tup (pa_cons (pv 1) (pa_cons (pv 2) pa_nil))) pa_nil))) rfl)
      (pss_cons (ps_fld (pv 0) pe_str rfl)
      (pss_cons (ps_fld (pv 0) (pv 1) rfl) (pss_one (ps_fld (pv 0) (pv 2) rfl)))), ?_⟩
    refine ⟨_, rfl, _, rfl, by show 2 ≤ sizeLine; decide, fun tp htp => ?_⟩
    have s1 := same_upd0 (o := .tup [v0, v1]) htp
    refine ⟨"begun", tp, [v0, v1], rfl, hkin, upd_same, hl, (fun y hy => (hg y hy).elim fun T h => ⟨T, h.same s1⟩), fun gd H2 s2 => ?_, fun C' fl v g d H' s e => qn C' fl v g d H' (s1.trans s) e⟩
    have hx2 := s2 _ _ (s1 _ _ hx)
    have s12 := s1.trans s2
    refine ⟨_, rfl, x, C, dx, [], rfl, hx2, T.cl, n0, by show 0 < 1000; decide, ?_⟩
    refine ⟨_, rfl, x, C, dx, _, rfl, upd_same, T.cl, n1, Nat.lt_of_le_of_lt (lenC (Nat.le_refl 0)) (by decide), ?_⟩
    refine ⟨_, rfl, _, rfl, x, C, dx, _, rfl, upd_same, T.cl, n2, Nat.lt_of_le_of_lt (lenC (lenC (Nat.le_refl 0))) (by decide), ?_⟩
    refine ⟨_, rfl, _, rfl, x, C, dx, _, rfl, upd_same, T.cl, n3, Nat.lt_of_le_of_lt (lenC (lenC (lenC (Nat.le_refl 0)))) (by decide), ?_⟩
    refine qy gd _ _ (fun c o nc e => ?_) upd_same ?_
    · rw [upd_ne nc, upd_ne nc, upd_ne nc, upd_ne nc]
      exact s12 c o e
    · repeat rw [lookup_putF]
      simp [show ¬ (("kind" : Str) = "tool") by decide +kernel, show ¬ (("kind" : Str) = "moment") by decide +kernel, show ¬ (("kind" : Str) = "by") by decide +kernel, show ¬ (("kind" : Str) = "is_sound") by decide +kernel, show ¬ (("kind" : Str) = "one") by decide +kernel, show ¬ (("kind" : Str) = "other") by decide +kernel, show ¬ (("kind" : Str) = "later") by decide +kernel]
abbrev sSetBy : Stmt := inClass (topS 33) 0
theorem scSetBy : FnScope ["self", "tool", "moment", "by"] ["self", "tool", "moment", "by"] (defScope sSetBy) := ⟨rfl, rfl, rfl, by decide +kernel, rfl, by decide +kernel, by decide +kernel⟩
theorem ok_SetBy {CN CM CS C f fK : Addr} {fd fdK : FuncData} (F : Fun K "__init__" "SetBy.__init__" sSetBy f fd) (T : RowC K C ["_told", "kind", "tool", "moment", "by"]) (FK : Fun K "checked" "checked" sChecked fK fdK) (bK : Binds K fdK ["kind", "told"] []) (gK : mg "checked" = some (.ref fK))
    (GK : FnOk P w K mg base (L2.CX P w) 4 fK fdK ["kind", "told"] (spChecked CN CM CS)) : FnOk P w K mg base (L2.CX P w) 5 f fd ["self", "tool", "moment", "by"] (spRow CN CM CS C "setby") := by
  refine F.okX scSetBy (fun vs H Q E h => ?_) (fun cdv A outer s H vs Q E hr h => ?_)
  · obtain ⟨x, dx, xs, rfl, _, hl, _⟩ := h
    show xs.length + 1 = 4
    have : (formsOf "setby").length = 3 := by decide +kernel
    omega
  · obtain ⟨x, dx, xs, rfl, hx, hl, hg, qy, qn⟩ := h
    have hkin : ("setby" : Str) ∈ kinds := by decide +kernel
    have hl4 : (formsOf "setby").length = 3 := by decide +kernel
    obtain ⟨v0, v1, v2, rfl⟩ : ∃ v0 v1 v2, xs = [v0, v1, v2] := by
      rw [hl4] at hl
      match xs, hl with
      | [v0, v1, v2], _ => exact ⟨_, _, _, rfl⟩
    have no := T.no
    simp only [List.forall_mem_cons] at no
    obtain ⟨n0, n1, n2, n3, n4, _⟩ := no
    refine ⟨_, pss_cons (ps_fld (pv 0) (pe_call GK hr (by rfl) gK FK.kp bK .nil (passes_call (takes_of rfl rfl rfl rfl) (fun _ _ _ _ h => h)) (pa_cons pe_str (pa_cons (pe_tup (pa_cons (pv 1) (pa_cons (pv 2) (pa_cons (pv 3) pa_nil)))) pa_nil))) rfl)
      (pss_cons (ps_fld (pv 0) pe_str rfl)
      (pss_cons (ps_fld (pv 0) (pv 1) rfl) (pss_cons (ps_fld (pv 0) (pv 2) rfl) (pss_one (ps_fld (pv 0) (pv 3) rfl))))), ?_⟩
    refine ⟨_, rfl, _, rfl, _, rfl, by show 3 ≤ sizeLine; decide, fun tp htp => ?_⟩
    have s1 := same_upd0 (o := .tup [v0, v1, v2]) htp
    refine ⟨"setby", tp, [v0, v1, v2], rfl, hkin, upd_same, hl, (fun y hy => (hg y hy).elim fun T h => ⟨T, h.same s1⟩), fun gd H2 s2 => ?_, fun C' fl v g d H' s e => qn C' fl v g d H' (s1.trans s) e⟩
    have hx2 := s2 _ _ (s1 _ _ hx)
    have s12 := s1.trans s2
    refine ⟨_, rfl, x, C, dx, [], rfl, hx2, T.cl, n0, by show 0 < 1000; decide, ?_⟩
    refine ⟨_, rfl, x, C, dx, _, rfl, upd_same, T.cl, n1, Nat.lt_of_le_of_lt (lenC (Nat.le_refl 0)) (by decide), ?_⟩
    refine ⟨_, rfl, _, rfl, x, C, dx, _, rfl, upd_same, T.cl, n2, Nat.lt_of_le_of_lt (lenC (lenC (Nat.le_refl 0))) (by decide), ?_⟩
    refine ⟨_, rfl, _, rfl, x, C, dx, _, rfl, upd_same, T.cl, n3, Nat.lt_of_le_of_lt (lenC (lenC (lenC (Nat.le_refl 0)))) (by decide), ?_⟩
    refine ⟨_, rfl, _, rfl, x, C, dx, _, rfl, upd_same, T.cl, n4, Nat.lt_of_le_of_lt (lenC (lenC (lenC (lenC (Nat.le_refl 0))))) (by decide), ?_⟩
    refine qy gd _ _ (fun c o nc e => ?_) upd_same ?_
    · rw [upd_ne nc, upd_ne nc, upd_ne nc, upd_ne nc, upd_ne nc]
      exact s12 c o e
    · repeat rw [lookup_putF]
      simp [show ¬ (("kind" : Str) = "tool") by decide +kernel, show ¬ (("kind" : Str) = "moment") by decide +kernel, show ¬ (("kind" : Str) = "by") by decide +kernel, show ¬ (("kind" : Str) = "is_sound") by decide +kernel, show ¬ (("kind" : Str) = "one") by decide +kernel, show ¬ (("kind" : Str) = "other") by decide +kernel, show ¬ (("kind" : Str) = "later") by decide +kernel]
abbrev sFound : Stmt := inClass (topS 34) 0
theorem scFound : FnScope ["self", "tool", "moment", "is_sound"] ["self", "tool", "moment", "is_sound"] (defScope sFound) := ⟨rfl, rfl, rfl, by decide +kernel, rfl, by decide +kernel, by decide +kernel⟩
theorem ok_Found {CN CM CS C f fK : Addr} {fd fdK : FuncData} (F : Fun K "__init__" "Found.__init__" sFound f fd) (T : RowC K C ["_told", "kind", "tool", "moment", "is_sound"]) (FK : Fun K "checked" "checked" sChecked fK fdK) (bK : Binds K fdK ["kind", "told"] []) (gK : mg "checked" = some (.ref fK))
    (GK : FnOk P w K mg base (L2.CX P w) 4 fK fdK ["kind", "told"] (spChecked CN CM CS)) : FnOk P w K mg base (L2.CX P w) 5 f fd ["self", "tool", "moment", "is_sound"] (spRow CN CM CS C "found") := by
  refine F.okX scFound (fun vs H Q E h => ?_) (fun cdv A outer s H vs Q E hr h => ?_)
  · obtain ⟨x, dx, xs, rfl, _, hl, _⟩ := h
    show xs.length + 1 = 4
    have : (formsOf "found").length = 3 := by decide +kernel
    omega
  · obtain ⟨x, dx, xs, rfl, hx, hl, hg, qy, qn⟩ := h
    have hkin : ("found" : Str) ∈ kinds := by decide +kernel
    have hl4 : (formsOf "found").length = 3 := by decide +kernel
    obtain ⟨v0, v1, v2, rfl⟩ : ∃ v0 v1 v2, xs = [v0, v1, v2] := by
      rw [hl4] at hl
      match xs, hl with
      | [v0, v1, v2], _ => exact ⟨_, _, _, rfl⟩
    have no := T.no
    simp only [List.forall_mem_cons] at no
    obtain ⟨n0, n1, n2, n3, n4, _⟩ := no
    refine ⟨_, pss_cons (ps_fld (pv 0) (pe_call GK hr (by rfl) gK FK.kp bK .nil (passes_call (takes_of rfl rfl rfl rfl) (fun _ _ _ _ h => h)) (pa_cons pe_str (pa_cons (pe_tup (pa_cons (pv 1) (pa_cons (pv 2) (pa_cons (pv 3) pa_nil)))) pa_nil))) rfl)
      (pss_cons (ps_fld (pv 0) pe_str rfl)
      (pss_cons (ps_fld (pv 0) (pv 1) rfl) (pss_cons (ps_fld (pv 0) (pv 2) rfl) (pss_one (ps_fld (pv 0) (pv 3) rfl))))), ?_⟩
    refine ⟨_, rfl, _, rfl, _, rfl, by show 3 ≤ sizeLine; decide, fun tp htp => ?_⟩
    have s1 := same_upd0 (o := .tup [v0, v1, v2]) htp
    refine ⟨"found", tp, [v0, v1, v2], rfl, hkin, upd_same, hl, (fun y hy => (hg y hy).elim fun T h => ⟨T, h.same s1⟩), fun gd H2 s2 => ?_, fun C' fl v g d H' s e => qn C' fl v g d H' (s1.trans s) e⟩
    have hx2 := s2 _ _ (s1 _ _ hx)
    have s12 := s1.trans s2
    refine ⟨_, rfl, x, C, dx, [], rfl, hx2, T.cl, n0, by show 0 < 1000; decide, ?_⟩
    refine ⟨_, rfl, x, C, dx, _, rfl, upd_same, T.cl, n1, Nat.lt_of_le_of_lt (lenC (Nat.le_refl 0)) (by decide), ?_⟩
    refine ⟨_, rfl, _, rfl, x, C, dx, _, rfl, upd_same, T.cl, n2, Nat.lt_of_le_of_lt (lenC (lenC (Nat.le_refl 0))) (by decide), ?_⟩
    refine ⟨_, rfl, _, rfl, x, C, dx, _, rfl, upd_same, T.cl, n3, Nat.lt_of_le_of_lt (lenC (lenC (lenC (Nat.le_refl 0)))) (by decide), ?_⟩
    refine ⟨_, rfl, _, rfl, x, C, dx, _, rfl, upd_same, T.cl, n4, Nat.lt_of_le_of_lt (lenC (lenC (lenC (lenC (Nat.le_refl 0))))) (by decide), ?_⟩
    refine qy gd _ _ (fun c o nc e => ?_) upd_same ?_
    · rw [upd_ne nc, upd_ne nc, upd_ne nc, upd_ne nc, upd_ne nc]
      exact s12 c o e
    · repeat rw [lookup_putF]
      simp [show ¬ (("kind" : Str) = "tool") by decide +kernel, show ¬ (("kind" : Str) = "moment") by decide +kernel, show ¬ (("kind" : Str) = "by") by decide +kernel, show ¬ (("kind" : Str) = "is_sound") by decide +kernel, show ¬ (("kind" : Str) = "one") by decide +kernel, show ¬ (("kind" : Str) = "other") by decide +kernel, show ¬ (("kind" : Str) = "later") by decide +kernel]
abbrev sTrusted : Stmt := inClass (topS 35) 0
theorem scTrusted : FnScope ["self", "tool"] ["self", "tool"] (defScope sTrusted) := ⟨rfl, rfl, rfl, by decide +kernel, rfl, by decide +kernel, by decide +kernel⟩
theorem ok_Trusted {CN CM CS C f fK : Addr} {fd fdK : FuncData} (F : Fun K "__init__" "Trusted.__init__" sTrusted f fd) (T : RowC K C ["_told", "kind", "tool"]) (FK : Fun K "checked" "checked" sChecked fK fdK) (bK : Binds K fdK ["kind", "told"] []) (gK : mg "checked" = some (.ref fK))
    (GK : FnOk P w K mg base (L2.CX P w) 4 fK fdK ["kind", "told"] (spChecked CN CM CS)) : FnOk P w K mg base (L2.CX P w) 5 f fd ["self", "tool"] (spRow CN CM CS C "trusted") := by
  refine F.okX scTrusted (fun vs H Q E h => ?_) (fun cdv A outer s H vs Q E hr h => ?_)
  · obtain ⟨x, dx, xs, rfl, _, hl, _⟩ := h
    show xs.length + 1 = 2
    have : (formsOf "trusted").length = 1 := by decide +kernel
    omega
  · obtain ⟨x, dx, xs, rfl, hx, hl, hg, qy, qn⟩ := h
    have hkin : ("trusted" : Str) ∈ kinds := by decide +kernel
    have hl4 : (formsOf "trusted").length = 1 := by decide +kernel
    obtain ⟨v0, rfl⟩ : ∃ v0, xs = [v0] := by
      rw [hl4] at hl
      match xs, hl with
      | [v0], _ => exact ⟨_, rfl⟩
    have no := T.no
    simp only [List.forall_mem_cons] at no
    obtain ⟨n0, n1, n2, _⟩ := no
    refine ⟨_, pss_cons (ps_fld (pv 0) (pe_call GK hr (by rfl) gK FK.kp bK .nil (passes_call (takes_of rfl rfl rfl rfl) (fun _ _ _ _ h => h)) (pa_cons pe_str (pa_cons (pe_tup (pa_cons (pv 1) pa_nil)) pa_nil))) rfl)
      (pss_cons (ps_fld (pv 0) pe_str rfl)
      (pss_one (ps_fld (pv 0) (pv 1) rfl))), ?_⟩
    refine ⟨_, rfl, by show 1 ≤ sizeLine; decide, fun tp htp => ?_⟩
    have s1 := same_upd0 (o := .tup [v0]) htp
    refine ⟨"trusted", tp, [v0], rfl, hkin, upd_same, hl, (fun y hy => (hg y hy).elim fun T h => ⟨T, h.same s1⟩), fun gd H2 s2 => ?_, fun C' fl v g d H' s e => qn C' fl v g d H' (s1.trans s) e⟩
    have hx2 := s2 _ _ (s1 _ _ hx)
    have s12 := s1.trans s2
    refine ⟨_, rfl, x, C, dx, [], rfl, hx2, T.cl, n0, by show 0 < 1000; decide, ?_⟩
    refine ⟨_, rfl, x, C, dx, _, rfl, upd_same, T.cl, n1, Nat.lt_of_le_of_lt (lenC (Nat.le_refl 0)) (by decide), ?_⟩
    refine ⟨_, rfl, _, rfl, x, C, dx, _, rfl, upd_same, T.cl, n2, Nat.lt_of_le_of_lt (lenC (lenC (Nat.le_refl 0))) (by decide), ?_⟩
    refine qy gd _ _ (fun c o nc e => ?_) upd_same ?_
    · rw [upd_ne nc, upd_ne nc, upd_ne nc]
      exact s12 c o e
    · repeat rw [lookup_putF]
      simp [show ¬ (("kind" : Str) = "tool") by decide +kernel, show ¬ (("kind" : Str) = "moment") by decide +kernel, show ¬ (("kind" : Str) = "by") by decide +kernel, show ¬ (("kind" : Str) = "is_sound") by decide +kernel, show ¬ (("kind" : Str) = "one") by decide +kernel, show ¬ (("kind" : Str) = "other") by decide +kernel, show ¬ (("kind" : Str) = "later") by decide +kernel]
abbrev sPassed : Stmt := inClass (topS 36) 0
theorem scPassed : FnScope ["self", "tool", "moment", "by"] ["self", "tool", "moment", "by"] (defScope sPassed) := ⟨rfl, rfl, rfl, by decide +kernel, rfl, by decide +kernel, by decide +kernel⟩
theorem ok_Passed {CN CM CS C f fK : Addr} {fd fdK : FuncData} (F : Fun K "__init__" "Passed.__init__" sPassed f fd) (T : RowC K C ["_told", "kind", "tool", "moment", "by"]) (FK : Fun K "checked" "checked" sChecked fK fdK) (bK : Binds K fdK ["kind", "told"] []) (gK : mg "checked" = some (.ref fK))
    (GK : FnOk P w K mg base (L2.CX P w) 4 fK fdK ["kind", "told"] (spChecked CN CM CS)) : FnOk P w K mg base (L2.CX P w) 5 f fd ["self", "tool", "moment", "by"] (spRow CN CM CS C "passed") := by
  refine F.okX scPassed (fun vs H Q E h => ?_) (fun cdv A outer s H vs Q E hr h => ?_)
  · obtain ⟨x, dx, xs, rfl, _, hl, _⟩ := h
    show xs.length + 1 = 4
    have : (formsOf "passed").length = 3 := by decide +kernel
    omega
  · obtain ⟨x, dx, xs, rfl, hx, hl, hg, qy, qn⟩ := h
    have hkin : ("passed" : Str) ∈ kinds := by decide +kernel
    have hl4 : (formsOf "passed").length = 3 := by decide +kernel
    obtain ⟨v0, v1, v2, rfl⟩ : ∃ v0 v1 v2, xs = [v0, v1, v2] := by
      rw [hl4] at hl
      match xs, hl with
      | [v0, v1, v2], _ => exact ⟨_, _, _, rfl⟩
    have no := T.no
    simp only [List.forall_mem_cons] at no
    obtain ⟨n0, n1, n2, n3, n4, _⟩ := no
    refine ⟨_, pss_cons (ps_fld (pv 0) (pe_call GK hr (by rfl) gK FK.kp bK .nil (passes_call (takes_of rfl rfl rfl rfl) (fun _ _ _ _ h => h)) (pa_cons pe_str (pa_cons (pe_tup (pa_cons (pv 1) (pa_cons (pv 2) (pa_cons (pv 3) pa_nil)))) pa_nil))) rfl)
      (pss_cons (ps_fld (pv 0) pe_str rfl)
      (pss_cons (ps_fld (pv 0) (pv 1) rfl) (pss_cons (ps_fld (pv 0) (pv 2) rfl) (pss_one (ps_fld (pv 0) (pv 3) rfl))))), ?_⟩
    refine ⟨_, rfl, _, rfl, _, rfl, by show 3 ≤ sizeLine; decide, fun tp htp => ?_⟩
    have s1 := same_upd0 (o := .tup [v0, v1, v2]) htp
    refine ⟨"passed", tp, [v0, v1, v2], rfl, hkin, upd_same, hl, (fun y hy => (hg y hy).elim fun T h => ⟨T, h.same s1⟩), fun gd H2 s2 => ?_, fun C' fl v g d H' s e => qn C' fl v g d H' (s1.trans s) e⟩
    have hx2 := s2 _ _ (s1 _ _ hx)
    have s12 := s1.trans s2
    refine ⟨_, rfl, x, C, dx, [], rfl, hx2, T.cl, n0, by show 0 < 1000; decide, ?_⟩
    refine ⟨_, rfl, x, C, dx, _, rfl, upd_same, T.cl, n1, Nat.lt_of_le_of_lt (lenC (Nat.le_refl 0)) (by decide), ?_⟩
    refine ⟨_, rfl, _, rfl, x, C, dx, _, rfl, upd_same, T.cl, n2, Nat.lt_of_le_of_lt (lenC (lenC (Nat.le_refl 0))) (by decide), ?_⟩
    refine ⟨_, rfl, _, rfl, x, C, dx, _, rfl, upd_same, T.cl, n3, Nat.lt_of_le_of_lt (lenC (lenC (lenC (Nat.le_refl 0)))) (by decide), ?_⟩
    refine ⟨_, rfl, _, rfl, x, C, dx, _, rfl, upd_same, T.cl, n4, Nat.lt_of_le_of_lt (lenC (lenC (lenC (lenC (Nat.le_refl 0))))) (by decide), ?_⟩
    refine qy gd _ _ (fun c o nc e => ?_) upd_same ?_
    · rw [upd_ne nc, upd_ne nc, upd_ne nc, upd_ne nc, upd_ne nc]
      exact s12 c o e
    · repeat rw [lookup_putF]
      simp [show ¬ (("kind" : Str) = "tool") by decide +kernel, show ¬ (("kind" : Str) = "moment") by decide +kernel, show ¬ (("kind" : Str) = "by") by decide +kernel, show ¬ (("kind" : Str) = "is_sound") by decide +kernel, show ¬ (("kind" : Str) = "one") by decide +kernel, show ¬ (("kind" : Str) = "other") by decide +kernel, show ¬ (("kind" : Str) = "later") by decide +kernel]
abbrev sFailed : Stmt := inClass (topS 37) 0
theorem scFailed : FnScope ["self", "tool", "moment", "by"] ["self", "tool", "moment", "by"] (defScope sFailed) := ⟨rfl, rfl, rfl, by decide +kernel, rfl, by decide +kernel, by decide +kernel⟩
theorem ok_Failed {CN CM CS C f fK : Addr} {fd fdK : FuncData} (F : Fun K "__init__" "Failed.__init__" sFailed f fd) (T : RowC K C ["_told", "kind", "tool", "moment", "by"]) (FK : Fun K "checked" "checked" sChecked fK fdK) (bK : Binds K fdK ["kind", "told"] []) (gK : mg "checked" = some (.ref fK))
    (GK : FnOk P w K mg base (L2.CX P w) 4 fK fdK ["kind", "told"] (spChecked CN CM CS)) : FnOk P w K mg base (L2.CX P w) 5 f fd ["self", "tool", "moment", "by"] (spRow CN CM CS C "failed") := by
  refine F.okX scFailed (fun vs H Q E h => ?_) (fun cdv A outer s H vs Q E hr h => ?_)
  · obtain ⟨x, dx, xs, rfl, _, hl, _⟩ := h
    show xs.length + 1 = 4
    have : (formsOf "failed").length = 3 := by decide +kernel
    omega
  · obtain ⟨x, dx, xs, rfl, hx, hl, hg, qy, qn⟩ := h
    have hkin : ("failed" : Str) ∈ kinds := by decide +kernel
    have hl4 : (formsOf "failed").length = 3 := by decide +kernel
    obtain ⟨v0, v1, v2, rfl⟩ : ∃ v0 v1 v2, xs = [v0, v1, v2] := by
      rw [hl4] at hl
      match xs, hl with
      | [v0, v1, v2], _ => exact ⟨_, _, _, rfl⟩
    have no := T.no
    simp only [List.forall_mem_cons] at no
    obtain ⟨n0, n1, n2, n3, n4, _⟩ := no
    refine ⟨_, pss_cons (ps_fld (pv 0) (pe_call GK hr (by rfl) gK FK.kp bK .nil (passes_call (takes_of rfl rfl rfl rfl) (fun _ _ _ _ h => h)) (pa_cons pe_str (pa_cons (pe_tup (pa_cons (pv 1) (pa_cons (pv 2) (pa_cons (pv 3) pa_nil)))) pa_nil))) rfl)
      (pss_cons (ps_fld (pv 0) pe_str rfl)
      (pss_cons (ps_fld (pv 0) (pv 1) rfl) (pss_cons (ps_fld (pv 0) (pv 2) rfl) (pss_one (ps_fld (pv 0) (pv 3) rfl))))), ?_⟩
    refine ⟨_, rfl, _, rfl, _, rfl, by show 3 ≤ sizeLine; decide, fun tp htp => ?_⟩
    have s1 := same_upd0 (o := .tup [v0, v1, v2]) htp
    refine ⟨"failed", tp, [v0, v1, v2], rfl, hkin, upd_same, hl, (fun y hy => (hg y hy).elim fun T h => ⟨T, h.same s1⟩), fun gd H2 s2 => ?_, fun C' fl v g d H' s e => qn C' fl v g d H' (s1.trans s) e⟩
    have hx2 := s2 _ _ (s1 _ _ hx)
    have s12 := s1.trans s2
    refine ⟨_, rfl, x, C, dx, [], rfl, hx2, T.cl, n0, by show 0 < 1000; decide, ?_⟩
    refine ⟨_, rfl, x, C, dx, _, rfl, upd_same, T.cl, n1, Nat.lt_of_le_of_lt (lenC (Nat.le_refl 0)) (by decide), ?_⟩
    refine ⟨_, rfl, _, rfl, x, C, dx, _, rfl, upd_same, T.cl, n2, Nat.lt_of_le_of_lt (lenC (lenC (Nat.le_refl 0))) (by decide), ?_⟩
    refine ⟨_, rfl, _, rfl, x, C, dx, _, rfl, upd_same, T.cl, n3, Nat.lt_of_le_of_lt (lenC (lenC (lenC (Nat.le_refl 0)))) (by decide), ?_⟩
    refine ⟨_, rfl, _, rfl, x, C, dx, _, rfl, upd_same, T.cl, n4, Nat.lt_of_le_of_lt (lenC (lenC (lenC (lenC (Nat.le_refl 0))))) (by decide), ?_⟩
    refine qy gd _ _ (fun c o nc e => ?_) upd_same ?_
    · rw [upd_ne nc, upd_ne nc, upd_ne nc, upd_ne nc, upd_ne nc]
      exact s12 c o e
    · repeat rw [lookup_putF]
      simp [show ¬ (("kind" : Str) = "tool") by decide +kernel, show ¬ (("kind" : Str) = "moment") by decide +kernel, show ¬ (("kind" : Str) = "by") by decide +kernel, show ¬ (("kind" : Str) = "is_sound") by decide +kernel, show ¬ (("kind" : Str) = "one") by decide +kernel, show ¬ (("kind" : Str) = "other") by decide +kernel, show ¬ (("kind" : Str) = "later") by decide +kernel]
abbrev sMeeting : Stmt := inClass (topS 31) 0
theorem scMeeting : FnScope ["self", "kind", "one", "moment", "other", "later"] ["self", "kind", "one", "moment", "other", "later"] (defScope sMeeting) := ⟨rfl, rfl, rfl, by decide +kernel, rfl, by decide +kernel, by decide +kernel⟩
def spMeet (CN CM CS C : Addr) : Sp := fun vs H Q E => ∃ (x dx : Addr) (kind : Str) (xs : List V), vs = .ref x :: .str kind :: xs ∧ kind ∈ (["agreed", "differed", "served", "backed"] : List Str) ∧ H x = some (.ins C dx []) ∧ xs.length = (formsOf kind).length ∧ (∀ y ∈ xs, ∃ T, Gv H y T) ∧
  WaysL CN CM CS (xs.zip (formsOf kind)) H E (∀ H' fs, Off x H H' → H' x = some (.ins C dx fs) → fs.lookup ("kind" : Str) = some (V.str kind) → Q .non H')
theorem meet_in : ∀ kind ∈ (["agreed", "differed", "served", "backed"] : List Str), kind ∈ kinds ∧ (formsOf kind).length = 4 := by decide +kernel
theorem ok_Meeting {CN CM CS C f fK : Addr} {fd fdK : FuncData} (F : Fun K "__init__" "Meeting.__init__" sMeeting f fd) (T : RowC K C ["_told", "kind", "one", "moment", "other", "later"]) (FK : Fun K "checked" "checked" sChecked fK fdK) (bK : Binds K fdK ["kind", "told"] []) (gK : mg "checked" = some (.ref fK))
    (GK : FnOk P w K mg base (L2.CX P w) 4 fK fdK ["kind", "told"] (spChecked CN CM CS)) : FnOk P w K mg base (L2.CX P w) 5 f fd ["self", "kind", "one", "moment", "other", "later"] (spMeet CN CM CS C) := by
  refine F.okX scMeeting (fun vs H Q E h => ?_) (fun cdv A outer s H vs Q E hr h => ?_)
  · obtain ⟨x, dx, kind, xs, rfl, hk, _, hl, _⟩ := h
    rw [(meet_in kind hk).2] at hl
    show xs.length + 1 + 1 = 6
    omega
  · obtain ⟨x, dx, kind, xs, rfl, hk, hx, hl, hg, qy, qn⟩ := h
    have hkin := (meet_in kind hk).1
    have hl4 := (meet_in kind hk).2
    obtain ⟨v0, v1, v2, v3, rfl⟩ : ∃ v0 v1 v2 v3, xs = [v0, v1, v2, v3] := by
      rw [hl4] at hl
      match xs, hl with
      | [v0, v1, v2, v3], _ => exact ⟨_, _, _, _, rfl⟩
    have no := T.no
    simp only [List.forall_mem_cons] at no
    obtain ⟨n0, n1, n2, n3, n4, n5, _⟩ := no
    refine ⟨_, pss_cons (ps_fld (pv 0) (pe_call GK hr (by rfl) gK FK.kp bK .nil (passes_call (takes_of rfl rfl rfl rfl) (fun _ _ _ _ h => h)) (pa_cons (pv 1) (pa_cons (pe_tup (pa_cons (pv 2) (pa_cons (pv 3) (pa_cons (pv 4) (pa_cons (pv 5) pa_nil))))) pa_nil))) rfl)
      (pss_cons (ps_fld (pv 0) (pv 1) rfl)
      (pss_cons (ps_fld (pv 0) (pv 2) rfl) (pss_cons (ps_fld (pv 0) (pv 3) rfl) (pss_cons (ps_fld (pv 0) (pv 4) rfl) (pss_one (ps_fld (pv 0) (pv 5) rfl)))))), ?_⟩
    refine ⟨_, rfl, _, rfl, _, rfl, _, rfl, _, rfl, by show 4 ≤ sizeLine; decide, fun tp htp => ?_⟩
    have s1 := same_upd0 (o := .tup [v0, v1, v2, v3]) htp
    refine ⟨kind, tp, [v0, v1, v2, v3], rfl, hkin, upd_same, hl, (fun y hy => (hg y hy).elim fun T h => ⟨T, h.same s1⟩), fun gd H2 s2 => ?_, fun C' fl v g d H' s e => qn C' fl v g d H' (s1.trans s) e⟩
    have hx2 := s2 _ _ (s1 _ _ hx)
    have s12 := s1.trans s2
    refine ⟨_, rfl, x, C, dx, [], rfl, hx2, T.cl, n0, by show 0 < 1000; decide, ?_⟩
    refine ⟨_, rfl, _, rfl, x, C, dx, _, rfl, upd_same, T.cl, n1, Nat.lt_of_le_of_lt (lenC (Nat.le_refl 0)) (by decide), ?_⟩
    refine ⟨_, rfl, _, rfl, x, C, dx, _, rfl, upd_same, T.cl, n2, Nat.lt_of_le_of_lt (lenC (lenC (Nat.le_refl 0))) (by decide), ?_⟩
    refine ⟨_, rfl, _, rfl, x, C, dx, _, rfl, upd_same, T.cl, n3, Nat.lt_of_le_of_lt (lenC (lenC (lenC (Nat.le_refl 0)))) (by decide), ?_⟩
    refine ⟨_, rfl, _, rfl, x, C, dx, _, rfl, upd_same, T.cl, n4, Nat.lt_of_le_of_lt (lenC (lenC (lenC (lenC (Nat.le_refl 0))))) (by decide), ?_⟩
    refine ⟨_, rfl, _, rfl, x, C, dx, _, rfl, upd_same, T.cl, n5, Nat.lt_of_le_of_lt (lenC (lenC (lenC (lenC (lenC (Nat.le_refl 0)))))) (by decide), ?_⟩
    refine qy gd _ _ (fun c o nc e => ?_) upd_same ?_
    · rw [upd_ne nc, upd_ne nc, upd_ne nc, upd_ne nc, upd_ne nc, upd_ne nc]
      exact s12 c o e
    · repeat rw [lookup_putF]
      simp [show ¬ (("kind" : Str) = "tool") by decide +kernel, show ¬ (("kind" : Str) = "moment") by decide +kernel, show ¬ (("kind" : Str) = "by") by decide +kernel, show ¬ (("kind" : Str) = "is_sound") by decide +kernel, show ¬ (("kind" : Str) = "one") by decide +kernel, show ¬ (("kind" : Str) = "other") by decide +kernel, show ¬ (("kind" : Str) = "later") by decide +kernel]
end
end K12

namespace K12
open PySem PySem.Spec PyProof.Rows L2 So
abbrev sAgreed : Stmt := inClass (topS 38) 0
abbrev sDiffered : Stmt := inClass (topS 39) 0
abbrev sServed : Stmt := inClass (topS 40) 0
abbrev sBacked : Stmt := inClass (topS 41) 0
abbrev metN : List Str := ["self", "one", "moment", "other", "later"]
def supB (sc : Scope) : Bool := decide (sc.kind = .function) && !sc.isCoroutine && !sc.isGenerator && metN.all (fun x => decide (sc.names.lookup x = some .local)) && sc.names.all (fun y => !decide (y.2 = .cell)) && sc.names.all (fun y => !decide (y.2 = .free) || decide (y.1 = "__class__"))
  && decide (sc.names.lookup ("super" : Str) = some .globalImplicit) && decide (sc.names.lookup ("__class__" : Str) = some .free)
theorem supB_ok {sc : Scope} (h : supB sc = true) : SupScope metN sc := by
  unfold supB at h
  simp only [Bool.and_eq_true, Bool.not_eq_true', decide_eq_true_eq, List.all_eq_true, Bool.or_eq_true, decide_eq_false_iff_not] at h
  obtain ⟨⟨⟨⟨⟨⟨⟨h1, h2⟩, h3⟩, h4⟩, h5⟩, h6⟩, h7⟩, h8⟩ := h
  refine ⟨h1, h2, h3, by decide +kernel, h4, h5, fun y hy => ?_, h7, h8⟩
  rcases h6 (y, .free) (PySem.mem_of_lookup hy) with z | z
  · exact absurd rfl z
  · exact z
section
variable {P : Program} {w : World} {K : PySem.W.Frag} {mg : Str → Option Value} {base : Heap}
theorem ok_Agreed {CN CM CS C D cc f fM : Addr} {cd : Value} {fd fdM : FuncData} (F : SupFn K P "__init__" "Agreed.__init__" (defArgs sAgreed) (defBody sAgreed) (defScope sAgreed) D cc f cd fd) (hsup : mg "super" = none) (sub : PySem.W.mroIn K C (.ref D) = some true) (hcl : ∃ cdC, PySem.W.clsIn K C = some cdC)
    (hm : PySem.W.ks_superIn K C D "__init__" = some (some (.ref fM))) (ht : PySem.W.typeIn K (.ref fM) = some (.type "function")) (hfn : PySem.W.fnIn K fM = true) (bM : Binds K fdM ["self", "kind", "one", "moment", "other", "later"] []) (GM : FnOk P w K mg base (L2.CX P w) 5 fM fdM ["self", "kind", "one", "moment", "other", "later"] (spMeet CN CM CS C)) :
    FnOk P w K mg base (L2.CX P w) 6 f fd metN (spRow CN CM CS C "agreed") := by
  have hl4 : (formsOf "agreed").length = 4 := by decide +kernel
  refine (ok_super (C := C) (ps := metN) F (supB_ok (by decide +kernel)) rfl (by rfl) hsup sub hcl hm ht hfn (by decide +kernel) GM bM (fun A outer s H E => pa_cons pe_str (pa_cons (pv 1) (pa_cons (pv 2) (pa_cons (pv 3) (pa_cons (pv 4) pa_nil))))) (fun _ => rfl) (fun _ => rfl) (fun _ => rfl) (fun _ => rfl)).imp fun vs H Q E h => ?_
  obtain ⟨x, dx, xs, rfl, hx, hl, hg, qw⟩ := h
  obtain ⟨v0, v1, v2, v3, rfl⟩ : ∃ v0 v1 v2 v3, xs = [v0, v1, v2, v3] := by
    rw [hl4] at hl
    match xs, hl with
    | [v0, v1, v2, v3], _ => exact ⟨_, _, _, _, rfl⟩
  exact ⟨rfl, x, dx, [], [v0, v1, v2, v3], rfl, hx, _, rfl, _, rfl, _, rfl, _, rfl, x, dx, "agreed", [v0, v1, v2, v3], rfl, by decide +kernel, hx, hl, hg, qw⟩
theorem ok_Differed {CN CM CS C D cc f fM : Addr} {cd : Value} {fd fdM : FuncData} (F : SupFn K P "__init__" "Differed.__init__" (defArgs sDiffered) (defBody sDiffered) (defScope sDiffered) D cc f cd fd) (hsup : mg "super" = none) (sub : PySem.W.mroIn K C (.ref D) = some true) (hcl : ∃ cdC, PySem.W.clsIn K C = some cdC)
    (hm : PySem.W.ks_superIn K C D "__init__" = some (some (.ref fM))) (ht : PySem.W.typeIn K (.ref fM) = some (.type "function")) (hfn : PySem.W.fnIn K fM = true) (bM : Binds K fdM ["self", "kind", "one", "moment", "other", "later"] []) (GM : FnOk P w K mg base (L2.CX P w) 5 fM fdM ["self", "kind", "one", "moment", "other", "later"] (spMeet CN CM CS C)) :
    FnOk P w K mg base (L2.CX P w) 6 f fd metN (spRow CN CM CS C "differed") := by
  have hl4 : (formsOf "differed").length = 4 := by decide +kernel
  refine (ok_super (C := C) (ps := metN) F (supB_ok (by decide +kernel)) rfl (by rfl) hsup sub hcl hm ht hfn (by decide +kernel) GM bM (fun A outer s H E => pa_cons pe_str (pa_cons (pv 1) (pa_cons (pv 2) (pa_cons (pv 3) (pa_cons (pv 4) pa_nil))))) (fun _ => rfl) (fun _ => rfl) (fun _ => rfl) (fun _ => rfl)).imp fun vs H Q E h => ?_
  obtain ⟨x, dx, xs, rfl, hx, hl, hg, qw⟩ := h
  obtain ⟨v0, v1, v2, v3, rfl⟩ : ∃ v0 v1 v2 v3, xs = [v0, v1, v2, v3] := by
    rw [hl4] at hl
    match xs, hl with
    | [v0, v1, v2, v3], _ => exact ⟨_, _, _, _, rfl⟩
  exact ⟨rfl, x, dx, [], [v0, v1, v2, v3], rfl, hx, _, rfl, _, rfl, _, rfl, _, rfl, x, dx, "differed", [v0, v1, v2, v3], rfl, by decide +kernel, hx, hl, hg, qw⟩
theorem ok_Served {CN CM CS C D cc f fM : Addr} {cd : Value} {fd fdM : FuncData} (F : SupFn K P "__init__" "Served.__init__" (defArgs sServed) (defBody sServed) (defScope sServed) D cc f cd fd) (hsup : mg "super" = none) (sub : PySem.W.mroIn K C (.ref D) = some true) (hcl : ∃ cdC, PySem.W.clsIn K C = some cdC)
    (hm : PySem.W.ks_superIn K C D "__init__" = some (some (.ref fM))) (ht : PySem.W.typeIn K (.ref fM) = some (.type "function")) (hfn : PySem.W.fnIn K fM = true) (bM : Binds K fdM ["self", "kind", "one", "moment", "other", "later"] []) (GM : FnOk P w K mg base (L2.CX P w) 5 fM fdM ["self", "kind", "one", "moment", "other", "later"] (spMeet CN CM CS C)) :
    FnOk P w K mg base (L2.CX P w) 6 f fd metN (spRow CN CM CS C "served") := by
  have hl4 : (formsOf "served").length = 4 := by decide +kernel
  refine (ok_super (C := C) (ps := metN) F (supB_ok (by decide +kernel)) rfl (by rfl) hsup sub hcl hm ht hfn (by decide +kernel) GM bM (fun A outer s H E => pa_cons pe_str (pa_cons (pv 1) (pa_cons (pv 2) (pa_cons (pv 3) (pa_cons (pv 4) pa_nil))))) (fun _ => rfl) (fun _ => rfl) (fun _ => rfl) (fun _ => rfl)).imp fun vs H Q E h => ?_
  obtain ⟨x, dx, xs, rfl, hx, hl, hg, qw⟩ := h
  obtain ⟨v0, v1, v2, v3, rfl⟩ : ∃ v0 v1 v2 v3, xs = [v0, v1, v2, v3] := by
    rw [hl4] at hl
    match xs, hl with
    | [v0, v1, v2, v3], _ => exact ⟨_, _, _, _, rfl⟩
  exact ⟨rfl, x, dx, [], [v0, v1, v2, v3], rfl, hx, _, rfl, _, rfl, _, rfl, _, rfl, x, dx, "served", [v0, v1, v2, v3], rfl, by decide +kernel, hx, hl, hg, qw⟩
theorem ok_Backed {CN CM CS C D cc f fM : Addr} {cd : Value} {fd fdM : FuncData} (F : SupFn K P "__init__" "Backed.__init__" (defArgs sBacked) (defBody sBacked) (defScope sBacked) D cc f cd fd) (hsup : mg "super" = none) (sub : PySem.W.mroIn K C (.ref D) = some true) (hcl : ∃ cdC, PySem.W.clsIn K C = some cdC)
    (hm : PySem.W.ks_superIn K C D "__init__" = some (some (.ref fM))) (ht : PySem.W.typeIn K (.ref fM) = some (.type "function")) (hfn : PySem.W.fnIn K fM = true) (bM : Binds K fdM ["self", "kind", "one", "moment", "other", "later"] []) (GM : FnOk P w K mg base (L2.CX P w) 5 fM fdM ["self", "kind", "one", "moment", "other", "later"] (spMeet CN CM CS C)) :
    FnOk P w K mg base (L2.CX P w) 6 f fd metN (spRow CN CM CS C "backed") := by
  have hl4 : (formsOf "backed").length = 4 := by decide +kernel
  refine (ok_super (C := C) (ps := metN) F (supB_ok (by decide +kernel)) rfl (by rfl) hsup sub hcl hm ht hfn (by decide +kernel) GM bM (fun A outer s H E => pa_cons pe_str (pa_cons (pv 1) (pa_cons (pv 2) (pa_cons (pv 3) (pa_cons (pv 4) pa_nil))))) (fun _ => rfl) (fun _ => rfl) (fun _ => rfl) (fun _ => rfl)).imp fun vs H Q E h => ?_
  obtain ⟨x, dx, xs, rfl, hx, hl, hg, qw⟩ := h
  obtain ⟨v0, v1, v2, v3, rfl⟩ : ∃ v0 v1 v2 v3, xs = [v0, v1, v2, v3] := by
    rw [hl4] at hl
    match xs, hl with
    | [v0, v1, v2, v3], _ => exact ⟨_, _, _, _, rfl⟩
  exact ⟨rfl, x, dx, [], [v0, v1, v2, v3], rfl, hx, _, rfl, _, rfl, _, rfl, _, rfl, x, dx, "backed", [v0, v1, v2, v3], rfl, by decide +kernel, hx, hl, hg, qw⟩
end
end K12

namespace K12
open PySem PySem.Spec PyProof.Rows L2 So
abbrev sOddN : Stmt := topS 50
abbrev sOddM : Stmt := topS 51
theorem scOddN : FnScope ["_law_pen_here", "_law_some"] ["_law_pen_here"] (defScope sOddN) := ⟨rfl, rfl, rfl, by decide +kernel, rfl, by decide +kernel, by decide +kernel⟩
theorem scOddM : FnScope ["_law_pen_here"] ["_law_pen_here"] (defScope sOddM) := ⟨rfl, rfl, rfl, by decide +kernel, rfl, by decide +kernel, by decide +kernel⟩
/-! ### the odd values -/
def flatD : V → Option PyData
  | .non => some .none
  | .bl b => some (.bool b)
  | .int i => some (.int i)
  | .str z => some (.str z)
  | _ => none
def flatDs : List V → Option (List PyData)
  | [] => some []
  | v :: r => match flatD v, flatDs r with
    | some d, some ds => some (d :: ds)
    | _, _ => none
def okD (d : PyData) : Prop := d.showable = true ∧ d.depth ≤ 10 ∧ d.shown.length ≤ 1000
inductive Od (H : Hp) : V → Prop where
  | flat {v : V} {d : PyData} (h : flatD v = some d) (o : okD d) (s : ∀ z, v = .str z → z.length ≤ 2000) : Od H v
  | lst {a : Addr} {xs : List V} {ds : List PyData} (e : H a = some (.lst xs)) (h : flatDs xs = some ds) (o : okD (.list ds)) : Od H (.ref a)
  | tup {a : Addr} {xs : List V} {ds : List PyData} (e : H a = some (.tup xs)) (h : flatDs xs = some ds) (o : okD (.tuple ds)) : Od H (.ref a)
  | mt {a : Addr} (e : H a = some (.dK [])) : Od H (.ref a)
theorem Od.gv {H : Hp} {v : V} (h : Od H v) : ∃ T, Gv H v T := by
  cases h with
  | flat h o s =>
    cases v with
    | non => exact ⟨_, .non⟩
    | bl b => exact ⟨_, .bl b⟩
    | int i => exact ⟨_, .int i⟩
    | str z => exact ⟨_, .str z (s z rfl)⟩
    | _ => cases h
  | lst e h o => exact ⟨_, .lst e⟩
  | tup e h o => exact ⟨_, .tup e⟩
  | mt e => exact ⟨_, .dK e⟩
theorem Od.same {H H' : Hp} {v : V} (h : Od H v) (s : Same H H') : Od H' v := by
  cases h with
  | flat h o z => exact .flat h o z
  | lst e h o => exact .lst (s _ _ e) h o
  | tup e h o => exact .tup (s _ _ e) h o
  | mt e => exact .mt (s _ _ e)
theorem Od.off {H H' : Hp} {p l : Addr} {x y v : V} (h : Od H v) (hp : H p = some (.lst [.ref l, x, y])) (s : Off p H H') : Od H' v := by
  cases h with
  | flat h o z => exact .flat h o z
  | @lst a xs ds e h o =>
    refine .lst (s _ _ (fun z => ?_) e) h o
    subst z
    rw [hp] at e
    cases e
    cases h
  | tup e h o => exact .tup (s _ _ (ne_of e hp (fun z => nomatch z)) e) h o
  | mt e => exact .mt (s _ _ (ne_of e hp (fun z => nomatch z)) e)
section
variable {K : PySem.W.Frag}
theorem flatD_dp {H : Hp} {v : V} {d : PyData} (h : flatD v = some d) : Dp K H v d := by
  cases v with
  | non => cases h; exact .non
  | bl b => cases h; exact .bl b
  | int i => cases h; exact .int i
  | str z => cases h; exact .str z
  | _ => cases h
theorem flatDs_dp {H : Hp} : ∀ {xs : List V} {ds : List PyData}, flatDs xs = some ds → DpAll K H xs ds
  | [], ds, h => by
    cases h
    exact .nil
  | v :: r, ds, h => by
    unfold flatDs at h
    split at h
    · rename_i d es h1 h2
      cases h
      exact .cons (flatD_dp h1) (flatDs_dp h2)
    · cases h
theorem Od.dp {H : Hp} {v : V} (h : Od H v) : (∃ d, Dp K H v d ∧ okD d) ∨ ∃ a, v = .ref a ∧ H a = some (.dK []) := by
  cases h with
  | flat h o s => exact .inl ⟨_, flatD_dp h, o⟩
  | lst e h o => exact .inl ⟨_, .lst (SqL.of e) (flatDs_dp h), o⟩
  | tup e h o => exact .inl ⟨_, .tup (SqT.of e) (flatDs_dp h), o⟩
  | mt e => exact .inr ⟨_, rfl, e⟩
end
theorem Od.non {H : Hp} : Od H .non := .flat rfl ⟨rfl, by decide, by decide +kernel⟩ (fun _ h => nomatch h)
theorem Od.bl {H : Hp} (b : Bool) : Od H (.bl b) := .flat rfl ⟨rfl, Nat.zero_le _, by cases b <;> decide +kernel⟩ (fun _ h => nomatch h)
theorem okStr {z : Str} (h : (decide (z.length ≤ 2000) && decide ((reprText z).length ≤ 1000)) = true) {H : Hp} : Od H (.str z) := by
  rw [Bool.and_eq_true] at h
  exact .flat rfl ⟨rfl, Nat.zero_le _, of_decide_eq_true h.2⟩ (fun y e => by cases e; exact of_decide_eq_true h.1)
theorem words_ok : ∀ z ∈ noNames, (decide (z.length ≤ 2000) && decide ((reprText z).length ≤ 1000)) = true := by decide +kernel
theorem words_no : ∀ z ∈ noNames, isName z = false := by decide +kernel
theorem mono {H : Hp} {p q : Addr} {o : HO} (h : H q = none) (hp : H p ≠ none) : p ≠ q := fun z => hp (by rw [z]; exact h)
section
variable {P : Program} {w : World} {K : PySem.W.Frag} {mg : Str → Option Value} {base : Heap}
/-- an odd value for a test g -/
def spOdd (g : V → Bool) : Sp := fun vs H Q _ => ∃ (p l : Addr) (ns : List Int) (n : Nat) (gr : Int), vs = [.ref p] ∧ Pen H p l ns n gr ∧ n < 999000 ∧
  ∀ (v : V) (n' : Nat) (g' : Int) (H' : Hp), g v = false → Od H' v → (∀ b, v = .ref b → H b = none) → n' ≤ n + 2 → Off p H H' → Pen H' p l ns n' g' → Q v H'
theorem ok_oddN {f fP fW : Addr} {fd fdP fdW : FuncData} (F : Fun K "_law_odd_name" "_law_odd_name" sOddN f fd) (FP : Fun K "_law_pick" "_law_pick" sPick fP fdP) (bP : Binds K fdP ["_law_pen_here", "_law_some"] []) (gP : mg "_law_pick" = some (.ref fP))
    (GP : FnOk P w K mg base CX0 2 fP fdP ["_law_pen_here", "_law_some"] (spPick K)) (FW : Fun K "_law_words" "_law_words" sWords fW fdW) (bW : Binds K fdW [] []) (gW : mg "_law_words" = some (.ref fW)) (GW : FnOk P w K mg base CX0 1 fW fdW [] spWords) :
    FnOk P w K mg base CX0 3 f fd ["_law_pen_here"] (spOdd gNam) := by
  refine F.ok scOddN (fun vs H Q E h => ?_) (fun cdv A outer s H vs Q E hr h => ?_)
  · obtain ⟨p, l, ns, n, g, rfl, _⟩ := h
    rfl
  · obtain ⟨p, l, ns, n, g, rfl, hp, hn, k⟩ := h
    have hr1 : Room 1 _ := hr.mono (by decide)
    refine ⟨_, pss_cons (ps_set (i := 1) scOddN.nd rfl (.inl rfl) (pe_lst (pa_cons pe_str (pa_cons pe_str (pa_cons pe_str (pa_cons pe_str (pa_cons pe_str (pa_cons pe_str (pa_cons pe_str (pa_cons pe_str (pa_cons pe_str (pa_cons pe_str (pa_cons pe_non (pa_cons pe_int (pa_cons pe_bl (pa_cons (pe_lst (pa_cons pe_str pa_nil)) (pa_cons (pe_tup (pa_cons pe_str pa_nil)) (pa_cons pe_dnewK pa_nil))))))))))))))))))
      (pss_one (ps_ret (pe_call GP hr (by rfl) gP FP.kp bP .nil pass0 (pa_cons (pv 0) (pa_cons (pe_op op_cat (pv 1) (pe_op op_rep (pe_lst (pa_cons (pe_call GP hr (by rfl) gP FP.kp bP .nil pass0 (pa_cons (pv 0) (pa_cons (pe_call0 GW hr1 (by rfl) gW FW.kp bW .nil pass0) pa_nil))) pa_nil)) pe_int)) pa_nil))))), ?_⟩
    refine ⟨by show 1 ≤ sizeLine; decide, fun a1 h1 => ⟨by show 1 ≤ sizeLine; decide, fun a2 h2 => fun a3 h3 => ⟨by show 16 ≤ sizeLine; decide, fun s1 h4 => ?_⟩⟩⟩
    have s01 := same_upd0 (o := .lst [.str "a"]) h1
    have s12 := same_upd0 (o := .tup [.str "a"]) h2
    have s23 := same_upd0 (o := .dK []) h3
    generalize hxs : [V.str "", V.str "A", V.str "9a", V.str "a-b", V.str "abcdefghi", V.str "a b", V.str "a.", V.str " a", V.str "a ", V.str "a\n", V.non, V.int 3, V.bl true, V.ref a1, V.ref a2, V.ref a3] = xs
    have len : xs.length = 16 := by rw [← hxs]; rfl
    generalize hH : upd (upd (upd (upd H a1 (.lst [.str "a"])) a2 (.tup [.str "a"])) a3 (.dK [])) s1 (.lst xs) = H4
    have s34 : Same (upd (upd (upd H a1 (.lst [.str "a"])) a2 (.tup [.str "a"])) a3 (.dK [])) H4 := by rw [← hH]; exact same_upd0 h4
    have sm : Same H H4 := ((s01.trans s12).trans s23).trans s34
    have hS : H4 s1 = some (.lst xs) := by rw [← hH]; exact upd_same
    have e1 : H4 a1 = some (.lst [.str "a"]) := s34 _ _ (s23 _ _ (s12 _ _ upd_same))
    have e2 : H4 a2 = some (.tup [.str "a"]) := s34 _ _ (s23 _ _ upd_same)
    have e3 : H4 a3 = some (.dK []) := s34 _ _ upd_same
    have key : ∀ x ∈ xs, Od H4 x ∧ gNam x = false := by
      rw [← hxs]
      simp only [List.forall_mem_cons]
      exact ⟨⟨okStr (by decide +kernel), by decide +kernel⟩, ⟨okStr (by decide +kernel), by decide +kernel⟩, ⟨okStr (by decide +kernel), by decide +kernel⟩, ⟨okStr (by decide +kernel), by decide +kernel⟩, ⟨okStr (by decide +kernel), by decide +kernel⟩, ⟨okStr (by decide +kernel), by decide +kernel⟩, ⟨okStr (by decide +kernel), by decide +kernel⟩, ⟨okStr (by decide +kernel), by decide +kernel⟩, ⟨okStr (by decide +kernel), by decide +kernel⟩, ⟨okStr (by decide +kernel), by decide +kernel⟩, ⟨.non, rfl⟩, ⟨.flat rfl ⟨by decide +kernel, Nat.zero_le _, by decide +kernel⟩ (fun _ h => nomatch h), rfl⟩, ⟨.bl true, rfl⟩, ⟨.lst e1 rfl ⟨by decide +kernel, by decide +kernel, by decide +kernel⟩, rfl⟩, ⟨.tup e2 rfl ⟨by decide +kernel, by decide +kernel, by decide +kernel⟩, rfl⟩, ⟨.mt e3, rfl⟩, fun _ h => nomatch h⟩
    have ns1 : s1 ≠ p := fun z => by
      have := ((s01.trans s12).trans s23) _ _ hp.pen
      rw [← z] at this
      exact Option.some_ne_none _ (this.symm.trans h4)
    have new : ∀ x ∈ xs, ∀ b, x = .ref b → H b = none := by
      rw [← hxs]
      simp only [List.forall_mem_cons]
      exact ⟨(fun _ h => nomatch h), (fun _ h => nomatch h), (fun _ h => nomatch h), (fun _ h => nomatch h), (fun _ h => nomatch h), (fun _ h => nomatch h), (fun _ h => nomatch h), (fun _ h => nomatch h), (fun _ h => nomatch h), (fun _ h => nomatch h), (fun _ h => nomatch h), (fun _ h => nomatch h), (fun _ h => nomatch h), (fun b e => by cases e; exact h1), (fun b e => by cases e; exact s01.free h2), (fun b e => by cases e; exact (s01.trans s12).free h3), fun _ h => nomatch h⟩
    clear hxs hH
    refine ⟨_, rfl, _, rfl, _, rfl, rfl, fun H5 aW s5 nW hW => ?_⟩
    have naW : aW ≠ p := fun z => by
      have := sm _ _ hp.pen
      rw [← z] at this
      exact Option.some_ne_none _ (this.symm.trans nW)
    have pen5 : Pen H5 p l ns n g := ⟨s5 _ _ (sm _ _ hp.pen), s5 _ _ (sm _ _ hp.cells), hp.left⟩
    refine ⟨p, l, ns, n, g, _, rfl, pen5, by omega, .inl ⟨aW, _, rfl, naW, hW, (by show 0 < 20; decide), (by show 20 ≤ 1000; decide), fun v n6 g6 H6 hv hn6 off6 pen6 => ?_⟩⟩
    have hS6 : H6 s1 = some (.lst xs) := off6 _ _ ns1 (s5 _ _ hS)
    have key6 : ∀ x ∈ xs, Od H6 x ∧ gNam x = false := fun x hx => ⟨((key x hx).1.same s5).off pen5.pen off6, (key x hx).2⟩
    obtain ⟨z, hz, rfl⟩ := List.mem_map.mp hv
    have offH : Off p H H6 := Off.trans (fun b o _ e => s5 b o (sm b o e)) off6
    clear hS key pen5 hW s34 e1 e2 e3
    refine ⟨by show 1 ≤ sizeLine; decide, fun q1 h7 => ?_⟩
    refine ⟨q1, 3, _, rfl, rfl, upd_same, by decide, by decide, by show 3 ≤ sizeLine; decide, fun q2 h8 => ?_⟩
    have s78 := (same_upd0 (o := .lst [.str z]) h7).trans (same_upd0 (o := .lst (List.replicate (Int.toNat 3) [V.str z]).flatten) h8)
    refine ⟨s1, q2, xs, _, rfl, rfl, s78 _ _ hS6, upd_same, ?_, fun q3 h9 => ?_⟩
    · rw [len]
      show 16 + 3 ≤ sizeLine
      decide
    have s9 := s78.trans (same_upd0 (o := .lst (xs ++ (List.replicate (Int.toNat 3) [V.str z]).flatten)) h9)
    have n3 : q3 ≠ p := fun y => by
      have := s78 _ _ pen6.pen
      rw [← y] at this
      exact Option.some_ne_none _ (this.symm.trans h9)
    have pen9 : Pen _ p l ns n6 g6 := ⟨s9 _ _ pen6.pen, s9 _ _ pen6.cells, pen6.left⟩
    refine ⟨p, l, ns, n6, g6, _, rfl, pen9, by omega, .inl ⟨q3, _, rfl, n3, upd_same, ?_, ?_, fun v n10 g10 H10 hv10 hn10 off10 pen10 => ?_⟩⟩
    · rw [List.length_append, len]
      exact Nat.lt_of_lt_of_le (by decide : 0 < 16) (Nat.le_add_right _ _)
    · rw [List.length_append, len]
      show 16 + 3 ≤ 1000
      decide
    · have hg : (Od H10 v ∧ gNam v = false) ∧ ∀ b, v = .ref b → H b = none := by
        rcases List.mem_append.mp hv10 with h | h
        · exact ⟨⟨((key6 v h).1.same s9).off pen9.pen off10, (key6 v h).2⟩, new v h⟩
        · have e : v = .str z := by
            have h' : v ∈ [V.str z, V.str z, V.str z] := h
            simp only [List.mem_cons, List.not_mem_nil, or_false, or_self] at h'
            exact h'
          subst e
          exact ⟨⟨okStr (words_ok z hz), words_no z hz⟩, fun _ h => nomatch h⟩
      exact k v n10 g10 H10 hg.1.2 hg.1.1 hg.2 (by omega) (offH.trans (Off.trans (fun b o _ e => s9 b o e) off10)) pen10
end
end K12

namespace K12
open PySem PySem.Spec PyProof.Rows L2 So
section
variable {P : Program} {w : World} {K : PySem.W.Frag} {mg : Str → Option Value} {base : Heap}
/-- an odd truth, too, is drawn by the law itself -/
theorem ok_oddM {f fP : Addr} {fd fdP : FuncData} (F : Fun K "_law_odd_tick" "_law_odd_tick" sOddM f fd) (FP : Fun K "_law_pick" "_law_pick" sPick fP fdP) (bP : Binds K fdP ["_law_pen_here", "_law_some"] []) (gP : mg "_law_pick" = some (.ref fP))
    (GP : FnOk P w K mg base CX0 2 fP fdP ["_law_pen_here", "_law_some"] (spPick K)) : FnOk P w K mg base CX0 3 f fd ["_law_pen_here"] (spOdd gMom) := by
  refine F.ok scOddM (fun vs H Q E h => ?_) (fun cdv A outer s H vs Q E hr h => ?_)
  · obtain ⟨p, l, ns, n, g, rfl, _⟩ := h
    rfl
  · obtain ⟨p, l, ns, n, g, rfl, hp, hn, k⟩ := h
    refine ⟨_, pss_one (ps_ret (pe_call GP hr (by rfl) gP FP.kp bP .nil pass0 (pa_cons (pv 0) (pa_cons (pe_lst (pa_cons pe_non (pa_cons pe_bl (pa_cons pe_bl (pa_cons pe_str (pa_cons (pe_un un_neg pe_int) (pa_cons (pe_op op_add (pe_op op_pow pe_int pe_int) pe_int) (pa_cons (pe_un un_neg (pe_op op_pow pe_int pe_int)) (pa_cons (pe_lst (pa_cons pe_int pa_nil)) (pa_cons (pe_tup pa_nil) (pa_cons pe_dnewK (pa_cons pe_str (pa_cons (pe_op op_pow pe_int pe_int) pa_nil))))))))))))) pa_nil)))), ?_⟩
    refine ⟨_, rfl, _, rfl, _, _, rfl, rfl, ⟨by decide, by decide, by decide⟩, _, _, rfl, rfl, _, _, rfl, rfl, ⟨by decide, by decide, by decide⟩, _, rfl, by show 1 ≤ sizeLine; decide, fun a1 h1 => ⟨by show 0 ≤ sizeLine; decide, fun a2 h2 => fun a3 h3 => ⟨_, _, rfl, rfl, ⟨by decide, by decide, by decide⟩, by show 12 ≤ sizeLine; decide, fun s1 h4 => ?_⟩⟩⟩
    show spPick K [V.ref p, V.ref s1] (upd (upd (upd (upd H a1 (.lst [.int 5])) a2 (.tup [])) a3 (.dK [])) s1 (.lst [V.non, V.bl true, V.bl false, V.str "3", V.int (-1), V.int ((10 : Int) ^ Int.toNat 30 + 1), V.int (-((10 : Int) ^ Int.toNat 30)), V.ref a1, V.ref a2, V.ref a3, V.str "", V.int ((10 : Int) ^ Int.toNat 59)])) Q E0
    have s01 := same_upd0 (o := .lst [.int 5]) h1
    have s12 := same_upd0 (o := .tup []) h2
    have s23 := same_upd0 (o := .dK []) h3
    generalize hxs : [V.non, V.bl true, V.bl false, V.str "3", V.int (-1), V.int ((10 : Int) ^ Int.toNat 30 + 1), V.int (-((10 : Int) ^ Int.toNat 30)), V.ref a1, V.ref a2, V.ref a3, V.str "", V.int ((10 : Int) ^ Int.toNat 59)] = xs
    have len : xs.length = 12 := by rw [← hxs]; rfl
    generalize hH : upd (upd (upd (upd H a1 (.lst [.int 5])) a2 (.tup [])) a3 (.dK [])) s1 (.lst xs) = H4
    have s34 : Same (upd (upd (upd H a1 (.lst [.int 5])) a2 (.tup [])) a3 (.dK [])) H4 := by rw [← hH]; exact same_upd0 h4
    have sm : Same H H4 := ((s01.trans s12).trans s23).trans s34
    have hS : H4 s1 = some (.lst xs) := by rw [← hH]; exact upd_same
    have e1 : H4 a1 = some (.lst [.int 5]) := s34 _ _ (s23 _ _ (s12 _ _ upd_same))
    have e2 : H4 a2 = some (.tup []) := s34 _ _ (s23 _ _ upd_same)
    have e3 : H4 a3 = some (.dK []) := s34 _ _ upd_same
    have key : ∀ x ∈ xs, Od H4 x ∧ gMom x = false := by
      rw [← hxs]
      simp only [List.forall_mem_cons]
      exact ⟨⟨.non, rfl⟩, ⟨.bl true, rfl⟩, ⟨.bl false, rfl⟩, ⟨okStr (by decide +kernel), rfl⟩, ⟨.flat rfl ⟨by decide +kernel, Nat.zero_le _, by decide +kernel⟩ (fun _ h => nomatch h), by decide +kernel⟩, ⟨.flat rfl ⟨by decide +kernel, Nat.zero_le _, by decide +kernel⟩ (fun _ h => nomatch h), by decide +kernel⟩, ⟨.flat rfl ⟨by decide +kernel, Nat.zero_le _, by decide +kernel⟩ (fun _ h => nomatch h), by decide +kernel⟩, ⟨.lst e1 rfl ⟨by decide +kernel, by decide +kernel, by decide +kernel⟩, rfl⟩, ⟨.tup e2 rfl ⟨by decide +kernel, by decide +kernel, by decide +kernel⟩, rfl⟩, ⟨.mt e3, rfl⟩, ⟨okStr (by decide +kernel), rfl⟩, ⟨.flat rfl ⟨by decide +kernel, Nat.zero_le _, by decide +kernel⟩ (fun _ h => nomatch h), by decide +kernel⟩, fun _ h => nomatch h⟩
    have ns1 : s1 ≠ p := fun z => by
      have := ((s01.trans s12).trans s23) _ _ hp.pen
      rw [← z] at this
      exact Option.some_ne_none _ (this.symm.trans h4)
    have new : ∀ x ∈ xs, ∀ b, x = .ref b → H b = none := by
      rw [← hxs]
      simp only [List.forall_mem_cons]
      exact ⟨(fun _ h => nomatch h), (fun _ h => nomatch h), (fun _ h => nomatch h), (fun _ h => nomatch h), (fun _ h => nomatch h), (fun _ h => nomatch h), (fun _ h => nomatch h), (fun b e => by cases e; exact h1), (fun b e => by cases e; exact s01.free h2), (fun b e => by cases e; exact (s01.trans s12).free h3), (fun _ h => nomatch h), (fun _ h => nomatch h), fun _ h => nomatch h⟩
    have pen5 : Pen H4 p l ns n g := ⟨sm _ _ hp.pen, sm _ _ hp.cells, hp.left⟩
    refine ⟨p, l, ns, n, g, _, rfl, pen5, by omega, .inl ⟨s1, _, rfl, ns1, hS, by omega, by omega, fun v n6 g6 H6 hv hn6 off6 pen6 => ?_⟩⟩
    exact k v n6 g6 H6 (key v hv).2 ((key v hv).1.off pen5.pen off6) (new v hv) (by omega) (Off.trans (fun b o _ e => sm b o e) off6) pen6
end
end K12

namespace So
open PySem PySem.Spec PyProof.Rows L2
section
variable {P : Program} {w : World} {K : PySem.W.Frag} {mg : Str → Option Value} {base : Heap} {CX : CXT} {sp : Sp} {fd : FuncData} {ps N : List Str} {k : Nat} {f c : Addr}
/-- a def by its body, the guards and the code object told -/
theorem fnG_ofC {x qual : Str} {st : Stmt} (F : Fun K x qual st f fd) (hcode : fd.code = .ref c) (S : FnScope N ps (defScope st)) (len : ∀ vs H Q E, sp vs H Q E → vs.length = ps.length)
    (hbody : ∀ (A : Around) (outer : List Env) (s : Shared) (H : Hp) (vs : List V) (Q : VK) (E : XK), A.guards = some [] → Room k (A.deeper (envOfC qual (defScope st) s.heap.objs.size f (.ref c))) → sp vs H Q E →
      ∃ t, PSs (cxOf CX P w K mg base N qual (defScope st) f (.ref c) A outer s H E).nox (defBody st) t ∧ t { nx := fun _ H' => Q .non H', rt := Q } (start N vs) H) : FnG P w K mg base CX (k + 1) f fd ps sp := by
  obtain ⟨oc, od, kV, doc, pm, an, cdv, ct, osl, rfl, lk, hcd⟩ := F.ex
  obtain rfl : cdv = .ref c := hcode
  constructor
  · exact len
  intro A outer s H args us vs Q E hg hr e0 hb r hsp
  have old : ∀ b o, base.get? b = some o → s.heap.get? b = some o := fun b o e => (e0.bs b o e).1
  have KX := e0.mod.kin.keeps old
  have lim := e0.mod.nolimit.keeps old
  refine codeAny_call_function hr.depth (KX _ _ lk) rfl S.co S.gen rfl (PySem.W.codeRec_of KX hcd) (hb _ _ _ _ ?_)
  refine wpAny_newFunctionEnv_cells S.kind (fun y hy => ?_) fun env he s1 x => ?_
  · rcases S.par y.1 (List.of_mem_zip (show (y.1, y.2) ∈ ps.zip us from hy)).1 with q | q
    · exact Or.inl q
    · exact Or.inr (And.intro q (PySem.W.cellsFrom_some _ _ _ (Or.inl q)))
  subst he
  refine And.intro (lim.keeps x.toInCall.keep) (codeAny_func ?_)
  obtain ⟨t, ht, hq⟩ := hbody A outer s H vs Q E hg (hr.deeper _) hsp
  refine wpAny_mono (ht.nox.run [] s1 (start N vs) H _ (inv_start S hr.hd e0 (len _ _ _ _ hsp) r x) hq) (fun fl s' hs => ?_) fun _ _ hs => hs
  match fl, hs with
  | .ret u, ⟨v, σ', H', J, rv, q⟩ => exact ⟨v, H', J.os, J.bare, J.base, J.hok, rv, q⟩
  | .next, ⟨σ', H', J, q⟩ => exact ⟨V.non, H', J.os, J.bare, J.base, J.hok, rfl, q⟩
  | .brk, ⟨_, _, _, q⟩ => exact q.elim
  | .cont, ⟨_, _, _, q⟩ => exact q.elim
end
end So

namespace So
open PySem PySem.Spec PyProof.Rows L2 LamX
/-- the law's call, its one table of code objects and the guards told -/
theorem law_callTG {P : Program} {w : World} {K : PySem.W.Frag} {mg mb : Str → Option Value} {CX : CXT} {k : Nat} {fa a c T : Addr} {fd : FuncData} {x : Str} {sp : Sp} {s₁ : Shared} {vs : List Value} {ns : List Int}
    (KX : K.In s₁.heap) (hns : s₁.heap.Ns mainGlobals mg) (hb : s₁.heap.Ns builtinsNs mb) (hbb : ∀ x : Str, x ≠ "__name__" → mb x = bootBuiltins x) (hlim : s₁.heap.NoLimit) (hg : s₁.gens = #[])
    (tab : s₁.heap.get? T = some { cls := .none, data := .fields #[] }) (noT : K.lookup T = none) (cd : PySem.W.CodeHd s₁.heap c T)
    (mod : ∃ (bm : Addr) (ob : Obj), mg "__builtins__" = some (.ref bm) ∧ bm ≠ builtinsNs ∧ s₁.heap.get? bm = some ob ∧ ob.cls = .type "module" ∧ ob.dict = some builtinsNs ∧ ob.data = .plain)
    (ha : s₁.heap.get? a = some { cls := .type "list", data := .seq vs.toArray }) (hi : IntsAre vs ns) (hl : ns.length ≤ sizeLine) (hr : Room k callerA)
    (F : ∀ base : Heap, K.In base → base.Ns mainGlobals mg → TabB base mg c T → FnG P w K mg base CX k fa fd [x] sp) (hbind : ∀ (s : Shared) (u : Value), BindsTo s fd ⟨[u], []⟩ [(x, u)])
    (hsp : ∀ H : Hp, H T = some (.tbl #[]) → SqL K H a (ns.map V.int) → sp [.ref a] H (fun v _ => v = .bl true) fun _ _ _ => False)
    (hCX : ∀ H e s', CX [] H s₁ (fun _ _ _ => False) e s' → False) :
    codeAny (model P w) callerA (.call (.ref fa) ⟨[.ref a], []⟩) (fun r s' => r = .ok (.ret (.bool true)) ∧ OldK s₁.heap s'.heap ∧ s'.os = s₁.os ∧ AllBare s'.gens) s₁ := by
  have aT : a ≠ T := fun z => by
    rw [z, tab] at ha
    have := congrArg Obj.data (Option.some.inj ha)
    cases this
  -- what may be tracked at the start: the table, and the script where the written part does not hold it
  have go : ∀ H : Hp, H T = some (.tbl #[]) → (∀ b u, H b = some u → b = T ∨ (b = a ∧ K.lookup a = none ∧ ∃ o xs, u = .frz o (.lst xs))) → SqL K H a (ns.map V.int) → HOk P w H s₁.heap →
      codeAny (model P w) callerA (.call (.ref fa) ⟨[.ref a], []⟩) (fun r s' => r = .ok (.ret (.bool true)) ∧ OldK s₁.heap s'.heap ∧ s'.os = s₁.os ∧ AllBare s'.gens) s₁ := by
    intro H hT hA hS hok
    -- an object that is neither the script's list nor the table stands in the base
    have free : ∀ {b : Addr} {o : Obj}, s₁.heap.get? b = some o → (∀ vs n, o.data ≠ .seq vs n) → o.data ≠ .fields #[] → H b = none := by
      intro b o e h1 h2
      cases q : H b with
      | none => rfl
      | some u =>
        rcases hA b u q with rfl | ⟨rfl, _⟩
        · rw [tab] at e
          cases e
          exact absurd rfl h2
        · rw [ha] at e
          cases e
          exact absurd rfl (h1 _ _)
    have toBase : ∀ {b : Addr} {o : Obj}, s₁.heap.get? b = some o → H b = none → (hidT s₁.heap H).get? b = some o := fun e n => hidT_get e n
    have nsB : ∀ {b : Addr} {m : Str → Option Value}, s₁.heap.Ns b m → (hidT s₁.heap H).Ns b m := by
      rintro b m ⟨o, es, ep, e, d, r⟩
      have n : H b = none := by
        refine free e ?_ ?_
        · intro vs n z
          rw [d] at z
          cases z
        · intro z
          rw [d] at z
          cases z
      exact ⟨o, es, ep, toBase e n, d, r⟩
    have kin : K.In (hidT s₁.heap H) := by
      intro b o e
      refine toBase (KX b o e) ?_
      cases q : H b with
      | none => rfl
      | some u =>
        rcases hA b u q with rfl | ⟨rfl, z, _⟩
        · rw [noT] at e
          cases e
        · rw [z] at e
          cases e
    have lim2 : (hidT s₁.heap H).NoLimit := by
      obtain ⟨mc, h1, h2⟩ := hlim
      exact ⟨mc, nsB h1, h2⟩
    have gT : mainGlobals ≠ T := fun z => by
      obtain ⟨o, es, ep, e, d, _⟩ := hns
      rw [z, tab] at e
      cases e
      cases d
    have cd2 : PySem.W.CodeHd (hidT s₁.heap H) c T := by
      obtain ⟨o, us, fl, tf, fg, tg, inF, tx, tt, e1, r1, r2, r3, r⟩ := cd
      refine ⟨o, us, fl, tf, fg, tg, inF, tx, tt, toBase e1 (free e1 ?_ ?_), r1, r2, r3, r⟩
      · intro vs n z
        rw [r2] at z
        cases z
      · intro z
        rw [r2] at z
        cases z
        simp at r3
    have bm2 : (hidT s₁.heap H).BuiltinsAt mg T := by
      obtain ⟨bm, ob, b1, b2, b3, b4, b5, b6⟩ := mod
      have n1 : bm ≠ mainGlobals := fun z => by
        obtain ⟨o, es, ep, e, d, _⟩ := hns
        rw [z, e] at b3
        cases b3
        rw [d] at b6
        cases b6
      have n2 : bm ≠ T := fun z => by
        rw [z, tab] at b3
        cases b3
        cases b6
      refine ⟨bm, ob, b1, b2, n1, n2, toBase b3 (free b3 ?_ ?_), b4, b5, b6⟩
      · intro vs n z
        rw [b6] at z
        cases z
      · intro z
        rw [b6] at z
        cases z
    have e0 : Env0 P w K mg (hidT s₁.heap H) callerA [] s₁ H := by
      refine ⟨rfl, ⟨kin, nsB hns, ⟨mb, nsB hb, hbb⟩, lim2⟩, fun b o e => of_hidT e, Nat.le_of_eq (hidT_size _ _), True.intro, ?_, hok, .of_eq hg⟩
      intro b hb
      cases hb
    refine codeAny_mono ((F _ kin (nsB hns) ⟨cd2, bm2, gT⟩).runG callerA [] s₁ H ⟨[.ref a], []⟩ [.ref a] [.ref a] _ _ rfl hr e0 (hbind s₁ (.ref a)) (.cons rfl .nil) (hsp H hT hS)) fun r s' h => ?_
    match r, h with
    | .error e, h => exact (hCX H e s' h).elim
    | .ok .next, h => exact h.elim
    | .ok .brk, h => exact h.elim
    | .ok .cont, h => exact h.elim
    | .ok (.ret u), ⟨v, H', os, bare, un, hok', rv, q⟩ =>
      have q2 : v = .bl true := q
      subst q2
      cases rv
      obtain ⟨more, hm⟩ := un.tbls T #[] hT
      have grown : s'.heap.get? T = some { cls := .none, data := .fields (#[] ++ more) } := hok' T _ hm
      have stay : ∀ b o, b ≠ T → s₁.heap.get? b = some o → s'.heap.get? b = some o := by
        intro b o n e
        cases q : H b with
        | none => exact un.keep b o e q (fun z => nomatch z) (fun z => nomatch z)
        | some u =>
          rcases hA b u q with z | ⟨_, _, ob, xs, rfl⟩
          · exact absurd z n
          · have z1 := (hok b _ q).1
            have z2 := (hok' b _ (un.frzs b ob _ q)).1
            rw [z1] at e
            rw [z2, e]
      refine ⟨rfl, ⟨fun b o e => ?_, fun b o e => ?_⟩, os, bare⟩
      · by_cases n : b = T
        · subst n
          rw [tab] at e
          cases e
          refine .inr (.inl ⟨(cd.tab tab).isCodeTable, rfl, #[], more, rfl, grown⟩)
        · exact .inl (stay b o n e)
      · by_cases n : b = T
        · subst n
          exact ⟨_, grown⟩
        · exact ⟨o, stay b o n e⟩
  have rv := vals_ints hi
  have hlen : (ns.map V.int).length ≤ sizeLine := by rw [List.length_map]; exact hl
  cases hk : K.lookup a with
  | some o =>
    have e := KX a o hk
    rw [ha] at e
    cases e
    refine go (fun b => if b = T then some (.tbl #[]) else none) (if_pos rfl) (fun b u z => ?_) (Or.inr ⟨_, vs.toArray, _, hk, rfl, rfl, rfl, by rw [List.size_toArray, hi.length]; exact hl, by simpa using rv⟩) fun b u z => ?_
    · try dsimp only at z
      by_cases n : b = T
      · exact Or.inl n
      · rw [if_neg n] at z
        cases z
    · try dsimp only at z
      by_cases n : b = T
      · rw [if_pos n] at z
        cases z
        rw [n]
        exact tab
      · rw [if_neg n] at z
        cases z
  | none =>
    refine go (fun b => if b = T then some (.tbl #[]) else if b = a then some (.frz { cls := .type "list", data := .seq vs.toArray } (.lst (ns.map V.int))) else none) (if_pos rfl) (fun b u z => ?_) (Or.inl (Or.inr ⟨_, (if_neg aT).trans (if_pos rfl)⟩)) fun b u z => ?_
    · try dsimp only at z
      by_cases n : b = T
      · exact Or.inl n
      · rw [if_neg n] at z
        by_cases n2 : b = a
        · rw [if_pos n2] at z
          cases z
          exact Or.inr ⟨n2, hk, _, _, rfl⟩
        · rw [if_neg n2] at z
          cases z
    · try dsimp only at z
      by_cases n : b = T
      · rw [if_pos n] at z
        cases z
        rw [n]
        exact tab
      · rw [if_neg n] at z
        by_cases n2 : b = a
        · rw [if_pos n2] at z
          cases z
          rw [n2]
          exact ⟨ha, hlen, vs, _, rv, ha⟩
        · rw [if_neg n2] at z
          cases z
end So

namespace K12
open PySem PySem.Spec PyProof.Rows L2 So LamX
abbrev sHeard : Stmt := topS 56
abbrev heardN : List Str := ["_law_ask", "_law_caught", "error", "_law_heard_here"]
theorem scHeard : FnScope heardN ["_law_ask"] (defScope sHeard) := ⟨rfl, rfl, rfl, by decide +kernel, rfl, by decide +kernel, by decide +kernel⟩
theorem pe_imp {X : Cx} {e : Expr} {t : TE} (h : PE X e t) : PE X e (fun σ H Q => ∃ Q0 : VK, t σ H Q0 ∧ ∀ v H', Q0 v H' → Q v H') :=
  ⟨fun pins s σ H Q I ⟨Q0, h1, h2⟩ => thn (h.run pins s σ H Q0 I h1) fun u s' ⟨v, H', I', r, q⟩ => ⟨v, H', I', r, h2 v H' q⟩⟩
theorem takes_len {X : Cx} {W : WX} (tk : Takes X W) : Takes X (fun c d σ H => σ.length = X.N.length → W c d σ H) := fun u s' ⟨a, B, sI, pins, σ, H, cls, d, e, I, nb, up, sky, na, os, ag, w⟩ =>
  tk u s' ⟨a, B, sI, pins, σ, H, cls, d, e, I, nb, up, sky, na, os, ag, w I.len⟩
/-- the errors by the law's words -/
def KindL (CN CM CS : Addr) (wd : Str) (C : Addr) (fl : Str) : Prop := (wd = "name" ∧ C = CN ∧ fl = "name") ∨ (wd = "moment" ∧ C = CM ∧ fl = "moment") ∨ (wd = "saying" ∧ C = CS ∧ fl = "value")
def EchL (CN CM CS : Addr) (Q : VK) : XK := fun cls d H' => ∃ (wd : Str) (C : Addr) (fl : Str) (v : V) (dd : Addr), KindL CN CM CS wd C fl ∧ cls = .ref C ∧ d = some dd ∧ H' dd = some (.xd [(fl, v)]) ∧ ∀ (H'' : Hp) (r : Addr), Same H' H'' → H'' r = some (.tup [.str wd, v]) → Q (.ref r) H''
def QtL (Q : VK) : VK := fun v H' => ∀ t, H' t = none → Q (.ref t) (upd H' t (.tup [.str "told", v]))
def TTL (CN CM CS : Addr) : (XK → Hp → VK → Prop) → Hp → VK → Prop := fun tl H Q => tl (EchL CN CM CS Q) H (QtL Q)
/-- what the top says of the errors, to the law's heard -/
structure HrL (K : PySem.W.Frag) (mg : Str → Option Value) (CT CN CM CS : Addr) : Prop where
  gT : mg "TillError" = some (.ref CT)
  gN : mg "BadName" = some (.ref CN)
  gM : mg "BadMoment" = some (.ref CM)
  gS : mg "BadSaying" = some (.ref CS)
  gV : mg "ValueError" = none
  isi : mg "isinstance" = none
  len : mg "len" = none
  te : ∀ C ∈ [CN, CM, CS], PySem.W.exmOne K (.ref C) (.ref CT) = some true ∧ PySem.W.kitOne K (.ref C) (.type "ValueError") = some true ∧ Err K C
  no : ∀ C ∈ [CN, CM, CS], PySem.W.kitOne K (.type "NoneType") (.ref C) = some false
  nn : PySem.W.kitOne K (.ref CN) (.ref CN) = some true
  nm : PySem.W.kitOne K (.ref CN) (.ref CM) = some false
  ns : PySem.W.kitOne K (.ref CN) (.ref CS) = some false
  mn : PySem.W.kitOne K (.ref CM) (.ref CN) = some false
  mm : PySem.W.kitOne K (.ref CM) (.ref CM) = some true
  ms : PySem.W.kitOne K (.ref CM) (.ref CS) = some false
  sn : PySem.W.kitOne K (.ref CS) (.ref CN) = some false
  sm : PySem.W.kitOne K (.ref CS) (.ref CM) = some false
  ss : PySem.W.kitOne K (.ref CS) (.ref CS) = some true
  fN : PySem.W.findIn K (.ref CN) "name" = some none
  fM : PySem.W.findIn K (.ref CM) "moment" = some none
  fS : PySem.W.findIn K (.ref CS) "value" = some none
section
variable {X : Cx}
theorem heard_gives {q : Str} {g CT CN CM CS : Addr} {cdg : Value} (R : HrL X.K X.mg CT CN CM CS) : GivesTo X heardN "_law_heard" (defScope sHeard) g cdg (defBody sHeard) "_law_ask" q (TTL CN CM CS) := by
  intro f c' s H Q tl act hc h
  have TM := (R.te CM (by simp)).2.2
  have TN := (R.te CN (by simp)).2.2
  have TS := (R.te CS (by simp)).2.2
  refine ⟨_, (pss_cons (ps_set (i := 1) scHeard.nd rfl (.inl rfl) pe_non)
      (pss_cons (ps_try_keep (X := (cxOf C8.CX0 X.prog X.w X.K X.mg X.base heardN "_law_heard" (defScope sHeard) g cdg X.A X.stack s H C8.E0).nox) (i := 2) (n := "error") (c := .ref CT)
        (tb := fun W D σ H => ∃ Ech : XK, (∀ cls d σ' H', Ech cls d H' → σ'.length = 4 → W cls d σ' H') ∧ σ[0]? = some (some (.ref f)) ∧ H c' = some (CodeO c' q) ∧ ∃ Q0 : VK, tl Ech H Q0 ∧ ∀ v H', Q0 v H' → ∀ t, H' t = none → D.rt (.ref t) (upd H' t (.tup [.str "told", v])))
        rfl rfl rfl scHeard.nd rfl rfl ⟨rfl, by decide, .inl R.gT⟩ LamX.takes0 (fun W pn xe tk _ => ?_) (fun a pn => pss_one (ps_set (i := 1) scHeard.nd rfl (.inl rfl) (pv 2))))
      (pss_cons (ps_set (i := 3) scHeard.nd rfl (.inl rfl) (pe_lst pa_nil))
      (pss_cons (ps_if (pt_val (pe_callB (So.CallR.or call_isi call_isXo) (by rfl) R.isi (by decide +kernel) (pa_cons (pv 1) (pa_cons (pe_glob (v := .ref CN) rfl R.gN rfl) pa_nil)))) (pss_one (ps_expr (pe_bm PySem.F.plainAttrs_list PySem.F.slot_list_append PySem.F.type_list_append mt_append (pv 3) (pa_cons (pe_tup (pa_cons pe_str (pa_cons (pe_xo TN R.fN (pv 1)) pa_nil))) pa_nil)))) pss_nil)
      (pss_cons (ps_if (pt_val (pe_callB (So.CallR.or call_isi call_isXo) (by rfl) R.isi (by decide +kernel) (pa_cons (pv 1) (pa_cons (pe_glob (v := .ref CM) rfl R.gM rfl) pa_nil)))) (pss_one (ps_expr (pe_bm PySem.F.plainAttrs_list PySem.F.slot_list_append PySem.F.type_list_append mt_append (pv 3) (pa_cons (pe_tup (pa_cons pe_str (pa_cons (pe_xo TM R.fM (pv 1)) pa_nil))) pa_nil)))) pss_nil)
      (pss_cons (ps_if (pt_val (pe_callB (So.CallR.or call_isi call_isXo) (by rfl) R.isi (by decide +kernel) (pa_cons (pv 1) (pa_cons (pe_glob (v := .ref CS) rfl R.gS rfl) pa_nil)))) (pss_one (ps_expr (pe_bm PySem.F.plainAttrs_list PySem.F.slot_list_append PySem.F.type_list_append mt_append (pv 3) (pa_cons (pe_tup (pa_cons pe_str (pa_cons (pe_xo TS R.fS (pv 1)) pa_nil))) pa_nil)))) pss_nil)
      (pss_one (ps_ret (pe_ifExp (PW.pt (pw_and (pt_cmpR op_eq (pe_callB call_len_seq (by rfl) R.len PySem.boot_len (pa_cons (pv 3) pa_nil)) pe_int (nomark _))
        (pw_and1 (pt_val (pe_callB call_isXo (by rfl) R.isi (by decide +kernel) (pa_cons (pv 1) (pa_cons (pe_bltn (v := .ty "ValueError") (by rfl) R.gV (by decide +kernel) rfl) pa_nil)))))))
      (pe_ix ix_list (pv 3) pe_int (fun _ _ => rfl)) pe_str))))))))), ?_⟩
  · refine ⟨fun pins s' σ H' D I h' => ?_⟩
    obtain ⟨Ech, hW, h1, h2, Q0, h3, h4⟩ := h'
    refine (pss_one (ps_ret (pe_tup (pa_cons pe_str (pa_cons (pe_imp (act (fun c d σ H => σ.length = 4 → W c d σ H) pn xe Ech _ _ (takes_len tk) hW)) pa_nil))))).run pins s' σ H' D I ?_
    exact ⟨Q0, ⟨h1, h2, h3⟩, fun v H'' z => ⟨by show 2 ≤ sizeLine; decide, fun t ht => h4 v H'' z t ht⟩⟩
  · refine ⟨EchL CN CM CS Q, fun cls d σ' H' ⟨wd, C, fl, v, dd, k3, e1, e2, e3, q3⟩ hl => ?_, rfl, hc, QtL Q, h, fun v H' z t ht => z t ht⟩
    obtain ⟨x0, x1, x2, x3, rfl⟩ : ∃ x0 x1 x2 x3, σ' = [x0, x1, x2, x3] := by
      match σ', hl with
      | [x0, x1, x2, x3], _ => exact ⟨x0, x1, x2, x3, rfl⟩
    subst e1 e2
    have hC : C ∈ [CN, CM, CS] := by
      rcases k3 with ⟨_, rfl, _⟩ | ⟨_, rfl, _⟩ | ⟨_, rfl, _⟩ <;> simp
    obtain ⟨tE, tV, tEr⟩ := R.te C hC
    refine ⟨true, tE, fun _ a ha => ?_, fun y => nomatch y⟩
    refine ⟨_, rfl, by show 0 ≤ sizeLine; decide, fun p hp => ?_⟩
    have s0 : Same H' (upd H' a (Xo (.ref C) (some dd) a)) := same_upd0 ha
    have s1 := s0.trans (same_upd0 (o := .lst []) hp)
    have HA : (upd (upd H' a (Xo (.ref C) (some dd) a)) p (.lst [])) a = some (Xo (.ref C) (some dd) a) := same_upd0 hp _ _ upd_same
    have HD : (upd (upd H' a (Xo (.ref C) (some dd) a)) p (.lst [])) dd = some (.xd [(fl, v)]) := s1 _ _ e3
    have HP : (upd (upd H' a (Xo (.ref C) (some dd) a)) p (.lst [])) p = some (.lst []) := upd_same
    have hpn : H' p = none := s0.free hp
    revert s1 HA HD HP
    generalize upd (upd H' a (Xo (.ref C) (some dd) a)) p (.lst []) = H1
    intro s1 HA HD HP
    rcases k3 with ⟨rfl, rfl, rfl⟩ | ⟨rfl, rfl, rfl⟩ | ⟨rfl, rfl, rfl⟩
    · refine ⟨_, rfl, .inr ⟨a, _, dd, _, _, _, true, rfl, HA, HD, tEr, .own _, R.nn, _, rfl, iteT ?_⟩⟩
      refine ⟨_, rfl, .inl ⟨rfl, _, SqL.of HP⟩, _, rfl, a, dd, _, v, rfl, HA, HD, by simp [List.lookup], by show 2 ≤ sizeLine; decide, fun r hr => ?_⟩
      have s2 := same_upd0 (o := .tup [.str "name", v]) hr
      refine ⟨p, _, _, rfl, rfl, s2 _ _ HP, by show 0 < sizeLine; decide, ?_⟩
      have nrp : r ≠ p := fun y => by rw [y, HP] at hr; cases hr
      have nap : a ≠ p := fun y => by rw [y, HP] at HA; cases HA
      have ndp : dd ≠ p := ne_of HD HP (fun y => nomatch y)
      have HA3 := (upd_ne (o := HO.lst [.ref r]) nap).trans (s2 _ _ HA)
      have HD3 := (upd_ne (o := HO.lst [.ref r]) ndp).trans (s2 _ _ HD)
      refine ⟨_, rfl, .inr ⟨a, _, dd, _, _, _, false, rfl, HA3, HD3, tEr, .own CM, R.nm, _, rfl, iteF ?_⟩⟩
      refine ⟨_, rfl, .inr ⟨a, _, dd, _, _, _, false, rfl, HA3, HD3, tEr, .own CS, R.ns, _, rfl, iteF ?_⟩⟩
      refine ⟨_, rfl, p, _, rfl, .inl (SqL.of upd_same), rfl, _, rfl, ite2 (fun _ => ?_) (fun y => absurd (decide_eq_true rfl) y)⟩
      refine ⟨_, rfl, a, _, dd, _, _, _, true, rfl, HA3, HD3, tEr, .ty "ValueError", tV, _, rfl, iteT ?_⟩
      refine ⟨_, rfl, p, _, 0, _, rfl, rfl, SqL.of upd_same, atI_nat (j := 0) rfl, q3 _ r (fun b o y => ?_) ((upd_ne nrp).trans upd_same)⟩
      exact (upd_ne (ne_of_none y hpn)).trans (s2 _ _ (s1 _ _ y))
    · refine ⟨_, rfl, .inr ⟨a, _, dd, _, _, _, false, rfl, HA, HD, tEr, .own CN, R.mn, _, rfl, iteF ?_⟩⟩
      refine ⟨_, rfl, .inr ⟨a, _, dd, _, _, _, true, rfl, HA, HD, tEr, .own _, R.mm, _, rfl, iteT ?_⟩⟩
      refine ⟨_, rfl, .inl ⟨rfl, _, SqL.of HP⟩, _, rfl, a, dd, _, v, rfl, HA, HD, by simp [List.lookup], by show 2 ≤ sizeLine; decide, fun r hr => ?_⟩
      have s2 := same_upd0 (o := .tup [.str "moment", v]) hr
      refine ⟨p, _, _, rfl, rfl, s2 _ _ HP, by show 0 < sizeLine; decide, ?_⟩
      have nrp : r ≠ p := fun y => by rw [y, HP] at hr; cases hr
      have nap : a ≠ p := fun y => by rw [y, HP] at HA; cases HA
      have ndp : dd ≠ p := ne_of HD HP (fun y => nomatch y)
      have HA3 := (upd_ne (o := HO.lst [.ref r]) nap).trans (s2 _ _ HA)
      have HD3 := (upd_ne (o := HO.lst [.ref r]) ndp).trans (s2 _ _ HD)
      refine ⟨_, rfl, .inr ⟨a, _, dd, _, _, _, false, rfl, HA3, HD3, tEr, .own CS, R.ms, _, rfl, iteF ?_⟩⟩
      refine ⟨_, rfl, p, _, rfl, .inl (SqL.of upd_same), rfl, _, rfl, ite2 (fun _ => ?_) (fun y => absurd (decide_eq_true rfl) y)⟩
      refine ⟨_, rfl, a, _, dd, _, _, _, true, rfl, HA3, HD3, tEr, .ty "ValueError", tV, _, rfl, iteT ?_⟩
      refine ⟨_, rfl, p, _, 0, _, rfl, rfl, SqL.of upd_same, atI_nat (j := 0) rfl, q3 _ r (fun b o y => ?_) ((upd_ne nrp).trans upd_same)⟩
      exact (upd_ne (ne_of_none y hpn)).trans (s2 _ _ (s1 _ _ y))
    · refine ⟨_, rfl, .inr ⟨a, _, dd, _, _, _, false, rfl, HA, HD, tEr, .own CN, R.sn, _, rfl, iteF ?_⟩⟩
      refine ⟨_, rfl, .inr ⟨a, _, dd, _, _, _, false, rfl, HA, HD, tEr, .own CM, R.sm, _, rfl, iteF ?_⟩⟩
      refine ⟨_, rfl, .inr ⟨a, _, dd, _, _, _, true, rfl, HA, HD, tEr, .own _, R.ss, _, rfl, iteT ?_⟩⟩
      refine ⟨_, rfl, .inl ⟨rfl, _, SqL.of HP⟩, _, rfl, a, dd, _, v, rfl, HA, HD, by simp [List.lookup], by show 2 ≤ sizeLine; decide, fun r hr => ?_⟩
      have s2 := same_upd0 (o := .tup [.str "saying", v]) hr
      refine ⟨p, _, _, rfl, rfl, s2 _ _ HP, by show 0 < sizeLine; decide, ?_⟩
      have nrp : r ≠ p := fun y => by rw [y, HP] at hr; cases hr
      have nap : a ≠ p := fun y => by rw [y, HP] at HA; cases HA
      have ndp : dd ≠ p := ne_of HD HP (fun y => nomatch y)
      have HA3 := (upd_ne (o := HO.lst [.ref r]) nap).trans (s2 _ _ HA)
      have HD3 := (upd_ne (o := HO.lst [.ref r]) ndp).trans (s2 _ _ HD)
      refine ⟨_, rfl, p, _, rfl, .inl (SqL.of upd_same), rfl, _, rfl, ite2 (fun _ => ?_) (fun y => absurd (decide_eq_true rfl) y)⟩
      refine ⟨_, rfl, a, _, dd, _, _, _, true, rfl, HA3, HD3, tEr, .ty "ValueError", tV, _, rfl, iteT ?_⟩
      refine ⟨_, rfl, p, _, 0, _, rfl, rfl, SqL.of upd_same, atI_nat (j := 0) rfl, q3 _ r (fun b o y => ?_) ((upd_ne nrp).trans upd_same)⟩
      exact (upd_ne (ne_of_none y hpn)).trans (s2 _ _ (s1 _ _ y))
end
end K12

/-! repr of data with dicts: each thing's text built by itself, so that no more is asked of an address than that a dict is not the modules' own. -/
namespace So
open PySem PySem.Spec PyProof.Rows L2
mutual
/-- a value is this data; dicts with texts as keys may stand in it -/
inductive Dd (K : PySem.W.Frag) (H : Hp) : V → PyData → Prop
  | non : Dd K H .non .none
  | bl (b : Bool) : Dd K H (.bl b) (.bool b)
  | int (i : Int) : Dd K H (.int i) (.int i)
  | str (x : Str) : Dd K H (.str x) (.str x)
  | lst {a : Addr} {xs : List V} {ds : List PyData} (e : SqL K H a xs) (h : DdAll K H xs ds) : Dd K H (.ref a) (.list ds)
  | tup {a : Addr} {xs : List V} {ds : List PyData} (e : SqT K H a xs) (h : DdAll K H xs ds) : Dd K H (.ref a) (.tuple ds)
  | dct {a : Addr} {kvs : List (Key × V)} {ds : List (PyData × PyData)} (e : H a = some (.dK kvs)) (h : DdKv K H kvs ds) : Dd K H (.ref a) (.dict ds)
inductive DdAll (K : PySem.W.Frag) (H : Hp) : List V → List PyData → Prop
  | nil : DdAll K H [] []
  | cons {v : V} {vs : List V} {d : PyData} {ds : List PyData} (h : Dd K H v d) (t : DdAll K H vs ds) : DdAll K H (v :: vs) (d :: ds)
inductive DdKv (K : PySem.W.Frag) (H : Hp) : List (Key × V) → List (PyData × PyData) → Prop
  | nil : DdKv K H [] []
  | cons {k : Str} {v : V} {r : List (Key × V)} {d : PyData} {ds : List (PyData × PyData)} (h : Dd K H v d) (t : DdKv K H r ds) : DdKv K H ((Sum.inr k, v) :: r) ((.str k, d) :: ds)
end
section
variable {X : Cx} {pins : List (Addr × Obj)} {σ : L2.St} {H : Hp} {s : Shared}
/-- a thing in memory that shows so -/
def ShK (X : Cx) (h : Heap) (u : Value) (d : PyData) : Prop := ∃ as bs, Reads h u d as ∧ ReadAtMost h d.depth bs ∧ ReprK X.prog X.w bs h d.depth u d.shown
def ShAll (X : Cx) (h : Heap) (us : List Value) (ds : List PyData) : Prop := ∃ as bs, ReadsAll h us ds as ∧ ReadAtMost h (PyData.depthAll ds) bs ∧ ReprAllK X.prog X.w bs h (PyData.depthAll ds) us (PyData.shownAll ds)
theorem shAll_cons {h : Heap} {u : Value} {us : List Value} {d : PyData} {ds : List PyData} (a : ShK X h u d) (b : ShAll X h us ds) : ShAll X h (u :: us) (d :: ds) := by
  obtain ⟨as1, b1, r1, hb1, k1⟩ := a
  obtain ⟨as2, b2, r2, hb2, k2⟩ := b
  refine ⟨_, b1 ++ b2, .cons r1 r2, ?_, ?_⟩
  · intro b hm
    simp only [PyData.depthAll]
    rcases List.mem_append.mp hm with hm | hm
    · obtain ⟨d', as', r', hd'⟩ := hb1 b hm
      exact ⟨d', as', r', Nat.le_trans hd' (Nat.le_max_left _ _)⟩
    · obtain ⟨d', as', r', hd'⟩ := hb2 b hm
      exact ⟨d', as', r', Nat.le_trans hd' (Nat.le_max_right _ _)⟩
  · simp only [PyData.depthAll, PyData.shownAll]
    exact .cons ((k1.more fun b hb => List.mem_append_left _ hb).level_le (Nat.le_max_left _ _)) (k2.more_le (fun b hb => List.mem_append_right _ hb) (Nat.le_max_right _ _))
theorem shAll_nil {h : Heap} : ShAll X h [] [] := ⟨_, [], .nil, (fun _ h => nomatch h), by simp only [PyData.shownAll]; exact .nil⟩
mutual
theorem Dd.sh (I : Inv X pins σ H s) : ∀ (d : PyData) (v : V) (u : Value), Dd X.K H v d → RelV v u → d.showable = true → d.shown.length ≤ sizeLine → ShK X s.heap u d
  | .none, _, _, h, r, _, _ => by
    cases h
    cases r
    exact ⟨_, [], .none, (fun _ h => nomatch h), by simp only [PyData.shown]; exact .of_is ReprIs.none _ _ _⟩
  | .bool b, _, _, h, r, _, _ => by
    cases h
    cases r
    exact ⟨_, [], .bool b, (fun _ h => nomatch h), by simp only [PyData.shown]; exact .of_is (ReprIs.bool b) _ _ _⟩
  | .int i, _, _, h, r, hs, _ => by
    cases h
    obtain ⟨t, rfl⟩ := r
    exact ⟨_, [], .int i t, (fun _ h => nomatch h), by simp only [PyData.shown]; exact .of_is (ReprIs.int t (by simpa [PyData.showable] using hs)) _ _ _⟩
  | .str x, _, _, h, r, _, hz => by
    cases h
    obtain ⟨t, rfl⟩ := r
    exact ⟨_, [], .str x t, (fun _ h => nomatch h), by simp only [PyData.shown]; exact .of_is (ReprIs.str x t (by simpa only [PyData.shown] using hz)) _ _ _⟩
  | .list ds, _, _, h, r, hs, hz => by
    cases h with
    | @lst a xs _ e hall =>
      cases r
      have hz' : (listText (PyData.shownAll ds)).length ≤ sizeLine := by simpa only [PyData.shown] using hz
      obtain ⟨its, rv, ⟨o, n, h1, h2, _, h3⟩, _⟩ := I.list e
      obtain ⟨as, bs, rd, hb, hk⟩ := DdAll.sh I ds xs its hall rv (by simpa [PyData.showable] using hs) (fun t ht => Nat.le_trans (listText_mem_le ht) hz')
      have rr : Reads s.heap (.ref a) (.list ds) _ := .list h1 h2 h3 rd
      have hna : a ∉ bs := not_mem_of_deeper rr (by simp only [PyData.depth]; omega) hb
      refine ⟨_, a :: bs, rr, ReadAtMost.cons rr (by simp only [PyData.depth]; omega) hb, ?_⟩
      simp only [PyData.depth, PyData.shown]
      cases its with
      | nil =>
        cases rd
        simp only [PyData.shownAll, listText_nil]
        exact ReprK.listEmpty h1 h2 h3
      | cons x l => exact ReprK.list h1 h2 h3 hna (by simpa using hk.length_eq) (fun i y e => hk.item i y (by simpa using e))
  | .tuple ds, _, _, h, r, hs, hz => by
    cases h with
    | @tup a xs _ e hall =>
      cases r
      have hz' : (tupleText (PyData.shownAll ds)).length ≤ sizeLine := by simpa only [PyData.shown] using hz
      obtain ⟨its, rv, ⟨o, h1, h2, n, h3⟩, _⟩ := I.tuple e
      obtain ⟨as, bs, rd, hb, hk⟩ := DdAll.sh I ds xs its hall rv (by simpa [PyData.showable] using hs) (fun t ht => Nat.le_trans (tupleText_mem_le ht) hz')
      have rr : Reads s.heap (.ref a) (.tuple ds) _ := .tuple h1 h2 h3 rd
      have hna : a ∉ bs := not_mem_of_deeper rr (by simp only [PyData.depth]; omega) hb
      refine ⟨_, a :: bs, rr, ReadAtMost.cons rr (by simp only [PyData.depth]; omega) hb, ?_⟩
      simp only [PyData.depth, PyData.shown]
      exact ReprK.tuple h1 h2 h3 hna hk
  | .dict ds, _, _, h, r, hs, hz => by
    cases h with
    | @dct a kvs _ e hall =>
      cases r
      have hz' : (dictText (PyData.shownKv ds)).length ≤ sizeLine := by simpa only [PyData.shown] using hz
      obtain ⟨_, hsys, vs, hk, hD⟩ : kvs.length ≤ sizeLine ∧ (a == sysModules) = false ∧ ∃ vs, KV kvs vs ∧ s.heap.DictOf (mixKind X.prog X.w) a vs := I.hok a _ e
      obtain ⟨o, es, ep, h1, h2, h3, _, e5, _⟩ := hD
      obtain ⟨hs1, hs2⟩ := PyData.showableKv_split ds (by simpa [PyData.showable] using hs)
      obtain ⟨⟨as1, b1, r1, hb1, k1⟩, as2, b2, r2, hb2, k2⟩ := DdKv.sh I ds kvs vs es.toList hall hk e5 hs1 hs2
        (fun t ht => let ⟨p, hp, hl⟩ := PyData.shownKv_key_le ds t ht; Nat.le_trans hl (Nat.le_trans (dictText_mem_le hp) hz')) (fun t ht => let ⟨p, hp, hl⟩ := PyData.shownKv_val_le ds t ht; Nat.le_trans hl (Nat.le_trans (dictText_mem_le hp) hz'))
      have rr : Reads s.heap (.ref a) (.dict ds) _ := .dict h1 h2.1 h3 r1 r2
      have hb : ReadAtMost s.heap (PyData.depthKv ds) (b1 ++ b2) := (hb1.mono (PyData.depthAll_keys_le ds)).append (hb2.mono (PyData.depthAll_vals_le ds))
      have hna : a ∉ b1 ++ b2 := not_mem_of_deeper rr (by simp only [PyData.depth]; omega) hb
      refine ⟨_, a :: (b1 ++ b2), rr, ReadAtMost.cons rr (by simp only [PyData.depth]; omega) hb, ?_⟩
      simp only [PyData.depth, PyData.shown, PyData.shownKv_eq]
      exact ReprK.dict h1 h2.1 h3 hsys hna (ReprEntriesK.of_two es.toList _ _
        (k1.more_le (fun b hb => List.mem_append_left _ hb) (PyData.depthAll_keys_le ds)) (k2.more_le (fun b hb => List.mem_append_right _ hb) (PyData.depthAll_vals_le ds)))
theorem DdAll.sh (I : Inv X pins σ H s) : ∀ (ds : List PyData) (vs : List V) (us : List Value), DdAll X.K H vs ds → Vals vs us → PyData.showableAll ds = true → (∀ t ∈ PyData.shownAll ds, t.length ≤ sizeLine) → ShAll X s.heap us ds
  | [], _, _, h, r, _, _ => by
    cases h
    cases r
    exact shAll_nil
  | d :: ds, _, _, h, r, hs, hz => by
    cases h with
    | cons h1 h2 =>
      cases r with
      | cons r1 r2 =>
        have hs' : d.showable = true ∧ PyData.showableAll ds = true := by simpa [PyData.showableAll] using hs
        exact shAll_cons (Dd.sh I d _ _ h1 r1 hs'.1 (hz _ (by simp only [PyData.shownAll]; exact List.mem_cons_self ..))) (DdAll.sh I ds _ _ h2 r2 hs'.2 fun t ht => hz t (by simp only [PyData.shownAll]; exact List.mem_cons_of_mem _ ht))
theorem DdKv.sh (I : Inv X pins σ H s) : ∀ (ds : List (PyData × PyData)) (kvs : List (Key × V)) (vs : List (Key × Value)) (es : List DictEntry), DdKv X.K H kvs ds → KV kvs vs → Pairs (mixKind X.prog X.w) es vs → PyData.showableAll (ds.map (·.1)) = true → PyData.showableAll (ds.map (·.2)) = true →
    (∀ t ∈ PyData.shownAll (ds.map (·.1)), t.length ≤ sizeLine) → (∀ t ∈ PyData.shownAll (ds.map (·.2)), t.length ≤ sizeLine) → ShAll X s.heap (es.map (·.key)) (ds.map (·.1)) ∧ ShAll X s.heap (es.map (·.val)) (ds.map (·.2))
  | [], _, _, _, h, hk, hp, _, _, _, _ => by
    cases h
    cases hk
    cases hp
    exact ⟨shAll_nil, shAll_nil⟩
  | (dk, dv) :: ds, _, _, _, h, hk, hp, hs1, hs2, z1, z2 => by
    cases h with
    | @cons k v r _ _ h1 h2 =>
      cases hk with
      | @cons _ kv _ _ hk1 hk2 =>
        obtain ⟨kk, kval⟩ := kv
        obtain ⟨q1, q2⟩ := hk1
        simp only at q1 q2
        subst q1
        cases hp with
        | @cons en _ es' _ p1 p2 p3 =>
          have hs1' : (PyData.str k).showable = true ∧ PyData.showableAll (ds.map (·.1)) = true := by simpa [PyData.showableAll] using hs1
          have hs2' : dv.showable = true ∧ PyData.showableAll (ds.map (·.2)) = true := by simpa [PyData.showableAll] using hs2
          have hz1 : (PyData.str k).shown.length ≤ sizeLine := z1 _ (by simp only [List.map_cons, PyData.shownAll]; exact List.mem_cons_self ..)
          have hz2 : dv.shown.length ≤ sizeLine := z2 _ (by simp only [List.map_cons, PyData.shownAll]; exact List.mem_cons_self ..)
          obtain ⟨c1, c2⟩ := DdKv.sh I ds _ _ _ h2 hk2 p3 hs1'.2 hs2'.2 (fun t ht => z1 t (by simp only [List.map_cons, PyData.shownAll]; exact List.mem_cons_of_mem _ ht)) (fun t ht => z2 t (by simp only [List.map_cons, PyData.shownAll]; exact List.mem_cons_of_mem _ ht))
          simp only at p2
          refine ⟨?_, ?_⟩
          · rcases keyIs_shape (show keyIs (Sum.inr k) en.key = true from p1) with ⟨j, t3, z, _⟩ | ⟨y, t3, z, ez⟩
            · cases z
            · cases z
              simp only [List.map_cons]
              refine shAll_cons ?_ c1
              rw [ez]
              exact ⟨_, [], .str k t3, (fun _ h => nomatch h), by simp only [PyData.shown]; exact .of_is (ReprIs.str k t3 (by simpa only [PyData.shown] using hz1)) _ _ _⟩
          · simp only [List.map_cons]
            rw [p2]
            exact shAll_cons (Dd.sh I dv v _ h1 q2 hs2'.1 hz2) c2
end
/-- such a thing is shown by its own type -/
theorem Dd.shows (I : Inv X pins σ H s) {a : Addr} {d : PyData} (h : Dd X.K H (.ref a) d) (hs : d.showable = true) (hz : d.shown.length ≤ sizeLine) : ∃ T idr, ShowsBy X.prog X.w s.heap a d T idr := by
  cases h with
  | @lst _ xs ds e hall =>
    have hz' : (listText (PyData.shownAll ds)).length ≤ sizeLine := by simpa only [PyData.shown] using hz
    obtain ⟨its, rv, ⟨o, n, h1, h2, _, h3⟩, _⟩ := I.list e
    obtain ⟨as, bs, rd, hb, hk⟩ := DdAll.sh I ds xs its hall rv (by simpa [PyData.showable] using hs) (fun t ht => Nat.le_trans (listText_mem_le ht) hz')
    have rr : Reads s.heap (.ref a) (.list ds) _ := .list h1 h2 h3 rd
    have hna : a ∉ bs := not_mem_of_deeper rr (by simp only [PyData.depth]; omega) hb
    refine ⟨"list", "list.__repr__", F.slot_list_repr.toG, F.slot_list_str, F.slot_list_format, fun s' hk0 => ⟨o, hk0 _ _ h1, h2⟩, fun A E s' Q hg hu hk0 hQ => ?_⟩
    simp only [PyData.depth] at hu
    simp only [PyData.shown] at hQ
    cases its with
    | nil =>
      cases rd
      simp only [PyData.shownAll, listText_nil] at hQ
      exact call_list_repr_empty ⟨o, hk0 _ _ h1, h2⟩ (hk0 _ _ h1) h3 (hQ s'.heap _ _ fun _ _ e => e)
    | cons x l => exact call_list_reprK h1 h2 h3 hna (by simpa using hk.length_eq) (fun i y e => hk.item i y (by simpa using e)) hg (fun b _ => Clear.nil b) hu hk0 hQ hz'
  | @tup _ xs ds e hall =>
    have hz' : (tupleText (PyData.shownAll ds)).length ≤ sizeLine := by simpa only [PyData.shown] using hz
    obtain ⟨its, rv, ⟨o, h1, h2, n, h3⟩, _⟩ := I.tuple e
    obtain ⟨as, bs, rd, hb, hk⟩ := DdAll.sh I ds xs its hall rv (by simpa [PyData.showable] using hs) (fun t ht => Nat.le_trans (tupleText_mem_le ht) hz')
    have rr : Reads s.heap (.ref a) (.tuple ds) _ := .tuple h1 h2 h3 rd
    have hna : a ∉ bs := not_mem_of_deeper rr (by simp only [PyData.depth]; omega) hb
    refine ⟨"tuple", "tuple.__repr__", F.slot_tuple_repr, F.slot_tuple_str, F.slot_tuple_format, fun s' hk0 => ⟨o, hk0 _ _ h1, h2⟩, fun A E s' Q hg hu hk0 hQ => ?_⟩
    simp only [PyData.depth] at hu
    simp only [PyData.shown] at hQ
    exact call_tuple_reprK h1 h2 h3 hna hk hg (fun b _ => Clear.nil b) hu hk0 hQ hz'
  | @dct _ kvs ds e hall =>
    have hz' : (dictText (PyData.shownKv ds)).length ≤ sizeLine := by simpa only [PyData.shown] using hz
    obtain ⟨_, hsys, vs, hk, hD⟩ : kvs.length ≤ sizeLine ∧ (a == sysModules) = false ∧ ∃ vs, KV kvs vs ∧ s.heap.DictOf (mixKind X.prog X.w) a vs := I.hok a _ e
    obtain ⟨o, es, ep, h1, h2, h3, _, e5, _⟩ := hD
    obtain ⟨hs1, hs2⟩ := PyData.showableKv_split ds (by simpa [PyData.showable] using hs)
    obtain ⟨⟨as1, b1, r1, hb1, k1⟩, as2, b2, r2, hb2, k2⟩ := DdKv.sh I ds kvs vs es.toList hall hk e5 hs1 hs2
      (fun t ht => let ⟨p, hp, hl⟩ := PyData.shownKv_key_le ds t ht; Nat.le_trans hl (Nat.le_trans (dictText_mem_le hp) hz')) (fun t ht => let ⟨p, hp, hl⟩ := PyData.shownKv_val_le ds t ht; Nat.le_trans hl (Nat.le_trans (dictText_mem_le hp) hz'))
    have rr : Reads s.heap (.ref a) (.dict ds) _ := .dict h1 h2.1 h3 r1 r2
    have hb : ReadAtMost s.heap (PyData.depthKv ds) (b1 ++ b2) := (hb1.mono (PyData.depthAll_keys_le ds)).append (hb2.mono (PyData.depthAll_vals_le ds))
    have hna : a ∉ b1 ++ b2 := not_mem_of_deeper rr (by simp only [PyData.depth]; omega) hb
    refine ⟨"dict", "dict.__repr__", F.slot_dict_repr, F.slot_dict_str, F.slot_dict_format, fun s' hk0 => ⟨o, hk0 _ _ h1, h2.1⟩, fun A E s' Q hg hu hk0 hQ => ?_⟩
    simp only [PyData.depth] at hu
    simp only [PyData.shown, PyData.shownKv_eq] at hQ
    exact call_dict_reprK h1 h2.1 h3 hsys hna (ReprEntriesK.of_two es.toList _ _
      (k1.more_le (fun b hb => List.mem_append_left _ hb) (PyData.depthAll_keys_le ds)) (k2.more_le (fun b hb => List.mem_append_right _ hb) (PyData.depthAll_vals_le ds))) hg (fun b _ => Clear.nil b) hu hk0 hQ (by rw [← PyData.shownKv_eq]; exact hz')
/-- repr of data, dicts in it -/
def rReprG (K : PySem.W.Frag) : List V → Hp → VK → Prop := fun xs H Q => ∃ v d, xs = [v] ∧ Dd K H v d ∧ d.showable = true ∧ d.depth ≤ 60 ∧ d.shown.length ≤ sizeLine ∧ Q (.str d.shown) H
theorem call_reprG (hg : X.A.guards = some []) (hu : X.A.units + 64 < cLine) : CallR X (.builtin "repr") (rReprG X.K) := by
  intro pins s σ H xs us Q I r h
  obtain ⟨v, d, rfl, hd, hs, hdep, hz, q⟩ := h
  obtain ⟨u, rfl, rv⟩ := vals1 r
  cases v with
  | ref a =>
    cases rv
    obtain ⟨T, idr, S⟩ := hd.shows I hs hz
    refine call_repr_slot (by omega) (S.typeIs s fun _ _ e => e) S.slotRepr (S.call X.A.in1 X.xe s _ hg (by show X.A.units + 1 + d.depth < cLine; omega) (fun _ _ e => e) fun h' u tk hk => ⟨_, _, rfl, ?_⟩)
    exact ⟨.str d.shown, H, I.kept hk, ⟨_, rfl⟩, q⟩
  | non =>
    cases hd
    cases rv
    exact PySem.P.repr_of_none ⟨.str _, H, I.tok _, ⟨_, rfl⟩, q⟩
  | bl b =>
    cases hd
    cases rv
    refine PySem.P.repr_of_bool ⟨.str (PyData.shown (.bool b)), H, I.tok _, ⟨s.toks, ?_⟩, q⟩
    cases b <;> rfl
  | int i =>
    cases hd
    obtain ⟨t, rfl⟩ := rv
    exact PySem.P.repr_of_int (by simpa [PyData.showable] using hs) ⟨.str _, H, I.tok _, ⟨_, rfl⟩, q⟩
  | str x =>
    cases hd
    obtain ⟨t, rfl⟩ := rv
    exact PySem.P.repr_of_str ⟨.str _, H, I.tok _, ⟨_, rfl⟩, q⟩ hz
  | byt b => cases hd
  | flt b => cases hd
  | ty n => cases hd
end
/-! data stays -/
mutual
theorem Dd.same {K : PySem.W.Frag} {H H' : Hp} (s : Ext H H') : ∀ {d : PyData} {v : V}, Dd K H v d → Dd K H' v d
  | _, _, .non => .non
  | _, _, .bl b => .bl b
  | _, _, .int i => .int i
  | _, _, .str x => .str x
  | _, _, .lst e h => .lst (SqL.ext e s) (DdAll.same s h)
  | _, _, .tup e h => .tup (SqT.ext e s) (DdAll.same s h)
  | _, _, .dct e h => .dct (s _ _ e) (DdKv.same s h)
theorem DdAll.same {K : PySem.W.Frag} {H H' : Hp} (s : Ext H H') : ∀ {ds : List PyData} {vs : List V}, DdAll K H vs ds → DdAll K H' vs ds
  | _, _, .nil => .nil
  | _, _, .cons h t => .cons (Dd.same s h) (DdAll.same s t)
theorem DdKv.same {K : PySem.W.Frag} {H H' : Hp} (s : Ext H H') : ∀ {ds : List (PyData × PyData)} {vs : List (Key × V)}, DdKv K H vs ds → DdKv K H' vs ds
  | _, _, .nil => .nil
  | _, _, .cons h t => .cons (Dd.same s h) (DdKv.same s t)
end
end So

/-! a value as data over a part of memory that stays; text * int -/
namespace So
open PySem PySem.Spec PyProof.Rows L2
section
variable {X : Cx}
theorem op_mul_str : OpR X (binaryOp .Mult) (fun x y H Q => ∃ z n, x = .str z ∧ y = .int n ∧ MulOk z n ∧ Q (.str (Txt.mul z n)) H) := by
  intro pins s σ H x y v u Q I rx ry h
  obtain ⟨z, n, rfl, rfl, ok, q⟩ := h
  obtain ⟨t, rfl⟩ := rx
  obtain ⟨t', rfl⟩ := ry
  exact SB.mul ok fun t' k => ⟨.str (Txt.mul z n), H, I.tok _, ⟨_, rfl⟩, q⟩
end
/-- memory without p -/
def hole (p : Addr) (H : Hp) : Hp := fun b => if b = p then none else H b
theorem hole_ne {p b : Addr} {H : Hp} (h : b ≠ p) : hole p H b = H b := if_neg h
theorem hole_at {p : Addr} {H : Hp} : hole p H p = none := if_pos rfl
theorem hole_same {p : Addr} {H : Hp} : Same (hole p H) H := fun b o e => by
  by_cases z : b = p
  · subst z
    rw [hole_at] at e
    cases e
  · rwa [hole_ne z] at e
/-- v is the data d, by a part of memory that has no p -/
def Kp (K : PySem.W.Frag) (p : Addr) (H : Hp) (v : V) (d : PyData) : Prop := ∃ F, F p = none ∧ Same F H ∧ Dd K F v d
section
variable {K : PySem.W.Frag} {p : Addr} {H H' : Hp} {v : V} {d : PyData}
theorem Kp.same (h : Kp K p H v d) (s : Same H H') : Kp K p H' v d := h.elim fun F e => ⟨F, e.1, e.2.1.trans s, e.2.2⟩
theorem Kp.off (h : Kp K p H v d) (s : ∀ b o, b ≠ p → H b = some o → H' b = some o) : Kp K p H' v d := h.elim fun F e => ⟨F, e.1, fun b o z => s b o (fun y => by
  subst y
  rw [e.1] at z
  cases z) (e.2.1 b o z), e.2.2⟩
theorem Kp.dd (h : Kp K p H v d) : Dd K H v d := h.elim fun F e => Dd.same (fun b o z => e.2.1 b o z) e.2.2
theorem Kp.hole (h : Dd K (So.hole p H) v d) : Kp K p H v d := ⟨So.hole p H, hole_at, hole_same, h⟩
theorem Kp.at (h : Dd K H v d) (e : H p = none) (s : Same H H') : Kp K p H' v d := ⟨H, e, s, h⟩
theorem Kp.non : Kp K p H .non .none := .hole .non
theorem Kp.bl (b : Bool) : Kp K p H (.bl b) (.bool b) := .hole (.bl b)
theorem Kp.int (i : Int) : Kp K p H (.int i) (.int i) := .hole (.int i)
theorem Kp.str (z : Str) : Kp K p H (.str z) (.str z) := .hole (.str z)
end
end So

/-! how long what repr tells of data is, how deep it goes -/
namespace So
open PySem PySem.Spec PyProof.Rows L2
theorem shownAll_map' : ∀ ds : List PyData, PyData.shownAll ds = ds.map PyData.shown
  | [] => rfl
  | d :: r => by
    unfold PyData.shownAll
    rw [shownAll_map' r]
    rfl
theorem sum_le' {k : Nat} : ∀ ds : List PyData, (∀ d ∈ ds, d.shown.length ≤ k) → (((PyData.shownAll ds).map (·.length)).sum) ≤ k * ds.length
  | [], _ => by simp [PyData.shownAll]
  | d :: r, h => by
    have ih := sum_le' r fun x hx => h x (List.mem_cons_of_mem _ hx)
    have h1 := h d List.mem_cons_self
    unfold PyData.shownAll
    rw [List.map_cons, List.sum_cons, List.length_cons, Nat.mul_succ]
    omega
theorem len_all' (ds : List PyData) : (PyData.shownAll ds).length = ds.length := by rw [shownAll_map', List.length_map]
/-- data that shows in n letters, m deep -/
structure OkD (n m : Nat) (d : PyData) : Prop where
  show' : d.showable = true
  deep : d.depth ≤ m
  len : d.shown.length ≤ n
theorem OkD.mono {n m n' m' : Nat} {d : PyData} (h : OkD n m d) (h1 : n ≤ n') (h2 : m ≤ m') : OkD n' m' d := ⟨h.show', Nat.le_trans h.deep h2, Nat.le_trans h.len h1⟩
theorem okAll {n m : Nat} : ∀ {ds : List PyData}, (∀ d ∈ ds, OkD n m d) → PyData.showableAll ds = true ∧ PyData.depthAll ds ≤ m + 1
  | [], _ => ⟨rfl, by simp [PyData.depthAll]⟩
  | d :: r, h => by
    have ih := okAll (ds := r) fun x hx => h x (List.mem_cons_of_mem _ hx)
    have h1 := h d List.mem_cons_self
    refine ⟨?_, ?_⟩
    · simp only [PyData.showableAll, h1.show', ih.1, Bool.and_self]
    · simp only [PyData.depthAll]
      have := h1.deep
      have := ih.2
      omega
theorem OkD.list {n m : Nat} {ds : List PyData} (h : ∀ d ∈ ds, OkD n m d) : OkD (n * ds.length + 2 * ds.length + 3) (m + 2) (.list ds) := by
  have a := okAll h
  refine ⟨by simp only [PyData.showable]; exact a.1, by simp only [PyData.depth]; omega, ?_⟩
  have h1 := listText_len_le (PyData.shownAll ds)
  have h2 := sum_le' (k := n) ds fun d hd => (h d hd).len
  rw [len_all'] at h1
  show (listText (PyData.shownAll ds)).length ≤ _
  omega
theorem OkD.tuple {n m : Nat} {ds : List PyData} (h : ∀ d ∈ ds, OkD n m d) : OkD (n * ds.length + 2 * ds.length + 3) (m + 2) (.tuple ds) := by
  have a := okAll h
  refine ⟨by simp only [PyData.showable]; exact a.1, by simp only [PyData.depth]; omega, ?_⟩
  have h1 := tupleText_len_le (PyData.shownAll ds)
  have h2 := sum_le' (k := n) ds fun d hd => (h d hd).len
  rw [len_all'] at h1
  show (tupleText (PyData.shownAll ds)).length ≤ _
  omega
theorem OkD.int {i : Int} (h : i.natAbs < 2 ^ 250) : OkD 2000 0 (.int i) := by
  have hl : i.natAbs.log2 < 1920 := Nat.lt_of_lt_of_le (PySem.Flt.log2_lt_of (by decide) h) (by decide)
  refine ⟨by simp [PyData.showable, hl], Nat.zero_le _, ?_⟩
  show (Str.ofString (toString i)).length ≤ 2000
  rw [PyProof.Rows.ofString_length]
  exact Nat.le_trans (int_text_length_le (k := 1920) (by decide) hl) (by decide)
theorem OkD.bool (b : Bool) : OkD 2000 0 (.bool b) := ⟨rfl, Nat.zero_le _, by cases b <;> decide⟩
theorem OkD.none : OkD 2000 0 .none := ⟨rfl, Nat.zero_le _, by decide⟩
theorem OkD.str {z : Str} (h : ∀ c ∈ z.cps.toList, c < 128) (hl : z.length ≤ 100) : OkD 2000 0 (.str z) := by
  refine ⟨rfl, Nat.zero_le _, ?_⟩
  have h1 := PySem.StrLaws.reprText_len z (fun c hc => Nat.lt_trans (h c hc) (by decide))
  show (reprText z).length ≤ 2000
  omega
/-- the same texts of the same data -/
theorem OkD.repr {n m : Nat} {d : PyData} (h : OkD n m d) (h1 : m ≤ 60) (h2 : n ≤ 16777216) : d.showable = true ∧ d.depth ≤ 60 ∧ d.shown.length ≤ sizeLine := ⟨h.show', Nat.le_trans h.deep h1, by rw [sizeLine_eq]; exact Nat.le_trans h.len h2⟩
end So

/-! memory without the tables of code objects -/
namespace So
open PySem PySem.Spec PyProof.Rows L2 LamX
def unt (H : Hp) : Hp := fun b => match H b with
  | some (.tbl _) => none
  | o => o
theorem unt_get {H : Hp} {b : Addr} {o : HO} (h : H b = some o) (n : ∀ ps, o ≠ .tbl ps) : unt H b = some o := by
  unfold unt
  rw [h]
  cases o with
  | tbl ps => exact absurd rfl (n ps)
  | _ => rfl
theorem unt_of {H : Hp} {b : Addr} {o : HO} (h : unt H b = some o) : H b = some o ∧ ∀ ps, o ≠ .tbl ps := by
  unfold unt at h
  cases e : H b with
  | none => rw [e] at h; cases h
  | some u =>
    rw [e] at h
    cases u with
    | tbl ps => cases h
    | _ => cases h; exact ⟨rfl, fun ps z => nomatch z⟩
theorem unt_none {H : Hp} {b : Addr} (h : H b = none) : unt H b = none := by
  unfold unt
  rw [h]
theorem unt_same (H : Hp) : Same (unt H) H := fun b o e => (unt_of e).1
theorem unt_ext {H H' : Hp} (e : ExtN H H') : Same (unt H) H' := fun b o h => e b o (unt_of h).1 (unt_of h).2
theorem unt_mono {F H : Hp} (s : Same F H) : Same (unt F) (unt H) := fun b o h => unt_get (s _ _ (unt_of h).1) (unt_of h).2
theorem rd_unt {H : Hp} {a : Addr} {u : HO} (h : Rd H a u) (n : ∀ ps, u ≠ .tbl ps) : Rd (unt H) a u := by
  rcases h with h | ⟨o, h⟩
  · exact .inl (unt_get h n)
  · exact .inr ⟨o, unt_get h fun ps z => nomatch z⟩
theorem sql_unt {K : PySem.W.Frag} {H : Hp} {a : Addr} {xs : List V} (h : SqL K H a xs) : SqL K (unt H) a xs := by
  rcases h with h | h
  · exact .inl (rd_unt h fun ps z => nomatch z)
  · exact .inr h
theorem sqt_unt {K : PySem.W.Frag} {H : Hp} {a : Addr} {xs : List V} (h : SqT K H a xs) : SqT K (unt H) a xs := by
  rcases h with h | h
  · exact .inl (rd_unt h fun ps z => nomatch z)
  · exact .inr h
mutual
theorem dd_unt {K : PySem.W.Frag} {H : Hp} : ∀ {d : PyData} {v : V}, Dd K H v d → Dd K (unt H) v d
  | _, _, .non => .non
  | _, _, .bl b => .bl b
  | _, _, .int i => .int i
  | _, _, .str x => .str x
  | _, _, .lst e h => .lst (sql_unt e) (ddAll_unt h)
  | _, _, .tup e h => .tup (sqt_unt e) (ddAll_unt h)
  | _, _, .dct e h => .dct (unt_get e fun ps z => nomatch z) (ddKv_unt h)
theorem ddAll_unt {K : PySem.W.Frag} {H : Hp} : ∀ {ds : List PyData} {vs : List V}, DdAll K H vs ds → DdAll K (unt H) vs ds
  | _, _, .nil => .nil
  | _, _, .cons h t => .cons (dd_unt h) (ddAll_unt t)
theorem ddKv_unt {K : PySem.W.Frag} {H : Hp} : ∀ {ds : List (PyData × PyData)} {vs : List (Key × V)}, DdKv K H vs ds → DdKv K (unt H) vs ds
  | _, _, .nil => .nil
  | _, _, .cons h t => .cons (dd_unt h) (ddKv_unt t)
end
theorem Kp.extN {K : PySem.W.Frag} {p : Addr} {H H' : Hp} {v : V} {d : PyData} (h : Kp K p H v d) (e : ExtN H H') : Kp K p H' v d := by
  obtain ⟨F, h1, h2, h3⟩ := h
  exact ⟨unt F, unt_none h1, (unt_mono h2).trans (unt_ext e), dd_unt h3⟩
end So

/-! texts of signs that are code points: how long what repr tells of them is -/
namespace So
open PySem PySem.Spec PyProof.Rows L2
def Wd (z : Str) : Prop := ∀ c ∈ z.cps.toList, c < 0x110000
theorem wd_of (s : String) : Wd (Str.ofString s) := by
  intro c hc
  rw [Str.ofString_eq_toList] at hc
  obtain ⟨x, _, rfl⟩ := List.mem_map.mp (show c ∈ s.toList.map Char.toNat by simpa using hc)
  have h : x.toNat < 1114112 := by
    have := x.valid
    unfold UInt32.isValidChar Nat.isValidChar at this
    show x.val.toNat < _
    omega
  exact h
theorem wd_app {a b : Str} (ha : Wd a) (hb : Wd b) : Wd (a ++ b) := by
  intro c hc
  have e : (a ++ b).cps.toList = a.cps.toList ++ b.cps.toList := by
    show (a.cps ++ b.cps).toList = _
    simp
  rw [e] at hc
  exact (List.mem_append.mp hc).elim (ha c) (hb c)
theorem wd_strOk {z : Str} (h : Wd z) : PyData.strOk z = true := by
  unfold PyData.strOk
  rw [Array.all_eq_true']
  intro c hc
  exact decide_eq_true (h c (by simpa using hc))
theorem wd_empty : Wd Str.empty := fun c hc => by cases hc
theorem wd_sjoin {a : Str} (ha : Wd a) : ∀ {ys : List Str}, (∀ y ∈ ys, Wd y) → Wd (Str.join a ys)
  | [], _ => wd_empty
  | [x], h => h x List.mem_cons_self
  | x :: y :: r, h => wd_app (wd_app (h x List.mem_cons_self) ha) (wd_sjoin ha fun z hz => h z (List.mem_cons_of_mem _ hz))
theorem wd_join {a : Str} (ha : Wd a) {ys : List Str} (h : ∀ y ∈ ys, Wd y) : Wd (Txt.join a ys) := by
  rw [TL.join_eq]
  exact wd_sjoin ha h
theorem sjoin_len (a : Str) : ∀ ys : List Str, (Str.join a ys).length ≤ (ys.map (·.length)).sum + ys.length * a.length
  | [] => Nat.zero_le _
  | [x] => by simp [Str.join]
  | x :: y :: r => by
    have ih := sjoin_len a (y :: r)
    have e1 : (Str.join a (x :: y :: r)).length = x.length + a.length + (Str.join a (y :: r)).length := by
      show (x ++ a ++ Str.join a (y :: r)).length = _
      rw [PyProof.Rows.len_cat, PyProof.Rows.len_cat]
    rw [e1, List.map_cons, List.sum_cons, List.length_cons, Nat.succ_mul]
    omega
theorem join_len (a : Str) (ys : List Str) : (Txt.join a ys).length ≤ (ys.map (·.length)).sum + ys.length * a.length := by
  rw [TL.join_eq]
  exact sjoin_len a ys
theorem OkD.strW {z : Str} {n : Nat} (h : Wd z) (hl : z.length ≤ n) : OkD (10 * n + 2) 0 (.str z) := by
  refine ⟨rfl, Nat.zero_le _, ?_⟩
  have h1 := PySem.StrLaws.reprText_len z fun c hc => Nat.lt_trans (h c hc) (by decide)
  show (reprText z).length ≤ _
  omega
end So

namespace K12
open PySem PySem.Spec PyProof.Rows L2 So LamX
abbrev sTick : Stmt := topS 52
abbrev sKinds : Stmt := topS 53
abbrev sDrawn : Stmt := topS 54
abbrev drawnN : List Str := ["_law_pen_here", "_law_crew", "_law_kinds_here", "_law_kind", "_law_left", "_law_right", "_law_tick_here", "_law_far"]
theorem scTick : FnScope ["_law_pen_here", "_law_some"] ["_law_pen_here"] (defScope sTick) := ⟨rfl, rfl, rfl, by decide +kernel, rfl, by decide +kernel, by decide +kernel⟩
theorem scKinds : FnScope ["_law_some"] [] (defScope sKinds) := ⟨rfl, rfl, rfl, by decide +kernel, rfl, by decide +kernel, by decide +kernel⟩
theorem scDrawn : FnScope drawnN ["_law_pen_here", "_law_crew", "_law_kinds_here"] (defScope sDrawn) := ⟨rfl, rfl, rfl, by decide +kernel, rfl, by decide +kernel, by decide +kernel⟩
theorem Pen.same {H H' : Hp} {p l : Addr} {ns : List Int} {n : Nat} {g : Int} (h : Pen H p l ns n g) (s : Same H H') : Pen H' p l ns n g := ⟨s _ _ h.pen, s _ _ h.cells, h.left⟩
theorem Pen.ne {H : Hp} {p l q : Addr} {ns : List Int} {n : Nat} {g : Int} (h : Pen H p l ns n g) (hq : H q = none) : q ≠ p := (ne_of_none h.pen hq).symm
theorem offS {p : Addr} {H H' : Hp} (s : Same H H') : Off p H H' := fun b o _ e => s b o e
theorem Gv.extN {H H' : Hp} {v : V} {T : String} (h : Gv H v T) (s : ExtN H H') : Gv H' v T := by
  cases h with
  | non => exact .non
  | bl b => exact .bl b
  | int i => exact .int i
  | str z h => exact .str z h
  | lst e => exact .lst (s _ _ e (fun _ z => nomatch z))
  | tup e => exact .tup (s _ _ e (fun _ z => nomatch z))
  | dK e => exact .dK (s _ _ e (fun _ z => nomatch z))
/-- a value that shows as d, whatever becomes of the pen -/
structure Val (K : PySem.W.Frag) (p : Addr) (H : Hp) (v : V) (T : String) (d : PyData) : Prop where
  gv : Gv H v T
  kp : Kp K p H v d
  np : v ≠ .ref p
  ok : OkD 3000 12 d
theorem Val.same {K : PySem.W.Frag} {p : Addr} {H H' : Hp} {v : V} {T : String} {d : PyData} (h : Val K p H v T d) (s : Same H H') : Val K p H' v T d := ⟨h.gv.same s, h.kp.same s, h.np, h.ok⟩
theorem Val.off {K : PySem.W.Frag} {p : Addr} {H H' : Hp} {v : V} {T : String} {d : PyData} (h : Val K p H v T d) (s : Off p H H') : Val K p H' v T d := ⟨h.gv.off h.np s, h.kp.off s, h.np, h.ok⟩
theorem Val.extN {K : PySem.W.Frag} {p : Addr} {H H' : Hp} {v : V} {T : String} {d : PyData} (h : Val K p H v T d) (s : ExtN H H') : Val K p H' v T d := ⟨h.gv.extN s, h.kp.extN s, h.np, h.ok⟩
theorem Dp.dd {K : PySem.W.Frag} {H : Hp} {v : V} {d : PyData} (h : flatD v = some d) : Dd K H v d := by
  cases v with
  | non => cases h; exact .non
  | bl b => cases h; exact .bl b
  | int i => cases h; exact .int i
  | str z => cases h; exact .str z
  | _ => cases h
theorem flatDs_dd {K : PySem.W.Frag} {H : Hp} : ∀ {xs : List V} {ds : List PyData}, flatDs xs = some ds → DdAll K H xs ds
  | [], ds, h => by
    cases h
    exact .nil
  | v :: r, ds, h => by
    unfold flatDs at h
    split at h
    · rename_i d es h1 h2
      cases h
      exact .cons (Dp.dd h1) (flatDs_dd h2)
    · cases h
theorem okD_ok {d : PyData} (o : okD d) : OkD 3000 12 d := ⟨o.1, Nat.le_trans o.2.1 (by decide), Nat.le_trans o.2.2 (by decide)⟩
theorem Od.val {K : PySem.W.Frag} {H : Hp} {p l : Addr} {x y v : V} (h : Od H v) (hp : H p = some (.lst [.ref l, x, y])) : ∃ T d, Val K p H v T d := by
  cases h with
  | @flat v d h o s =>
    cases v with
    | non => exact ⟨_, d, .non, .hole (Dp.dd h), (fun z => nomatch z), okD_ok o⟩
    | bl b => exact ⟨_, d, .bl b, .hole (Dp.dd h), (fun z => nomatch z), okD_ok o⟩
    | int i => exact ⟨_, d, .int i, .hole (Dp.dd h), (fun z => nomatch z), okD_ok o⟩
    | str z => exact ⟨_, d, .str z (s z rfl), .hole (Dp.dd h), (fun z => nomatch z), okD_ok o⟩
    | _ => cases h
  | @lst a xs ds e h o =>
    have ne : a ≠ p := fun z => by
      subst z
      rw [hp] at e
      cases e
      cases h
    exact ⟨_, _, .lst e, .hole (.lst (SqL.of (by rw [hole_ne ne]; exact e)) (flatDs_dd h)), (fun z => ne (V.ref.inj z)), okD_ok o⟩
  | @tup a xs ds e h o =>
    have ne : a ≠ p := ne_of e hp (fun z => nomatch z)
    exact ⟨_, _, .tup e, .hole (.tup (SqT.of (by rw [hole_ne ne]; exact e)) (flatDs_dd h)), (fun z => ne (V.ref.inj z)), okD_ok o⟩
  | @mt a e =>
    have ne : a ≠ p := ne_of e hp (fun z => nomatch z)
    exact ⟨_, .dict [], .dK e, .hole (.dct (by rw [hole_ne ne]; exact e) .nil), (fun z => ne (V.ref.inj z)), ⟨rfl, by decide +kernel, by decide +kernel⟩⟩
/-! ### a drawn row -/
/-- a value that lies in no memory: a name, a moment, a truth -/
inductive Flat1 : V → Prop where
  | nam {z : Str} (h : isName z = true) : Flat1 (.str z)
  | mom {i : Int} (h : 0 ≤ i ∧ i ≤ 1000000000000000000000000000000) : Flat1 (.int i)
  | tru (b : Bool) : Flat1 (.bl b)
def FlatRow (kind : Str) (xs : List V) : Prop := xs.length = (formsOf kind).length ∧ ∀ q ∈ xs.zip (formsOf kind), okF q.2 q.1 = true ∧ Flat1 q.1
section
variable {P : Program} {w : World} {K : PySem.W.Frag} {mg : Str → Option Value} {base : Heap}
def spTick : Sp := fun vs H Q _ => ∃ (p l : Addr) (ns : List Int) (n : Nat) (g : Int), vs = [.ref p] ∧ Pen H p l ns n g ∧ n < 999000 ∧
  ∀ (i : Int) (n' : Nat) (g' : Int) (H' : Hp), 0 ≤ i → i ≤ 1000000000000000000000000000000 → n' ≤ n + 3 → Off p H H' → Pen H' p l ns n' g' → Q (.int i) H'
theorem ok_tick {f fP fD : Addr} {fd fdP fdD : FuncData} (F : Fun K "_law_tick" "_law_tick" sTick f fd) (FP : Fun K "_law_pick" "_law_pick" sPick fP fdP) (bP : Binds K fdP ["_law_pen_here", "_law_some"] []) (gP : mg "_law_pick" = some (.ref fP)) (GP : FnOk P w K mg base CX0 2 fP fdP ["_law_pen_here", "_law_some"] (spPick K))
    (FD : Fun K "_law_draw" "_law_draw" sDraw fD fdD) (bD : Binds K fdD ["_law_pen_here", "_law_many"] []) (gD : mg "_law_draw" = some (.ref fD)) (GD : FnOk P w K mg base CX0 1 fD fdD ["_law_pen_here", "_law_many"] spDraw) : FnOk P w K mg base CX0 3 f fd ["_law_pen_here"] spTick := by
  refine F.ok scTick (fun vs H Q E h => ?_) (fun cdv A outer s H vs Q E hr h => ?_)
  · obtain ⟨p, l, ns, n, g, rfl, _⟩ := h
    rfl
  · obtain ⟨p, l, ns, n, g, rfl, hp, hn, k⟩ := h
    have hr1 : Room 1 _ := hr.mono (by decide)
    refine ⟨_, pss_cons (ps_set (i := 1) scTick.nd rfl (.inl rfl) (pe_lst (pa_cons pe_int (pa_cons pe_int (pa_cons pe_int (pa_cons pe_int (pa_cons pe_int (pa_cons pe_int (pa_cons pe_int (pa_cons pe_int (pa_cons (pe_op op_pow pe_int pe_int) (pa_cons (pe_op op_sub (pe_op op_pow pe_int pe_int) pe_int) pa_nil))))))))))))
      (pss_one (ps_ret (pe_call GP hr (by rfl) gP FP.kp bP .nil pass0 (pa_cons (pv 0) (pa_cons (pe_op op_cat (pv 1) (pe_lst (pa_cons (pe_call GD hr1 (by rfl) gD FD.kp bD .nil pass0 (pa_cons (pv 0) (pa_cons pe_int pa_nil))) (pa_cons (pe_call GD hr1 (by rfl) gD FD.kp bD .nil pass0 (pa_cons (pv 0) (pa_cons (pe_op op_pow pe_int pe_int) pa_nil))) pa_nil)))) pa_nil))))), ?_⟩
    refine ⟨_, _, rfl, rfl, ⟨by decide, by decide, by decide⟩, _, _, rfl, rfl, ⟨by decide, by decide, by decide⟩, _, _, rfl, rfl, by show 10 ≤ sizeLine; decide, fun s1 h1 => ?_⟩
    have hp1 := hp.new (o := .lst [V.int 0, .int 1, .int 2, .int 3, .int 4, .int 5, .int 6, .int 8, .int ((10 : Int) ^ Int.toNat 30), .int ((10 : Int) ^ Int.toNat 30 - 1)]) h1
    have nsp := hp.ne h1
    refine ⟨_, rfl, _, rfl, _, rfl, p, l, ns, n, g, _, rfl, hp1, by omega, by decide, by decide, fun d1 n2 g2 H2 d10 d11 hn2 off2 pen2 => ?_⟩
    refine ⟨_, rfl, _, _, rfl, rfl, ⟨by decide, by decide, by decide⟩, p, l, ns, n2, g2, _, rfl, pen2, by omega, by decide +kernel, by decide +kernel, fun d2 n3 g3 H3 d20 d21 hn3 off3 pen3 => ?_⟩
    replace d21 : d2 < 1000000000000000000000000000000 := d21
    have hS3 := off3 _ _ nsp (off2 _ _ nsp (show (upd H s1 (.lst [V.int 0, .int 1, .int 2, .int 3, .int 4, .int 5, .int 6, .int 8, .int ((10 : Int) ^ Int.toNat 30), .int ((10 : Int) ^ Int.toNat 30 - 1)])) s1 = _ from upd_same))
    refine ⟨by show 2 ≤ sizeLine; decide, fun s2 h2 => ⟨s1, s2, _, _, rfl, rfl, same_upd0 h2 _ _ hS3, upd_same, by show 12 ≤ sizeLine; decide, fun s3 h3 => ?_⟩⟩
    have s23 := (same_upd0 (o := .lst [.int d1, .int d2]) h2).trans (same_upd0 (o := .lst ([V.int 0, .int 1, .int 2, .int 3, .int 4, .int 5, .int 6, .int 8, .int ((10 : Int) ^ Int.toNat 30), .int ((10 : Int) ^ Int.toNat 30 - 1)] ++ [.int d1, .int d2])) h3)
    have offA : Off p H H3 := (offS (same_upd0 h1)).trans (off2.trans off3)
    refine ⟨p, l, ns, n3, g3, _, rfl, pen3.same s23, by omega, .inl ⟨s3, _, rfl, (pen3.same (same_upd0 h2)).ne h3, upd_same, by show 0 < 12; decide, by show 12 ≤ 1000; decide, fun v n4 g4 H4 hv hn4 off4 pen4 => ?_⟩⟩
    have offB := (offA.trans (offS s23)).trans off4
    have hv' : v ∈ [V.int 0, .int 1, .int 2, .int 3, .int 4, .int 5, .int 6, .int 8, .int ((10 : Int) ^ Int.toNat 30), .int ((10 : Int) ^ Int.toNat 30 - 1), .int d1, .int d2] := hv
    simp only [List.mem_cons, List.not_mem_nil, or_false] at hv'
    rcases hv' with h | h | h | h | h | h | h | h | h | h | h | h <;> subst h
    · exact k _ n4 g4 H4 (by decide) (by decide) (by omega) offB pen4
    · exact k _ n4 g4 H4 (by decide) (by decide) (by omega) offB pen4
    · exact k _ n4 g4 H4 (by decide) (by decide) (by omega) offB pen4
    · exact k _ n4 g4 H4 (by decide) (by decide) (by omega) offB pen4
    · exact k _ n4 g4 H4 (by decide) (by decide) (by omega) offB pen4
    · exact k _ n4 g4 H4 (by decide) (by decide) (by omega) offB pen4
    · exact k _ n4 g4 H4 (by decide) (by decide) (by omega) offB pen4
    · exact k _ n4 g4 H4 (by decide) (by decide) (by omega) offB pen4
    · exact k _ n4 g4 H4 (by decide +kernel) (by decide +kernel) (by omega) offB pen4
    · exact k _ n4 g4 H4 (by decide +kernel) (by decide +kernel) (by omega) offB pen4
    · exact k _ n4 g4 H4 d10 (by omega) (by omega) offB pen4
    · exact k _ n4 g4 H4 d20 (by omega) (by omega) offB pen4
theorem okF_n (v : V) : okF "name" v = gNam v := by unfold okF; rw [if_pos rfl]
theorem okF_m (v : V) : okF "moment" v = gMom v := by unfold okF; rw [if_neg (by decide +kernel), if_pos rfl]
theorem okF_b (v : V) : okF "beginning" v = gBeg v := by unfold okF; rw [if_neg (by decide +kernel), if_neg (by decide +kernel), if_pos rfl]
theorem okF_t (v : V) : okF "truth" v = gTru v := by unfold okF; rw [if_neg (by decide +kernel), if_neg (by decide +kernel), if_neg (by decide +kernel)]
theorem row_of {kind : Str} {fo : List Str} {xs : List V} (e : formsOf kind = fo) (hl : xs.length = fo.length) (h : ∀ q ∈ xs.zip fo, okF q.2 q.1 = true ∧ Flat1 q.1) : FlatRow kind xs := by
  unfold FlatRow
  rw [e]
  exact ⟨hl, h⟩
theorem nam_ok {z : Str} (h : isName z = true) : okF "name" (.str z) = true ∧ Flat1 (.str z) := ⟨by rw [okF_n]; exact h, .nam h⟩
theorem mom_ok {i : Int} (h : 0 ≤ i ∧ i ≤ 1000000000000000000000000000000) : okF "moment" (.int i) = true ∧ Flat1 (.int i) := ⟨by rw [okF_m]; exact decide_eq_true h, .mom h⟩
theorem beg_ok {i : Int} (h : 1 ≤ i ∧ i ≤ 1000000000000000000000000000000) : okF "beginning" (.int i) = true ∧ Flat1 (.int i) := ⟨by rw [okF_b]; exact decide_eq_true h, .mom ⟨by omega, h.2⟩⟩
theorem tru_ok (b : Bool) : okF "truth" (.bl b) = true ∧ Flat1 (.bl b) := ⟨by rw [okF_t]; rfl, .tru b⟩
theorem kinds_last : ∀ kind ∈ kinds, ¬ kind = "begun" → ¬ kind = "trusted" → ¬ kind = "found" → (["setby", "passed", "failed"] : List Str).contains kind = false → formsOf kind = (["name", "moment", "name", "moment"] : List Str) := by decide +kernel
theorem kinds_three : ∀ kind ∈ kinds, (["setby", "passed", "failed"] : List Str).contains kind = true → (kind = "setby" ∧ formsOf kind = (["name", "beginning", "name"] : List Str)) ∨ formsOf kind = (["name", "moment", "name"] : List Str) := by decide +kernel
/-- a row walked by itself: what follows it is said once -/
theorem ps_cut {X : Cx} {st : Stmt} {t : TS} (h : PS X st t) : PS X st (fun D σ H => ∃ N : L2.St → Hp → Prop, t { D with nx := N } σ H ∧ ∀ σ' H', N σ' H' → D.nx σ' H') :=
  ⟨fun pins s σ H D I ⟨N, h1, h2⟩ => wpAny_mono (h.run pins s σ H { D with nx := N } I h1) (fun fl s' z => by
    cases fl with
    | next =>
      obtain ⟨σ', H', I', q⟩ := z
      exact ⟨σ', H', I', h2 _ _ q⟩
    | ret v => exact z
    | brk => exact z
    | cont => exact z) fun _ _ z => z⟩
/-- the kinds, in a new list -/
def spKinds : Sp := fun vs H Q _ => vs = [] ∧ ∀ (H' : Hp) (a : Addr), Same H H' → H a = none → H' a = some (.lst (kinds.map V.str)) → Q (.ref a) H'
theorem ok_kinds {f : Addr} {fd : FuncData} (F : Fun K "_law_kinds" "_law_kinds" sKinds f fd) : FnOk P w K mg base CX0 1 f fd [] spKinds := by
  refine F.ok scKinds (fun vs H Q E h => ?_) (fun cdv A outer s H vs Q E hr h => ?_)
  · obtain ⟨rfl, _⟩ := h
    rfl
  · obtain ⟨rfl, q⟩ := h
    refine ⟨_, pss_cons (ps_set (i := 0) scKinds.nd rfl (.inl rfl) (pe_lst (pa_cons pe_str (pa_cons pe_str (pa_cons pe_str (pa_cons pe_str (pa_cons pe_str (pa_cons pe_str pa_nil))))))))
      (pss_one (ps_ret (pe_op op_cat (pv 0) (pe_lst (pa_cons pe_str (pa_cons pe_str (pa_cons pe_str (pa_cons pe_str pa_nil)))))))), ?_⟩
    refine ⟨by show 6 ≤ sizeLine; decide, fun a ha => ?_⟩
    refine ⟨_, rfl, by show 4 ≤ sizeLine; decide, fun b hb => ?_⟩
    refine ⟨a, b, _, _, rfl, rfl, (upd_ne (ne_of_none upd_same hb)).trans upd_same, upd_same, by show 10 ≤ sizeLine; decide, fun c hc => ?_⟩
    exact q _ c (same3 ha hb hc).1 (same3 (o3 := .lst []) ha hb hc).2 upd_same
def spDrawn : Sp := fun vs H Q _ => ∃ (p l cr kk : Addr) (ns : List Int) (n : Nat) (g : Int) (kind z1 z2 : Str), vs = [.ref p, .ref cr, .ref kk] ∧ Pen H p l ns n g ∧ n < 900000 ∧ kind ∈ kinds ∧ H kk = some (.lst [.str kind]) ∧ kk ≠ p ∧ H cr = some (.lst [.str z1, .str z2]) ∧ cr ≠ p ∧ isName z1 = true ∧ isName z2 = true ∧
  ∀ (xs : List V) (tr : Addr) (n' : Nat) (g' : Int) (H' : Hp), FlatRow kind xs → n' ≤ n + 12 → Off p H H' → Pen H' p l ns n' g' → H' tr = some (.tup (.str kind :: xs)) → Q (.ref tr) H'
theorem ok_drawn {f fP fD fT : Addr} {fd fdP fdD fdT : FuncData} (F : Fun K "_law_drawn" "_law_drawn" sDrawn f fd) (mi : mg "int" = none) (FP : Fun K "_law_pick" "_law_pick" sPick fP fdP) (bP : Binds K fdP ["_law_pen_here", "_law_some"] []) (gP : mg "_law_pick" = some (.ref fP)) (GP : FnOk P w K mg base CX0 2 fP fdP ["_law_pen_here", "_law_some"] (spPick K))
    (FD : Fun K "_law_draw" "_law_draw" sDraw fD fdD) (bD : Binds K fdD ["_law_pen_here", "_law_many"] []) (gD : mg "_law_draw" = some (.ref fD)) (GD : FnOk P w K mg base CX0 1 fD fdD ["_law_pen_here", "_law_many"] spDraw)
    (FT : Fun K "_law_tick" "_law_tick" sTick fT fdT) (bT : Binds K fdT ["_law_pen_here"] []) (gT : mg "_law_tick" = some (.ref fT)) (GT : FnOk P w K mg base CX0 3 fT fdT ["_law_pen_here"] spTick) : FnOk P w K mg base CX0 4 f fd ["_law_pen_here", "_law_crew", "_law_kinds_here"] spDrawn := by
  refine F.ok scDrawn (fun vs H Q E h => ?_) (fun cdv A outer s H vs Q E hr h => ?_)
  · obtain ⟨_, _, _, _, _, _, _, _, _, _, rfl, _⟩ := h
    rfl
  · obtain ⟨p, l, cr, kk, ns, n, g, kind, z1, z2, rfl, hp, hn, hk, hkk, nkp, hcr, ncp, i1, i2, q⟩ := h
    have hr1 : Room 1 _ := hr.mono (by decide)
    have hr2 : Room 2 _ := hr.mono (by decide)
    refine ⟨_, pss_cons (ps_set (i := 3) scDrawn.nd rfl (.inl rfl) (pe_call GP hr2 (by rfl) gP FP.kp bP .nil pass0 (pa_cons (pv 0) (pa_cons (pv 2) pa_nil))))
      (pss_cons (ps_par (i := 4) (j := 5) (by rfl) scDrawn.nd rfl rfl (by decide) rfl rfl (pa_cons (pe_call GP hr2 (by rfl) gP FP.kp bP .nil pass0 (pa_cons (pv 0) (pa_cons (pv 1) pa_nil))) (pa_cons (pe_call GP hr2 (by rfl) gP FP.kp bP .nil pass0 (pa_cons (pv 0) (pa_cons (pv 1) pa_nil))) pa_nil)) (by rfl))
      (pss_cons (ps_par (i := 6) (j := 7) (by rfl) scDrawn.nd rfl rfl (by decide) rfl rfl (pa_cons (pe_call GT hr (by rfl) gT FT.kp bT .nil pass0 (pa_cons (pv 0) pa_nil)) (pa_cons (pe_call GT hr (by rfl) gT FT.kp bT .nil pass0 (pa_cons (pv 0) pa_nil)) pa_nil)) (by rfl))
      (pss_cons (ps_cut (ps_if (pt_cmpR op_in_seq (pv 3) (pe_tup (pa_cons pe_str (pa_cons pe_str pa_nil))) (by rfl)) (pss_one (ps_set (i := 6) scDrawn.nd rfl (.inl rfl) (pe_op op_add (pv 6) (pe_callTy call_int1 (by rfl) mi (by decide +kernel) (pa_cons (pe_cmpR op_eq (pv 6) pe_int (nomark _)) pa_nil))))) pss_nil))
      (pss_cons (ps_if (pt_cmpR op_eq (pv 3) pe_str (nomark _)) (pss_one (ps_ret (pe_tup (pa_cons (pv 3) (pa_cons (pv 4) (pa_cons (pv 6) pa_nil)))))) pss_nil)
      (pss_cons (ps_if (pt_cmpR op_eq (pv 3) pe_str (nomark _)) (pss_one (ps_ret (pe_tup (pa_cons (pv 3) (pa_cons (pv 4) pa_nil))))) pss_nil)
      (pss_cons (ps_if (pt_cmpR op_eq (pv 3) pe_str (nomark _)) (pss_one (ps_ret (pe_tup (pa_cons (pv 3) (pa_cons (pv 4) (pa_cons (pv 6) (pa_cons (pe_cmpR op_eq (pe_call GD hr1 (by rfl) gD FD.kp bD .nil pass0 (pa_cons (pv 0) (pa_cons pe_int pa_nil))) pe_int (nomark _)) pa_nil))))))) pss_nil)
      (pss_cons (ps_if (pt_cmpR op_in_seq (pv 3) (pe_tup (pa_cons pe_str (pa_cons pe_str (pa_cons pe_str pa_nil)))) (by rfl)) (pss_one (ps_ret (pe_tup (pa_cons (pv 3) (pa_cons (pv 4) (pa_cons (pv 6) (pa_cons (pv 5) pa_nil))))))) pss_nil)
      (pss_one (ps_ret (pe_tup (pa_cons (pv 3) (pa_cons (pv 4) (pa_cons (pv 6) (pa_cons (pv 5) (pa_cons (pv 7) pa_nil))))))))))))))), ?_⟩
    refine ⟨_, rfl, _, rfl, p, l, ns, n, g, _, rfl, hp, by omega, .inl ⟨kk, _, rfl, nkp, hkk, by show 0 < 1; decide, by show 1 ≤ 1000; decide, fun v n1 g1 H1 hv hn1 off1 pen1 => ?_⟩⟩
    obtain rfl : v = .str kind := by simpa using hv
    have hcr1 := off1 _ _ ncp hcr
    have nm : ∀ v ∈ [V.str z1, .str z2], ∃ z, v = .str z ∧ isName z = true := fun v hv => by
      simp only [List.mem_cons, List.not_mem_nil, or_false] at hv
      rcases hv with h | h
      · exact ⟨z1, h, i1⟩
      · exact ⟨z2, h, i2⟩
    refine ⟨_, rfl, _, rfl, p, l, ns, n1, g1, _, rfl, pen1, by omega, .inl ⟨cr, _, rfl, ncp, hcr1, by show 0 < 2; decide, by show 2 ≤ 1000; decide, fun v2 n2 g2 H2 hv2 hn2 off2 pen2 => ?_⟩⟩
    obtain ⟨zl, rfl, il⟩ := nm v2 hv2
    refine ⟨_, rfl, _, rfl, p, l, ns, n2, g2, _, rfl, pen2, by omega, .inl ⟨cr, _, rfl, ncp, off2 _ _ ncp hcr1, by show 0 < 2; decide, by show 2 ≤ 1000; decide, fun v3 n3 g3 H3 hv3 hn3 off3 pen3 => ?_⟩⟩
    obtain ⟨zr, rfl, ir⟩ := nm v3 hv3
    refine ⟨_, _, rfl, ?_⟩
    refine ⟨_, rfl, p, l, ns, n3, g3, rfl, pen3, by omega, fun t1 n4 g4 H4 t10 t11 hn4 off4 pen4 => ⟨_, rfl, p, l, ns, n4, g4, rfl, pen4, by omega, fun t2 n5 g5 H5 t20 t21 hn5 off5 pen5 => ⟨_, _, rfl, ?_⟩⟩⟩
    have offA := off1.trans (off2.trans (off3.trans (off4.trans off5)))
    refine ⟨fun σ G => ∃ t : Int, σ = [some (.ref p), some (.ref cr), some (.ref kk), some (.str kind), some (.str zl), some (.str zr), some (.int t), some (.int t2)] ∧ 0 ≤ t ∧ t ≤ 1000000000000000000000000000000 ∧ ((["begun", "setby"] : List Str).contains kind = true → 1 ≤ t) ∧ Same H5 G, ?_, ?_⟩
    · refine ⟨_, rfl, by show 2 ≤ sizeLine; decide, fun tp htp => ⟨tp, _, rfl, .inr (SqT.of upd_same), rfl, flat_strs ["begun", "setby"], ?_⟩⟩
      have s6 := same_upd0 (o := .tup [.str "begun", .str "setby"]) htp
      rw [show (if false = true then !inV (V.str kind) [V.str "begun", V.str "setby"] else inV (V.str kind) [V.str "begun", V.str "setby"]) = (["begun", "setby"] : List Str).contains kind from inV_strs kind ["begun", "setby"]]
      refine ⟨_, rfl, ite2 (fun c => ?_) (fun c => ?_)⟩
      · refine ⟨_, rfl, _, rfl, rfl, .inr ⟨_, rfl, ?_⟩⟩
        by_cases z : t1 = 0
        · subst z
          exact ⟨_, _, rfl, by rw [decide_eq_true rfl]; rfl, 0 + 1, rfl, by omega, by omega, fun _ => by omega, s6⟩
        · refine ⟨_, _, rfl, by rw [decide_eq_false (fun y => z (V.int.inj y))]; rfl, t1 + 0, rfl, by omega, by omega, fun _ => by omega, s6⟩
      · exact ⟨t1, rfl, t10, t11, fun y => absurd y c, s6⟩
    rintro σ H6 ⟨t, rfl, t0, t3, tb, s6⟩
    have offB := offA.trans (offS s6)
    have pen6 := pen5.same s6
    have fin : ∀ {xs : List V} {tr : Addr} {n7 : Nat} {g7 : Int} {G : Hp}, FlatRow kind xs → n7 ≤ n + 12 → Off p H6 G → Pen G p l ns n7 g7 → G tr = none → Q (.ref tr) (upd G tr (.tup (.str kind :: xs))) := fun hf h7 ho hp7 htr => q _ _ _ _ _ hf h7 (offB.trans (ho.trans (offS (same_upd0 htr)))) (hp7.same (same_upd0 htr)) upd_same
    refine ⟨_, rfl, rfl, _, rfl, ite2 (fun e => ?_) (fun e1 => ?_)⟩
    · obtain rfl : kind = "begun" := V.str.inj (of_decide_eq_true e)
      refine ⟨_, rfl, _, rfl, _, rfl, by show 3 ≤ sizeLine; decide, fun tr htr => fin (row_of (fo := ["name", "beginning"]) (by decide +kernel) rfl ?_) (by omega) Off.refl pen6 htr⟩
      simp only [List.zip_cons_cons, List.zip_nil_right, List.forall_mem_cons]
      exact ⟨nam_ok il, beg_ok ⟨tb (by decide +kernel), t3⟩, fun _ h => nomatch h⟩
    have k1 : ¬ kind = "begun" := fun z => e1 (decide_eq_true (by rw [z]))
    refine ⟨_, rfl, rfl, _, rfl, ite2 (fun e => ?_) (fun e2 => ?_)⟩
    · obtain rfl : kind = "trusted" := V.str.inj (of_decide_eq_true e)
      refine ⟨_, rfl, _, rfl, by show 2 ≤ sizeLine; decide, fun tr htr => fin (row_of (fo := ["name"]) (by decide +kernel) rfl ?_) (by omega) Off.refl pen6 htr⟩
      simp only [List.zip_cons_cons, List.zip_nil_right, List.forall_mem_cons]
      exact ⟨nam_ok il, fun _ h => nomatch h⟩
    have k2 : ¬ kind = "trusted" := fun z => e2 (decide_eq_true (by rw [z]))
    refine ⟨_, rfl, rfl, _, rfl, ite2 (fun e => ?_) (fun e3 => ?_)⟩
    · obtain rfl : kind = "found" := V.str.inj (of_decide_eq_true e)
      refine ⟨_, rfl, _, rfl, _, rfl, _, rfl, p, l, ns, n5, g5, _, rfl, pen6, by omega, by decide, by decide, fun d n7 g7 H7 _ _ hn7 off7 pen7 => ⟨rfl, by show 4 ≤ sizeLine; decide, fun tr htr => fin (row_of (fo := ["name", "moment", "truth"]) (by decide +kernel) rfl ?_) (by omega) off7 pen7 htr⟩⟩
      simp only [List.zip_cons_cons, List.zip_nil_right, List.forall_mem_cons]
      exact ⟨nam_ok il, mom_ok ⟨t0, t3⟩, tru_ok _, fun _ h => nomatch h⟩
    have k3 : ¬ kind = "found" := fun z => e3 (decide_eq_true (by rw [z]))
    refine ⟨_, rfl, by show 3 ≤ sizeLine; decide, fun tp htp => ⟨tp, _, rfl, .inr (SqT.of upd_same), rfl, flat_strs ["setby", "passed", "failed"], ?_⟩⟩
    have s7 := same_upd0 (o := .tup [.str "setby", .str "passed", .str "failed"]) htp
    rw [show (if false = true then !inV (V.str kind) [V.str "setby", V.str "passed", V.str "failed"] else inV (V.str kind) [V.str "setby", V.str "passed", V.str "failed"]) = (["setby", "passed", "failed"] : List Str).contains kind from inV_strs kind ["setby", "passed", "failed"]]
    refine ⟨_, rfl, ite2 (fun c => ?_) (fun c => ?_)⟩
    · refine ⟨_, rfl, _, rfl, _, rfl, _, rfl, by show 4 ≤ sizeLine; decide, fun tr htr => fin ?_ (by omega) (offS s7) (pen6.same s7) htr⟩
      rcases kinds_three kind hk c with ⟨e, h⟩ | h
      · refine row_of h rfl ?_
        simp only [List.zip_cons_cons, List.zip_nil_right, List.forall_mem_cons]
        exact ⟨nam_ok il, beg_ok ⟨tb (by rw [e]; decide +kernel), t3⟩, nam_ok ir, fun _ h => nomatch h⟩
      · refine row_of h rfl ?_
        simp only [List.zip_cons_cons, List.zip_nil_right, List.forall_mem_cons]
        exact ⟨nam_ok il, mom_ok ⟨t0, t3⟩, nam_ok ir, fun _ h => nomatch h⟩
    · refine ⟨_, rfl, _, rfl, _, rfl, _, rfl, _, rfl, by show 5 ≤ sizeLine; decide, fun tr htr => fin (row_of (kinds_last kind hk k1 k2 k3 (Bool.eq_false_iff.mpr c)) rfl ?_) (by omega) (offS s7) (pen6.same s7) htr⟩
      simp only [List.zip_cons_cons, List.zip_nil_right, List.forall_mem_cons]
      exact ⟨nam_ok il, mom_ok ⟨t0, t3⟩, nam_ok ir, mom_ok ⟨t20, t21⟩, fun _ h => nomatch h⟩
end
end K12

namespace K12
open PySem PySem.Spec PyProof.Rows L2 So LamX
abbrev sMade : Stmt := topS 55
theorem scMade : FnScope ["_law_row", "_law_kind"] ["_law_row"] (defScope sMade) := ⟨rfl, rfl, rfl, by decide +kernel, rfl, by decide +kernel, by decide +kernel⟩
section
variable {P : Program} {w : World} {K : PySem.W.Frag} {mg : Str → Option Value} {base : Heap}
/-- behind C(..), C a row's class -/
theorem made_row {CN CM CS C : Addr} {kind : Str} {xs : List V} {H : Hp} {Q : VK} {E : XK} (hl : xs.length = (formsOf kind).length) (hg : ∀ y ∈ xs, ∃ T, Gv H y T)
    (h : WaysL CN CM CS (xs.zip (formsOf kind)) H E (∀ (H' : Hp) (a dx : Addr) fs, Same H H' → H' a = some (.ins C dx fs) → fs.lookup ("kind" : Str) = some (V.str kind) → Q (.ref a) H')) :
    ∀ x dx, H x = none → H dx = none → dx ≠ x → spRow CN CM CS C kind (.ref x :: (xs ++ [])) (upd (upd H dx (.own x)) x (.ins C dx [])) (fun v H2 => v = .non ∧ Q (.ref x) H2) E := by
  intro x dx hx hd ne
  have s0 : Same H (upd (upd H dx (.own x)) x (.ins C dx [])) := fun c o e => by
    rw [upd_ne (ne_of_none e hx), upd_ne (ne_of_none e hd)]
    exact e
  refine ⟨x, dx, xs, by rw [List.append_nil], upd_same, hl, (fun y hy => (hg y hy).elim fun T h => ⟨T, h.same s0⟩), fun gd H' fs o e lk => ⟨rfl, h.1 gd H' x dx fs (fun c u z => o c u (ne_of_none z hx) (s0 c u z)) e lk⟩, fun C' fl v g d H' s e => h.2 C' fl v g d H' (s0.trans s) e⟩
/-- a class of rows, its maker -/
def RowM (K : PySem.W.Frag) (P : Program) (w : World) (mg : Str → Option Value) (base : Heap) (CN CM CS : Addr) (nm kind : Str) (ps : List Str) : Prop := ∃ (C fI : Addr) (fdI : FuncData), mg nm = some (.ref C) ∧ Mk K C fI ∧ Binds K fdI ps [] ∧ Cls K C ∧ NoAttr K C "kind" ∧ FnOk P w K mg base (L2.CX P w) 6 fI fdI ps (spRow CN CM CS C kind)
structure Rows (K : PySem.W.Frag) (P : Program) (w : World) (mg : Str → Option Value) (base : Heap) (CN CM CS : Addr) : Prop where
  begun : RowM K P w mg base CN CM CS "Begun" "begun" ["self", "tool", "moment"]
  setby : RowM K P w mg base CN CM CS "SetBy" "setby" ["self", "tool", "moment", "by"]
  found : RowM K P w mg base CN CM CS "Found" "found" ["self", "tool", "moment", "is_sound"]
  trusted : RowM K P w mg base CN CM CS "Trusted" "trusted" ["self", "tool"]
  passed : RowM K P w mg base CN CM CS "Passed" "passed" ["self", "tool", "moment", "by"]
  failed : RowM K P w mg base CN CM CS "Failed" "failed" ["self", "tool", "moment", "by"]
  agreed : RowM K P w mg base CN CM CS "Agreed" "agreed" ["self", "one", "moment", "other", "later"]
  differed : RowM K P w mg base CN CM CS "Differed" "differed" ["self", "one", "moment", "other", "later"]
  served : RowM K P w mg base CN CM CS "Served" "served" ["self", "one", "moment", "other", "later"]
  backed : RowM K P w mg base CN CM CS "Backed" "backed" ["self", "one", "moment", "other", "later"]
def spMade (K : PySem.W.Frag) (CN CM CS : Addr) : Sp := fun vs H Q E => ∃ (lr : Addr) (kind : Str) (xs : List V), vs = [.ref lr] ∧ H lr = some (.lst (.str kind :: xs)) ∧ kind ∈ kinds ∧ xs.length = (formsOf kind).length ∧ (∀ y ∈ xs, ∃ T, Gv H y T) ∧
  WaysL CN CM CS (xs.zip (formsOf kind)) H E (∀ (H' : Hp) (a C dx : Addr) fs, Same H H' → Cls K C → NoAttr K C "kind" → H' a = some (.ins C dx fs) → fs.lookup ("kind" : Str) = some (V.str kind) → Q (.ref a) H')
theorem kinds_end : ∀ kind ∈ kinds, ¬ kind = "begun" → ¬ kind = "setby" → ¬ kind = "found" → ¬ kind = "trusted" → ¬ kind = "passed" → ¬ kind = "failed" → ¬ kind = "agreed" → ¬ kind = "differed" → ¬ kind = "served" → kind = "backed" := by
  intro kind hk h0 h1 h2 h3 h4 h5 h6 h7 h8
  unfold kinds at hk
  simp only [List.mem_cons, List.not_mem_nil, or_false] at hk
  rcases hk with h | h | h | h | h | h | h | h | h | h <;> first | exact h | exact absurd h (by assumption)
theorem ok_made {CN CM CS f : Addr} {fd : FuncData} (F : Fun K "_law_made" "_law_made" sMade f fd) (R : Rows K P w mg base CN CM CS) : FnOk P w K mg base (L2.CX P w) 8 f fd ["_law_row"] (spMade K CN CM CS) := by
  obtain ⟨C_begun, f_begun, fd_begun, g_begun, m_begun, b_begun, c_begun, n_begun, G_begun⟩ := R.begun
  obtain ⟨C_setby, f_setby, fd_setby, g_setby, m_setby, b_setby, c_setby, n_setby, G_setby⟩ := R.setby
  obtain ⟨C_found, f_found, fd_found, g_found, m_found, b_found, c_found, n_found, G_found⟩ := R.found
  obtain ⟨C_trusted, f_trusted, fd_trusted, g_trusted, m_trusted, b_trusted, c_trusted, n_trusted, G_trusted⟩ := R.trusted
  obtain ⟨C_passed, f_passed, fd_passed, g_passed, m_passed, b_passed, c_passed, n_passed, G_passed⟩ := R.passed
  obtain ⟨C_failed, f_failed, fd_failed, g_failed, m_failed, b_failed, c_failed, n_failed, G_failed⟩ := R.failed
  obtain ⟨C_agreed, f_agreed, fd_agreed, g_agreed, m_agreed, b_agreed, c_agreed, n_agreed, G_agreed⟩ := R.agreed
  obtain ⟨C_differed, f_differed, fd_differed, g_differed, m_differed, b_differed, c_differed, n_differed, G_differed⟩ := R.differed
  obtain ⟨C_served, f_served, fd_served, g_served, m_served, b_served, c_served, n_served, G_served⟩ := R.served
  obtain ⟨C_backed, f_backed, fd_backed, g_backed, m_backed, b_backed, c_backed, n_backed, G_backed⟩ := R.backed
  refine F.okX scMade (fun vs H Q E h => ?_) (fun cdv A outer s H vs Q E hr h => ?_)
  · obtain ⟨_, _, _, rfl, _⟩ := h
    rfl
  · obtain ⟨lr, kind, xs, rfl, hlr, hk, hl, hg, hw⟩ := h
    refine ⟨_, pss_cons (ps_set (i := 1) scMade.nd rfl (.inl rfl) (pe_ix ix_list (pv 0) pe_int (fun _ _ => rfl)))
      (pss_cons (ps_if (pt_cmpR op_eq (pv 1) pe_str (nomark _)) (pss_one (ps_ret (pe_make m_begun G_begun hr (by rfl) g_begun b_begun .nil (passes_call (takes_of rfl rfl rfl rfl) (fun _ _ _ _ h => h)) (pa_cons (pe_ix ix_list (pv 0) pe_int (fun _ _ => rfl)) (pa_cons (pe_ix ix_list (pv 0) pe_int (fun _ _ => rfl)) pa_nil))))) pss_nil)
      (pss_cons (ps_if (pt_cmpR op_eq (pv 1) pe_str (nomark _)) (pss_one (ps_ret (pe_make m_setby G_setby hr (by rfl) g_setby b_setby .nil (passes_call (takes_of rfl rfl rfl rfl) (fun _ _ _ _ h => h)) (pa_cons (pe_ix ix_list (pv 0) pe_int (fun _ _ => rfl)) (pa_cons (pe_ix ix_list (pv 0) pe_int (fun _ _ => rfl)) (pa_cons (pe_ix ix_list (pv 0) pe_int (fun _ _ => rfl)) pa_nil)))))) pss_nil)
      (pss_cons (ps_if (pt_cmpR op_eq (pv 1) pe_str (nomark _)) (pss_one (ps_ret (pe_make m_found G_found hr (by rfl) g_found b_found .nil (passes_call (takes_of rfl rfl rfl rfl) (fun _ _ _ _ h => h)) (pa_cons (pe_ix ix_list (pv 0) pe_int (fun _ _ => rfl)) (pa_cons (pe_ix ix_list (pv 0) pe_int (fun _ _ => rfl)) (pa_cons (pe_ix ix_list (pv 0) pe_int (fun _ _ => rfl)) pa_nil)))))) pss_nil)
      (pss_cons (ps_if (pt_cmpR op_eq (pv 1) pe_str (nomark _)) (pss_one (ps_ret (pe_make m_trusted G_trusted hr (by rfl) g_trusted b_trusted .nil (passes_call (takes_of rfl rfl rfl rfl) (fun _ _ _ _ h => h)) (pa_cons (pe_ix ix_list (pv 0) pe_int (fun _ _ => rfl)) pa_nil)))) pss_nil)
      (pss_cons (ps_if (pt_cmpR op_eq (pv 1) pe_str (nomark _)) (pss_one (ps_ret (pe_make m_passed G_passed hr (by rfl) g_passed b_passed .nil (passes_call (takes_of rfl rfl rfl rfl) (fun _ _ _ _ h => h)) (pa_cons (pe_ix ix_list (pv 0) pe_int (fun _ _ => rfl)) (pa_cons (pe_ix ix_list (pv 0) pe_int (fun _ _ => rfl)) (pa_cons (pe_ix ix_list (pv 0) pe_int (fun _ _ => rfl)) pa_nil)))))) pss_nil)
      (pss_cons (ps_if (pt_cmpR op_eq (pv 1) pe_str (nomark _)) (pss_one (ps_ret (pe_make m_failed G_failed hr (by rfl) g_failed b_failed .nil (passes_call (takes_of rfl rfl rfl rfl) (fun _ _ _ _ h => h)) (pa_cons (pe_ix ix_list (pv 0) pe_int (fun _ _ => rfl)) (pa_cons (pe_ix ix_list (pv 0) pe_int (fun _ _ => rfl)) (pa_cons (pe_ix ix_list (pv 0) pe_int (fun _ _ => rfl)) pa_nil)))))) pss_nil)
      (pss_cons (ps_if (pt_cmpR op_eq (pv 1) pe_str (nomark _)) (pss_one (ps_ret (pe_make m_agreed G_agreed hr (by rfl) g_agreed b_agreed .nil (passes_call (takes_of rfl rfl rfl rfl) (fun _ _ _ _ h => h)) (pa_cons (pe_ix ix_list (pv 0) pe_int (fun _ _ => rfl)) (pa_cons (pe_ix ix_list (pv 0) pe_int (fun _ _ => rfl)) (pa_cons (pe_ix ix_list (pv 0) pe_int (fun _ _ => rfl)) (pa_cons (pe_ix ix_list (pv 0) pe_int (fun _ _ => rfl)) pa_nil))))))) pss_nil)
      (pss_cons (ps_if (pt_cmpR op_eq (pv 1) pe_str (nomark _)) (pss_one (ps_ret (pe_make m_differed G_differed hr (by rfl) g_differed b_differed .nil (passes_call (takes_of rfl rfl rfl rfl) (fun _ _ _ _ h => h)) (pa_cons (pe_ix ix_list (pv 0) pe_int (fun _ _ => rfl)) (pa_cons (pe_ix ix_list (pv 0) pe_int (fun _ _ => rfl)) (pa_cons (pe_ix ix_list (pv 0) pe_int (fun _ _ => rfl)) (pa_cons (pe_ix ix_list (pv 0) pe_int (fun _ _ => rfl)) pa_nil))))))) pss_nil)
      (pss_cons (ps_if (pt_cmpR op_eq (pv 1) pe_str (nomark _)) (pss_one (ps_ret (pe_make m_served G_served hr (by rfl) g_served b_served .nil (passes_call (takes_of rfl rfl rfl rfl) (fun _ _ _ _ h => h)) (pa_cons (pe_ix ix_list (pv 0) pe_int (fun _ _ => rfl)) (pa_cons (pe_ix ix_list (pv 0) pe_int (fun _ _ => rfl)) (pa_cons (pe_ix ix_list (pv 0) pe_int (fun _ _ => rfl)) (pa_cons (pe_ix ix_list (pv 0) pe_int (fun _ _ => rfl)) pa_nil))))))) pss_nil)
      (pss_one (ps_ret (pe_make m_backed G_backed hr (by rfl) g_backed b_backed .nil (passes_call (takes_of rfl rfl rfl rfl) (fun _ _ _ _ h => h)) (pa_cons (pe_ix ix_list (pv 0) pe_int (fun _ _ => rfl)) (pa_cons (pe_ix ix_list (pv 0) pe_int (fun _ _ => rfl)) (pa_cons (pe_ix ix_list (pv 0) pe_int (fun _ _ => rfl)) (pa_cons (pe_ix ix_list (pv 0) pe_int (fun _ _ => rfl)) pa_nil)))))))))))))))), ?_⟩
    refine ⟨_, rfl, lr, _, _, _, rfl, rfl, SqL.of hlr, atI_nat (j := 0) rfl, ?_⟩
    refine ⟨_, rfl, rfl, _, rfl, ite2 (fun e => ?_) (fun e0 => ?_)⟩
    · obtain rfl : kind = "begun" := V.str.inj (of_decide_eq_true e)
      have hl4 : (formsOf "begun").length = 2 := by decide +kernel
      obtain ⟨v0, v1, rfl⟩ : ∃ v0 v1, xs = [v0, v1] := by
        rw [hl4] at hl
        match xs, hl with
        | [v0, v1], _ => exact ⟨_, _, rfl⟩
      exact ⟨_, rfl, lr, _, _, _, rfl, rfl, SqL.of hlr, atI_nat (j := 1) rfl, _, rfl, lr, _, _, _, rfl, rfl, SqL.of hlr, atI_nat (j := 2) rfl, made_row (xs := [v0, v1]) hl hg ⟨fun gd H' a dx fs s e lk => hw.1 gd H' a _ dx fs s c_begun n_begun e lk, hw.2⟩⟩
    refine ⟨_, rfl, rfl, _, rfl, ite2 (fun e => ?_) (fun e1 => ?_)⟩
    · obtain rfl : kind = "setby" := V.str.inj (of_decide_eq_true e)
      have hl4 : (formsOf "setby").length = 3 := by decide +kernel
      obtain ⟨v0, v1, v2, rfl⟩ : ∃ v0 v1 v2, xs = [v0, v1, v2] := by
        rw [hl4] at hl
        match xs, hl with
        | [v0, v1, v2], _ => exact ⟨_, _, _, rfl⟩
      exact ⟨_, rfl, lr, _, _, _, rfl, rfl, SqL.of hlr, atI_nat (j := 1) rfl, _, rfl, lr, _, _, _, rfl, rfl, SqL.of hlr, atI_nat (j := 2) rfl, _, rfl, lr, _, _, _, rfl, rfl, SqL.of hlr, atI_nat (j := 3) rfl, made_row (xs := [v0, v1, v2]) hl hg ⟨fun gd H' a dx fs s e lk => hw.1 gd H' a _ dx fs s c_setby n_setby e lk, hw.2⟩⟩
    refine ⟨_, rfl, rfl, _, rfl, ite2 (fun e => ?_) (fun e2 => ?_)⟩
    · obtain rfl : kind = "found" := V.str.inj (of_decide_eq_true e)
      have hl4 : (formsOf "found").length = 3 := by decide +kernel
      obtain ⟨v0, v1, v2, rfl⟩ : ∃ v0 v1 v2, xs = [v0, v1, v2] := by
        rw [hl4] at hl
        match xs, hl with
        | [v0, v1, v2], _ => exact ⟨_, _, _, rfl⟩
      exact ⟨_, rfl, lr, _, _, _, rfl, rfl, SqL.of hlr, atI_nat (j := 1) rfl, _, rfl, lr, _, _, _, rfl, rfl, SqL.of hlr, atI_nat (j := 2) rfl, _, rfl, lr, _, _, _, rfl, rfl, SqL.of hlr, atI_nat (j := 3) rfl, made_row (xs := [v0, v1, v2]) hl hg ⟨fun gd H' a dx fs s e lk => hw.1 gd H' a _ dx fs s c_found n_found e lk, hw.2⟩⟩
    refine ⟨_, rfl, rfl, _, rfl, ite2 (fun e => ?_) (fun e3 => ?_)⟩
    · obtain rfl : kind = "trusted" := V.str.inj (of_decide_eq_true e)
      have hl4 : (formsOf "trusted").length = 1 := by decide +kernel
      obtain ⟨v0, rfl⟩ : ∃ v0, xs = [v0] := by
        rw [hl4] at hl
        match xs, hl with
        | [v0], _ => exact ⟨_, rfl⟩
      exact ⟨_, rfl, lr, _, _, _, rfl, rfl, SqL.of hlr, atI_nat (j := 1) rfl, made_row (xs := [v0]) hl hg ⟨fun gd H' a dx fs s e lk => hw.1 gd H' a _ dx fs s c_trusted n_trusted e lk, hw.2⟩⟩
    refine ⟨_, rfl, rfl, _, rfl, ite2 (fun e => ?_) (fun e4 => ?_)⟩
    · obtain rfl : kind = "passed" := V.str.inj (of_decide_eq_true e)
      have hl4 : (formsOf "passed").length = 3 := by decide +kernel
      obtain ⟨v0, v1, v2, rfl⟩ : ∃ v0 v1 v2, xs = [v0, v1, v2] := by
        rw [hl4] at hl
        match xs, hl with
        | [v0, v1, v2], _ => exact ⟨_, _, _, rfl⟩
      exact ⟨_, rfl, lr, _, _, _, rfl, rfl, SqL.of hlr, atI_nat (j := 1) rfl, _, rfl, lr, _, _, _, rfl, rfl, SqL.of hlr, atI_nat (j := 2) rfl, _, rfl, lr, _, _, _, rfl, rfl, SqL.of hlr, atI_nat (j := 3) rfl, made_row (xs := [v0, v1, v2]) hl hg ⟨fun gd H' a dx fs s e lk => hw.1 gd H' a _ dx fs s c_passed n_passed e lk, hw.2⟩⟩
    refine ⟨_, rfl, rfl, _, rfl, ite2 (fun e => ?_) (fun e5 => ?_)⟩
    · obtain rfl : kind = "failed" := V.str.inj (of_decide_eq_true e)
      have hl4 : (formsOf "failed").length = 3 := by decide +kernel
      obtain ⟨v0, v1, v2, rfl⟩ : ∃ v0 v1 v2, xs = [v0, v1, v2] := by
        rw [hl4] at hl
        match xs, hl with
        | [v0, v1, v2], _ => exact ⟨_, _, _, rfl⟩
      exact ⟨_, rfl, lr, _, _, _, rfl, rfl, SqL.of hlr, atI_nat (j := 1) rfl, _, rfl, lr, _, _, _, rfl, rfl, SqL.of hlr, atI_nat (j := 2) rfl, _, rfl, lr, _, _, _, rfl, rfl, SqL.of hlr, atI_nat (j := 3) rfl, made_row (xs := [v0, v1, v2]) hl hg ⟨fun gd H' a dx fs s e lk => hw.1 gd H' a _ dx fs s c_failed n_failed e lk, hw.2⟩⟩
    refine ⟨_, rfl, rfl, _, rfl, ite2 (fun e => ?_) (fun e6 => ?_)⟩
    · obtain rfl : kind = "agreed" := V.str.inj (of_decide_eq_true e)
      have hl4 : (formsOf "agreed").length = 4 := by decide +kernel
      obtain ⟨v0, v1, v2, v3, rfl⟩ : ∃ v0 v1 v2 v3, xs = [v0, v1, v2, v3] := by
        rw [hl4] at hl
        match xs, hl with
        | [v0, v1, v2, v3], _ => exact ⟨_, _, _, _, rfl⟩
      exact ⟨_, rfl, lr, _, _, _, rfl, rfl, SqL.of hlr, atI_nat (j := 1) rfl, _, rfl, lr, _, _, _, rfl, rfl, SqL.of hlr, atI_nat (j := 2) rfl, _, rfl, lr, _, _, _, rfl, rfl, SqL.of hlr, atI_nat (j := 3) rfl, _, rfl, lr, _, _, _, rfl, rfl, SqL.of hlr, atI_nat (j := 4) rfl, made_row (xs := [v0, v1, v2, v3]) hl hg ⟨fun gd H' a dx fs s e lk => hw.1 gd H' a _ dx fs s c_agreed n_agreed e lk, hw.2⟩⟩
    refine ⟨_, rfl, rfl, _, rfl, ite2 (fun e => ?_) (fun e7 => ?_)⟩
    · obtain rfl : kind = "differed" := V.str.inj (of_decide_eq_true e)
      have hl4 : (formsOf "differed").length = 4 := by decide +kernel
      obtain ⟨v0, v1, v2, v3, rfl⟩ : ∃ v0 v1 v2 v3, xs = [v0, v1, v2, v3] := by
        rw [hl4] at hl
        match xs, hl with
        | [v0, v1, v2, v3], _ => exact ⟨_, _, _, _, rfl⟩
      exact ⟨_, rfl, lr, _, _, _, rfl, rfl, SqL.of hlr, atI_nat (j := 1) rfl, _, rfl, lr, _, _, _, rfl, rfl, SqL.of hlr, atI_nat (j := 2) rfl, _, rfl, lr, _, _, _, rfl, rfl, SqL.of hlr, atI_nat (j := 3) rfl, _, rfl, lr, _, _, _, rfl, rfl, SqL.of hlr, atI_nat (j := 4) rfl, made_row (xs := [v0, v1, v2, v3]) hl hg ⟨fun gd H' a dx fs s e lk => hw.1 gd H' a _ dx fs s c_differed n_differed e lk, hw.2⟩⟩
    refine ⟨_, rfl, rfl, _, rfl, ite2 (fun e => ?_) (fun e8 => ?_)⟩
    · obtain rfl : kind = "served" := V.str.inj (of_decide_eq_true e)
      have hl4 : (formsOf "served").length = 4 := by decide +kernel
      obtain ⟨v0, v1, v2, v3, rfl⟩ : ∃ v0 v1 v2 v3, xs = [v0, v1, v2, v3] := by
        rw [hl4] at hl
        match xs, hl with
        | [v0, v1, v2, v3], _ => exact ⟨_, _, _, _, rfl⟩
      exact ⟨_, rfl, lr, _, _, _, rfl, rfl, SqL.of hlr, atI_nat (j := 1) rfl, _, rfl, lr, _, _, _, rfl, rfl, SqL.of hlr, atI_nat (j := 2) rfl, _, rfl, lr, _, _, _, rfl, rfl, SqL.of hlr, atI_nat (j := 3) rfl, _, rfl, lr, _, _, _, rfl, rfl, SqL.of hlr, atI_nat (j := 4) rfl, made_row (xs := [v0, v1, v2, v3]) hl hg ⟨fun gd H' a dx fs s e lk => hw.1 gd H' a _ dx fs s c_served n_served e lk, hw.2⟩⟩
    obtain rfl : kind = "backed" := kinds_end kind hk (fun z => e0 (decide_eq_true (by rw [z]))) (fun z => e1 (decide_eq_true (by rw [z]))) (fun z => e2 (decide_eq_true (by rw [z]))) (fun z => e3 (decide_eq_true (by rw [z]))) (fun z => e4 (decide_eq_true (by rw [z]))) (fun z => e5 (decide_eq_true (by rw [z]))) (fun z => e6 (decide_eq_true (by rw [z]))) (fun z => e7 (decide_eq_true (by rw [z]))) (fun z => e8 (decide_eq_true (by rw [z])))
    have hl4 : (formsOf "backed").length = 4 := by decide +kernel
    obtain ⟨v0, v1, v2, v3, rfl⟩ : ∃ v0 v1 v2 v3, xs = [v0, v1, v2, v3] := by
      rw [hl4] at hl
      match xs, hl with
      | [v0, v1, v2, v3], _ => exact ⟨_, _, _, _, rfl⟩
    exact ⟨_, rfl, lr, _, _, _, rfl, rfl, SqL.of hlr, atI_nat (j := 1) rfl, _, rfl, lr, _, _, _, rfl, rfl, SqL.of hlr, atI_nat (j := 2) rfl, _, rfl, lr, _, _, _, rfl, rfl, SqL.of hlr, atI_nat (j := 3) rfl, _, rfl, lr, _, _, _, rfl, rfl, SqL.of hlr, atI_nat (j := 4) rfl, made_row (xs := [v0, v1, v2, v3]) hl hg ⟨fun gd H' a dx fs s e lk => hw.1 gd H' a _ dx fs s c_backed n_backed e lk, hw.2⟩⟩
end
end K12

namespace K12
open PySem PySem.Spec PyProof.Rows L2 So LamX
abbrev sForms : Stmt := topS 57
abbrev sBent : Stmt := topS 58
abbrev bentN : List Str := ["_law_pen_here", "_law_kind", "_law_row", "_law_words_here", "_law_some", "_law_due", "_law_forms_here", "_law_k", "_law_part", "_law_odds"]
theorem scForms : FnScope ["_law_kind", "_law_forms_here"] ["_law_kind"] (defScope sForms) := ⟨rfl, rfl, rfl, by decide +kernel, rfl, by decide +kernel, by decide +kernel⟩
theorem scBent : FnScope bentN ["_law_pen_here", "_law_kind", "_law_row"] (defScope sBent) := ⟨rfl, rfl, rfl, by decide +kernel, rfl, by decide +kernel, by decide +kernel⟩
/-- the letters of a kind's forms -/
def kvsF : List (Key × V) := [(.inr "begun", .str "nm"), (.inr "setby", .str "nmn"), (.inr "found", .str "nmt"), (.inr "trusted", .str "n"), (.inr "passed", .str "nmn"), (.inr "failed", .str "nmn")]
def shortOf (kind : Str) : Str := match valV (mergeK [] kvsF) (.inr kind) with
  | some (.str z) => z
  | _ => "nmnm"
theorem short_get : ∀ kind, (valV (mergeK [] kvsF) (.inr kind)).getD (.str "nmnm") = .str (shortOf kind) ∨ True := fun _ => .inr trivial
def formOf (kind : Str) (c : Nat) : Str := if c = 110 then "name" else if c = 116 then "truth" else if kind = "begun" ∨ kind = "setby" then "beginning" else "moment"
theorem short_facts : ∀ kind ∈ kinds, (shortOf kind).cps.toList.length = (formsOf kind).length ∧ ((shortOf kind).cps.toList.all fun c => decide (c = 110 ∨ c = 109 ∨ c = 116)) = true ∧ (shortOf kind).cps.toList.map (formOf kind) = formsOf kind := by decide +kernel
section
variable {P : Program} {w : World} {K : PySem.W.Frag} {mg : Str → Option Value} {base : Heap}
def spForms : Sp := fun vs H Q _ => ∃ (kind : Str), vs = [.str kind] ∧ kind ∈ kinds ∧ ∀ H', Same H H' → Q (.str (shortOf kind)) H'
theorem ok_forms {f : Addr} {fd : FuncData} (F : Fun K "_law_forms" "_law_forms" sForms f fd) : FnOk P w K mg base CX0 1 f fd ["_law_kind"] spForms := by
  refine F.ok scForms (fun vs H Q E h => ?_) (fun cdv A outer s H vs Q E hr h => ?_)
  · obtain ⟨_, rfl, _⟩ := h
    rfl
  · obtain ⟨kind, rfl, hk, q⟩ := h
    refine ⟨_, pss_cons (ps_set (i := 1) scForms.nd rfl (.inl rfl) (pe_disp (pps_cons pe_str pe_str (pps_cons pe_str pe_str (pps_cons pe_str pe_str (pps_cons pe_str pe_str (pps_cons pe_str pe_str (pps_cons pe_str pe_str pps_nil)))))) rfl rfl (by simp) (by decide)))
      (pss_one (ps_ret (pe_dget2 (hu_of hr) (pv 1) (pv 0) pe_str ⟨rfl, rfl, rfl, rfl⟩))), ?_⟩
    intro p hp
    refine ⟨upd_same, kvsF, rfl, by decide, ?_⟩
    refine ⟨_, rfl, p, rfl, .inl ⟨_, .inl upd_same⟩, _, rfl, _, .inl ⟨_, .inr kind, .inl upd_same, rfl, rfl⟩, ?_⟩
    have s1 : Same H (upd (upd H p (.dK [])) p (.dK (mergeK [] kvsF))) := by rw [upd_upd]; exact same_upd0 hp
    have qq := q _ s1
    have e : (valV (mergeK [] kvsF) (.inr kind)).getD (.str "nmnm") = .str (shortOf kind) := by
      unfold kinds at hk
      simp only [List.mem_cons, List.not_mem_nil, or_false] at hk
      rcases hk with h | h | h | h | h | h | h | h | h | h <;> subst h <;> rfl
    rw [e]
    exact qq
end
end K12

namespace K12
open PySem PySem.Spec PyProof.Rows L2 So LamX
/-! ### values that show so, whatever becomes of some places -/
noncomputable def holeS (S : Addr → Prop) (H : Hp) : Hp := fun b => open Classical in if S b then none else H b
theorem holeS_ne {S : Addr → Prop} {H : Hp} {b : Addr} (h : ¬ S b) : holeS S H b = H b := if_neg h
theorem holeS_at {S : Addr → Prop} {H : Hp} {b : Addr} (h : S b) : holeS S H b = none := if_pos h
theorem holeS_same {S : Addr → Prop} {H : Hp} : Same (holeS S H) H := fun b o e => by
  unfold holeS at e
  split at e
  · cases e
  · exact e
def VS (S : Addr → Prop) (K : PySem.W.Frag) (H : Hp) (v : V) (d : PyData) : Prop := ∃ F : Hp, (∀ b, S b → F b = none) ∧ Same F H ∧ Dd K F v d ∧ (∃ T, Gv F v T) ∧ OkD 3000 12 d
section
variable {S : Addr → Prop} {K : PySem.W.Frag} {H H' : Hp} {v : V} {d : PyData}
theorem VS.same (h : VS S K H v d) (s : Same H H') : VS S K H' v d := h.elim fun F e => ⟨F, e.1, e.2.1.trans s, e.2.2⟩
theorem VS.off (h : VS S K H v d) (s : ∀ b o, ¬ S b → H b = some o → H' b = some o) : VS S K H' v d := h.elim fun F e => ⟨F, e.1, fun b o z => s b o (fun y => by rw [e.1 b y] at z; cases z) (e.2.1 _ _ z), e.2.2⟩
theorem VS.dd (h : VS S K H v d) : Dd K H v d := h.elim fun F e => Dd.same (fun b o z => e.2.1 b o z) e.2.2.1
theorem VS.gv (h : VS S K H v d) : ∃ T, Gv H v T := h.elim fun F e => e.2.2.2.1.elim fun T g => ⟨T, g.same e.2.1⟩
theorem VS.ok (h : VS S K H v d) : OkD 3000 12 d := h.elim fun F e => e.2.2.2.2
theorem VS.extN (h : VS S K H v d) (s : ExtN H H') : VS S K H' v d := h.elim fun F e => ⟨unt F, fun b y => unt_none (e.1 b y), fun b o z => (unt_ext s) b o (unt_mono e.2.1 b o z), dd_unt e.2.2.1, e.2.2.2.1.elim fun T g => ⟨T, g.extN fun b o z n => unt_get z n⟩, e.2.2.2.2⟩
theorem Od.vs (h : Od H v) (n : ∀ b, v = .ref b → ¬ S b) : ∃ d, VS S K H v d := by
  cases h with
  | @flat v d h o s =>
    refine ⟨d, holeS S H, fun b y => holeS_at y, holeS_same, Dp.dd h, ?_, okD_ok o⟩
    cases v with
    | non => exact ⟨_, .non⟩
    | bl b => exact ⟨_, .bl b⟩
    | int i => exact ⟨_, .int i⟩
    | str z => exact ⟨_, .str z (s z rfl)⟩
    | _ => cases h
  | @lst a xs ds e h o =>
    have e2 : holeS S H a = some (.lst xs) := by rw [holeS_ne (n a rfl)]; exact e
    exact ⟨_, holeS S H, fun b y => holeS_at y, holeS_same, .lst (SqL.of e2) (flatDs_dd h), ⟨_, .lst e2⟩, okD_ok o⟩
  | @tup a xs ds e h o =>
    have e2 : holeS S H a = some (.tup xs) := by rw [holeS_ne (n a rfl)]; exact e
    exact ⟨_, holeS S H, fun b y => holeS_at y, holeS_same, .tup (SqT.of e2) (flatDs_dd h), ⟨_, .tup e2⟩, okD_ok o⟩
  | @mt a e =>
    have e2 : holeS S H a = some (.dK []) := by rw [holeS_ne (n a rfl)]; exact e
    exact ⟨.dict [], holeS S H, fun b y => holeS_at y, holeS_same, .dct e2 .nil, ⟨_, .dK e2⟩, ⟨rfl, by decide +kernel, by decide +kernel⟩⟩
end
theorem aln_small : ∀ c ∈ (letters ++ digits).cps.toList, c < 128 := by decide +kernel
theorem name_small {z : Str} (h : isName z = true) : ∀ c ∈ z.cps.toList, c < 128 := by
  unfold isName at h
  simp only [Bool.and_eq_true] at h
  intro c hc
  exact aln_small c (of_decide_eq_true (List.all_eq_true.mp h.2 c hc))
theorem name_len {z : Str} (h : isName z = true) : z.length ≤ 8 := by
  unfold isName at h
  simp only [Bool.and_eq_true] at h
  exact of_decide_eq_true h.1.1.1.2
theorem sz_name {z : Str} (h : isName z = true) : (PyData.shown (.str z)).length ≤ 100 := by
  have h1 := PySem.StrLaws.reprText_len z (fun c hc => Nat.lt_trans (name_small h c hc) (by decide))
  have h2 := name_len h
  show (reprText z).length ≤ 100
  omega
theorem mom_log {m : Int} (h : 0 ≤ m ∧ m ≤ 1000000000000000000000000000000) : m.natAbs.log2 < 1920 := by
  have : m.natAbs < 2 ^ 100 := by omega
  exact Nat.lt_of_lt_of_le (PySem.Flt.log2_lt_of (by decide) this) (by decide)
theorem Od.mom {H : Hp} {m : Int} (h : 0 ≤ m ∧ m ≤ 1000000000000000000000000000000) : Od H (.int m) := by
  refine .flat rfl ⟨?_, Nat.zero_le _, ?_⟩ (fun _ z => nomatch z)
  · simp [PyData.showable, mom_log h]
  · show (Str.ofString (toString m)).length ≤ 1000
    rw [PyProof.Rows.ofString_length]
    have : m.natAbs.log2 < 101 := PySem.Flt.log2_lt_of (by decide) (by omega : m.natAbs < 2 ^ 101)
    exact Nat.le_trans (int_text_length_le (k := 101) (by decide) this) (by decide)
theorem Od.name {H : Hp} {z : Str} (h : isName z = true) : Od H (.str z) :=
  .flat rfl ⟨rfl, Nat.zero_le _, Nat.le_trans (sz_name h) (by decide)⟩ (fun y e => by cases e; exact Nat.le_trans (name_len h) (by decide))
theorem Flat1.od {H : Hp} {v : V} (h : Flat1 v) : Od H v := by
  cases h with
  | nam h => exact .name h
  | mom h => exact .mom h
  | tru b => exact .bl b
theorem Flat1.nr {v : V} (h : Flat1 v) : ∀ b, v ≠ .ref b := by
  cases h <;> exact fun _ z => nomatch z
/-- the word of the error for a form -/
def wordOf (f : Str) : Str := if f = "name" then "name" else if f = "truth" then "saying" else "moment"
/-- the first value that has not its form: the word, the value -/
def badW : List (V × Str) → Option (Str × V)
  | [] => none
  | (v, f) :: r => if okF f v = true then badW r else some (wordOf f, v)
theorem badW_app : ∀ {l : List (V × Str)} {v : V} {f : Str}, badW (l ++ [(v, f)]) = match badW l with
    | some x => some x
    | none => if okF f v = true then none else some (wordOf f, v)
  | [], v, f => by
    show badW [(v, f)] = _
    unfold badW
    by_cases h : okF f v = true <;> simp [h, badW]
  | (v', f') :: r, v, f => by
    rw [List.cons_append]
    by_cases h : okF f' v' = true
    · simp only [badW, h, if_true]
      exact badW_app
    · have h' : okF f' v' = false := Bool.eq_false_iff.mpr h
      simp [badW, h']
theorem badW_bad {CN CM CS : Addr} : ∀ {l : List (V × Str)}, (badW l = none → badL CN CM CS l = none) ∧ ∀ wd v, badW l = some (wd, v) → ∃ C fl, badL CN CM CS l = some (C, fl, v) ∧ KindL CN CM CS wd C fl
  | [] => ⟨fun _ => rfl, fun _ _ h => by cases h⟩
  | (v, f) :: r => by
    obtain ⟨a, b⟩ := badW_bad (CN := CN) (CM := CM) (CS := CS) (l := r)
    by_cases h : okF f v = true
    · simp only [badW, badL, h, if_true]
      exact ⟨a, b⟩
    · have h' : okF f v = false := Bool.eq_false_iff.mpr h
      simp only [badW, badL, h', if_neg Bool.false_ne_true]
      refine ⟨(fun z => by cases z), fun wd v' z => ?_⟩
      injection z with z
      injection z with z1 z2
      subst z1 z2
      unfold wordOf
      by_cases h1 : f = "name"
      · exact ⟨CN, "name", by simp [h1], by rw [if_pos h1]; exact .inl ⟨rfl, rfl, rfl⟩⟩
      · by_cases h2 : f = "truth"
        · exact ⟨CS, "value", by rw [if_neg h1, if_pos h2], by rw [if_neg h1, if_pos h2]; exact .inr (.inr ⟨rfl, rfl, rfl⟩)⟩
        · exact ⟨CM, "moment", by rw [if_neg h1, if_neg h2], by rw [if_neg h1, if_neg h2]; exact .inr (.inl ⟨rfl, rfl, rfl⟩)⟩
/-- what is due of these values -/
def DueAt (H : Hp) (l : List (V × Str)) (du : V) : Prop := (badW l = none ∧ du = .non) ∨ ∃ (wd : Str) (v : V) (td : Addr), badW l = some (wd, v) ∧ du = .ref td ∧ H td = some (.tup [.str wd, v])
theorem DueAt.keep {H H' : Hp} {l : List (V × Str)} {du : V} (h : DueAt H l du) (k : ∀ u xs, H u = some (.tup xs) → H' u = some (.tup xs)) : DueAt H' l du := by
  rcases h with h | ⟨wd, v, td, h1, h2, h3⟩
  · exact .inl h
  · exact .inr ⟨wd, v, td, h1, h2, k _ _ h3⟩
end K12

namespace K12
open PySem PySem.Spec PyProof.Rows L2 So LamX
section
variable {P : Program} {w : World} {K : PySem.W.Frag} {mg : Str → Option Value} {base : Heap}
abbrev kvsW : List (Key × V) := [(.inr "n", .str "name"), (.inr "m", .str "moment"), (.inr "t", .str "saying")]
theorem Pen.upd {H : Hp} {p l c : Addr} {ns : List Int} {n : Nat} {g : Int} {o : HO} (h : Pen H p l ns n g) (h1 : c ≠ p) (h2 : c ≠ l) : Pen (L2.upd H c o) p l ns n g := ⟨(upd_ne h1.symm).trans h.pen, (upd_ne h2.symm).trans h.cells, h.left⟩
theorem due_bad {H : Hp} {l : List (V × Str)} {v : V} {f : Str} {td : Addr} (h : DueAt H l .non) (o : okF f v = false) (e : H td = some (.tup [.str (wordOf f), v])) : DueAt H (l ++ [(v, f)]) (.ref td) := by
  rcases h with ⟨h1, _⟩ | ⟨_, _, _, _, h2, _⟩
  · exact .inr ⟨wordOf f, v, td, by rw [badW_app, h1]; simp [o], rfl, e⟩
  · cases h2
theorem due_on {H : Hp} {l : List (V × Str)} {du v : V} {f : Str} (h : DueAt H l du) (n : du ≠ .non) : DueAt H (l ++ [(v, f)]) du := by
  rcases h with ⟨_, h2⟩ | ⟨wd, v', td, h1, h2, h3⟩
  · exact absurd h2 n
  · exact .inr ⟨wd, v', td, by rw [badW_app, h1], h2, h3⟩
/-- the odd values for a letter -/
def oddV (u1 u2 u3 : V) (c : Nat) : V := if c = 110 then u1 else if c = 109 then u2 else u3
theorem odd_get {u1 u2 u3 : V} {c : Nat} (h : c = 110 ∨ c = 109 ∨ c = 116) : (valV (mergeK [] [(.inr "n", u1), (.inr "m", u2)]) (.inr (⟨#[c]⟩ : Str))).getD u3 = oddV u1 u2 u3 c := by
  rcases h with h | h | h <;> subst h <;> rfl
theorem word_get {c : Nat} {kind : Str} (h : c = 110 ∨ c = 109 ∨ c = 116) : valV (mergeK [] kvsW) (.inr (⟨#[c]⟩ : Str)) = some (.str (wordOf (formOf kind c))) := by
  rcases h with h | h | h <;> subst h
  · rfl
  · unfold formOf
    by_cases z : kind = "begun" ∨ kind = "setby" <;> simp only [z, if_true, if_false] <;> rfl
  · rfl
theorem odd_bad {u1 u2 u3 : V} {c : Nat} {kind : Str} (h : c = 110 ∨ c = 109 ∨ c = 116) (h1 : gNam u1 = false) (h2 : gMom u2 = false) (h3 : gTru u3 = false) : okF (formOf kind c) (oddV u1 u2 u3 c) = false := by
  rcases h with h | h | h <;> subst h
  · show okF "name" u1 = false
    rw [okF_n]; exact h1
  · have hb : gBeg u2 = false := by
      cases u2 with
      | int i =>
        have : ¬ (0 ≤ i ∧ i ≤ 1000000000000000000000000000000) := of_decide_eq_false h2
        exact decide_eq_false (by omega)
      | _ => rfl
    show okF (formOf kind 109) u2 = false
    unfold formOf
    by_cases z : kind = "begun" ∨ kind = "setby"
    · simp only [z, if_true, if_false]
      show okF "beginning" u2 = false
      rw [okF_b]; exact hb
    · simp only [z, if_true, if_false]
      show okF "moment" u2 = false
      rw [okF_m]; exact h2
  · show okF "truth" u3 = false
    rw [okF_t]; exact h3
theorem VS.weak {S S' : Addr → Prop} {H : Hp} {v : V} {d : PyData} (h : VS S' K H v d) (s : ∀ b, S b → S' b) : VS S K H v d := h.elim fun F e => ⟨F, fun b y => e.1 b (s b y), e.2⟩
theorem due_ok {H : Hp} {l : List (V × Str)} {du v : V} {f : Str} (h : DueAt H l du) (o : okF f v = true) : DueAt H (l ++ [(v, f)]) du := by
  rcases h with ⟨h1, h2⟩ | ⟨wd, v', td, h1, h2, h3⟩
  · exact .inl ⟨by rw [badW_app, h1]; simp [o], h2⟩
  · exact .inr ⟨wd, v', td, by rw [badW_app, h1], h2, h3⟩
/-- the pen and the new list -/
def Two (p sl : Addr) : Addr → Prop := fun b => b = p ∨ b = sl
def spBent (K : PySem.W.Frag) : Sp := fun vs H Q _ => ∃ (p l tr : Addr) (ns : List Int) (n : Nat) (g : Int) (kind : Str) (xs : List V), vs = [.ref p, .str kind, .ref tr] ∧ Pen H p l ns n g ∧ n < 800000 ∧ kind ∈ kinds ∧ H tr = some (.tup (.str kind :: xs)) ∧ FlatRow kind xs ∧
  ∀ (lv : List (V × Str)) (du : V) (tt sl : Addr) (n' : Nat) (g' : Int) (H' : Hp), n' ≤ n + 70 → Off p H H' → Pen H' p l ns n' g' → H' tt = some (.tup [.ref sl, du]) → H' sl = some (.lst (.str kind :: lv.map Prod.fst)) → sl ≠ p → lv.map Prod.snd = formsOf kind → (∀ y ∈ lv, ∃ d, VS (Two p sl) K H' y.1 d) → DueAt H' lv du → Q (.ref tt) H'
theorem ok_bent {f fF fD fP fN fM : Addr} {fd fdF fdD fdP fdN fdM : FuncData} (F : Fun K "_law_bent" "_law_bent" sBent f fd) (mr : mg "range" = none) (ml : mg "len" = none) (FF : Fun K "_law_forms" "_law_forms" sForms fF fdF) (bF : Binds K fdF ["_law_kind"] []) (gF : mg "_law_forms" = some (.ref fF)) (GF : FnOk P w K mg base CX0 1 fF fdF ["_law_kind"] spForms)
    (FD : Fun K "_law_draw" "_law_draw" sDraw fD fdD) (bD : Binds K fdD ["_law_pen_here", "_law_many"] []) (gD : mg "_law_draw" = some (.ref fD)) (GD : FnOk P w K mg base CX0 1 fD fdD ["_law_pen_here", "_law_many"] spDraw)
    (FP : Fun K "_law_pick" "_law_pick" sPick fP fdP) (bP : Binds K fdP ["_law_pen_here", "_law_some"] []) (gP : mg "_law_pick" = some (.ref fP)) (GP : FnOk P w K mg base CX0 2 fP fdP ["_law_pen_here", "_law_some"] (spPick K))
    (FN : Fun K "_law_odd_name" "_law_odd_name" sOddN fN fdN) (bN : Binds K fdN ["_law_pen_here"] []) (gN : mg "_law_odd_name" = some (.ref fN)) (GN : FnOk P w K mg base CX0 3 fN fdN ["_law_pen_here"] (spOdd gNam))
    (FM : Fun K "_law_odd_tick" "_law_odd_tick" sOddM fM fdM) (bM : Binds K fdM ["_law_pen_here"] []) (gM : mg "_law_odd_tick" = some (.ref fM)) (GM : FnOk P w K mg base CX0 3 fM fdM ["_law_pen_here"] (spOdd gMom)) :
    FnOk P w K mg base CX0 4 f fd ["_law_pen_here", "_law_kind", "_law_row"] (spBent K) := by
  refine F.ok scBent (fun vs H Q E h => ?_) (fun cdv A outer s H vs Q E hr h => ?_)
  · obtain ⟨_, _, _, _, _, _, _, _, rfl, _⟩ := h
    rfl
  · obtain ⟨p, l, tr, ns, n, g, kind, xs, rfl, hp, hn, hk, htr, hf, q⟩ := h
    have hr1 : Room 1 _ := hr.mono (by decide)
    have hr2 : Room 2 _ := hr.mono (by decide)
    refine ⟨_, pss_cons (ps_set (i := 3) scBent.nd rfl (.inl rfl) (pe_disp (pps_cons pe_str pe_str (pps_cons pe_str pe_str (pps_cons pe_str pe_str pps_nil))) rfl rfl (by simp) (by decide)))
      (pss_cons (ps_par (i := 4) (j := 5) (by rfl) scBent.nd rfl rfl (by decide) rfl rfl (pa_cons (pe_lst (pa_cons (pv 1) pa_nil)) (pa_cons pe_non pa_nil)) (by rfl))
      (pss_cons (ps_set (i := 6) scBent.nd rfl (.inl rfl) (pe_call GF hr1 (by rfl) gF FF.kp bF .nil pass0 (pa_cons (pv 1) pa_nil)))
      (pss_cons (ps_for PassesOwn.never rfl (pi_range1 (by rfl) mr (pa_cons (pe_callB call_len_str (by rfl) ml PySem.boot_len (pa_cons (pv 6) pa_nil)) pa_nil)) (pg_name (i := 7) scBent.nd rfl (Or.inl rfl))
        (pss_cons (ps_set (i := 8) scBent.nd rfl (.inl rfl) (pe_ix ix_tup (pv 2) (pe_op op_add (pv 7) pe_int) (fun _ _ => rfl)))
        (pss_cons (ps_cut (ps_if (pt_cmpR op_eq (pe_call GD hr1 (by rfl) gD FD.kp bD .nil pass0 (pa_cons (pv 0) (pa_cons pe_int pa_nil))) pe_int (nomark _))
            (pss_cons (ps_set (i := 9) scBent.nd rfl (.inl rfl) (pe_disp (pps_cons pe_str (pe_call GN hr (by rfl) gN FN.kp bN .nil pass0 (pa_cons (pv 0) pa_nil)) (pps_cons pe_str (pe_call GM hr (by rfl) gM FM.kp bM .nil pass0 (pa_cons (pv 0) pa_nil)) pps_nil)) rfl rfl (by simp) (by decide)))
            (pss_cons (ps_set (i := 8) scBent.nd rfl (.inl rfl) (pe_dget2 (hu_of hr) (pv 9) (pe_ix ix_str (pv 6) (pv 7) (fun _ _ => rfl)) (pe_call GP hr2 (by rfl) gP FP.kp bP .nil pass0 (pa_cons (pv 0) (pa_cons (pe_lst (pa_cons pe_non (pa_cons pe_int (pa_cons pe_int (pa_cons pe_str (pa_cons pe_str (pa_cons (pe_lst pa_nil) (pa_cons (pe_tup (pa_cons pe_bl pa_nil)) (pa_cons pe_str pa_nil))))))))) pa_nil))) ⟨rfl, rfl, rfl, rfl⟩))
            (pss_cons (ps_cut (ps_if (PW.pt (pw_and (pt_cmpR op_eq (pe_ix ix_str (pv 6) (pv 7) (fun _ _ => rfl)) pe_str (nomark _)) (pw_and (pt_cmpR op_in_seq (pv 1) (pe_tup (pa_cons pe_str (pa_cons pe_str pa_nil))) (by rfl)) (pw_and1 (pt_cmpR op_eq (pe_call GD hr1 (by rfl) gD FD.kp bD .nil pass0 (pa_cons (pv 0) (pa_cons pe_int pa_nil))) pe_int (nomark _)))))) (pss_one (ps_set (i := 8) scBent.nd rfl (.inl rfl) pe_int)) pss_nil))
            (pss_one (ps_if (pt_cmpR op_isN (pv 5) pe_non (nomark _)) (pss_one (ps_set (i := 5) scBent.nd rfl (.inl rfl) (pe_tup (pa_cons (pe_dget (hu_of hr) (pv 3) (pe_ix ix_str (pv 6) (pv 7) (fun _ _ => rfl)) (fun _ _ => rfl)) (pa_cons (pv 8) pa_nil))))) pss_nil))))) pss_nil))
        (pss_one (ps_expr (pe_bm PySem.F.plainAttrs_list PySem.F.slot_list_append PySem.F.type_list_append mt_append (pv 4) (pa_cons (pv 8) pa_nil)))))))
      (pss_one (ps_ret (pe_tup (pa_cons (pv 4) (pa_cons (pv 5) pa_nil)))))))), ?_⟩
    obtain ⟨hshl, hsa, hsm⟩ := short_facts kind hk
    have hlen8 : (formsOf kind).length ≤ 8 := by
      have := hf.1
      unfold kinds at hk
      simp only [List.mem_cons, List.not_mem_nil, or_false] at hk
      rcases hk with h | h | h | h | h | h | h | h | h | h <;> subst h <;> decide +kernel
    have hsz := sizeLine_eq
    -- the words
    intro wd hwd
    refine ⟨upd_same, kvsW, rfl, by decide, ?_⟩
    rw [upd_upd]
    have s1 := same_upd0 (o := .dK (mergeK [] kvsW)) hwd
    have hw1 : (upd H wd (.dK (mergeK [] kvsW))) wd = some (.dK (mergeK [] kvsW)) := upd_same
    revert s1 hw1
    generalize upd H wd (.dK (mergeK [] kvsW)) = H1
    intro s1 hw1
    refine ⟨_, rfl, by show 1 ≤ sizeLine; decide, fun sl hsl => ⟨_, _, rfl, ?_⟩⟩
    have hsl0 := s1.free hsl
    have s2 := same_upd0 (o := .lst [.str kind]) hsl
    have hsl2 : (upd H1 sl (.lst [.str kind])) sl = some (.lst [.str kind]) := upd_same
    have pen2 := hp.same (s1.trans s2)
    have nsp := (hp.same s1).ne hsl
    have nsl : sl ≠ l := fun z => by rw [z, (hp.same s1).cells] at hsl; cases hsl
    have htr2 := s2 _ _ (s1 _ _ htr)
    have hw2 := s2 _ _ hw1
    have off2 : Off p H (upd H1 sl (.lst [.str kind])) := offS (s1.trans s2)
    revert hsl2 pen2 htr2 hw2 off2
    generalize upd H1 sl (.lst [.str kind]) = H2
    intro hsl2 pen2 htr2 hw2 off2
    clear s1 s2 hw1 hwd hsl
    refine ⟨_, rfl, kind, rfl, hk, fun H3 s3 => ?_⟩
    replace pen2 := pen2.same s3
    replace htr2 := s3 _ _ htr2
    replace hw2 := s3 _ _ hw2
    replace hsl2 := s3 _ _ hsl2
    replace off2 := off2.trans (offS s3)
    clear s3
    generalize shortOf kind = sh at hshl hsa hsm ⊢
    have hshz : sh.length = (formsOf kind).length := by rw [← hshl]; exact (Array.length_toList).symm
    refine ⟨_, rfl, sh, rfl, by omega, _, rfl, by omega, by omega, for_range (lo := 0) (n := ((sh.length : Nat) : Int).toNat) (fun k σ G => ∃ (lv : List (V × Str)) (du : V) (x7 x8 x9 : Option V) (n' : Nat) (g' : Int), σ = [some (.ref p), some (.str kind), some (.ref tr), some (.ref wd), some (.ref sl), some du, some (.str sh), x7, x8, x9] ∧ Pen G p l ns n' g' ∧ n' ≤ n + 8 * k ∧
      (∀ u o, ¬ Two p sl u → H3 u = some o → G u = some o) ∧ G sl = some (.lst (.str kind :: lv.map Prod.fst)) ∧ lv.map Prod.snd = (formsOf kind).take k ∧ (∀ y ∈ lv, ∃ d, VS (Two p sl) K G y.1 d) ∧ DueAt G lv du)
      ⟨[], .non, none, none, none, n, g, rfl, pen2, Nat.le_refl _, fun _ _ _ e => e, hsl2, rfl, (fun _ h => nomatch h), .inl ⟨rfl, rfl⟩⟩ ?_ ?_⟩
    case refine_2 =>
      rintro σ G ⟨lv, du, x7, x8, x9, n4, g4, rfl, pen4, hn4, off4, hsl4, hmap, hvs, hdue⟩
      rw [Int.toNat_natCast, hshz, List.take_length] at hmap
      rw [Int.toNat_natCast, hshz] at hn4
      refine ⟨_, rfl, _, rfl, by show 2 ≤ sizeLine; decide, fun tt htt => ?_⟩
      have st := same_upd0 (o := .tup [.ref sl, du]) htt
      refine q lv du tt sl n4 g4 _ (by omega) (fun u o nu e => st _ _ ?_) (pen4.same st) upd_same (st _ _ hsl4) nsp hmap (fun y hy => (hvs y hy).elim fun d h => ⟨d, h.same st⟩) (hdue.keep fun u ys e => st _ _ e)
      by_cases c : u = sl
      · subst c
        rw [hsl0] at e
        cases e
      · exact off4 _ _ (fun z => z.elim nu c) (off2 _ _ nu e)
    rintro k σ G hk2 ⟨lv, du, x7, x8, x9, n4, g4, rfl, pen4, hn4, off4, hsl4, hmap, hvs, hdue⟩
    rw [Int.toNat_natCast, hshz] at hk2
    obtain ⟨v0, hv0⟩ : ∃ v0, xs[k]? = some v0 := by
      have : k < xs.length := by rw [hf.1]; exact hk2
      exact ⟨_, List.getElem?_eq_getElem this⟩
    obtain ⟨c, hc⟩ : ∃ c, sh.cps.toList[k]? = some c := by
      have : k < sh.cps.toList.length := by rw [hshl]; exact hk2
      exact ⟨_, List.getElem?_eq_getElem this⟩
    have hfm : (formsOf kind)[k]? = some (formOf kind c) := by rw [← hsm, List.getElem?_map, hc]; rfl
    have hc3 : c = 110 ∨ c = 109 ∨ c = 116 := of_decide_eq_true (List.all_eq_true.mp hsa c (List.mem_of_getElem? hc))
    have hv0f := hf.2 (v0, formOf kind c) (List.mem_of_getElem? (i := k) (by rw [List.getElem?_zip_eq_some]; exact ⟨hv0, hfm⟩))
    have hatc : atI sh.cps.toList (0 + ((k : Nat) : Int)) = some c := by rw [Int.zero_add]; exact atI_nat hc
    have ntr : ∀ {u : Addr} {ys : List V}, H3 u = some (.tup ys) → ¬ Two p sl u := fun {u ys} e z => by
      rcases z with z | z
      · rw [z, pen2.pen] at e; cases e
      · rw [z, hsl2] at e; cases e
    have nwd : ¬ Two p sl wd := fun z => by
      rcases z with z | z
      · have e := hw2; rw [z, pen2.pen] at e; cases e
      · have e := hw2; rw [z, hsl2] at e; cases e
    have htr4 := off4 _ _ (ntr htr2) htr2
    have hw4 := off4 _ _ nwd hw2
    generalize hfo : formOf kind c = fm at hfm hv0f
    refine ⟨_, rfl, _, rfl, _, _, rfl, rfl, tr, _, _, _, rfl, rfl, SqT.of htr4, (by
      show atI _ ((0 + ((k : Nat) : Int)) + 1) = some v0
      rw [show (0 + ((k : Nat) : Int)) + 1 = ((k + 1 : Nat) : Int) by omega]
      exact atI_nat (by simpa using hv0)), ?_⟩
    refine ⟨fun σ G' => ∃ (v du' : V) (x9' : Option V) (n5 : Nat) (g5 : Int), σ = [some (.ref p), some (.str kind), some (.ref tr), some (.ref wd), some (.ref sl), some du', some (.str sh), some (.int (0 + ((k : Nat) : Int))), some v, x9'] ∧ Pen G' p l ns n5 g5 ∧ n5 ≤ n4 + 8 ∧ Off p G G' ∧ (∃ d, VS (Two p sl) K G' v d) ∧ DueAt G' (lv ++ [(v, fm)]) du', ?_, ?_⟩
    case refine_2 =>
      rintro σ G5 ⟨v, du', x9', n5, g5, rfl, pen5, hn5, off5, ⟨d, hv⟩, hdue'⟩
      have hsl5 := off5 _ _ nsp hsl4
      have hll : lv.length ≤ 8 := by
        have := congrArg List.length hmap
        rw [List.length_map, List.length_take] at this
        omega
      refine ⟨_, rfl, .inl ⟨rfl, _, SqL.of hsl5⟩, _, rfl, sl, _, _, rfl, rfl, hsl5, by rw [List.length_cons, List.length_map]; omega, ?_⟩
      have ku : ∀ u o, ¬ Two p sl u → G5 u = some o → (upd G5 sl (.lst (.str kind :: lv.map Prod.fst ++ [v]))) u = some o := fun u o nu e => (upd_ne (fun z => nu (.inr z))).trans e
      refine ⟨lv ++ [(v, fm)], du', _, _, x9', n5, g5, rfl, pen5.upd nsp nsl, by omega, fun u o nu e => ku u o nu (off5 _ _ (fun z => nu (.inl z)) (off4 u o nu e)), ?_, ?_, fun y hy => ?_, hdue'.keep fun u ys e => (upd_ne (fun z => by rw [z, hsl5] at e; cases e)).trans e⟩
      · rw [upd_same, List.map_append]
        rfl
      · rw [List.map_append, hmap, List.take_add_one, hfm]
        rfl
      · rcases List.mem_append.mp hy with h | h
        · obtain ⟨d, h⟩ := hvs y h
          exact ⟨d, (h.off fun u o nu e => off5 _ _ (fun z => nu (.inl z)) e).off ku⟩
        · rw [List.mem_singleton.mp h]
          exact ⟨d, hv.off ku⟩
    refine ⟨_, rfl, p, l, ns, n4, g4, _, rfl, pen4, by omega, by decide, by decide, fun d0 n5 g5 G5 _ _ hn5 off5 pen5 => ⟨rfl, _, rfl, ite2 (fun _ => ?_) (fun _ => ?_)⟩⟩
    case refine_2 => exact ⟨v0, du, x9, n5, g5, rfl, pen5, by omega, off5, hv0f.2.od.vs fun b z => absurd z (hv0f.2.nr b), due_ok (hdue.keep fun u ys e => off5 _ _ (ne_of e pen4.pen (fun z => nomatch z)) e) hv0f.1⟩
    -- odd ones
    intro od hod
    have s6 := same_upd0 (o := .dK []) hod
    have nop := pen5.ne hod
    have nol : od ≠ l := (ne_of_none pen5.cells hod).symm
    have hsl5 := off5 _ _ nsp hsl4
    have nos : od ≠ sl := fun z => by rw [z, hsl5] at hod; cases hod
    have hod6 : (upd G5 od (.dK [])) od = some (.dK []) := upd_same
    refine ⟨_, rfl, p, l, ns, n5, g5, rfl, pen5.same s6, by omega, fun u1 n6 g6 G6 gu1 ou1 nu1 hn6 off6 pen6 => ?_⟩
    refine ⟨_, rfl, p, l, ns, n6, g6, rfl, pen6, by omega, fun u2 n7 g7 G7 gu2 ou2 nu2 hn7 off7 pen7 => ?_⟩
    have hod7 := off7 _ _ nop (off6 _ _ nop hod6)
    refine ⟨hod7, [(.inr "n", u1), (.inr "m", u2)], rfl, (by show 2 ≤ 15; decide), ?_⟩
    -- three places
    obtain ⟨S, hS⟩ : ∃ S : Addr → Prop, S = fun b => b = p ∨ b = sl ∨ b = od := ⟨_, rfl⟩
    have w2 : ∀ b, Two p sl b → S b := fun b z => by rw [hS]; exact z.elim .inl fun z => .inr (.inl z)
    have hsl6 := off6 _ _ nsp (s6 _ _ hsl5)
    have hod66 := off6 _ _ nop hod6
    obtain ⟨d1, v1⟩ := ou1.vs (S := S) (K := K) fun b z y => by
      have := nu1 b z
      rw [hS] at y
      rcases y with y | y | y
      · rw [y, (pen5.same s6).pen] at this; cases this
      · rw [y, s6 _ _ hsl5] at this; cases this
      · rw [y, hod6] at this; cases this
    obtain ⟨d2, v2⟩ := ou2.vs (S := S) (K := K) fun b z y => by
      have := nu2 b z
      rw [hS] at y
      rcases y with y | y | y
      · rw [y, pen6.pen] at this; cases this
      · rw [y, hsl6] at this; cases this
      · rw [y, hod66] at this; cases this
    have hsl7 := off7 _ _ nsp hsl6
    have k7 : ∀ u o, ¬ S u → G7 u = some o → (upd G7 od (.dK (mergeK [] [(.inr "n", u1), (.inr "m", u2)]))) u = some o := fun u o nu e => (upd_ne (fun z => nu (by rw [hS]; exact .inr (.inr z)))).trans e
    have v1' := (v1.off (H' := G7) fun u o nu e => off7 _ _ (fun z => nu (by rw [hS]; exact .inl z)) e).off k7
    have v2' := v2.off k7
    have pen8 : Pen (upd G7 od (.dK (mergeK [] [(.inr "n", u1), (.inr "m", u2)]))) p l ns n7 g7 := pen7.upd nop nol
    have hod8 : (upd G7 od (.dK (mergeK [] [(.inr "n", u1), (.inr "m", u2)]))) od = some (.dK (mergeK [] [(.inr "n", u1), (.inr "m", u2)])) := upd_same
    have off8 : Off p G (upd G7 od (.dK (mergeK [] [(.inr "n", u1), (.inr "m", u2)]))) := fun u o nu e => by
      have ne : u ≠ od := fun z => by rw [z] at e; rw [off5 _ _ nop e] at hod; cases hod
      exact (upd_ne ne).trans (off7 _ _ nu (off6 _ _ nu (s6 _ _ (off5 _ _ nu e))))
    revert v1' v2' pen8 hod8 off8
    generalize upd G7 od (.dK (mergeK [] [(.inr "n", u1), (.inr "m", u2)])) = G8
    intro v1' v2' pen8 hod8 off8
    clear k7 v1 v2 hsl7 hsl6 hod66 hod7 hod6 s6 off6 off7 pen6 pen7 nu1 nu2 ou1 ou2
    have hsl8 := off8 _ _ nsp hsl4
    refine ⟨_, rfl, od, rfl, .inl ⟨_, .inl hod8⟩, _, rfl, _, rfl, sh, _, c, rfl, rfl, by omega, hatc, ?_⟩
    refine ⟨_, rfl, by show 0 ≤ sizeLine; decide, fun e1 he1 => ⟨by show 1 ≤ sizeLine; decide, fun e2 he2 => ⟨by show 8 ≤ sizeLine; decide, fun e3 he3 => ?_⟩⟩⟩
    have t1 := same_upd0 (o := .lst []) he1
    have t2 := same_upd0 (o := .tup [.bl true]) he2
    have t3 := same_upd0 (o := .lst [.non, .int 0, .int 1, .str "sound", .str "", .ref e1, .ref e2, .str "True"]) he3
    have f1 := t3 _ _ (t2 _ _ (show (upd G8 e1 (.lst [])) e1 = some (.lst []) from upd_same))
    have f2 := t3 _ _ (show (upd (upd G8 e1 (.lst [])) e2 (.tup [.bl true])) e2 = some (.tup [.bl true]) from upd_same)
    have f3 : (upd (upd (upd G8 e1 (.lst [])) e2 (.tup [.bl true])) e3 (.lst [.non, .int 0, .int 1, .str "sound", .str "", .ref e1, .ref e2, .str "True"])) e3 = some (.lst [.non, .int 0, .int 1, .str "sound", .str "", .ref e1, .ref e2, .str "True"]) := upd_same
    have t13 := t1.trans (t2.trans t3)
    have n1 := he1
    have n2 := t1.free he2
    have n3 := (pen8.same (t1.trans t2)).ne he3
    clear t1 t2 t3 he1 he2 he3
    revert f1 f2 f3 t13
    generalize upd (upd (upd G8 e1 (.lst [])) e2 (.tup [.bl true])) e3 (.lst [.non, .int 0, .int 1, .str "sound", .str "", .ref e1, .ref e2, .str "True"]) = G9
    intro f1 f2 f3 t13
    refine ⟨p, l, ns, n7, g7, _, rfl, pen8.same t13, by omega, .inl ⟨e3, _, rfl, n3, f3, by show 0 < 8; decide, by show 8 ≤ 1000; decide, fun u3 n8 g8 G10 hu3 hn8 off10 pen10 => ?_⟩⟩
    have hod10 := off10 _ _ nop (t13 _ _ hod8)
    have hsl10 := off10 _ _ nsp (t13 _ _ hsl8)
    have nS : ∀ e : Addr, G8 e = none → ¬ S e := fun e he y => by
      rw [hS] at y
      rcases y with y | y | y
      · rw [y, pen8.pen] at he; cases he
      · rw [y, hsl8] at he; cases he
      · rw [y, hod8] at he; cases he
    have k10 : ∀ u o, ¬ S u → G8 u = some o → G10 u = some o := fun u o nu e => off10 _ _ (fun z => nu (by rw [hS]; exact .inl z)) (t13 _ _ e)
    obtain ⟨gu3, d3, v3⟩ : gTru u3 = false ∧ ∃ d, VS S K G9 u3 d := by
      simp only [List.mem_cons, List.not_mem_nil, or_false] at hu3
      rcases hu3 with h | h | h | h | h | h | h | h <;> subst h
      · exact ⟨rfl, Od.non.vs fun _ z => nomatch z⟩
      · exact ⟨rfl, (Od.mom ⟨by decide, by decide⟩).vs fun _ z => nomatch z⟩
      · exact ⟨rfl, (Od.mom ⟨by decide, by decide⟩).vs fun _ z => nomatch z⟩
      · exact ⟨rfl, (okStr (by decide +kernel)).vs fun _ z => nomatch z⟩
      · exact ⟨rfl, (okStr (by decide +kernel)).vs fun _ z => nomatch z⟩
      · exact ⟨rfl, (Od.lst f1 rfl ⟨by decide +kernel, by decide +kernel, by decide +kernel⟩).vs fun b z => by cases z; exact nS _ n1⟩
      · exact ⟨rfl, (Od.tup f2 rfl ⟨by decide +kernel, by decide +kernel, by decide +kernel⟩).vs fun b z => by cases z; exact nS _ n2⟩
      · exact ⟨rfl, (okStr (by decide +kernel)).vs fun _ z => nomatch z⟩
    have v3' := v3.off (H' := G10) fun u o nu e => off10 _ _ (fun z => nu (by rw [hS]; exact .inl z)) e
    refine ⟨_, .inl ⟨_, .inr (⟨#[c]⟩ : Str), .inl hod10, rfl, rfl⟩, ?_⟩
    rw [odd_get hc3]
    have hbad := odd_bad (kind := kind) hc3 gu1 gu2 gu3
    rw [hfo] at hbad
    have hv : ∃ d, VS S K G10 (oddV u1 u2 u3 c) d := by
      unfold oddV
      split
      · exact ⟨d1, v1'.off k10⟩
      · split
        · exact ⟨d2, v2'.off k10⟩
        · exact ⟨d3, v3'⟩
    generalize oddV u1 u2 u3 c = v at hbad hv
    have offX : Off p G G10 := off8.trans ((offS t13).trans off10)
    clear v1' v2' v3 v3' d1 d2 d3 k10 nS f1 f2 f3 t13 n1 n2 n3 gu1 gu2 gu3 hu3 off10 off8 pen8 hod8 hsl8 hod10
    -- 0 for a beginning
    refine ⟨fun σ G' => ∃ (v' : V) (n9 : Nat) (g9 : Int), σ = [some (.ref p), some (.str kind), some (.ref tr), some (.ref wd), some (.ref sl), some du, some (.str sh), some (.int (0 + ((k : Nat) : Int))), some v', some (.ref od)] ∧ Pen G' p l ns n9 g9 ∧ n9 ≤ n8 + 1 ∧ Off p G10 G' ∧ okF fm v' = false ∧ ∃ d, VS (Two p sl) K G' v' d, ?_, ?_⟩
    · have hv2 : ∃ d, VS (Two p sl) K G10 v d := hv.elim fun d h => ⟨d, h.weak w2⟩
      refine ⟨_, rfl, _, rfl, sh, _, c, rfl, rfl, by omega, hatc, rfl, _, rfl, ite2 (fun ec => ?_) (fun _ => iteF ⟨v, n8, g8, rfl, pen10, by omega, Off.refl, hbad, hv2⟩)⟩
      have hcm : c = 109 := by
        have : (⟨#[c]⟩ : Str) = "m" := V.str.inj (of_decide_eq_true ec)
        have e9 : ("m" : Str).cps.toList = [109] := by decide +kernel
        have := (congrArg (fun z : Str => z.cps.toList) this).trans e9
        exact (List.cons.inj this).1
      refine ⟨_, rfl, by show 2 ≤ sizeLine; decide, fun tp htp => ⟨tp, _, rfl, .inr (SqT.of upd_same), rfl, flat_strs ["begun", "setby"], ?_⟩⟩
      have st := same_upd0 (o := .tup [.str "begun", .str "setby"]) htp
      rw [show (if false = true then !inV (V.str kind) [V.str "begun", V.str "setby"] else inV (V.str kind) [V.str "begun", V.str "setby"]) = (["begun", "setby"] : List Str).contains kind from inV_strs kind ["begun", "setby"]]
      refine ⟨_, rfl, ite2 (fun e2 => ?_) (fun _ => iteF ⟨v, n8, g8, rfl, pen10.same st, by omega, offS st, hbad, hv2.elim fun d h => ⟨d, h.same st⟩⟩)⟩
      refine ⟨_, rfl, p, l, ns, n8, g8, _, rfl, pen10.same st, by omega, by decide, by decide, fun d9 n9 g9 G11 _ _ hn9 off11 pen11 => ⟨rfl, _, rfl, ite2 (fun _ => ?_) (fun _ => ?_)⟩⟩
      · have e3 : kind = "begun" ∨ kind = "setby" := by simpa using e2
        refine ⟨.int 0, n9, g9, rfl, pen11, by omega, (offS st).trans off11, ?_, Od.vs (Od.mom ⟨by decide, by decide⟩) fun _ z => nomatch z⟩
        rw [← hfo, hcm]
        unfold formOf
        rw [if_neg (by decide), if_neg (by decide), if_pos e3, okF_b]
        rfl
      · exact ⟨v, n9, g9, rfl, pen11, by omega, (offS st).trans off11, hbad, hv2.elim fun d h => ⟨d, (h.same st).off fun u o nu e => off11 _ _ (fun z => nu (.inl z)) e⟩⟩
    clear hbad hv
    rintro σ G11 ⟨v', n9, g9, rfl, pen11, hn9, off11, hbad, dv, hv⟩
    have offY := offX.trans off11
    have hdue11 := hdue.keep fun u ys e => offY _ _ (ne_of e pen4.pen (fun z => nomatch z)) e
    have hw11 := offY _ _ (fun z => nwd (.inl z)) hw4
    refine ⟨_, rfl, rfl, _, rfl, ite2 (fun e => ?_) (fun e => ?_)⟩
    · obtain rfl : du = .non := of_decide_eq_true e
      refine ⟨_, rfl, _, rfl, _, rfl, sh, _, c, rfl, rfl, by omega, hatc, wd, _, rfl, .inl ⟨_, .inr (⟨#[c]⟩ : Str), .inl hw11, rfl, (word_get (kind := kind) hc3).symm⟩, _, rfl, by show 2 ≤ sizeLine; decide, fun td htd => ?_⟩
      rw [hfo]
      have st := same_upd0 (o := .tup [.str (wordOf fm), v']) htd
      exact ⟨v', .ref td, _, n9, g9, rfl, pen11.same st, by omega, offY.trans (offS st), ⟨dv, hv.same st⟩, due_bad (hdue11.keep fun u ys e => st _ _ e) hbad upd_same⟩
    · exact ⟨v', du, _, n9, g9, rfl, pen11, by omega, offY, ⟨dv, hv⟩, due_on hdue11 fun z => e (decide_eq_true z)⟩
end
end K12

/-! a part of an expression walked by itself: what follows it is said once -/
namespace So
open PySem PySem.Spec PyProof.Rows L2
theorem pe_cut {X : Cx} {e : Expr} {t : TE} (h : PE X e t) : PE X e (fun σ H Q => ∃ Q0 : VK, t σ H Q0 ∧ ∀ v H', Q0 v H' → Q v H') :=
  ⟨fun pins s σ H Q I ⟨Q0, h1, h2⟩ => thn (h.run pins s σ H Q0 I h1) fun u s' ⟨v, H', I', r, q⟩ => ⟨v, H', I', r, h2 v H' q⟩⟩
end So

/-! rules within a comprehension's block, the written part told -/
namespace So
open PySem PySem.Spec PyProof.Rows L2
section
variable {X : Cx} {K : PySem.W.Frag} {tg l e : Expr} {tl ta : TE} {f : Str} {pos : Pos}
theorem pi_tupK (h : X.K = K) (hl : PE X l tl) : PI X tg l (iTup K tl) := by
  subst h
  exact pi_tup hl
theorem pi_listK (h : X.K = K) (hl : PE X l tl) : PI X tg l (iList K tl) := by
  subst h
  exact pi_list hl
theorem pe_fldK (h : X.K = K) (he : PE X e ta) (hb : attributeBase e f X.env (eval e X.env) = eval e X.env) : PE X (.Attribute e f pos) (tFld K ta f) := by
  subst h
  exact pe_fld he hb
theorem ix_listK (h : X.K = K) : IxR X (rIxL K) := h ▸ ix_list
theorem ix_tupK (h : X.K = K) : IxR X (rIxT K) := h ▸ ix_tup
theorem op_inK (h : X.K = K) : OpR X (compareOp .In) (rIn K false) := by
  subst h
  exact op_in_seq
theorem op_notInK (h : X.K = K) : OpR X (compareOp .NotIn) (rIn K true) := by
  subst h
  exact op_notIn_seq
theorem lenK (h : X.K = K) : CallR X (.builtin "len") (fun xs H Q => ∃ (p : Addr) (ys : List V), xs = [V.ref p] ∧ (SqL K H p ys ∨ SqT K H p ys) ∧ Q (.int (ys.length : Nat)) H) := by
  subst h
  exact call_len_seq
end
end So

namespace K12
open PySem PySem.Spec PyProof.Rows L2 So LamX
abbrev sLaw : Stmt := topS 59
abbrev lawN : List Str := ["_law_script", "_law_pen_here", "_law_crew", "_law_kind", "_law_due", "_law_heard_here", "_law_some"]
theorem scLaw : FnScope lawN ["_law_script"] (defScope sLaw) := ⟨rfl, rfl, rfl, by decide +kernel, rfl, by decide +kernel, by decide +kernel⟩
theorem extN_of {H H' : Hp} (s : Same H H') : ExtN H H' := fun b o e _ => s b o e
theorem tabs_off {T : List (Addr × Str)} {H H' : Hp} {p : Addr} {xs : List V} (hp : H p = some (.lst xs)) (t : Tabs T H) (o : Off p H H') : Tabs T H' := by
  intro y hy
  obtain ⟨ps, h1, h2, h3⟩ := t y hy
  refine ⟨ps, o _ _ (ne_of h1 hp (fun z => nomatch z)) h1, h2, fun pos cv hc => ?_⟩
  obtain ⟨c, e1, e2⟩ := h3 pos cv hc
  refine ⟨c, e1, o _ _ (fun z => ?_) e2⟩
  rw [z, hp] at e2
  cases e2
theorem tabs_same {T : List (Addr × Str)} {H H' : Hp} (t : Tabs T H) (s : Same H H') : Tabs T H' := t.ext s
theorem lst_ne {xs : List V} : ∀ ps, HO.lst xs ≠ .tbl ps := fun ps z => nomatch z
theorem tup_ne {xs : List V} : ∀ ps, HO.tup xs ≠ .tbl ps := fun ps z => nomatch z
theorem Pen.ext {H H' : Hp} {p l : Addr} {ns : List Int} {n : Nat} {g : Int} (h : Pen H p l ns n g) (s : ExtN H H') : Pen H' p l ns n g := ⟨s _ _ h.pen lst_ne, s _ _ h.cells lst_ne, h.left⟩
theorem word_ok {z : String} (h : (Str.ofString z).length ≤ 100) : OkD 3000 12 (.str (Str.ofString z)) := (OkD.strW (n := 100) (wd_of z) h).mono (by decide) (by decide)
theorem kind_ok : ∀ kind ∈ kinds, OkD 3000 12 (.str kind) := by
  intro kind hk
  unfold kinds at hk
  simp only [List.mem_cons, List.not_mem_nil, or_false] at hk
  rcases hk with h | h | h | h | h | h | h | h | h | h <;> subst h <;> exact word_ok (by decide +kernel)
theorem wordOf_ok (f : Str) : OkD 3000 12 (.str (wordOf f)) := by
  unfold wordOf
  split
  · exact word_ok (by decide +kernel)
  · split
    · exact word_ok (by decide +kernel)
    · exact word_ok (by decide +kernel)
theorem badW_mem : ∀ {l : List (V × Str)} {wd : Str} {v : V}, badW l = some (wd, v) → (∃ f, (v, f) ∈ l) ∧ OkD 3000 12 (.str wd)
  | [], _, _, h => by cases h
  | (v', f) :: r, wd, v, h => by
    unfold badW at h
    split at h
    · obtain ⟨⟨f', m⟩, o⟩ := badW_mem h
      exact ⟨⟨f', List.mem_cons_of_mem _ m⟩, o⟩
    · cases h
      exact ⟨⟨f, List.mem_cons_self⟩, wordOf_ok f⟩
theorem zip_fs : ∀ l : List (V × Str), (l.map Prod.fst).zip (l.map Prod.snd) = l
  | [] => rfl
  | (a, b) :: r => by
    rw [List.map_cons, List.map_cons, List.zip_cons_cons, zip_fs r]
section
variable {P : Program} {w : World} {K : PySem.W.Frag} {mg : Str → Option Value} {base : Heap}
def spLaw (K : PySem.W.Frag) (P0 : Addr) : Sp := fun vs H Q _ => ∃ (a : Addr) (ns : List Int), vs = [.ref a] ∧ SqL K H a (ns.map V.int) ∧ H P0 = some (.tbl #[]) ∧ ∀ H', Q (.bl true) H'
theorem ok_law {f c0 P0 CT CN CM CS fPen fN fKi fB fD fH fM : Addr} {fd fdPen fdN fdKi fdB fdD fdH fdM : FuncData} (F : Fun K "law" "law" sLaw f fd) (hcode : fd.code = .ref c0) (TB : TabB base mg c0 P0) (R : HrL K mg CT CN CM CS) (mp : mg "repr" = none)
    (FPen : Fun K "_law_pen" "_law_pen" sPen fPen fdPen) (bPen : Binds K fdPen ["_law_script"] []) (gPen : mg "_law_pen" = some (.ref fPen)) (GPen : FnOk P w K mg base CX0 1 fPen fdPen ["_law_script"] (spPen K))
    (FN : Fun K "_law_name" "_law_name" sLName fN fdN) (bN : Binds K fdN ["_law_pen_here"] []) (gN : mg "_law_name" = some (.ref fN)) (GN : FnOk P w K mg base CX0 3 fN fdN ["_law_pen_here"] spLName)
    (FK : Fun K "_law_kinds" "_law_kinds" sKinds fKi fdKi) (bK : Binds K fdKi [] []) (gK : mg "_law_kinds" = some (.ref fKi)) (GK : FnOk P w K mg base CX0 1 fKi fdKi [] spKinds)
    (FB : Fun K "_law_bent" "_law_bent" sBent fB fdB) (bB : Binds K fdB ["_law_pen_here", "_law_kind", "_law_row"] []) (gB : mg "_law_bent" = some (.ref fB)) (GB : FnOk P w K mg base CX0 4 fB fdB ["_law_pen_here", "_law_kind", "_law_row"] (spBent K))
    (FD : Fun K "_law_drawn" "_law_drawn" sDrawn fD fdD) (bD : Binds K fdD ["_law_pen_here", "_law_crew", "_law_kinds_here"] []) (gD : mg "_law_drawn" = some (.ref fD)) (GD : FnOk P w K mg base CX0 4 fD fdD ["_law_pen_here", "_law_crew", "_law_kinds_here"] spDrawn)
    (FM : Fun K "_law_made" "_law_made" sMade fM fdM) (bM : Binds K fdM ["_law_row"] []) (gM : mg "_law_made" = some (.ref fM)) (GM : FnOk P w K mg base (L2.CX P w) 8 fM fdM ["_law_row"] (spMade K CN CM CS))
    (FH : Fun K "_law_heard" "_law_heard" sHeard fH fdH) (bH0 : Binds K fdH ["_law_ask"] []) (gH : mg "_law_heard" = some (.ref fH)) :
    FnG P w K mg base CX0 11 f fd ["_law_script"] (spLaw K P0) := by
  obtain ⟨ocH, odH, kVH, docH, pmH, anH, cdvH, ctH, oslH, efd, lkH, hcH⟩ := FH.ex
  subst efd
  have bH := bH0
  refine fnG_ofC F hcode scLaw (fun vs H Q E h => ?_) (fun A outer s H vs Q E hg hr h => ?_)
  · obtain ⟨a, ns, rfl, _⟩ := h
    rfl
  · obtain ⟨a, ns, rfl, hS, hT0, q⟩ := h
    have hr1 : Room 1 _ := hr.mono (by decide)
    have hr3 : Room 3 _ := hr.mono (by decide)
    have hr4 : Room 4 _ := hr.mono (by decide)
    refine ⟨_, (pss_cons (ps_set (i := 1) scLaw.nd rfl (.inl rfl) (pe_call GPen hr1 (by rfl) gPen FPen.kp bPen .nil pass0 (pa_cons (pv 0) pa_nil)))
      (pss_cons (ps_set (i := 2) scLaw.nd rfl (.inl rfl) (pe_lst (pa_cons (pe_call GN hr3 (by rfl) gN FN.kp bN .nil pass0 (pa_cons (pv 1) pa_nil)) (pa_cons (pe_call GN hr3 (by rfl) gN FN.kp bN .nil pass0 (pa_cons (pv 1) pa_nil)) pa_nil))))
      (pss_cons (ps_for PassesOwn.never rfl (pi_list (pe_op op_cat (pe_call0 GK hr1 (by rfl) gK FK.kp bK .nil pass0) (pe_call0 GK hr1 (by rfl) gK FK.kp bK .nil pass0))) (pg_name (i := 3) scLaw.nd rfl (Or.inl rfl))
        (pss_cons (ps_asg (pe_call GB hr4 (by rfl) gB FB.kp bB .nil pass0 (pa_cons (pv 1) (pa_cons (pv 3) (pa_cons (pe_call GD hr4 (by rfl) gD FD.kp bD .nil pass0 (pa_cons (pv 1) (pa_cons (pv 2) (pa_cons (pe_lst (pa_cons (pv 3) pa_nil)) pa_nil)))) pa_nil)))) (pg_tup rfl (pgs_cons (pg_name (i := 6) scLaw.nd rfl (Or.inr rfl)) (pgs_cons (pg_name (i := 4) scLaw.nd rfl (Or.inl rfl)) pgs_nil))))
        (pss_cons (ps_set (i := 5) scLaw.nd rfl (.inl rfl) (pe_cut
          (pe_lamcall (T := [(P0, _)]) (TT := TTL CN CM CS) (t := _) (k := 8) (by rfl) gH FH.kp lkH hcH bH scHeard rfl (Or.inl rfl) (heard_gives R) TB rfl (by exact List.mem_singleton.mpr rfl) (fun q hq _ => by rw [List.mem_singleton.mp hq]) hr
            (lamS_by (sc := defScope sLaw) (by decide +kernel)) rfl (fun _ _ _ _ _ => rfl) (fun A outer s H E f c' hr' => pe_fldK (K := K) rfl (pe_call GM hr' (by rfl) gM FM.kp bM .nil (passes_call (takes_of rfl rfl rfl rfl) (fun _ _ _ _ h => h)) (pa_cons (pv 6) pa_nil)) rfl))))
        (pss_one (ps_if (pt_cmpR op_ne (pe_callB (call_reprG hg hr.units) (by rfl) mp (by decide +kernel) (pa_cons (pv 5) pa_nil))
          (pe_callB (call_reprG hg hr.units) (by rfl) mp (by decide +kernel) (pa_cons (pe_cut (pe_ifExp (pt_cmpR op_notN (pv 4) pe_non (nomark _)) (pv 4) (pe_tup (pa_cons pe_str (pa_cons (pv 3) pa_nil))))) pa_nil)) (nomark _)) (pss_one (ps_ret pe_bl)) pss_nil)))))
      (pss_one (ps_ret pe_bl))))), ?_⟩
    refine ⟨_, rfl, a, ns, rfl, hS, fun H1 p l cc s1 pen1 => ?_⟩
    obtain ⟨qn, hqn⟩ : ∃ qn, qn = ((envOfC "law" (defScope sLaw) s.heap.objs.size f (.ref c0)).qual ++ "<lambda>") := ⟨_, rfl⟩
    have t1 : Tabs [(P0, qn)] H1 := by
      intro y hy
      rw [List.mem_singleton.mp hy]
      exact TabS.nil (s1 _ _ hT0)
    have hsz := sizeLine_eq
    -- the crew
    refine ⟨_, rfl, p, l, cc, 0, 0, rfl, pen1, by omega, fun z1 n2 g2 H2 i1 hn2 off2 pen2 => ⟨_, rfl, p, l, cc, n2, g2, rfl, pen2, by omega, fun z2 n3 g3 H3 i2 hn3 off3 pen3 => ⟨by show 2 ≤ sizeLine; decide, fun cr hcr => ?_⟩⟩⟩
    have s4 := same_upd0 (o := .lst [.str z1, .str z2]) hcr
    have pen4 := pen3.same s4
    have ncp := pen3.ne hcr
    have hcr4 : (upd H3 cr (.lst [.str z1, .str z2])) cr = some (.lst [.str z1, .str z2]) := upd_same
    have t4 := tabs_same (tabs_off pen1.pen t1 (off2.trans off3)) s4
    revert pen4 hcr4 t4
    generalize upd H3 cr (.lst [.str z1, .str z2]) = H4
    intro pen4 hcr4 t4
    clear s4 hcr pen3 pen2 pen1 off2 off3 t1 s1
    -- the kinds, twice
    refine ⟨rfl, fun H5 k1 s5 nk1 hk1 => ⟨rfl, fun H6 k2 s6 nk2 hk2 => ⟨k1, k2, _, _, rfl, rfl, s6 _ _ hk1, hk2, by show 20 ≤ sizeLine; decide, fun kl hkl => ?_⟩⟩⟩
    have s46 := s5.trans s6
    have s7 := s46.trans (same_upd0 (o := .lst (kinds.map V.str ++ kinds.map V.str)) hkl)
    have hkl7 : (upd H6 kl (.lst (kinds.map V.str ++ kinds.map V.str))) kl = some (.lst ((kinds ++ kinds).map V.str)) := by rw [upd_same, List.map_append]
    have pen7 := pen4.same s7
    have nkp := (pen4.same s46).ne hkl
    have hcr7 := s7 _ _ hcr4
    have t7 := tabs_same t4 s7
    revert hkl7 pen7 hcr7 t7
    generalize upd H6 kl (.lst (kinds.map V.str ++ kinds.map V.str)) = H7
    intro hkl7 pen7 hcr7 t7
    clear s7 s46 s5 s6 hkl hk1 hk2 nk1 nk2 pen4 hcr4 t4
    refine ⟨kl, rfl, ⟨_, SqL.of hkl7⟩, for_it (walk_list (xs := (kinds ++ kinds).map V.str)) (fun i σ G => ∃ x3 x4 x5 x6 n' g', σ = [some (.ref a), some (.ref p), some (.ref cr), x3, x4, x5, x6] ∧ Pen G p l cc n' g' ∧ n' ≤ 18 + 90 * i ∧ Tabs [(P0, qn)] G ∧ G kl = some (.lst ((kinds ++ kinds).map V.str)) ∧ G cr = some (.lst [.str z1, .str z2]))
      ⟨none, none, none, none, n3, g3, rfl, pen7, by omega, t7, hkl7, hcr7⟩ (fun i σ G _ y => ?_) ?_ ?_⟩
    · obtain ⟨_, _, _, _, _, _, _, _, _, _, h, _⟩ := y
      exact SqL.of h
    case refine_3 =>
      rintro σ G ⟨x3, x4, x5, x6, n', g', rfl, _⟩
      exact q _
    rintro i x σ G G' hi ⟨x3, x4, x5, x6, n8, g8, rfl, pen8, hn8, t8, hkl8, hcr8⟩ ⟨rfl, hx⟩
    rw [List.getElem?_map] at hx
    obtain ⟨kind, hkm, rfl⟩ : ∃ kind, (kinds ++ kinds)[i]? = some kind ∧ x = .str kind := by
      cases e : (kinds ++ kinds)[i]? with
      | none => rw [e] at hx; cases hx
      | some m => rw [e] at hx; exact ⟨m, rfl, (Option.some.inj hx).symm⟩
    have hk : kind ∈ kinds := (List.mem_append.mp (List.mem_of_getElem? hkm)).elim id id
    have hi20 : i < 20 := by
      rw [List.length_map] at hi
      exact hi
    -- drawn, bent
    refine ⟨_, rfl, _, rfl, _, rfl, _, rfl, _, rfl, by show 1 ≤ sizeLine; decide, fun kk hkk => ?_⟩
    have s9 := same_upd0 (o := .lst [.str kind]) hkk
    refine ⟨p, l, cr, kk, cc, n8, g8, kind, z1, z2, rfl, pen8.same s9, by omega, hk, upd_same, pen8.ne hkk, s9 _ _ hcr8, ncp, i1, i2, fun xs tr n10 g10 G10 hflat hn10 off10 pen10 htr => ?_⟩
    refine ⟨p, l, tr, cc, n10, g10, kind, xs, rfl, pen10, by omega, hk, htr, hflat, fun lv du tt sl n11 g11 G11 hn11 off11 pen11 htt hsl nsp hmap hvs hdue => ?_⟩
    have offA : Off p G' G11 := (offS s9).trans (off10.trans off11)
    have t11 := tabs_off pen8.pen t8 offA
    have hkl11 := offA _ _ nkp hkl8
    have hcr11 := offA _ _ ncp hcr8
    refine ⟨tt, _, rfl, SqT.of htt, rfl, _, _, rfl, _, _, rfl, rfl, ?_⟩
    clear offA off10 off11 s9 hkk htr pen10 htt pen8 t8 hkl8 hcr8
    have hlen : (lv.map Prod.fst).length = (formsOf kind).length := by rw [List.length_map, ← hmap, List.length_map]
    have hzip : (lv.map Prod.fst).zip (formsOf kind) = lv := by rw [← hmap, zip_fs]
    -- heard
    refine ⟨fun v G12 => ∃ (r : Addr) (wd : Str) (u : V), v = .ref r ∧ ExtN G11 G12 ∧ Tabs [(P0, qn)] G12 ∧ G12 r = some (.tup [.str wd, u]) ∧ ((badW lv = none ∧ wd = "told" ∧ u = .str kind) ∨ badW lv = some (wd, u)), ⟨by rw [hqn] at t11; exact t11, fun G12 x12 t12 => ?_⟩, ?_⟩
    · replace t12 : Tabs [(P0, qn)] G12 := by rw [hqn]; exact t12
      have hsl12 := x12 _ _ hsl lst_ne
      refine ⟨_, rfl, sl, kind, lv.map Prod.fst, rfl, hsl12, hk, hlen, fun y hy => ?_, ?_⟩
      · obtain ⟨q2, hq2, rfl⟩ := List.mem_map.mp hy
        obtain ⟨d, h⟩ := hvs q2 hq2
        exact (h.extN x12).gv
      rw [hzip]
      obtain ⟨b1, b2⟩ := badW_bad (CN := CN) (CM := CM) (CS := CS) (l := lv)
      refine ⟨fun gd G13 a2 C2 dx fs s13 cl nk ha lk => ?_, fun C2 fl v hb d G13 s13 hd => ?_⟩
      · refine ⟨a2, C2, dx, fs, _, rfl, ha, cl, nk, lk, fun t ht => ⟨t, "told", .str kind, rfl, x12.trans (extN_of (s13.trans (same_upd0 ht))), tabs_same t12 (s13.trans (same_upd0 ht)), upd_same, .inl ⟨?_, rfl, rfl⟩⟩⟩
        cases e : badW lv with
        | none => rfl
        | some y =>
          obtain ⟨wd, u⟩ := y
          obtain ⟨C3, fl3, e3, _⟩ := b2 wd u e
          rw [gd] at e3
          cases e3
      · cases e : badW lv with
        | none =>
          rw [b1 e] at hb
          cases hb
        | some y =>
          obtain ⟨wd, u⟩ := y
          obtain ⟨C3, fl3, e3, kd⟩ := b2 wd u e
          rw [hb] at e3
          injection e3 with e3
          injection e3 with e4 e5
          injection e5 with e5 e6
          subst e4 e5 e6
          exact ⟨wd, C2, fl, v, d, kd, rfl, rfl, hd, fun G14 r s14 hr => ⟨r, wd, v, rfl, x12.trans (extN_of (s13.trans s14)), tabs_same t12 (s13.trans s14), hr, .inr rfl⟩⟩
    rintro _ G12 ⟨r, wd, u, rfl, x12, t12, hr12, hcase⟩
    have pen12 := pen11.ext x12
    have hkl12 := x12 _ _ hkl11 lst_ne
    have hcr12 := x12 _ _ hcr11 lst_ne
    obtain ⟨du', ⟨ok1, hu⟩, okw⟩ : ∃ d : PyData, (OkD 3000 12 d ∧ ∀ G', Same G12 G' → Dd K G' u d) ∧ OkD 3000 12 (.str wd) := by
      rcases hcase with ⟨_, rfl, rfl⟩ | e
      · exact ⟨.str kind, ⟨kind_ok kind hk, fun _ _ => .str _⟩, word_ok (by decide +kernel)⟩
      · obtain ⟨⟨f', m⟩, o⟩ := badW_mem e
        obtain ⟨d, h⟩ := hvs _ m
        exact ⟨d, ⟨h.ok, fun G' s => ((h.extN x12).same s).dd⟩, o⟩
    have okT : (PyData.tuple [.str wd, du']).showable = true ∧ (PyData.tuple [.str wd, du']).depth ≤ 60 ∧ (PyData.tuple [.str wd, du']).shown.length ≤ sizeLine := (OkD.tuple (n := 3000) (m := 12) (ds := [.str wd, du']) fun d hd => by
      simp only [List.mem_cons, List.not_mem_nil, or_false] at hd
      rcases hd with h | h <;> subst h
      · exact okw
      · exact ok1).repr (by decide) (by show 3000 * 2 + 2 * 2 + 3 ≤ 16777216; decide)
    refine ⟨_, rfl, _, _, rfl, .tup (SqT.of hr12) (.cons (.str _) (.cons (hu _ (Same.refl _)) .nil)), okT.1, okT.2.1, okT.2.2, ?_⟩
    refine ⟨fun v G13 => ∃ r2, v = .ref r2 ∧ Same G12 G13 ∧ G13 r2 = some (.tup [.str wd, u]), ⟨_, rfl, rfl, _, rfl, ?_⟩, ?_⟩
    · rcases hdue with ⟨e1, rfl⟩ | ⟨wd', v', td, e1, rfl, htd⟩
      · rcases hcase with ⟨_, rfl, rfl⟩ | e2
        · exact ite2 (fun z => absurd z (by simp)) (fun _ => ⟨_, rfl, by show 2 ≤ sizeLine; decide, fun r2 hr2 => ⟨r2, rfl, same_upd0 hr2, upd_same⟩⟩)
        · rw [e1] at e2
          cases e2
      · rcases hcase with ⟨e2, _⟩ | e2
        · rw [e1] at e2
          cases e2
        · rw [e1] at e2
          injection e2 with e2
          injection e2 with e3 e4
          subst e3 e4
          exact ite2 (fun _ => ⟨_, rfl, td, rfl, Same.refl _, x12 _ _ htd tup_ne⟩) (fun z => absurd (by simp) z)
    rintro _ G13 ⟨r2, rfl, s13, hr13⟩
    refine ⟨_, _, rfl, .tup (SqT.of hr13) (.cons (.str _) (.cons (hu _ s13) .nil)), okT.1, okT.2.1, okT.2.2, rfl, _, rfl, ite2 (fun e => absurd e (by simp)) (fun _ => ?_)⟩
    exact ⟨_, _, _, _, n11, g11, rfl, pen12.same s13, by omega, tabs_same t12 s13, s13 _ _ hkl12, s13 _ _ hcr12⟩
end
end K12

namespace K12
open PySem PySem.Spec PyProof.Rows L2 So LamX
section
variable {K : PySem.W.Frag}
theorem exm_own {D S : Addr} (h2 : PySem.W.isClsIn K S = true) (h3 : PySem.W.typeIn K (.ref S) = some (.type "type")) (h1 : PySem.W.subIn K (.ref S) (.type "BaseException") = some true) (h4 : PySem.W.subIn K (.ref D) (.ref S) = some true) (_ : PySem.W.subIn K (.ref S) (.ref S) = some true) : PySem.W.exmOne K (.ref D) (.ref S) = some true := by
  unfold PySem.W.exmOne PySem.W.kitCls
  unfold PySem.W.isClsIn at h2
  simp [h1, h2, h3, h4]
theorem tab_by {x : Str} {f c P : Addr} {o1 u1 : Value} {o2 u2 : Option Addr} {o3 u3 : Array (Option Value)} {fd : FuncData} {vs : Array Value} (a : PySem.W.nsIn K mainGlobals x = some (some (.ref f))) (l : K.lookup f = some ⟨o1, o2, .func fd, o3⟩) (hc : fd.code = .ref c)
    (lc : K.lookup c = some ⟨u1, u2, .fields vs, u3⟩) (hv : (vs[11]? : Option Value) = some (.ref P)) : PySem.W.tabIn K x = some (c, P) := by
  unfold PySem.W.tabIn
  rw [a]
  simp only [l, hc, lc, hv]
theorem kit_VE {D : Addr} (h : PySem.W.subIn K (.ref D) (.type "ValueError") = some true) : PySem.W.kitOne K (.ref D) (.type "ValueError") = some true := by
  unfold PySem.W.kitOne PySem.W.kitCls
  have e : PySem.W.kitMeta "ValueError" = true := by decide +kernel
  simp [h, e]
theorem kit_own {D C : Addr} {b : Bool} (hc : PySem.W.isClsIn K C = true) (ht : PySem.W.typeIn K (.ref C) = some (.type "type")) (hs : PySem.W.subIn K (.ref D) (.ref C) = some b) (self : PySem.W.subIn K (.ref C) (.ref C) = some true) : PySem.W.kitOne K (.ref D) (.ref C) = some b := by
  by_cases e : D = C
  · subst e
    rw [self] at hs
    rw [kit_self, hs]
  · unfold PySem.W.kitOne PySem.W.kitCls
    unfold PySem.W.isClsIn at hc
    simp [hc, ht, hs, e]
end
def strOf? : Value → Option Str
  | .str x _ => some x
  | _ => none
theorem vals_strs : ∀ {ss : List Str} {us : List Value}, us.map strOf? = ss.map some → Vals (ss.map V.str) us
  | [], [], _ => .nil
  | [], _ :: _, h => by simp at h
  | _ :: _, [], h => by simp at h
  | x :: ss, u :: us, h => by
    simp only [List.map_cons, List.cons.injEq] at h
    refine .cons ?_ (vals_strs h.2)
    cases u <;> simp [strOf?] at h
    rename_i y t
    exact ⟨t, by rw [h.1]⟩
theorem tab_seq {K : PySem.W.Frag} {a : Addr} {od : Option Addr} {its : Array Value} {n : Nat} {sl : Array (Option Value)} {ss : List Str} (l : K.lookup a = some ⟨.type "tuple", od, .seq its n, sl⟩) (v : its.toList.map strOf? = ss.map some) (hz : ss.length ≤ 1000) (H : Hp) : SqT K H a (ss.map V.str) := by
  have hv := vals_strs v
  refine .inr ⟨_, its, n, l, rfl, rfl, ?_, hv⟩
  have := hv.length
  rw [List.length_map] at this
  rw [← Array.length_toList, ← this]
  exact Nat.le_trans hz (by decide)
theorem all_mk {l : PySem.W.OpenLaw} {w : World} {K : PySem.W.Frag} {h : Heap} {mg : Str → Option Value} {fa c0 P0 fpen fdraw fpick fwords flname foddn foddm ftick flkinds fdrawn flmade fheard flforms fbent flaw fwhole fmoment fisname fcheck fchecked C_begun fbegun C_setby fsetby C_found ffound C_trusted ftrusted C_passed fpassed C_failed ffailed C_agreed fagreed ccagreed cdaagreed fmeet C_differed fdiffered ccdiffered cdadiffered C_served fserved ccserved cdaserved C_backed fbacked ccbacked cdabacked aNo aF t_begun t_setby t_found t_trusted t_passed t_failed t_agreed t_differed t_served t_backed CT CN feN CM feM CS feS : Addr} (X : K.In h) (G : h.Ns mainGlobals mg) (hfa : mg "law" = some (.ref fa))
    {odpen anpen oddraw andraw odpick anpick odwords anwords odlname anlname ododdn anoddn ododdm anoddm odtick antick odlkinds anlkinds oddrawn andrawn odlmade anlmade odheard anheard odlforms anlforms odbent anbent odlaw anlaw odwhole anwhole odmoment anmoment odisname anisname odcheck ancheck odchecked anchecked odbegun anbegun odsetby ansetby odfound anfound odtrusted antrusted odpassed anpassed odfailed anfailed odagreed anagreed cldagreed cddagreed odmeet anmeet oddiffered andiffered clddiffered cdddiffered odserved anserved cldserved cddserved odbacked anbacked cldbacked cddbacked odN odtbegun odtsetby odtfound odttrusted odtpassed odtfailed odtagreed odtdiffered odtserved odtbacked odeN aneN odeM aneM odeS aneS odcode : Option Addr} {slpen sldraw slpick slwords sllname sloddn sloddm sltick sllkinds sldrawn sllmade slheard sllforms slbent sllaw slwhole slmoment slisname slcheck slchecked slbegun slsetby slfound sltrusted slpassed slfailed slagreed cslagreed ccsagreed slmeet sldiffered csldiffered ccsdiffered slserved cslserved ccsserved slbacked cslbacked ccsbacked slN sltbegun sltsetby sltfound slttrusted sltpassed sltfailed sltagreed sltdiffered sltserved sltbacked sleN sleM sleS slcode : Array (Option Value)} {ocpen kVpen dcpen pmpen ctpen cdpen ocdraw kVdraw dcdraw pmdraw ctdraw cddraw ocpick kVpick dcpick pmpick ctpick cdpick ocwords kVwords dcwords pmwords ctwords cdwords oclname kVlname dclname pmlname ctlname cdlname ocoddn kVoddn dcoddn pmoddn ctoddn cdoddn ocoddm kVoddm dcoddm pmoddm ctoddm cdoddm octick kVtick dctick pmtick cttick cdtick oclkinds kVlkinds dclkinds pmlkinds ctlkinds cdlkinds ocdrawn kVdrawn dcdrawn pmdrawn ctdrawn cddrawn oclmade kVlmade dclmade pmlmade ctlmade cdlmade ocheard kVheard dcheard pmheard ctheard cdheard oclforms kVlforms dclforms pmlforms ctlforms cdlforms ocbent kVbent dcbent pmbent ctbent cdbent oclaw kVlaw dclaw pmlaw ctlaw ocwhole kVwhole dcwhole pmwhole ctwhole cdwhole ocmoment kVmoment dcmoment pmmoment ctmoment cdmoment ocisname kVisname dcisname pmisname ctisname cdisname occheck kVcheck dccheck pmcheck ctcheck cdcheck occhecked kVchecked dcchecked pmchecked ctchecked cdchecked ocbegun kVbegun dcbegun pmbegun ctbegun cdbegun ocsetby kVsetby dcsetby pmsetby ctsetby cdsetby ocfound kVfound dcfound pmfound ctfound cdfound octrusted kVtrusted dctrusted pmtrusted cttrusted cdtrusted ocpassed kVpassed dcpassed pmpassed ctpassed cdpassed ocfailed kVfailed dcfailed pmfailed ctfailed cdfailed ocagreed kVagreed dcagreed pmagreed ctagreed clagreed cclagreed ocmeet kVmeet dcmeet pmmeet ctmeet cdmeet ocdiffered kVdiffered dcdiffered pmdiffered ctdiffered cldiffered ccldiffered ocserved kVserved dcserved pmserved ctserved clserved cclserved ocbacked kVbacked dcbacked pmbacked ctbacked clbacked cclbacked oceN kVeN dceN pmeN cteN cdeN oceM kVeM dceM pmeM cteM cdeM oceS kVeS dceS pmeS cteS cdeS occode : Value}  {vscode : Array Value} {tG tL tA tD : Tok} {itsN : Array Value} {nN nF : Nat} {esF : Array DictEntry} {itsbegun itssetby itsfound itstrusted itspassed itsfailed itsagreed itsdiffered itsserved itsbacked : Array Value} {ntbegun ntsetby ntfound nttrusted ntpassed ntfailed ntagreed ntdiffered ntserved ntbacked : Nat} {vsagreed vsdiffered vsserved vsbacked : Array Value} {fileagreed filediffered fileserved filebacked : Str} {tfagreed tfdiffered tfserved tfbacked : Tok} {cd_agreed cd_differed cd_served cd_backed : ClassData} {nmN qN : Str} {NN : Addr} {bsN subN : List Value} {snN : List Str} {abN : Bool} {colN : Option Bool} {ddN : Option Addr} {m0N m1N m2N m3N m5N : Option Value} {nmM qM : Str} {NM : Addr} {bsM subM : List Value} {snM : List Str} {abM : Bool} {colM : Option Bool} {ddM : Option Addr} {m0M m1M m2M m3M m5M : Option Value} {nmS qS : Str} {NS : Addr} {bsS subS : List Value} {snS : List Str} {abS : Bool} {colS : Option Bool} {ddS : Option Addr} {m0S m1S m2S m3S m5S : Option Value}
    (apen : PySem.W.nsIn K mainGlobals "_law_pen" = some (some (.ref fpen)))
    (lpen : K.lookup fpen = some ⟨ocpen, odpen, .func (PySem.W.fnOf "_law_pen" "_law_pen" (defArgs sPen) (defBody sPen) (defScope sPen) .none kVpen dcpen pmpen anpen cdpen ctpen), slpen⟩)
    (cpen : PySem.W.codeIn K cdpen "_law_pen" = true)
    (kpen : PySem.W.keepIn K (.ref fpen) = true)
    (adraw : PySem.W.nsIn K mainGlobals "_law_draw" = some (some (.ref fdraw)))
    (ldraw : K.lookup fdraw = some ⟨ocdraw, oddraw, .func (PySem.W.fnOf "_law_draw" "_law_draw" (defArgs sDraw) (defBody sDraw) (defScope sDraw) .none kVdraw dcdraw pmdraw andraw cddraw ctdraw), sldraw⟩)
    (cdraw : PySem.W.codeIn K cddraw "_law_draw" = true)
    (kdraw : PySem.W.keepIn K (.ref fdraw) = true)
    (apick : PySem.W.nsIn K mainGlobals "_law_pick" = some (some (.ref fpick)))
    (lpick : K.lookup fpick = some ⟨ocpick, odpick, .func (PySem.W.fnOf "_law_pick" "_law_pick" (defArgs sPick) (defBody sPick) (defScope sPick) .none kVpick dcpick pmpick anpick cdpick ctpick), slpick⟩)
    (cpick : PySem.W.codeIn K cdpick "_law_pick" = true)
    (kpick : PySem.W.keepIn K (.ref fpick) = true)
    (awords : PySem.W.nsIn K mainGlobals "_law_words" = some (some (.ref fwords)))
    (lwords : K.lookup fwords = some ⟨ocwords, odwords, .func (PySem.W.fnOf "_law_words" "_law_words" (defArgs sWords) (defBody sWords) (defScope sWords) .none kVwords dcwords pmwords anwords cdwords ctwords), slwords⟩)
    (cwords : PySem.W.codeIn K cdwords "_law_words" = true)
    (kwords : PySem.W.keepIn K (.ref fwords) = true)
    (alname : PySem.W.nsIn K mainGlobals "_law_name" = some (some (.ref flname)))
    (llname : K.lookup flname = some ⟨oclname, odlname, .func (PySem.W.fnOf "_law_name" "_law_name" (defArgs sLName) (defBody sLName) (defScope sLName) .none kVlname dclname pmlname anlname cdlname ctlname), sllname⟩)
    (clname : PySem.W.codeIn K cdlname "_law_name" = true)
    (klname : PySem.W.keepIn K (.ref flname) = true)
    (aoddn : PySem.W.nsIn K mainGlobals "_law_odd_name" = some (some (.ref foddn)))
    (loddn : K.lookup foddn = some ⟨ocoddn, ododdn, .func (PySem.W.fnOf "_law_odd_name" "_law_odd_name" (defArgs sOddN) (defBody sOddN) (defScope sOddN) .none kVoddn dcoddn pmoddn anoddn cdoddn ctoddn), sloddn⟩)
    (coddn : PySem.W.codeIn K cdoddn "_law_odd_name" = true)
    (koddn : PySem.W.keepIn K (.ref foddn) = true)
    (aoddm : PySem.W.nsIn K mainGlobals "_law_odd_tick" = some (some (.ref foddm)))
    (loddm : K.lookup foddm = some ⟨ocoddm, ododdm, .func (PySem.W.fnOf "_law_odd_tick" "_law_odd_tick" (defArgs sOddM) (defBody sOddM) (defScope sOddM) .none kVoddm dcoddm pmoddm anoddm cdoddm ctoddm), sloddm⟩)
    (coddm : PySem.W.codeIn K cdoddm "_law_odd_tick" = true)
    (koddm : PySem.W.keepIn K (.ref foddm) = true)
    (atick : PySem.W.nsIn K mainGlobals "_law_tick" = some (some (.ref ftick)))
    (ltick : K.lookup ftick = some ⟨octick, odtick, .func (PySem.W.fnOf "_law_tick" "_law_tick" (defArgs sTick) (defBody sTick) (defScope sTick) .none kVtick dctick pmtick antick cdtick cttick), sltick⟩)
    (ctick : PySem.W.codeIn K cdtick "_law_tick" = true)
    (ktick : PySem.W.keepIn K (.ref ftick) = true)
    (alkinds : PySem.W.nsIn K mainGlobals "_law_kinds" = some (some (.ref flkinds)))
    (llkinds : K.lookup flkinds = some ⟨oclkinds, odlkinds, .func (PySem.W.fnOf "_law_kinds" "_law_kinds" (defArgs sKinds) (defBody sKinds) (defScope sKinds) .none kVlkinds dclkinds pmlkinds anlkinds cdlkinds ctlkinds), sllkinds⟩)
    (clkinds : PySem.W.codeIn K cdlkinds "_law_kinds" = true)
    (klkinds : PySem.W.keepIn K (.ref flkinds) = true)
    (adrawn : PySem.W.nsIn K mainGlobals "_law_drawn" = some (some (.ref fdrawn)))
    (ldrawn : K.lookup fdrawn = some ⟨ocdrawn, oddrawn, .func (PySem.W.fnOf "_law_drawn" "_law_drawn" (defArgs sDrawn) (defBody sDrawn) (defScope sDrawn) .none kVdrawn dcdrawn pmdrawn andrawn cddrawn ctdrawn), sldrawn⟩)
    (cdrawn : PySem.W.codeIn K cddrawn "_law_drawn" = true)
    (kdrawn : PySem.W.keepIn K (.ref fdrawn) = true)
    (almade : PySem.W.nsIn K mainGlobals "_law_made" = some (some (.ref flmade)))
    (llmade : K.lookup flmade = some ⟨oclmade, odlmade, .func (PySem.W.fnOf "_law_made" "_law_made" (defArgs sMade) (defBody sMade) (defScope sMade) .none kVlmade dclmade pmlmade anlmade cdlmade ctlmade), sllmade⟩)
    (clmade : PySem.W.codeIn K cdlmade "_law_made" = true)
    (klmade : PySem.W.keepIn K (.ref flmade) = true)
    (aheard : PySem.W.nsIn K mainGlobals "_law_heard" = some (some (.ref fheard)))
    (lheard : K.lookup fheard = some ⟨ocheard, odheard, .func (PySem.W.fnOf "_law_heard" "_law_heard" (defArgs sHeard) (defBody sHeard) (defScope sHeard) .none kVheard dcheard pmheard anheard cdheard ctheard), slheard⟩)
    (cheard : PySem.W.codeIn K cdheard "_law_heard" = true)
    (kheard : PySem.W.keepIn K (.ref fheard) = true)
    (alforms : PySem.W.nsIn K mainGlobals "_law_forms" = some (some (.ref flforms)))
    (llforms : K.lookup flforms = some ⟨oclforms, odlforms, .func (PySem.W.fnOf "_law_forms" "_law_forms" (defArgs sForms) (defBody sForms) (defScope sForms) .none kVlforms dclforms pmlforms anlforms cdlforms ctlforms), sllforms⟩)
    (clforms : PySem.W.codeIn K cdlforms "_law_forms" = true)
    (klforms : PySem.W.keepIn K (.ref flforms) = true)
    (abent : PySem.W.nsIn K mainGlobals "_law_bent" = some (some (.ref fbent)))
    (lbent : K.lookup fbent = some ⟨ocbent, odbent, .func (PySem.W.fnOf "_law_bent" "_law_bent" (defArgs sBent) (defBody sBent) (defScope sBent) .none kVbent dcbent pmbent anbent cdbent ctbent), slbent⟩)
    (cbent : PySem.W.codeIn K cdbent "_law_bent" = true)
    (kbent : PySem.W.keepIn K (.ref fbent) = true)
    (alaw : PySem.W.nsIn K mainGlobals "law" = some (some (.ref flaw)))
    (llaw : K.lookup flaw = some ⟨oclaw, odlaw, .func (PySem.W.fnOf "law" "law" (defArgs sLaw) (defBody sLaw) (defScope sLaw) .none kVlaw dclaw pmlaw anlaw (.ref c0) ctlaw), sllaw⟩)
    (claw : PySem.W.codeIn K (.ref c0) "law" = true)
    (klaw : PySem.W.keepIn K (.ref flaw) = true)
    (awhole : PySem.W.nsIn K mainGlobals "is_whole" = some (some (.ref fwhole)))
    (lwhole : K.lookup fwhole = some ⟨ocwhole, odwhole, .func (PySem.W.fnOf "is_whole" "is_whole" (defArgs sWhole) (defBody sWhole) (defScope sWhole) .none kVwhole dcwhole pmwhole anwhole cdwhole ctwhole), slwhole⟩)
    (cwhole : PySem.W.codeIn K cdwhole "is_whole" = true)
    (kwhole : PySem.W.keepIn K (.ref fwhole) = true)
    (amoment : PySem.W.nsIn K mainGlobals "is_moment" = some (some (.ref fmoment)))
    (lmoment : K.lookup fmoment = some ⟨ocmoment, odmoment, .func (PySem.W.fnOf "is_moment" "is_moment" (defArgs sMoment) (defBody sMoment) (defScope sMoment) .none kVmoment dcmoment pmmoment anmoment cdmoment ctmoment), slmoment⟩)
    (cmoment : PySem.W.codeIn K cdmoment "is_moment" = true)
    (kmoment : PySem.W.keepIn K (.ref fmoment) = true)
    (aisname : PySem.W.nsIn K mainGlobals "is_name" = some (some (.ref fisname)))
    (lisname : K.lookup fisname = some ⟨ocisname, odisname, .func (PySem.W.fnOf "is_name" "is_name" (defArgs sName) (defBody sName) (defScope sName) .none kVisname dcisname pmisname anisname cdisname ctisname), slisname⟩)
    (cisname : PySem.W.codeIn K cdisname "is_name" = true)
    (kisname : PySem.W.keepIn K (.ref fisname) = true)
    (acheck : PySem.W.nsIn K mainGlobals "check_form" = some (some (.ref fcheck)))
    (lcheck : K.lookup fcheck = some ⟨occheck, odcheck, .func (PySem.W.fnOf "check_form" "check_form" (defArgs sCheck) (defBody sCheck) (defScope sCheck) .none kVcheck dccheck pmcheck ancheck cdcheck ctcheck), slcheck⟩)
    (ccheck : PySem.W.codeIn K cdcheck "check_form" = true)
    (kcheck : PySem.W.keepIn K (.ref fcheck) = true)
    (achecked : PySem.W.nsIn K mainGlobals "checked" = some (some (.ref fchecked)))
    (lchecked : K.lookup fchecked = some ⟨occhecked, odchecked, .func (PySem.W.fnOf "checked" "checked" (defArgs sChecked) (defBody sChecked) (defScope sChecked) .none kVchecked dcchecked pmchecked anchecked cdchecked ctchecked), slchecked⟩)
    (cchecked : PySem.W.codeIn K cdchecked "checked" = true)
    (kchecked : PySem.W.keepIn K (.ref fchecked) = true)
    (thn : PySem.W.specialIn K (.builtin "object.__class__") "__get__" = some (some (.builtin "getset_descriptor.__get__")))
    (tht : PySem.W.takesIn K (.builtin "object.__class__") = some true)
    (aC_begun : PySem.W.nsIn K mainGlobals "Begun" = some (some (.ref C_begun)))
    (pgC_begun : PySem.W.plainGet K C_begun Str.empty = true)
    (hdC_begun : PySem.W.hasDictIn K C_begun = true)
    (poC_begun : PySem.W.plainOver K C_begun = true)
    (saC_begun : PySem.W.findIn K (.ref C_begun) "__setattr__" = some (some (.builtin "object.__setattr__")))
    (mkC_begun : PySem.W.makesIn K C_begun = true)
    (kcC_begun : PySem.W.keepIn K (.ref C_begun) = true)
    (nC_begun__told : PySem.W.findIn K (.ref C_begun) "_told" = some none)
    (nC_begun_kind : PySem.W.findIn K (.ref C_begun) "kind" = some none)
    (nC_begun_tool : PySem.W.findIn K (.ref C_begun) "tool" = some none)
    (nC_begun_moment : PySem.W.findIn K (.ref C_begun) "moment" = some none)
    (abegun : PySem.W.findIn K (.ref C_begun) "__init__" = some (some (.ref fbegun)))
    (ibegun : PySem.W.isFn K (.ref fbegun) = true)
    (lbegun : K.lookup fbegun = some ⟨ocbegun, odbegun, .func (PySem.W.fnOf "__init__" "Begun.__init__" (defArgs sBegun) (defBody sBegun) (defScope sBegun) .none kVbegun dcbegun pmbegun anbegun cdbegun ctbegun), slbegun⟩)
    (cbegun : PySem.W.codeIn K cdbegun "Begun.__init__" = true)
    (kbegun : PySem.W.keepIn K (.ref fbegun) = true)
    (aC_setby : PySem.W.nsIn K mainGlobals "SetBy" = some (some (.ref C_setby)))
    (pgC_setby : PySem.W.plainGet K C_setby Str.empty = true)
    (hdC_setby : PySem.W.hasDictIn K C_setby = true)
    (poC_setby : PySem.W.plainOver K C_setby = true)
    (saC_setby : PySem.W.findIn K (.ref C_setby) "__setattr__" = some (some (.builtin "object.__setattr__")))
    (mkC_setby : PySem.W.makesIn K C_setby = true)
    (kcC_setby : PySem.W.keepIn K (.ref C_setby) = true)
    (nC_setby__told : PySem.W.findIn K (.ref C_setby) "_told" = some none)
    (nC_setby_kind : PySem.W.findIn K (.ref C_setby) "kind" = some none)
    (nC_setby_tool : PySem.W.findIn K (.ref C_setby) "tool" = some none)
    (nC_setby_moment : PySem.W.findIn K (.ref C_setby) "moment" = some none)
    (nC_setby_by : PySem.W.findIn K (.ref C_setby) "by" = some none)
    (asetby : PySem.W.findIn K (.ref C_setby) "__init__" = some (some (.ref fsetby)))
    (isetby : PySem.W.isFn K (.ref fsetby) = true)
    (lsetby : K.lookup fsetby = some ⟨ocsetby, odsetby, .func (PySem.W.fnOf "__init__" "SetBy.__init__" (defArgs sSetBy) (defBody sSetBy) (defScope sSetBy) .none kVsetby dcsetby pmsetby ansetby cdsetby ctsetby), slsetby⟩)
    (csetby : PySem.W.codeIn K cdsetby "SetBy.__init__" = true)
    (ksetby : PySem.W.keepIn K (.ref fsetby) = true)
    (aC_found : PySem.W.nsIn K mainGlobals "Found" = some (some (.ref C_found)))
    (pgC_found : PySem.W.plainGet K C_found Str.empty = true)
    (hdC_found : PySem.W.hasDictIn K C_found = true)
    (poC_found : PySem.W.plainOver K C_found = true)
    (saC_found : PySem.W.findIn K (.ref C_found) "__setattr__" = some (some (.builtin "object.__setattr__")))
    (mkC_found : PySem.W.makesIn K C_found = true)
    (kcC_found : PySem.W.keepIn K (.ref C_found) = true)
    (nC_found__told : PySem.W.findIn K (.ref C_found) "_told" = some none)
    (nC_found_kind : PySem.W.findIn K (.ref C_found) "kind" = some none)
    (nC_found_tool : PySem.W.findIn K (.ref C_found) "tool" = some none)
    (nC_found_moment : PySem.W.findIn K (.ref C_found) "moment" = some none)
    (nC_found_is_sound : PySem.W.findIn K (.ref C_found) "is_sound" = some none)
    (afound : PySem.W.findIn K (.ref C_found) "__init__" = some (some (.ref ffound)))
    (ifound : PySem.W.isFn K (.ref ffound) = true)
    (lfound : K.lookup ffound = some ⟨ocfound, odfound, .func (PySem.W.fnOf "__init__" "Found.__init__" (defArgs sFound) (defBody sFound) (defScope sFound) .none kVfound dcfound pmfound anfound cdfound ctfound), slfound⟩)
    (cfound : PySem.W.codeIn K cdfound "Found.__init__" = true)
    (kfound : PySem.W.keepIn K (.ref ffound) = true)
    (aC_trusted : PySem.W.nsIn K mainGlobals "Trusted" = some (some (.ref C_trusted)))
    (pgC_trusted : PySem.W.plainGet K C_trusted Str.empty = true)
    (hdC_trusted : PySem.W.hasDictIn K C_trusted = true)
    (poC_trusted : PySem.W.plainOver K C_trusted = true)
    (saC_trusted : PySem.W.findIn K (.ref C_trusted) "__setattr__" = some (some (.builtin "object.__setattr__")))
    (mkC_trusted : PySem.W.makesIn K C_trusted = true)
    (kcC_trusted : PySem.W.keepIn K (.ref C_trusted) = true)
    (nC_trusted__told : PySem.W.findIn K (.ref C_trusted) "_told" = some none)
    (nC_trusted_kind : PySem.W.findIn K (.ref C_trusted) "kind" = some none)
    (nC_trusted_tool : PySem.W.findIn K (.ref C_trusted) "tool" = some none)
    (atrusted : PySem.W.findIn K (.ref C_trusted) "__init__" = some (some (.ref ftrusted)))
    (itrusted : PySem.W.isFn K (.ref ftrusted) = true)
    (ltrusted : K.lookup ftrusted = some ⟨octrusted, odtrusted, .func (PySem.W.fnOf "__init__" "Trusted.__init__" (defArgs sTrusted) (defBody sTrusted) (defScope sTrusted) .none kVtrusted dctrusted pmtrusted antrusted cdtrusted cttrusted), sltrusted⟩)
    (ctrusted : PySem.W.codeIn K cdtrusted "Trusted.__init__" = true)
    (ktrusted : PySem.W.keepIn K (.ref ftrusted) = true)
    (aC_passed : PySem.W.nsIn K mainGlobals "Passed" = some (some (.ref C_passed)))
    (pgC_passed : PySem.W.plainGet K C_passed Str.empty = true)
    (hdC_passed : PySem.W.hasDictIn K C_passed = true)
    (poC_passed : PySem.W.plainOver K C_passed = true)
    (saC_passed : PySem.W.findIn K (.ref C_passed) "__setattr__" = some (some (.builtin "object.__setattr__")))
    (mkC_passed : PySem.W.makesIn K C_passed = true)
    (kcC_passed : PySem.W.keepIn K (.ref C_passed) = true)
    (nC_passed__told : PySem.W.findIn K (.ref C_passed) "_told" = some none)
    (nC_passed_kind : PySem.W.findIn K (.ref C_passed) "kind" = some none)
    (nC_passed_tool : PySem.W.findIn K (.ref C_passed) "tool" = some none)
    (nC_passed_moment : PySem.W.findIn K (.ref C_passed) "moment" = some none)
    (nC_passed_by : PySem.W.findIn K (.ref C_passed) "by" = some none)
    (apassed : PySem.W.findIn K (.ref C_passed) "__init__" = some (some (.ref fpassed)))
    (ipassed : PySem.W.isFn K (.ref fpassed) = true)
    (lpassed : K.lookup fpassed = some ⟨ocpassed, odpassed, .func (PySem.W.fnOf "__init__" "Passed.__init__" (defArgs sPassed) (defBody sPassed) (defScope sPassed) .none kVpassed dcpassed pmpassed anpassed cdpassed ctpassed), slpassed⟩)
    (cpassed : PySem.W.codeIn K cdpassed "Passed.__init__" = true)
    (kpassed : PySem.W.keepIn K (.ref fpassed) = true)
    (aC_failed : PySem.W.nsIn K mainGlobals "Failed" = some (some (.ref C_failed)))
    (pgC_failed : PySem.W.plainGet K C_failed Str.empty = true)
    (hdC_failed : PySem.W.hasDictIn K C_failed = true)
    (poC_failed : PySem.W.plainOver K C_failed = true)
    (saC_failed : PySem.W.findIn K (.ref C_failed) "__setattr__" = some (some (.builtin "object.__setattr__")))
    (mkC_failed : PySem.W.makesIn K C_failed = true)
    (kcC_failed : PySem.W.keepIn K (.ref C_failed) = true)
    (nC_failed__told : PySem.W.findIn K (.ref C_failed) "_told" = some none)
    (nC_failed_kind : PySem.W.findIn K (.ref C_failed) "kind" = some none)
    (nC_failed_tool : PySem.W.findIn K (.ref C_failed) "tool" = some none)
    (nC_failed_moment : PySem.W.findIn K (.ref C_failed) "moment" = some none)
    (nC_failed_by : PySem.W.findIn K (.ref C_failed) "by" = some none)
    (afailed : PySem.W.findIn K (.ref C_failed) "__init__" = some (some (.ref ffailed)))
    (ifailed : PySem.W.isFn K (.ref ffailed) = true)
    (lfailed : K.lookup ffailed = some ⟨ocfailed, odfailed, .func (PySem.W.fnOf "__init__" "Failed.__init__" (defArgs sFailed) (defBody sFailed) (defScope sFailed) .none kVfailed dcfailed pmfailed anfailed cdfailed ctfailed), slfailed⟩)
    (cfailed : PySem.W.codeIn K cdfailed "Failed.__init__" = true)
    (kfailed : PySem.W.keepIn K (.ref ffailed) = true)
    (aC_agreed : PySem.W.nsIn K mainGlobals "Agreed" = some (some (.ref C_agreed)))
    (pgC_agreed : PySem.W.plainGet K C_agreed Str.empty = true)
    (hdC_agreed : PySem.W.hasDictIn K C_agreed = true)
    (poC_agreed : PySem.W.plainOver K C_agreed = true)
    (saC_agreed : PySem.W.findIn K (.ref C_agreed) "__setattr__" = some (some (.builtin "object.__setattr__")))
    (mkC_agreed : PySem.W.makesIn K C_agreed = true)
    (kcC_agreed : PySem.W.keepIn K (.ref C_agreed) = true)
    (nC_agreed__told : PySem.W.findIn K (.ref C_agreed) "_told" = some none)
    (nC_agreed_kind : PySem.W.findIn K (.ref C_agreed) "kind" = some none)
    (nC_agreed_one : PySem.W.findIn K (.ref C_agreed) "one" = some none)
    (nC_agreed_moment : PySem.W.findIn K (.ref C_agreed) "moment" = some none)
    (nC_agreed_other : PySem.W.findIn K (.ref C_agreed) "other" = some none)
    (nC_agreed_later : PySem.W.findIn K (.ref C_agreed) "later" = some none)
    (aagreed : PySem.W.findIn K (.ref C_agreed) "__init__" = some (some (.ref fagreed)))
    (iagreed : PySem.W.isFn K (.ref fagreed) = true)
    (lagreed : K.lookup fagreed = some ⟨ocagreed, odagreed, .func (PySem.W.ksFn "__init__" "Agreed.__init__" (defArgs sAgreed) (defBody sAgreed) (defScope sAgreed) .none kVagreed dcagreed pmagreed anagreed (.ref cdaagreed) ctagreed ccagreed), slagreed⟩)
    (cagreed : PySem.W.codeIn K (.ref cdaagreed) "Agreed.__init__" = true)
    (kagreed : PySem.W.keepIn K (.ref fagreed) = true)
    (eagreed : K.lookup ccagreed = some ⟨clagreed, cldagreed, .cell (some (.ref C_agreed)), cslagreed⟩)
    (dagreed : K.lookup cdaagreed = some ⟨cclagreed, cddagreed, .fields vsagreed, ccsagreed⟩)
    (vagreed : (vsagreed[2]? : Option Value) = some (.str fileagreed tfagreed))
    (wagreed : ((l.prog.main.file : Str) == fileagreed) = true)
    (yagreed : PySem.W.mroIn K C_agreed (.ref C_agreed) = some true)
    (zagreed : PySem.W.clsIn K C_agreed = some cd_agreed)
    (xagreed : PySem.W.ks_superIn K C_agreed C_agreed "__init__" = some (some (.ref fmeet)))
    (lmeet : K.lookup fmeet = some ⟨ocmeet, odmeet, .func (PySem.W.fnOf "__init__" "Meeting.__init__" (defArgs sMeeting) (defBody sMeeting) (defScope sMeeting) .none kVmeet dcmeet pmmeet anmeet cdmeet ctmeet), slmeet⟩)
    (cmeet : PySem.W.codeIn K cdmeet "Meeting.__init__" = true)
    (kmeet : PySem.W.keepIn K (.ref fmeet) = true)
    (tmeet : PySem.W.typeIn K (.ref fmeet) = some (.type "function"))
    (fnmeet : PySem.W.fnIn K fmeet = true)
    (aC_differed : PySem.W.nsIn K mainGlobals "Differed" = some (some (.ref C_differed)))
    (pgC_differed : PySem.W.plainGet K C_differed Str.empty = true)
    (hdC_differed : PySem.W.hasDictIn K C_differed = true)
    (poC_differed : PySem.W.plainOver K C_differed = true)
    (saC_differed : PySem.W.findIn K (.ref C_differed) "__setattr__" = some (some (.builtin "object.__setattr__")))
    (mkC_differed : PySem.W.makesIn K C_differed = true)
    (kcC_differed : PySem.W.keepIn K (.ref C_differed) = true)
    (nC_differed__told : PySem.W.findIn K (.ref C_differed) "_told" = some none)
    (nC_differed_kind : PySem.W.findIn K (.ref C_differed) "kind" = some none)
    (nC_differed_one : PySem.W.findIn K (.ref C_differed) "one" = some none)
    (nC_differed_moment : PySem.W.findIn K (.ref C_differed) "moment" = some none)
    (nC_differed_other : PySem.W.findIn K (.ref C_differed) "other" = some none)
    (nC_differed_later : PySem.W.findIn K (.ref C_differed) "later" = some none)
    (adiffered : PySem.W.findIn K (.ref C_differed) "__init__" = some (some (.ref fdiffered)))
    (idiffered : PySem.W.isFn K (.ref fdiffered) = true)
    (ldiffered : K.lookup fdiffered = some ⟨ocdiffered, oddiffered, .func (PySem.W.ksFn "__init__" "Differed.__init__" (defArgs sDiffered) (defBody sDiffered) (defScope sDiffered) .none kVdiffered dcdiffered pmdiffered andiffered (.ref cdadiffered) ctdiffered ccdiffered), sldiffered⟩)
    (cdiffered : PySem.W.codeIn K (.ref cdadiffered) "Differed.__init__" = true)
    (kdiffered : PySem.W.keepIn K (.ref fdiffered) = true)
    (ediffered : K.lookup ccdiffered = some ⟨cldiffered, clddiffered, .cell (some (.ref C_differed)), csldiffered⟩)
    (ddiffered : K.lookup cdadiffered = some ⟨ccldiffered, cdddiffered, .fields vsdiffered, ccsdiffered⟩)
    (vdiffered : (vsdiffered[2]? : Option Value) = some (.str filediffered tfdiffered))
    (wdiffered : ((l.prog.main.file : Str) == filediffered) = true)
    (ydiffered : PySem.W.mroIn K C_differed (.ref C_differed) = some true)
    (zdiffered : PySem.W.clsIn K C_differed = some cd_differed)
    (xdiffered : PySem.W.ks_superIn K C_differed C_differed "__init__" = some (some (.ref fmeet)))
    (aC_served : PySem.W.nsIn K mainGlobals "Served" = some (some (.ref C_served)))
    (pgC_served : PySem.W.plainGet K C_served Str.empty = true)
    (hdC_served : PySem.W.hasDictIn K C_served = true)
    (poC_served : PySem.W.plainOver K C_served = true)
    (saC_served : PySem.W.findIn K (.ref C_served) "__setattr__" = some (some (.builtin "object.__setattr__")))
    (mkC_served : PySem.W.makesIn K C_served = true)
    (kcC_served : PySem.W.keepIn K (.ref C_served) = true)
    (nC_served__told : PySem.W.findIn K (.ref C_served) "_told" = some none)
    (nC_served_kind : PySem.W.findIn K (.ref C_served) "kind" = some none)
    (nC_served_one : PySem.W.findIn K (.ref C_served) "one" = some none)
    (nC_served_moment : PySem.W.findIn K (.ref C_served) "moment" = some none)
    (nC_served_other : PySem.W.findIn K (.ref C_served) "other" = some none)
    (nC_served_later : PySem.W.findIn K (.ref C_served) "later" = some none)
    (aserved : PySem.W.findIn K (.ref C_served) "__init__" = some (some (.ref fserved)))
    (iserved : PySem.W.isFn K (.ref fserved) = true)
    (lserved : K.lookup fserved = some ⟨ocserved, odserved, .func (PySem.W.ksFn "__init__" "Served.__init__" (defArgs sServed) (defBody sServed) (defScope sServed) .none kVserved dcserved pmserved anserved (.ref cdaserved) ctserved ccserved), slserved⟩)
    (cserved : PySem.W.codeIn K (.ref cdaserved) "Served.__init__" = true)
    (kserved : PySem.W.keepIn K (.ref fserved) = true)
    (eserved : K.lookup ccserved = some ⟨clserved, cldserved, .cell (some (.ref C_served)), cslserved⟩)
    (dserved : K.lookup cdaserved = some ⟨cclserved, cddserved, .fields vsserved, ccsserved⟩)
    (vserved : (vsserved[2]? : Option Value) = some (.str fileserved tfserved))
    (wserved : ((l.prog.main.file : Str) == fileserved) = true)
    (yserved : PySem.W.mroIn K C_served (.ref C_served) = some true)
    (zserved : PySem.W.clsIn K C_served = some cd_served)
    (xserved : PySem.W.ks_superIn K C_served C_served "__init__" = some (some (.ref fmeet)))
    (aC_backed : PySem.W.nsIn K mainGlobals "Backed" = some (some (.ref C_backed)))
    (pgC_backed : PySem.W.plainGet K C_backed Str.empty = true)
    (hdC_backed : PySem.W.hasDictIn K C_backed = true)
    (poC_backed : PySem.W.plainOver K C_backed = true)
    (saC_backed : PySem.W.findIn K (.ref C_backed) "__setattr__" = some (some (.builtin "object.__setattr__")))
    (mkC_backed : PySem.W.makesIn K C_backed = true)
    (kcC_backed : PySem.W.keepIn K (.ref C_backed) = true)
    (nC_backed__told : PySem.W.findIn K (.ref C_backed) "_told" = some none)
    (nC_backed_kind : PySem.W.findIn K (.ref C_backed) "kind" = some none)
    (nC_backed_one : PySem.W.findIn K (.ref C_backed) "one" = some none)
    (nC_backed_moment : PySem.W.findIn K (.ref C_backed) "moment" = some none)
    (nC_backed_other : PySem.W.findIn K (.ref C_backed) "other" = some none)
    (nC_backed_later : PySem.W.findIn K (.ref C_backed) "later" = some none)
    (abacked : PySem.W.findIn K (.ref C_backed) "__init__" = some (some (.ref fbacked)))
    (ibacked : PySem.W.isFn K (.ref fbacked) = true)
    (lbacked : K.lookup fbacked = some ⟨ocbacked, odbacked, .func (PySem.W.ksFn "__init__" "Backed.__init__" (defArgs sBacked) (defBody sBacked) (defScope sBacked) .none kVbacked dcbacked pmbacked anbacked (.ref cdabacked) ctbacked ccbacked), slbacked⟩)
    (cbacked : PySem.W.codeIn K (.ref cdabacked) "Backed.__init__" = true)
    (kbacked : PySem.W.keepIn K (.ref fbacked) = true)
    (ebacked : K.lookup ccbacked = some ⟨clbacked, cldbacked, .cell (some (.ref C_backed)), cslbacked⟩)
    (dbacked : K.lookup cdabacked = some ⟨cclbacked, cddbacked, .fields vsbacked, ccsbacked⟩)
    (vbacked : (vsbacked[2]? : Option Value) = some (.str filebacked tfbacked))
    (wbacked : ((l.prog.main.file : Str) == filebacked) = true)
    (ybacked : PySem.W.mroIn K C_backed (.ref C_backed) = some true)
    (zbacked : PySem.W.clsIn K C_backed = some cd_backed)
    (xbacked : PySem.W.ks_superIn K C_backed C_backed "__init__" = some (some (.ref fmeet)))
    (opq : PySem.W.nsIn K PySem.cStatics "thirdparty.any" = some none)
    (tops : (l.prog.main.scope.names.lookup ("super" : Str)).isSome = false)
    (gG : PySem.W.nsIn K mainGlobals "GREATEST" = some (some (.int 1000000000000000000000000000000 tG)))
    (gL : PySem.W.nsIn K mainGlobals "LONGEST_NAME" = some (some (.int 8 tL)))
    (gA : PySem.W.nsIn K mainGlobals "LETTERS" = some (some (.str letters tA)))
    (gD : PySem.W.nsIn K mainGlobals "DIGITS" = some (some (.str digits tD)))
    (gN : PySem.W.nsIn K mainGlobals "NO_NAMES" = some (some (.ref aNo)))
    (lN : K.lookup aNo = some ⟨.type "tuple", odN, .seq itsN nN, slN⟩)
    (vN : itsN.toList.map strOf? = noNames.map some)
    (gF : PySem.W.nsIn K mainGlobals "FORMS" = some (some (.ref aF)))
    (lF : K.lookup aF = some ⟨.type "dict", none, .dict esF nF, #[]⟩)
    (klF : PySem.W.KeysLit w.params esF.toList)
    (gtbegun : PySem.W.nsIn K aF "begun" = some (some (.ref t_begun)))
    (ltbegun : K.lookup t_begun = some ⟨.type "tuple", odtbegun, .seq itsbegun ntbegun, sltbegun⟩)
    (vtbegun : itsbegun.toList.map strOf? = (formsOf "begun").map some)
    (gtsetby : PySem.W.nsIn K aF "setby" = some (some (.ref t_setby)))
    (ltsetby : K.lookup t_setby = some ⟨.type "tuple", odtsetby, .seq itssetby ntsetby, sltsetby⟩)
    (vtsetby : itssetby.toList.map strOf? = (formsOf "setby").map some)
    (gtfound : PySem.W.nsIn K aF "found" = some (some (.ref t_found)))
    (ltfound : K.lookup t_found = some ⟨.type "tuple", odtfound, .seq itsfound ntfound, sltfound⟩)
    (vtfound : itsfound.toList.map strOf? = (formsOf "found").map some)
    (gttrusted : PySem.W.nsIn K aF "trusted" = some (some (.ref t_trusted)))
    (lttrusted : K.lookup t_trusted = some ⟨.type "tuple", odttrusted, .seq itstrusted nttrusted, slttrusted⟩)
    (vttrusted : itstrusted.toList.map strOf? = (formsOf "trusted").map some)
    (gtpassed : PySem.W.nsIn K aF "passed" = some (some (.ref t_passed)))
    (ltpassed : K.lookup t_passed = some ⟨.type "tuple", odtpassed, .seq itspassed ntpassed, sltpassed⟩)
    (vtpassed : itspassed.toList.map strOf? = (formsOf "passed").map some)
    (gtfailed : PySem.W.nsIn K aF "failed" = some (some (.ref t_failed)))
    (ltfailed : K.lookup t_failed = some ⟨.type "tuple", odtfailed, .seq itsfailed ntfailed, sltfailed⟩)
    (vtfailed : itsfailed.toList.map strOf? = (formsOf "failed").map some)
    (gtagreed : PySem.W.nsIn K aF "agreed" = some (some (.ref t_agreed)))
    (ltagreed : K.lookup t_agreed = some ⟨.type "tuple", odtagreed, .seq itsagreed ntagreed, sltagreed⟩)
    (vtagreed : itsagreed.toList.map strOf? = (formsOf "agreed").map some)
    (gtdiffered : PySem.W.nsIn K aF "differed" = some (some (.ref t_differed)))
    (ltdiffered : K.lookup t_differed = some ⟨.type "tuple", odtdiffered, .seq itsdiffered ntdiffered, sltdiffered⟩)
    (vtdiffered : itsdiffered.toList.map strOf? = (formsOf "differed").map some)
    (gtserved : PySem.W.nsIn K aF "served" = some (some (.ref t_served)))
    (ltserved : K.lookup t_served = some ⟨.type "tuple", odtserved, .seq itsserved ntserved, sltserved⟩)
    (vtserved : itsserved.toList.map strOf? = (formsOf "served").map some)
    (gtbacked : PySem.W.nsIn K aF "backed" = some (some (.ref t_backed)))
    (ltbacked : K.lookup t_backed = some ⟨.type "tuple", odtbacked, .seq itsbacked ntbacked, sltbacked⟩)
    (vtbacked : itsbacked.toList.map strOf? = (formsOf "backed").map some)
    (b_isinstance : PySem.W.nsIn K mainGlobals "isinstance" = some none)
    (b_int : PySem.W.nsIn K mainGlobals "int" = some none)
    (b_bool : PySem.W.nsIn K mainGlobals "bool" = some none)
    (b_str : PySem.W.nsIn K mainGlobals "str" = some none)
    (b_len : PySem.W.nsIn K mainGlobals "len" = some none)
    (b_all : PySem.W.nsIn K mainGlobals "all" = some none)
    (b_list : PySem.W.nsIn K mainGlobals "list" = some none)
    (b_abs : PySem.W.nsIn K mainGlobals "abs" = some none)
    (b_range : PySem.W.nsIn K mainGlobals "range" = some none)
    (b_repr : PySem.W.nsIn K mainGlobals "repr" = some none)
    (b_zip : PySem.W.nsIn K mainGlobals "zip" = some none)
    (b_ValueError : PySem.W.nsIn K mainGlobals "ValueError" = some none)
    (b_super : PySem.W.nsIn K mainGlobals "super" = some none)
    (aT : PySem.W.nsIn K mainGlobals "TillError" = some (some (.ref CT)))
    (iT : PySem.W.isClsIn K CT = true)
    (tT : PySem.W.typeIn K (.ref CT) = some (.type "type"))
    (eT : PySem.W.subIn K (.ref CT) (.type "BaseException") = some true)
    (sT : PySem.W.subIn K (.ref CT) (.ref CT) = some true)
    (aN : PySem.W.nsIn K mainGlobals "BadName" = some (some (.ref CN)))
    (xN : K.lookup CN = some (excClassObj nmN qN CN NN bsN [.ref CT, .type "ValueError", .type "Exception", .type "BaseException", .type "object"] true snN subN abN colN ddN m0N m1N m2N m3N m5N "ValueError.__new__"))
    (seN : PySem.W.findIn K (.ref CN) "__setattr__" = some (some (.builtin "object.__setattr__")))
    (geN : PySem.W.findIn K (.ref CN) "__getattribute__" = some (some (.builtin "BaseException.__getattribute__")))
    (heN : PySem.W.findIn K (.ref CN) "__getattr__" = some none)
    (neN : PySem.W.findIn K (.ref CN) "name" = some none)
    (aeN : PySem.W.findIn K (.ref CN) "__init__" = some (some (.ref feN)))
    (teN : PySem.W.typeIn K (.ref feN) = some (.type "function"))
    (leN : K.lookup feN = some ⟨oceN, odeN, .func (PySem.W.fnOf "__init__" "BadName.__init__" (defArgs sEN) (defBody sEN) (defScope sEN) .none kVeN dceN pmeN aneN cdeN cteN), sleN⟩)
    (ceN : PySem.W.codeIn K cdeN "BadName.__init__" = true)
    (keN : PySem.W.keepIn K (.ref feN) = true)
    (kkeN : PySem.W.keepIn K (.ref CN) = true)
    (exeN : PySem.W.subIn K (.ref CN) (.type "BaseException") = some true)
    (tyeN : PySem.W.typeIn K (.ref CN) = some (.type "type"))
    (hdeN : PySem.W.hasDictIn K CN = true)
    (iceN : PySem.W.isClsIn K CN = true)
    (veeN : PySem.W.subIn K (.ref CN) (.type "ValueError") = some true)
    (uteN : PySem.W.subIn K (.ref CN) (.ref CT) = some true)
    (caeN : PySem.W.findIn K (.ref CN) "__class__" = some (some (.builtin "object.__class__")))
    (cmeN : PySem.W.mroIn K CN (.type "object") = some true)
    (aM : PySem.W.nsIn K mainGlobals "BadMoment" = some (some (.ref CM)))
    (xM : K.lookup CM = some (excClassObj nmM qM CM NM bsM [.ref CT, .type "ValueError", .type "Exception", .type "BaseException", .type "object"] true snM subM abM colM ddM m0M m1M m2M m3M m5M "ValueError.__new__"))
    (seM : PySem.W.findIn K (.ref CM) "__setattr__" = some (some (.builtin "object.__setattr__")))
    (geM : PySem.W.findIn K (.ref CM) "__getattribute__" = some (some (.builtin "BaseException.__getattribute__")))
    (heM : PySem.W.findIn K (.ref CM) "__getattr__" = some none)
    (neM : PySem.W.findIn K (.ref CM) "moment" = some none)
    (aeM : PySem.W.findIn K (.ref CM) "__init__" = some (some (.ref feM)))
    (teM : PySem.W.typeIn K (.ref feM) = some (.type "function"))
    (leM : K.lookup feM = some ⟨oceM, odeM, .func (PySem.W.fnOf "__init__" "BadMoment.__init__" (defArgs sEM) (defBody sEM) (defScope sEM) .none kVeM dceM pmeM aneM cdeM cteM), sleM⟩)
    (ceM : PySem.W.codeIn K cdeM "BadMoment.__init__" = true)
    (keM : PySem.W.keepIn K (.ref feM) = true)
    (kkeM : PySem.W.keepIn K (.ref CM) = true)
    (exeM : PySem.W.subIn K (.ref CM) (.type "BaseException") = some true)
    (tyeM : PySem.W.typeIn K (.ref CM) = some (.type "type"))
    (hdeM : PySem.W.hasDictIn K CM = true)
    (iceM : PySem.W.isClsIn K CM = true)
    (veeM : PySem.W.subIn K (.ref CM) (.type "ValueError") = some true)
    (uteM : PySem.W.subIn K (.ref CM) (.ref CT) = some true)
    (caeM : PySem.W.findIn K (.ref CM) "__class__" = some (some (.builtin "object.__class__")))
    (cmeM : PySem.W.mroIn K CM (.type "object") = some true)
    (aS : PySem.W.nsIn K mainGlobals "BadSaying" = some (some (.ref CS)))
    (xS : K.lookup CS = some (excClassObj nmS qS CS NS bsS [.ref CT, .type "ValueError", .type "Exception", .type "BaseException", .type "object"] true snS subS abS colS ddS m0S m1S m2S m3S m5S "ValueError.__new__"))
    (seS : PySem.W.findIn K (.ref CS) "__setattr__" = some (some (.builtin "object.__setattr__")))
    (geS : PySem.W.findIn K (.ref CS) "__getattribute__" = some (some (.builtin "BaseException.__getattribute__")))
    (heS : PySem.W.findIn K (.ref CS) "__getattr__" = some none)
    (neS : PySem.W.findIn K (.ref CS) "value" = some none)
    (aeS : PySem.W.findIn K (.ref CS) "__init__" = some (some (.ref feS)))
    (teS : PySem.W.typeIn K (.ref feS) = some (.type "function"))
    (leS : K.lookup feS = some ⟨oceS, odeS, .func (PySem.W.fnOf "__init__" "BadSaying.__init__" (defArgs sES) (defBody sES) (defScope sES) .none kVeS dceS pmeS aneS cdeS cteS), sleS⟩)
    (ceS : PySem.W.codeIn K cdeS "BadSaying.__init__" = true)
    (keS : PySem.W.keepIn K (.ref feS) = true)
    (kkeS : PySem.W.keepIn K (.ref CS) = true)
    (exeS : PySem.W.subIn K (.ref CS) (.type "BaseException") = some true)
    (tyeS : PySem.W.typeIn K (.ref CS) = some (.type "type"))
    (hdeS : PySem.W.hasDictIn K CS = true)
    (iceS : PySem.W.isClsIn K CS = true)
    (veeS : PySem.W.subIn K (.ref CS) (.type "ValueError") = some true)
    (uteS : PySem.W.subIn K (.ref CS) (.ref CT) = some true)
    (caeS : PySem.W.findIn K (.ref CS) "__class__" = some (some (.builtin "object.__class__")))
    (cmeS : PySem.W.mroIn K CS (.type "object") = some true)
    (uNN : PySem.W.subIn K (.ref CN) (.ref CN) = some true)
    (uNM : PySem.W.subIn K (.ref CN) (.ref CM) = some false)
    (uNS : PySem.W.subIn K (.ref CN) (.ref CS) = some false)
    (uMN : PySem.W.subIn K (.ref CM) (.ref CN) = some false)
    (uMM : PySem.W.subIn K (.ref CM) (.ref CM) = some true)
    (uMS : PySem.W.subIn K (.ref CM) (.ref CS) = some false)
    (uSN : PySem.W.subIn K (.ref CS) (.ref CN) = some false)
    (uSM : PySem.W.subIn K (.ref CS) (.ref CM) = some false)
    (uSS : PySem.W.subIn K (.ref CS) (.ref CS) = some true)
    (lcode : K.lookup c0 = some ⟨occode, odcode, .fields vscode, slcode⟩)
    (vcode : (vscode[11]? : Option Value) = some (.ref P0))
    (nT : K.lookup P0 = none)
    : ∃ (fd : FuncData) (c0 P0 : Addr), PySem.W.tabIn K "law" = some (c0, P0) ∧ K.lookup P0 = none ∧ (∀ (s : Shared) (v : Value), BindsTo s fd ⟨[v], []⟩ [("_law_script", v)]) ∧
      ∀ base : Heap, K.In base → base.Ns mainGlobals mg → TabB base mg c0 P0 → FnG l.prog w K mg base CX0 11 fa fd ["_law_script"] (spLaw K P0) := by
  have e := hfa.symm.trans (PySem.W.mg_of X G alaw)
  cases e
  have g1 := fun {n : Str} {v : Value} (e : PySem.W.nsIn K mainGlobals n = some (some v)) => PySem.W.mg_of X G e
  have g0 := fun {n : Str} (e : PySem.W.nsIn K mainGlobals n = some none) => PySem.W.mg_none_of X G e
  have F_pen := fun_mk (st := sPen) lpen cpen kpen
  have F_draw := fun_mk (st := sDraw) ldraw cdraw kdraw
  have F_pick := fun_mk (st := sPick) lpick cpick kpick
  have F_words := fun_mk (st := sWords) lwords cwords kwords
  have F_lname := fun_mk (st := sLName) llname clname klname
  have F_oddn := fun_mk (st := sOddN) loddn coddn koddn
  have F_oddm := fun_mk (st := sOddM) loddm coddm koddm
  have F_tick := fun_mk (st := sTick) ltick ctick ktick
  have F_lkinds := fun_mk (st := sKinds) llkinds clkinds klkinds
  have F_drawn := fun_mk (st := sDrawn) ldrawn cdrawn kdrawn
  have F_lmade := fun_mk (st := sMade) llmade clmade klmade
  have F_heard := fun_mk (st := sHeard) lheard cheard kheard
  have F_lforms := fun_mk (st := sForms) llforms clforms klforms
  have F_bent := fun_mk (st := sBent) lbent cbent kbent
  have F_law := fun_mk (st := sLaw) llaw claw klaw
  have F_whole := fun_mk (st := sWhole) lwhole cwhole kwhole
  have F_moment := fun_mk (st := sMoment) lmoment cmoment kmoment
  have F_isname := fun_mk (st := sName) lisname cisname kisname
  have F_check := fun_mk (st := sCheck) lcheck ccheck kcheck
  have F_checked := fun_mk (st := sChecked) lchecked cchecked kchecked
  have F_begun := fun_mk (st := sBegun) lbegun cbegun kbegun
  have F_setby := fun_mk (st := sSetBy) lsetby csetby ksetby
  have F_found := fun_mk (st := sFound) lfound cfound kfound
  have F_trusted := fun_mk (st := sTrusted) ltrusted ctrusted ktrusted
  have F_passed := fun_mk (st := sPassed) lpassed cpassed kpassed
  have F_failed := fun_mk (st := sFailed) lfailed cfailed kfailed
  have F_meet := fun_mk (st := sMeeting) lmeet cmeet kmeet
  have F_eN := fun_mk (st := sEN) leN ceN keN
  have F_eM := fun_mk (st := sEM) leM ceM keM
  have F_eS := fun_mk (st := sES) leS ceS keS
  have b_pen_ := F_pen.binds (ps := ["_law_script"]) fun _ _ _ _ _ _ us hl => match us, hl with | [_], _ => rfl
  have b_draw_ := F_draw.binds (ps := ["_law_pen_here", "_law_many"]) fun _ _ _ _ _ _ us hl => match us, hl with | [_, _], _ => rfl
  have b_pick_ := F_pick.binds (ps := ["_law_pen_here", "_law_some"]) fun _ _ _ _ _ _ us hl => match us, hl with | [_, _], _ => rfl
  have b_words_ := F_words.binds (ps := []) fun _ _ _ _ _ _ us hl => match us, hl with | [], _ => rfl
  have b_lname_ := F_lname.binds (ps := ["_law_pen_here"]) fun _ _ _ _ _ _ us hl => match us, hl with | [_], _ => rfl
  have b_oddn_ := F_oddn.binds (ps := ["_law_pen_here"]) fun _ _ _ _ _ _ us hl => match us, hl with | [_], _ => rfl
  have b_oddm_ := F_oddm.binds (ps := ["_law_pen_here"]) fun _ _ _ _ _ _ us hl => match us, hl with | [_], _ => rfl
  have b_tick_ := F_tick.binds (ps := ["_law_pen_here"]) fun _ _ _ _ _ _ us hl => match us, hl with | [_], _ => rfl
  have b_lkinds_ := F_lkinds.binds (ps := []) fun _ _ _ _ _ _ us hl => match us, hl with | [], _ => rfl
  have b_drawn_ := F_drawn.binds (ps := ["_law_pen_here", "_law_crew", "_law_kinds_here"]) fun _ _ _ _ _ _ us hl => match us, hl with | [_, _, _], _ => rfl
  have b_lmade_ := F_lmade.binds (ps := ["_law_row"]) fun _ _ _ _ _ _ us hl => match us, hl with | [_], _ => rfl
  have b_heard_ := F_heard.binds (ps := ["_law_ask"]) fun _ _ _ _ _ _ us hl => match us, hl with | [_], _ => rfl
  have b_lforms_ := F_lforms.binds (ps := ["_law_kind"]) fun _ _ _ _ _ _ us hl => match us, hl with | [_], _ => rfl
  have b_bent_ := F_bent.binds (ps := ["_law_pen_here", "_law_kind", "_law_row"]) fun _ _ _ _ _ _ us hl => match us, hl with | [_, _, _], _ => rfl
  have b_law_ := F_law.binds (ps := ["_law_script"]) fun _ _ _ _ _ _ us hl => match us, hl with | [_], _ => rfl
  have b_whole_ := F_whole.binds (ps := ["value"]) fun _ _ _ _ _ _ us hl => match us, hl with | [_], _ => rfl
  have b_moment_ := F_moment.binds (ps := ["value"]) fun _ _ _ _ _ _ us hl => match us, hl with | [_], _ => rfl
  have b_isname_ := F_isname.binds (ps := ["value"]) fun _ _ _ _ _ _ us hl => match us, hl with | [_], _ => rfl
  have b_check_ := F_check.binds (ps := ["value", "form"]) fun _ _ _ _ _ _ us hl => match us, hl with | [_, _], _ => rfl
  have b_checked_ := F_checked.binds (ps := ["kind", "told"]) fun _ _ _ _ _ _ us hl => match us, hl with | [_, _], _ => rfl
  have b_begun_ := F_begun.binds (ps := ["self", "tool", "moment"]) fun _ _ _ _ _ _ us hl => match us, hl with | [_, _, _], _ => rfl
  have b_setby_ := F_setby.binds (ps := ["self", "tool", "moment", "by"]) fun _ _ _ _ _ _ us hl => match us, hl with | [_, _, _, _], _ => rfl
  have b_found_ := F_found.binds (ps := ["self", "tool", "moment", "is_sound"]) fun _ _ _ _ _ _ us hl => match us, hl with | [_, _, _, _], _ => rfl
  have b_trusted_ := F_trusted.binds (ps := ["self", "tool"]) fun _ _ _ _ _ _ us hl => match us, hl with | [_, _], _ => rfl
  have b_passed_ := F_passed.binds (ps := ["self", "tool", "moment", "by"]) fun _ _ _ _ _ _ us hl => match us, hl with | [_, _, _, _], _ => rfl
  have b_failed_ := F_failed.binds (ps := ["self", "tool", "moment", "by"]) fun _ _ _ _ _ _ us hl => match us, hl with | [_, _, _, _], _ => rfl
  have b_meet_ := F_meet.binds (ps := ["self", "kind", "one", "moment", "other", "later"]) fun _ _ _ _ _ _ us hl => match us, hl with | [_, _, _, _, _, _], _ => rfl
  have b_eN_ := F_eN.binds (ps := ["self", "name"]) fun _ _ _ _ _ _ us hl => match us, hl with | [_, _], _ => rfl
  have b_eM_ := F_eM.binds (ps := ["self", "moment"]) fun _ _ _ _ _ _ us hl => match us, hl with | [_, _], _ => rfl
  have b_eS_ := F_eS.binds (ps := ["self", "value"]) fun _ _ _ _ _ _ us hl => match us, hl with | [_, _], _ => rfl
  have L_C_begun : Cls K C_begun := ⟨pgC_begun, hdC_begun, poC_begun, saC_begun⟩
  have L_C_setby : Cls K C_setby := ⟨pgC_setby, hdC_setby, poC_setby, saC_setby⟩
  have L_C_found : Cls K C_found := ⟨pgC_found, hdC_found, poC_found, saC_found⟩
  have L_C_trusted : Cls K C_trusted := ⟨pgC_trusted, hdC_trusted, poC_trusted, saC_trusted⟩
  have L_C_passed : Cls K C_passed := ⟨pgC_passed, hdC_passed, poC_passed, saC_passed⟩
  have L_C_failed : Cls K C_failed := ⟨pgC_failed, hdC_failed, poC_failed, saC_failed⟩
  have L_C_agreed : Cls K C_agreed := ⟨pgC_agreed, hdC_agreed, poC_agreed, saC_agreed⟩
  have L_C_differed : Cls K C_differed := ⟨pgC_differed, hdC_differed, poC_differed, saC_differed⟩
  have L_C_served : Cls K C_served := ⟨pgC_served, hdC_served, poC_served, saC_served⟩
  have L_C_backed : Cls K C_backed := ⟨pgC_backed, hdC_backed, poC_backed, saC_backed⟩
  have RN : Err K CN := ⟨geN, heN, exeN, hdeN, caeN, thn, tht, cmeN⟩
  have ON : OneE K mg "BadName" "name" CN feN _ := ⟨⟨⟨_, _, _, _, _, _, _, _, _, _, _, _, _, _, _, xN, by rfl⟩, seN, exeN, tyeN, kkeN⟩, aeN, teN, g1 aN, neN, RN, b_eN_⟩
  have RM : Err K CM := ⟨geM, heM, exeM, hdeM, caeM, thn, tht, cmeM⟩
  have OM : OneE K mg "BadMoment" "moment" CM feM _ := ⟨⟨⟨_, _, _, _, _, _, _, _, _, _, _, _, _, _, _, xM, by rfl⟩, seM, exeM, tyeM, kkeM⟩, aeM, teM, g1 aM, neM, RM, b_eM_⟩
  have RS : Err K CS := ⟨geS, heS, exeS, hdeS, caeS, thn, tht, cmeS⟩
  have OS : OneE K mg "BadSaying" "value" CS feS _ := ⟨⟨⟨_, _, _, _, _, _, _, _, _, _, _, _, _, _, _, xS, by rfl⟩, seS, exeS, tyeS, kkeS⟩, aeS, teS, g1 aS, neS, RS, b_eS_⟩
  have W : Words K mg := ⟨⟨_, g1 gG⟩, ⟨_, g1 gL⟩, ⟨_, g1 gA⟩, ⟨_, g1 gD⟩, ⟨aNo, g1 gN, fun H => tab_seq lN vN (by decide) H⟩, g0 b_isinstance, g0 b_int, g0 b_bool, g0 b_str, g0 b_len, g0 b_all⟩
  have TF : Forms K w mg aF := ⟨g1 gF, fun kind hk => by
    unfold kinds at hk
    simp only [List.mem_cons, List.not_mem_nil, or_false] at hk
    rcases hk with h | h | h | h | h | h | h | h | h | h <;> subst h
    · exact ⟨t_begun, ⟨esF, nF, _, lF, klF, gtbegun, rfl⟩, fun H => tab_seq ltbegun vtbegun (by decide +kernel) H⟩
    · exact ⟨t_setby, ⟨esF, nF, _, lF, klF, gtsetby, rfl⟩, fun H => tab_seq ltsetby vtsetby (by decide +kernel) H⟩
    · exact ⟨t_found, ⟨esF, nF, _, lF, klF, gtfound, rfl⟩, fun H => tab_seq ltfound vtfound (by decide +kernel) H⟩
    · exact ⟨t_trusted, ⟨esF, nF, _, lF, klF, gttrusted, rfl⟩, fun H => tab_seq lttrusted vttrusted (by decide +kernel) H⟩
    · exact ⟨t_passed, ⟨esF, nF, _, lF, klF, gtpassed, rfl⟩, fun H => tab_seq ltpassed vtpassed (by decide +kernel) H⟩
    · exact ⟨t_failed, ⟨esF, nF, _, lF, klF, gtfailed, rfl⟩, fun H => tab_seq ltfailed vtfailed (by decide +kernel) H⟩
    · exact ⟨t_agreed, ⟨esF, nF, _, lF, klF, gtagreed, rfl⟩, fun H => tab_seq ltagreed vtagreed (by decide +kernel) H⟩
    · exact ⟨t_differed, ⟨esF, nF, _, lF, klF, gtdiffered, rfl⟩, fun H => tab_seq ltdiffered vtdiffered (by decide +kernel) H⟩
    · exact ⟨t_served, ⟨esF, nF, _, lF, klF, gtserved, rfl⟩, fun H => tab_seq ltserved vtserved (by decide +kernel) H⟩
    · exact ⟨t_backed, ⟨esF, nF, _, lF, klF, gtbacked, rfl⟩, fun H => tab_seq ltbacked vtbacked (by decide +kernel) H⟩, g0 b_zip⟩
  have RR : Errs K mg CN CM CS := ⟨⟨_, _, ON, F_eN⟩, ⟨_, _, OM, F_eM⟩, ⟨_, _, OS, F_eS⟩⟩
  have HR : HrL K mg CT CN CM CS := {
    gT := g1 aT, gN := g1 aN, gM := g1 aM, gS := g1 aS, gV := g0 b_ValueError, isi := g0 b_isinstance, len := g0 b_len
    te := fun C hC => by
      simp only [List.mem_cons, List.not_mem_nil, or_false] at hC
      rcases hC with rfl | rfl | rfl
      · exact ⟨exm_own iT tT eT uteN sT, kit_VE veeN, RN⟩
      · exact ⟨exm_own iT tT eT uteM sT, kit_VE veeM, RM⟩
      · exact ⟨exm_own iT tT eT uteS sT, kit_VE veeS, RS⟩
    no := fun C hC => by
      simp only [List.mem_cons, List.not_mem_nil, or_false] at hC
      rcases hC with rfl | rfl | rfl
      · exact kit_no iceN tyeN (by decide +kernel)
      · exact kit_no iceM tyeM (by decide +kernel)
      · exact kit_no iceS tyeS (by decide +kernel)
    nn := kit_self
    nm := kit_own iceM tyeM uNM uMM
    ns := kit_own iceS tyeS uNS uSS
    mn := kit_own iceN tyeN uMN uNN
    mm := kit_self
    ms := kit_own iceS tyeS uMS uSS
    sn := kit_own iceN tyeN uSN uNN
    sm := kit_own iceM tyeM uSM uMM
    ss := kit_self
    fN := neN, fM := neM, fS := neS }
  refine ⟨PySem.W.fnOf "law" "law" (defArgs sLaw) (defBody sLaw) (defScope sLaw) .none kVlaw dclaw pmlaw anlaw (.ref c0) ctlaw, c0, P0, tab_by alaw llaw rfl lcode vcode, nT, fun s v => .of_eq rfl, fun base _ _ TB => ?_⟩
  have GD := ok_draw (P := l.prog) (w := w) (base := base) F_draw (g0 b_len) (g0 b_int) (g0 b_abs)
  have GPk := ok_pick (P := l.prog) (w := w) (base := base) F_pick (g0 b_len) F_draw b_draw_ (g1 adraw) GD
  have GPen := ok_pen (P := l.prog) (w := w) (base := base) F_pen (g0 b_list)
  have GW := ok_words (P := l.prog) (w := w) (mg := mg) (base := base) F_words
  have GLN := ok_lname (P := l.prog) (w := w) (base := base) F_lname (g0 b_range) F_pick b_pick_ (g1 apick) GPk F_words b_words_ (g1 awords) GW
  have GON := ok_oddN (P := l.prog) (w := w) (base := base) F_oddn F_pick b_pick_ (g1 apick) GPk F_words b_words_ (g1 awords) GW
  have GOM := ok_oddM (P := l.prog) (w := w) (base := base) F_oddm F_pick b_pick_ (g1 apick) GPk
  have GTi := ok_tick (P := l.prog) (w := w) (base := base) F_tick F_pick b_pick_ (g1 apick) GPk F_draw b_draw_ (g1 adraw) GD
  have GKi := ok_kinds (P := l.prog) (w := w) (mg := mg) (base := base) F_lkinds
  have GDr := ok_drawn (P := l.prog) (w := w) (base := base) F_drawn (g0 b_int) F_pick b_pick_ (g1 apick) GPk F_draw b_draw_ (g1 adraw) GD F_tick b_tick_ (g1 atick) GTi
  have GFo := ok_forms (P := l.prog) (w := w) (mg := mg) (base := base) F_lforms
  have GBe := ok_bent (P := l.prog) (w := w) (base := base) F_bent (g0 b_range) (g0 b_len) F_lforms b_lforms_ (g1 alforms) GFo F_draw b_draw_ (g1 adraw) GD F_pick b_pick_ (g1 apick) GPk F_oddn b_oddn_ (g1 aoddn) GON F_oddm b_oddm_ (g1 aoddm) GOM
  have GM := ok_moment (P := l.prog) (w := w) (base := base) F_moment W F_whole b_whole_ (g1 awhole)
  have GNa := ok_name (P := l.prog) (w := w) (base := base) F_isname W
  have GC := ok_check (P := l.prog) (w := w) (base := base) F_check W RR F_moment b_moment_ (g1 amoment) GM F_isname b_isname_ (g1 aisname) GNa
  have GCk := ok_checked (P := l.prog) (w := w) (base := base) F_checked TF F_check b_check_ (g1 acheck) GC
  have G_begun := ok_Begun (P := l.prog) (w := w) (base := base) (C := C_begun) F_begun ⟨L_C_begun, by simp only [List.forall_mem_cons]; exact ⟨nC_begun__told, nC_begun_kind, nC_begun_tool, nC_begun_moment, fun _ h => nomatch h⟩⟩ F_checked b_checked_ (g1 achecked) GCk
  have G_setby := ok_SetBy (P := l.prog) (w := w) (base := base) (C := C_setby) F_setby ⟨L_C_setby, by simp only [List.forall_mem_cons]; exact ⟨nC_setby__told, nC_setby_kind, nC_setby_tool, nC_setby_moment, nC_setby_by, fun _ h => nomatch h⟩⟩ F_checked b_checked_ (g1 achecked) GCk
  have G_found := ok_Found (P := l.prog) (w := w) (base := base) (C := C_found) F_found ⟨L_C_found, by simp only [List.forall_mem_cons]; exact ⟨nC_found__told, nC_found_kind, nC_found_tool, nC_found_moment, nC_found_is_sound, fun _ h => nomatch h⟩⟩ F_checked b_checked_ (g1 achecked) GCk
  have G_trusted := ok_Trusted (P := l.prog) (w := w) (base := base) (C := C_trusted) F_trusted ⟨L_C_trusted, by simp only [List.forall_mem_cons]; exact ⟨nC_trusted__told, nC_trusted_kind, nC_trusted_tool, fun _ h => nomatch h⟩⟩ F_checked b_checked_ (g1 achecked) GCk
  have G_passed := ok_Passed (P := l.prog) (w := w) (base := base) (C := C_passed) F_passed ⟨L_C_passed, by simp only [List.forall_mem_cons]; exact ⟨nC_passed__told, nC_passed_kind, nC_passed_tool, nC_passed_moment, nC_passed_by, fun _ h => nomatch h⟩⟩ F_checked b_checked_ (g1 achecked) GCk
  have G_failed := ok_Failed (P := l.prog) (w := w) (base := base) (C := C_failed) F_failed ⟨L_C_failed, by simp only [List.forall_mem_cons]; exact ⟨nC_failed__told, nC_failed_kind, nC_failed_tool, nC_failed_moment, nC_failed_by, fun _ h => nomatch h⟩⟩ F_checked b_checked_ (g1 achecked) GCk
  have GMe_agreed := ok_Meeting (P := l.prog) (w := w) (base := base) (C := C_agreed) F_meet ⟨L_C_agreed, by simp only [List.forall_mem_cons]; exact ⟨nC_agreed__told, nC_agreed_kind, nC_agreed_one, nC_agreed_moment, nC_agreed_other, nC_agreed_later, fun _ h => nomatch h⟩⟩ F_checked b_checked_ (g1 achecked) GCk
  have SF_agreed : SupFn K l.prog "__init__" "Agreed.__init__" (defArgs sAgreed) (defBody sAgreed) (defScope sAgreed) C_agreed ccagreed fagreed (.ref cdaagreed) _ := ⟨⟨_, _, _, _, _, _, _, _, rfl, lagreed, cagreed⟩, kagreed, ⟨_, _, _, eagreed⟩, ⟨_, _, _, _, _, _, _, rfl, dagreed, vagreed, wagreed⟩, tops, opq, ⟨_, zagreed⟩⟩
  have G_agreed := ok_Agreed (P := l.prog) (w := w) (base := base) (C := C_agreed) SF_agreed (g0 b_super) yagreed ⟨_, zagreed⟩ xagreed tmeet fnmeet b_meet_ GMe_agreed
  have GMe_differed := ok_Meeting (P := l.prog) (w := w) (base := base) (C := C_differed) F_meet ⟨L_C_differed, by simp only [List.forall_mem_cons]; exact ⟨nC_differed__told, nC_differed_kind, nC_differed_one, nC_differed_moment, nC_differed_other, nC_differed_later, fun _ h => nomatch h⟩⟩ F_checked b_checked_ (g1 achecked) GCk
  have SF_differed : SupFn K l.prog "__init__" "Differed.__init__" (defArgs sDiffered) (defBody sDiffered) (defScope sDiffered) C_differed ccdiffered fdiffered (.ref cdadiffered) _ := ⟨⟨_, _, _, _, _, _, _, _, rfl, ldiffered, cdiffered⟩, kdiffered, ⟨_, _, _, ediffered⟩, ⟨_, _, _, _, _, _, _, rfl, ddiffered, vdiffered, wdiffered⟩, tops, opq, ⟨_, zdiffered⟩⟩
  have G_differed := ok_Differed (P := l.prog) (w := w) (base := base) (C := C_differed) SF_differed (g0 b_super) ydiffered ⟨_, zdiffered⟩ xdiffered tmeet fnmeet b_meet_ GMe_differed
  have GMe_served := ok_Meeting (P := l.prog) (w := w) (base := base) (C := C_served) F_meet ⟨L_C_served, by simp only [List.forall_mem_cons]; exact ⟨nC_served__told, nC_served_kind, nC_served_one, nC_served_moment, nC_served_other, nC_served_later, fun _ h => nomatch h⟩⟩ F_checked b_checked_ (g1 achecked) GCk
  have SF_served : SupFn K l.prog "__init__" "Served.__init__" (defArgs sServed) (defBody sServed) (defScope sServed) C_served ccserved fserved (.ref cdaserved) _ := ⟨⟨_, _, _, _, _, _, _, _, rfl, lserved, cserved⟩, kserved, ⟨_, _, _, eserved⟩, ⟨_, _, _, _, _, _, _, rfl, dserved, vserved, wserved⟩, tops, opq, ⟨_, zserved⟩⟩
  have G_served := ok_Served (P := l.prog) (w := w) (base := base) (C := C_served) SF_served (g0 b_super) yserved ⟨_, zserved⟩ xserved tmeet fnmeet b_meet_ GMe_served
  have GMe_backed := ok_Meeting (P := l.prog) (w := w) (base := base) (C := C_backed) F_meet ⟨L_C_backed, by simp only [List.forall_mem_cons]; exact ⟨nC_backed__told, nC_backed_kind, nC_backed_one, nC_backed_moment, nC_backed_other, nC_backed_later, fun _ h => nomatch h⟩⟩ F_checked b_checked_ (g1 achecked) GCk
  have SF_backed : SupFn K l.prog "__init__" "Backed.__init__" (defArgs sBacked) (defBody sBacked) (defScope sBacked) C_backed ccbacked fbacked (.ref cdabacked) _ := ⟨⟨_, _, _, _, _, _, _, _, rfl, lbacked, cbacked⟩, kbacked, ⟨_, _, _, ebacked⟩, ⟨_, _, _, _, _, _, _, rfl, dbacked, vbacked, wbacked⟩, tops, opq, ⟨_, zbacked⟩⟩
  have G_backed := ok_Backed (P := l.prog) (w := w) (base := base) (C := C_backed) SF_backed (g0 b_super) ybacked ⟨_, zbacked⟩ xbacked tmeet fnmeet b_meet_ GMe_backed
  have RW : Rows K l.prog w mg base CN CM CS := {
    begun := ⟨C_begun, fbegun, _, g1 aC_begun, ⟨mkC_begun, abegun, ibegun, kcC_begun⟩, b_begun_, L_C_begun, nC_begun_kind, G_begun.mono (by decide)⟩
    setby := ⟨C_setby, fsetby, _, g1 aC_setby, ⟨mkC_setby, asetby, isetby, kcC_setby⟩, b_setby_, L_C_setby, nC_setby_kind, G_setby.mono (by decide)⟩
    found := ⟨C_found, ffound, _, g1 aC_found, ⟨mkC_found, afound, ifound, kcC_found⟩, b_found_, L_C_found, nC_found_kind, G_found.mono (by decide)⟩
    trusted := ⟨C_trusted, ftrusted, _, g1 aC_trusted, ⟨mkC_trusted, atrusted, itrusted, kcC_trusted⟩, b_trusted_, L_C_trusted, nC_trusted_kind, G_trusted.mono (by decide)⟩
    passed := ⟨C_passed, fpassed, _, g1 aC_passed, ⟨mkC_passed, apassed, ipassed, kcC_passed⟩, b_passed_, L_C_passed, nC_passed_kind, G_passed.mono (by decide)⟩
    failed := ⟨C_failed, ffailed, _, g1 aC_failed, ⟨mkC_failed, afailed, ifailed, kcC_failed⟩, b_failed_, L_C_failed, nC_failed_kind, G_failed.mono (by decide)⟩
    agreed := ⟨C_agreed, fagreed, _, g1 aC_agreed, ⟨mkC_agreed, aagreed, iagreed, kcC_agreed⟩, .all (fun us hl => match us, hl with | [_, _, _, _, _], _ => rfl), L_C_agreed, nC_agreed_kind, G_agreed⟩
    differed := ⟨C_differed, fdiffered, _, g1 aC_differed, ⟨mkC_differed, adiffered, idiffered, kcC_differed⟩, .all (fun us hl => match us, hl with | [_, _, _, _, _], _ => rfl), L_C_differed, nC_differed_kind, G_differed⟩
    served := ⟨C_served, fserved, _, g1 aC_served, ⟨mkC_served, aserved, iserved, kcC_served⟩, .all (fun us hl => match us, hl with | [_, _, _, _, _], _ => rfl), L_C_served, nC_served_kind, G_served⟩
    backed := ⟨C_backed, fbacked, _, g1 aC_backed, ⟨mkC_backed, abacked, ibacked, kcC_backed⟩, .all (fun us hl => match us, hl with | [_, _, _, _, _], _ => rfl), L_C_backed, nC_backed_kind, G_backed⟩ }
  have GMa := ok_made (P := l.prog) (w := w) (base := base) F_lmade RW
  exact ok_law F_law rfl TB HR (g0 b_repr) F_pen b_pen_ (g1 apen) GPen F_lname b_lname_ (g1 alname) GLN F_lkinds b_lkinds_ (g1 alkinds) GKi F_bent b_bent_ (g1 abent) GBe F_drawn b_drawn_ (g1 adrawn) GDr F_lmade b_lmade_ (g1 almade) GMa F_heard b_heard_ (g1 aheard)
theorem walk {l : PySem.W.OpenLaw} {q : Program} {loose : List Str} {XP : (Str → Option Value) → Heap → Prop} {YP : World → Heap → Prop} {d : DefRec} {K : Params → PySem.W.Frag} (hn : l.most = some 63) (hdf : d.params.defaults = []) (hnm : d.name = "law")
    (hrec : ((recsOf q).find? (fun e => e.name == ("law" : Str))).isSome = true) (hY : ∀ (w : World) (h : Heap), YP w h → (K w.params).In h)
    (F : ∀ (w : World) (mg : Str → Option Value) (fa : Addr) (h : Heap), (K w.params).In h → h.Ns mainGlobals mg → mg "law" = some (.ref fa) →
      ∃ (fd : FuncData) (c0 P0 : Addr), PySem.W.tabIn (K w.params) "law" = some (c0, P0) ∧ (K w.params).lookup P0 = none ∧ (∀ (s : Shared) (u : Value), BindsTo s fd ⟨[u], []⟩ [("_law_script", u)]) ∧
        ∀ base : Heap, (K w.params).In base → base.Ns mainGlobals mg → TabB base mg c0 P0 → FnG l.prog w (K w.params) mg base CX0 11 fa fd ["_law_script"] (spLaw (K w.params) P0)) :
    PySem.W.WalkO q loose XP YP l.row.toRowW d [] (fun f vs => PySem.call f vs) := by
  apply Att.attach_callB hn hdf
  intro w s₀ s₁ mg mb fa o pm cd doc a vs ns G Y _ _ _ hmg hobj hints hlen hbits hg
  have KX := hY w _ Y
  rw [hnm] at hmg
  obtain ⟨fd, c0, P0, ht, nT, hb, hF⟩ := F w mg fa _ KX G.T.g hmg
  obtain ⟨d', hd'⟩ := Option.isSome_iff_exists.mp hrec
  obtain ⟨C, tb⟩ := PySem.W.tab_of G.T KX hd' ht
  exact law_callTG KX G.T.g G.T.b G.T.builtins G.T.nolimit hg tb nT C G.T.bmain hobj hints (Nat.le_trans hlen (by decide)) ⟨rfl, by decide, by decide⟩ hF hb (fun H hT hS => ⟨a, ns, rfl, hS, hT, fun _ => rfl⟩) fun _ _ _ z => z
end K12

open PySem PySem.W PyProof.Rows in
set_option maxRecDepth 100000 in
set_option maxHeartbeats 0 in
theorem PySem.Challenge.cw_soundtill_k12_rows_refused_holds : PySem.Challenge.rw_soundtill_k12_rows_refused.Holds := by
  w_on; o_law; k_head; (case hw => w_witness2)
  k_fill
  refine K12.walk (l := PySem.Challenge.rw_soundtill_k12_rows_refused) rfl rfl rfl (by decide +kernel) (fun w h Y => PySem.W.km_in_of Y) ?F
  case F =>
    intro w mg fa h KX G hmg
    refine' K12.all_mk KX G hmg ?apen ?lpen ?cpen ?kpen ?adraw ?ldraw ?cdraw ?kdraw ?apick ?lpick ?cpick ?kpick ?awords ?lwords ?cwords ?kwords ?alname ?llname ?clname ?klname ?aoddn ?loddn ?coddn ?koddn ?aoddm ?loddm ?coddm ?koddm ?atick ?ltick ?ctick ?ktick ?alkinds ?llkinds ?clkinds ?klkinds ?adrawn ?ldrawn ?cdrawn ?kdrawn ?almade ?llmade ?clmade ?klmade ?aheard ?lheard ?cheard ?kheard ?alforms ?llforms ?clforms ?klforms ?abent ?lbent ?cbent ?kbent ?alaw ?llaw ?claw ?klaw ?awhole ?lwhole ?cwhole ?kwhole ?amoment ?lmoment ?cmoment ?kmoment ?aisname ?lisname ?cisname ?kisname ?acheck ?lcheck ?ccheck ?kcheck ?achecked ?lchecked ?cchecked ?kchecked ?thn ?tht ?aC_begun ?pgC_begun ?hdC_begun ?poC_begun ?saC_begun ?mkC_begun ?kcC_begun ?nC_begun__told ?nC_begun_kind ?nC_begun_tool ?nC_begun_moment ?abegun ?ibegun ?lbegun ?cbegun ?kbegun ?aC_setby ?pgC_setby ?hdC_setby ?poC_setby ?saC_setby ?mkC_setby ?kcC_setby ?nC_setby__told ?nC_setby_kind ?nC_setby_tool ?nC_setby_moment ?nC_setby_by ?asetby ?isetby ?lsetby ?csetby ?ksetby ?aC_found ?pgC_found ?hdC_found ?poC_found ?saC_found ?mkC_found ?kcC_found ?nC_found__told ?nC_found_kind ?nC_found_tool ?nC_found_moment ?nC_found_is_sound ?afound ?ifound ?lfound ?cfound ?kfound ?aC_trusted ?pgC_trusted ?hdC_trusted ?poC_trusted ?saC_trusted ?mkC_trusted ?kcC_trusted ?nC_trusted__told ?nC_trusted_kind ?nC_trusted_tool ?atrusted ?itrusted ?ltrusted ?ctrusted ?ktrusted ?aC_passed ?pgC_passed ?hdC_passed ?poC_passed ?saC_passed ?mkC_passed ?kcC_passed ?nC_passed__told ?nC_passed_kind ?nC_passed_tool ?nC_passed_moment ?nC_passed_by ?apassed ?ipassed ?lpassed ?cpassed ?kpassed ?aC_failed ?pgC_failed ?hdC_failed ?poC_failed ?saC_failed ?mkC_failed ?kcC_failed ?nC_failed__told ?nC_failed_kind ?nC_failed_tool ?nC_failed_moment ?nC_failed_by ?afailed ?ifailed ?lfailed ?cfailed ?kfailed ?aC_agreed ?pgC_agreed ?hdC_agreed ?poC_agreed ?saC_agreed ?mkC_agreed ?kcC_agreed ?nC_agreed__told ?nC_agreed_kind ?nC_agreed_one ?nC_agreed_moment ?nC_agreed_other ?nC_agreed_later ?aagreed ?iagreed ?lagreed ?cagreed ?kagreed ?eagreed ?dagreed ?vagreed ?wagreed ?yagreed ?zagreed ?xagreed ?lmeet ?cmeet ?kmeet ?tmeet ?fnmeet ?aC_differed ?pgC_differed ?hdC_differed ?poC_differed ?saC_differed ?mkC_differed ?kcC_differed ?nC_differed__told ?nC_differed_kind ?nC_differed_one ?nC_differed_moment ?nC_differed_other ?nC_differed_later ?adiffered ?idiffered ?ldiffered ?cdiffered ?kdiffered ?ediffered ?ddiffered ?vdiffered ?wdiffered ?ydiffered ?zdiffered ?xdiffered ?aC_served ?pgC_served ?hdC_served ?poC_served ?saC_served ?mkC_served ?kcC_served ?nC_served__told ?nC_served_kind ?nC_served_one ?nC_served_moment ?nC_served_other ?nC_served_later ?aserved ?iserved ?lserved ?cserved ?kserved ?eserved ?dserved ?vserved ?wserved ?yserved ?zserved ?xserved ?aC_backed ?pgC_backed ?hdC_backed ?poC_backed ?saC_backed ?mkC_backed ?kcC_backed ?nC_backed__told ?nC_backed_kind ?nC_backed_one ?nC_backed_moment ?nC_backed_other ?nC_backed_later ?abacked ?ibacked ?lbacked ?cbacked ?kbacked ?ebacked ?dbacked ?vbacked ?wbacked ?ybacked ?zbacked ?xbacked ?opq ?tops ?gG ?gL ?gA ?gD ?gN ?lN ?vN ?gF ?lF ?klF ?gtbegun ?ltbegun ?vtbegun ?gtsetby ?ltsetby ?vtsetby ?gtfound ?ltfound ?vtfound ?gttrusted ?lttrusted ?vttrusted ?gtpassed ?ltpassed ?vtpassed ?gtfailed ?ltfailed ?vtfailed ?gtagreed ?ltagreed ?vtagreed ?gtdiffered ?ltdiffered ?vtdiffered ?gtserved ?ltserved ?vtserved ?gtbacked ?ltbacked ?vtbacked ?b_isinstance ?b_int ?b_bool ?b_str ?b_len ?b_all ?b_list ?b_abs ?b_range ?b_repr ?b_zip ?b_ValueError ?b_super ?aT ?iT ?tT ?eT ?sT ?aN ?xN ?seN ?geN ?heN ?neN ?aeN ?teN ?leN ?ceN ?keN ?kkeN ?exeN ?tyeN ?hdeN ?iceN ?veeN ?uteN ?caeN ?cmeN ?aM ?xM ?seM ?geM ?heM ?neM ?aeM ?teM ?leM ?ceM ?keM ?kkeM ?exeM ?tyeM ?hdeM ?iceM ?veeM ?uteM ?caeM ?cmeM ?aS ?xS ?seS ?geS ?heS ?neS ?aeS ?teS ?leS ?ceS ?keS ?kkeS ?exeS ?tyeS ?hdeS ?iceS ?veeS ?uteS ?caeS ?cmeS ?uNN ?uNM ?uNS ?uMN ?uMM ?uMS ?uSN ?uSM ?uSS ?lcode ?vcode ?nT
    (case apen => k_is)
    (case lpen => k_is)
    (case cpen => k_is)
    (case kpen => k_is)
    (case adraw => k_is)
    (case ldraw => k_is)
    (case cdraw => k_is)
    (case kdraw => k_is)
    (case apick => k_is)
    (case lpick => k_is)
    (case cpick => k_is)
    (case kpick => k_is)
    (case awords => k_is)
    (case lwords => k_is)
    (case cwords => k_is)
    (case kwords => k_is)
    (case alname => k_is)
    (case llname => k_is)
    (case clname => k_is)
    (case klname => k_is)
    (case aoddn => k_is)
    (case loddn => k_is)
    (case coddn => k_is)
    (case koddn => k_is)
    (case aoddm => k_is)
    (case loddm => k_is)
    (case coddm => k_is)
    (case koddm => k_is)
    (case atick => k_is)
    (case ltick => k_is)
    (case ctick => k_is)
    (case ktick => k_is)
    (case alkinds => k_is)
    (case llkinds => k_is)
    (case clkinds => k_is)
    (case klkinds => k_is)
    (case adrawn => k_is)
    (case ldrawn => k_is)
    (case cdrawn => k_is)
    (case kdrawn => k_is)
    (case almade => k_is)
    (case llmade => k_is)
    (case clmade => k_is)
    (case klmade => k_is)
    (case aheard => k_is)
    (case lheard => k_is)
    (case cheard => k_is)
    (case kheard => k_is)
    (case alforms => k_is)
    (case llforms => k_is)
    (case clforms => k_is)
    (case klforms => k_is)
    (case abent => k_is)
    (case lbent => k_is)
    (case cbent => k_is)
    (case kbent => k_is)
    (case alaw => k_is)
    (case llaw => k_is)
    (case claw => k_is)
    (case klaw => k_is)
    (case awhole => k_is)
    (case lwhole => k_is)
    (case cwhole => k_is)
    (case kwhole => k_is)
    (case amoment => k_is)
    (case lmoment => k_is)
    (case cmoment => k_is)
    (case kmoment => k_is)
    (case aisname => k_is)
    (case lisname => k_is)
    (case cisname => k_is)
    (case kisname => k_is)
    (case acheck => k_is)
    (case lcheck => k_is)
    (case ccheck => k_is)
    (case kcheck => k_is)
    (case achecked => k_is)
    (case lchecked => k_is)
    (case cchecked => k_is)
    (case kchecked => k_is)
    (case thn => k_is)
    (case tht => k_is)
    (case aC_begun => k_is)
    (case pgC_begun => k_is)
    (case hdC_begun => k_is)
    (case poC_begun => k_is)
    (case saC_begun => k_is)
    (case mkC_begun => k_is)
    (case kcC_begun => k_is)
    (case nC_begun__told => k_is)
    (case nC_begun_kind => k_is)
    (case nC_begun_tool => k_is)
    (case nC_begun_moment => k_is)
    (case abegun => k_is)
    (case ibegun => k_is)
    (case lbegun => k_is)
    (case cbegun => k_is)
    (case kbegun => k_is)
    (case aC_setby => k_is)
    (case pgC_setby => k_is)
    (case hdC_setby => k_is)
    (case poC_setby => k_is)
    (case saC_setby => k_is)
    (case mkC_setby => k_is)
    (case kcC_setby => k_is)
    (case nC_setby__told => k_is)
    (case nC_setby_kind => k_is)
    (case nC_setby_tool => k_is)
    (case nC_setby_moment => k_is)
    (case nC_setby_by => k_is)
    (case asetby => k_is)
    (case isetby => k_is)
    (case lsetby => k_is)
    (case csetby => k_is)
    (case ksetby => k_is)
    (case aC_found => k_is)
    (case pgC_found => k_is)
    (case hdC_found => k_is)
    (case poC_found => k_is)
    (case saC_found => k_is)
    (case mkC_found => k_is)
    (case kcC_found => k_is)
    (case nC_found__told => k_is)
    (case nC_found_kind => k_is)
    (case nC_found_tool => k_is)
    (case nC_found_moment => k_is)
    (case nC_found_is_sound => k_is)
    (case afound => k_is)
    (case ifound => k_is)
    (case lfound => k_is)
    (case cfound => k_is)
    (case kfound => k_is)
    (case aC_trusted => k_is)
    (case pgC_trusted => k_is)
    (case hdC_trusted => k_is)
    (case poC_trusted => k_is)
    (case saC_trusted => k_is)
    (case mkC_trusted => k_is)
    (case kcC_trusted => k_is)
    (case nC_trusted__told => k_is)
    (case nC_trusted_kind => k_is)
    (case nC_trusted_tool => k_is)
    (case atrusted => k_is)
    (case itrusted => k_is)
    (case ltrusted => k_is)
    (case ctrusted => k_is)
    (case ktrusted => k_is)
    (case aC_passed => k_is)
    (case pgC_passed => k_is)
    (case hdC_passed => k_is)
    (case poC_passed => k_is)
    (case saC_passed => k_is)
    (case mkC_passed => k_is)
    (case kcC_passed => k_is)
    (case nC_passed__told => k_is)
    (case nC_passed_kind => k_is)
    (case nC_passed_tool => k_is)
    (case nC_passed_moment => k_is)
    (case nC_passed_by => k_is)
    (case apassed => k_is)
    (case ipassed => k_is)
    (case lpassed => k_is)
    (case cpassed => k_is)
    (case kpassed => k_is)
    (case aC_failed => k_is)
    (case pgC_failed => k_is)
    (case hdC_failed => k_is)
    (case poC_failed => k_is)
    (case saC_failed => k_is)
    (case mkC_failed => k_is)
    (case kcC_failed => k_is)
    (case nC_failed__told => k_is)
    (case nC_failed_kind => k_is)
    (case nC_failed_tool => k_is)
    (case nC_failed_moment => k_is)
    (case nC_failed_by => k_is)
    (case afailed => k_is)
    (case ifailed => k_is)
    (case lfailed => k_is)
    (case cfailed => k_is)
    (case kfailed => k_is)
    (case aC_agreed => k_is)
    (case pgC_agreed => k_is)
    (case hdC_agreed => k_is)
    (case poC_agreed => k_is)
    (case saC_agreed => k_is)
    (case mkC_agreed => k_is)
    (case kcC_agreed => k_is)
    (case nC_agreed__told => k_is)
    (case nC_agreed_kind => k_is)
    (case nC_agreed_one => k_is)
    (case nC_agreed_moment => k_is)
    (case nC_agreed_other => k_is)
    (case nC_agreed_later => k_is)
    (case aagreed => k_is)
    (case iagreed => k_is)
    (case lagreed => k_is)
    (case cagreed => k_is)
    (case kagreed => k_is)
    (case eagreed => k_is)
    (case dagreed => k_is)
    (case vagreed => rfl)
    (case wagreed => rfl)
    (case yagreed => k_is)
    (case zagreed => first | k_is | kernel_rfl | rfl)
    (case xagreed => ks_is)
    (case lmeet => k_is)
    (case cmeet => k_is)
    (case kmeet => k_is)
    (case tmeet => k_is)
    (case fnmeet => k_is)
    (case aC_differed => k_is)
    (case pgC_differed => k_is)
    (case hdC_differed => k_is)
    (case poC_differed => k_is)
    (case saC_differed => k_is)
    (case mkC_differed => k_is)
    (case kcC_differed => k_is)
    (case nC_differed__told => k_is)
    (case nC_differed_kind => k_is)
    (case nC_differed_one => k_is)
    (case nC_differed_moment => k_is)
    (case nC_differed_other => k_is)
    (case nC_differed_later => k_is)
    (case adiffered => k_is)
    (case idiffered => k_is)
    (case ldiffered => k_is)
    (case cdiffered => k_is)
    (case kdiffered => k_is)
    (case ediffered => k_is)
    (case ddiffered => k_is)
    (case vdiffered => rfl)
    (case wdiffered => rfl)
    (case ydiffered => k_is)
    (case zdiffered => first | k_is | kernel_rfl | rfl)
    (case xdiffered => ks_is)
    (case aC_served => k_is)
    (case pgC_served => k_is)
    (case hdC_served => k_is)
    (case poC_served => k_is)
    (case saC_served => k_is)
    (case mkC_served => k_is)
    (case kcC_served => k_is)
    (case nC_served__told => k_is)
    (case nC_served_kind => k_is)
    (case nC_served_one => k_is)
    (case nC_served_moment => k_is)
    (case nC_served_other => k_is)
    (case nC_served_later => k_is)
    (case aserved => k_is)
    (case iserved => k_is)
    (case lserved => k_is)
    (case cserved => k_is)
    (case kserved => k_is)
    (case eserved => k_is)
    (case dserved => k_is)
    (case vserved => rfl)
    (case wserved => rfl)
    (case yserved => k_is)
    (case zserved => first | k_is | kernel_rfl | rfl)
    (case xserved => ks_is)
    (case aC_backed => k_is)
    (case pgC_backed => k_is)
    (case hdC_backed => k_is)
    (case poC_backed => k_is)
    (case saC_backed => k_is)
    (case mkC_backed => k_is)
    (case kcC_backed => k_is)
    (case nC_backed__told => k_is)
    (case nC_backed_kind => k_is)
    (case nC_backed_one => k_is)
    (case nC_backed_moment => k_is)
    (case nC_backed_other => k_is)
    (case nC_backed_later => k_is)
    (case abacked => k_is)
    (case ibacked => k_is)
    (case lbacked => k_is)
    (case cbacked => k_is)
    (case kbacked => k_is)
    (case ebacked => k_is)
    (case dbacked => k_is)
    (case vbacked => rfl)
    (case wbacked => rfl)
    (case ybacked => k_is)
    (case zbacked => first | k_is | kernel_rfl | rfl)
    (case xbacked => ks_is)
    (case opq => k_is)
    (case tops => rfl)
    (case gG => k_is)
    (case gL => k_is)
    (case gA => k_is)
    (case gD => k_is)
    (case gN => k_is)
    (case lN => k_is)
    (case vN => rfl)
    (case gF => k_is)
    (case lF => k_is)
    (case klF => exact ⟨⟨_, _, rfl, rfl⟩, ⟨_, _, rfl, rfl⟩, ⟨_, _, rfl, rfl⟩, ⟨_, _, rfl, rfl⟩, ⟨_, _, rfl, rfl⟩, ⟨_, _, rfl, rfl⟩, ⟨_, _, rfl, rfl⟩, ⟨_, _, rfl, rfl⟩, ⟨_, _, rfl, rfl⟩, ⟨_, _, rfl, rfl⟩, trivial⟩)
    (case gtbegun => k_is)
    (case ltbegun => k_is)
    (case vtbegun => rfl)
    (case gtsetby => k_is)
    (case ltsetby => k_is)
    (case vtsetby => rfl)
    (case gtfound => k_is)
    (case ltfound => k_is)
    (case vtfound => rfl)
    (case gttrusted => k_is)
    (case lttrusted => k_is)
    (case vttrusted => rfl)
    (case gtpassed => k_is)
    (case ltpassed => k_is)
    (case vtpassed => rfl)
    (case gtfailed => k_is)
    (case ltfailed => k_is)
    (case vtfailed => rfl)
    (case gtagreed => k_is)
    (case ltagreed => k_is)
    (case vtagreed => rfl)
    (case gtdiffered => k_is)
    (case ltdiffered => k_is)
    (case vtdiffered => rfl)
    (case gtserved => k_is)
    (case ltserved => k_is)
    (case vtserved => rfl)
    (case gtbacked => k_is)
    (case ltbacked => k_is)
    (case vtbacked => rfl)
    (case b_isinstance => k_is)
    (case b_int => k_is)
    (case b_bool => k_is)
    (case b_str => k_is)
    (case b_len => k_is)
    (case b_all => k_is)
    (case b_list => k_is)
    (case b_abs => k_is)
    (case b_range => k_is)
    (case b_repr => k_is)
    (case b_zip => k_is)
    (case b_ValueError => k_is)
    (case b_super => k_is)
    (case aT => k_is)
    (case iT => k_is)
    (case tT => k_is)
    (case eT => k_is)
    (case sT => k_is)
    (case aN => k_is)
    (case xN => k_is)
    (case seN => k_is)
    (case geN => k_is)
    (case heN => k_is)
    (case neN => k_is)
    (case aeN => k_is)
    (case teN => k_is)
    (case leN => k_is)
    (case ceN => k_is)
    (case keN => k_is)
    (case kkeN => k_is)
    (case exeN => k_is)
    (case tyeN => k_is)
    (case hdeN => k_is)
    (case iceN => k_is)
    (case veeN => k_is)
    (case uteN => k_is)
    (case caeN => k_is)
    (case cmeN => k_is)
    (case aM => k_is)
    (case xM => k_is)
    (case seM => k_is)
    (case geM => k_is)
    (case heM => k_is)
    (case neM => k_is)
    (case aeM => k_is)
    (case teM => k_is)
    (case leM => k_is)
    (case ceM => k_is)
    (case keM => k_is)
    (case kkeM => k_is)
    (case exeM => k_is)
    (case tyeM => k_is)
    (case hdeM => k_is)
    (case iceM => k_is)
    (case veeM => k_is)
    (case uteM => k_is)
    (case caeM => k_is)
    (case cmeM => k_is)
    (case aS => k_is)
    (case xS => k_is)
    (case seS => k_is)
    (case geS => k_is)
    (case heS => k_is)
    (case neS => k_is)
    (case aeS => k_is)
    (case teS => k_is)
    (case leS => k_is)
    (case ceS => k_is)
    (case keS => k_is)
    (case kkeS => k_is)
    (case exeS => k_is)
    (case tyeS => k_is)
    (case hdeS => k_is)
    (case iceS => k_is)
    (case veeS => k_is)
    (case uteS => k_is)
    (case caeS => k_is)
    (case cmeS => k_is)
    (case uNN => k_is)
    (case uNM => k_is)
    (case uNS => k_is)
    (case uMN => k_is)
    (case uMM => k_is)
    (case uMS => k_is)
    (case uSN => k_is)
    (case uSM => k_is)
    (case uSS => k_is)
    (case lcode => k_is)
    (case vcode => rfl)
    (case nT => first | kernel_rfl | rfl)
