import PyProof.Rows.All
import Wide.All
import OpenK.AllK
import Wide.FinOn
import HandS.ForMost
import HandS.OwnEq
import HandS.IsInst
import HandS.Wide
import HandS.EndBits
import HandS.Property
import KE.LtData
import HandS.NamedTupSort
import HandS.Exc
import HandS.ExcInit
import HandS.ExcIs
import HandS.ExcField
import HandS.TryOnly
import HandS.Lambda
import HandS.ClsMeth
import HandS.MakeKwOnly
import KE.KOpsOwn
import HandS.WordsExc
import HandS.WordsDict
import HandS.Defaults
import HandS.Small
import HandS.LawCells
import HandS.List
import PyProof.ReprRoads
import PyProof.StrBlock2
import HandS.Words
import HandS.Codes
import HandS.Dict
import PyProof.StrLawsRepr
import HandS.Walk
import HandS.Text
import PySem.Challenge.RW_soundtill_k07_errors_kept
set_option Elab.async false
set_option linter.all false
set_option maxRecDepth 100000
set_option maxHeartbeats 8000000
/-! So: rules of our own over the hand layer. Runs whose guards are known (for repr), repr of data, == and != by an own __eq__ with both answers, < of data, a method's call with keywords. -/
namespace So
open PySem PySem.Spec PyProof.Rows L2

/-! ### repr of data -/
mutual
theorem dp_noDict {K : PySem.W.Frag} {H : Hp} : ∀ (d : PyData) (v : V), Dp K H v d → d.hasDict = false
  | .none, _, _ => rfl
  | .bool _, _, _ => rfl
  | .int _, _, _ => rfl
  | .str _, _, _ => rfl
  | .list ds, _, h => by
    cases h with
    | lst _ ha => simpa [PyData.hasDict] using dp_noDictAll ds _ ha
  | .tuple ds, _, h => by
    cases h with
    | tup _ ha => simpa [PyData.hasDict] using dp_noDictAll ds _ ha
  | .dict _, _, h => by cases h
theorem dp_noDictAll {K : PySem.W.Frag} {H : Hp} : ∀ (ds : List PyData) (vs : List V), DpAll K H vs ds → PyData.hasDictAll ds = false
  | [], _, _ => rfl
  | d :: ds, _, h => by
    cases h with
    | cons h1 h2 => simp [PyData.hasDictAll, dp_noDict d _ h1, dp_noDictAll ds _ h2]
end

/-- repr(x): what it asks -/
def rRepr (K : PySem.W.Frag) : List V → Hp → VK → Prop := fun xs H Q => ∃ v d, xs = [v] ∧ Dp K H v d ∧ d.showable = true ∧ d.depth ≤ 60 ∧ d.shown.length ≤ sizeLine ∧ Q (.str d.shown) H
section
variable {X : Cx}
theorem call_reprD (hg : X.A.guards = some []) (hu : X.A.units + 64 < cLine) : CallR X (.builtin "repr") (rRepr X.K) := by
  intro pins s σ H xs us Q I r h
  obtain ⟨v, d, rfl, hd, hs, hdep, hz, q⟩ := h
  obtain ⟨u, rfl, rv⟩ := vals1 r
  obtain ⟨as, rd⟩ := Dp.reads I d v u hd rv
  have nd : d.hasDict = false := dp_noDict d v hd
  cases v with
  | ref a =>
    cases rv
    refine repr_of_reads' rd hs (fun z => by rw [nd] at z; cases z) hg (by omega) (fun _ _ e => e) (fun h' t tk k => ?_) hz
    exact ⟨.str d.shown, H, I.kept k, ⟨t, rfl⟩, q⟩
  | non =>
    cases hd
    cases rv
    exact PySem.P.repr_of_none ⟨.str _, H, I.tok _, ⟨_, rfl⟩, q⟩
  | bl b =>
    cases hd
    cases rv
    refine PySem.P.repr_of_bool ⟨.str (PyData.shown (.bool b)), H, I.tok _, ⟨s.toks, ?_⟩, q⟩
    cases b <;> rfl
  | int i =>
    cases hd
    obtain ⟨t, rfl⟩ := rv
    exact PySem.P.repr_of_int (by simpa [PyData.showable] using hs) ⟨.str _, H, I.tok _, ⟨_, rfl⟩, q⟩
  | str x =>
    cases hd
    obtain ⟨t, rfl⟩ := rv
    exact PySem.P.repr_of_str ⟨.str _, H, I.tok _, ⟨_, rfl⟩, q⟩ hz
  | byt b => cases hd
  | flt b => cases hd
  | ty n => cases hd

/-! ### < of data -/
def rLtD (K : PySem.W.Frag) : R2 := fun x y H Q => ∃ d e, Dp K H x d ∧ Dp K H y e ∧ PySem.W.alike d e = true ∧ d ≠ .none ∧ d.depth ≤ 60 ∧ Q (.bl (PySem.W.dataLt d e)) H
theorem op_ltD (hu : X.A.units + 64 < cLine) : OpR X (compareOp .Lt) (rLtD X.K) := by
  intro pins s σ H x y v u Q I rx ry h
  obtain ⟨d, e, hd, he, al, nn, dep, q⟩ := h
  obtain ⟨as, r1⟩ := Dp.reads I d x v hd rx
  obtain ⟨bs, r2⟩ := Dp.reads I e y u he ry
  have hm : min d.depth e.depth ≤ d.depth := Nat.min_le_left _ _
  exact PySem.W.rcLt_alike d e X.A s v u as bs r1 r2 al nn (by omega) _ _ _ _ ⟨.bl _, H, I, rfl, q⟩
end
end So

namespace So
open PySem PySem.Spec PyProof.Rows L2

/-! ### == and != by an own __eq__, both answers -/
/-- x is an instance of C, y of a type that is no class below C; the own __eq__ answers b -/
def rOwn (C : Addr) (K : PySem.W.Frag) (sp : Sp) (E : XK) (g : Bool → Bool) : R2 := fun x y H Q => ∃ a dx fs t, x = .ref a ∧ H a = some (.ins C dx fs) ∧ TyX K H y t ∧ PySem.W.notFirst K C t = true ∧
  sp [.ref a, y] H (fun v H' => ∃ b, v = .bl b ∧ Q (.bl (g b)) H') E
section
variable {X : Cx} {CX : CXT} {k : Nat} {C f : Addr} {fd : FuncData} {ps : List Str} {sp : Sp} {E : XK}
/-- what is wanted of a comparison's answer -/
def BlP (X : Cx) (pins : List (Addr × Obj)) (σ : L2.St) (g : Bool → Bool) (Q : VK) (v : Value) (s' : Shared) : Prop := ∃ b H', v = .bool b ∧ Inv X pins σ H' s' ∧ Q (.bl (g b)) H'
theorem run_eq {pins : List (Addr × Obj)} {s : Shared} {σ : L2.St} {H : Hp} {a dx : Addr} {fs : List (Str × V)} {y : V} {u : Value} {Q : VK} {g : Bool → Bool} {A : Around} (F : FnOk X.prog X.w X.K X.mg X.base CX k f fd ps sp) (hb : Binds X.K fd ps [])
    (hx : Passes CX X E) (hr : Room k A) (hf : A.frames = X.A.frames) (I : Inv X pins σ H s) (ry : RelV y u) (h : sp [.ref a, y] H (fun v H' => ∃ b, v = .bl b ∧ Q (.bl (g b)) H') E) :
    wpAny (model X.prog X.w) A (call (.ref f) [.ref a, u]) (fun v s' => BlP X pins σ g Q v s') X.xe s := by
  have e0 : Env0 X.prog X.w X.K X.mg X.base A X.stack s H := by
    have e := I.env0
    exact ⟨hf.trans e.frames, e.mod, e.bs, e.bsz, e.funs, e.frf, e.hok, e.bare⟩
  have hl : ([Value.ref a, u] ++ ([] : List Value)).length = ps.length := (F.len _ _ _ _ h : [V.ref a, y].length = ps.length)
  refine wpAny_call (codeAny_mono (F.run A X.stack s H ⟨[.ref a, u], []⟩ ([.ref a, u] ++ []) [.ref a, y] _ E hr e0 (hb s [.ref a, u] I.kIn hl) (.cons rfl (.cons ry .nil)) h) fun r s' hq => ?_)
  cases r with
  | error e => exact hx pins σ H s e s' I hq
  | ok fl =>
    cases fl with
    | ret w =>
      obtain ⟨z, H', I', rz, b, ez, q⟩ := I.after hq
      subst ez
      cases rz
      exact ⟨b, H', rfl, I', q⟩
    | next => exact False.elim hq
    | brk => exact False.elim hq
    | cont => exact False.elim hq

theorem op_eqOwn (F : FnOk X.prog X.w X.K X.mg X.base CX k f fd ps sp) (hs : PySem.W.findIn X.K (.ref C) "__eq__" = some (some (.ref f))) (hf : PySem.W.isFn X.K (.ref f) = true) (hb : Binds X.K fd ps []) (hx : Passes CX X E) (hr : Room k X.A) :
    OpR X (compareOp .Eq) (rOwn C X.K sp E id) := by
  intro pins s σ H x y v u Q I rx ry h
  obtain ⟨a, dx, fs, t, rfl, ha, ty, nf, q⟩ := h
  cases rx
  obtain ⟨mA, J, _⟩ := ins_get I.hok ha
  obtain ⟨od, J, _⟩ := J.look
  obtain ⟨P, Z, p, _⟩ := kit_of I ry ty
  obtain ⟨m, hF⟩ := I.fr
  show wpAny _ _ (richCompare .Eq (.ref a) u) _ _ s
  refine PySem.W.cmp_K (op := .Eq) (tb := t) hr.units0 hF I.ok.mod.kin J (Z.ty _ _ I.kIn p) nf hs hf ?_
  refine wpAny_mono (run_eq (dx := dx) (fs := fs) F hb hx hr rfl I ry q) (fun w s' z => ?_) fun _ _ z => z
  obtain ⟨b, H', rfl, I', q'⟩ := z
  exact ⟨.bl b, H', I', rfl, q'⟩

/-- != where the class has an own __eq__ and object's __ne__ -/
theorem op_neOwn (F : FnOk X.prog X.w X.K X.mg X.base CX k f fd ps sp) (hs : PySem.W.findIn X.K (.ref C) "__eq__" = some (some (.ref f))) (hf : PySem.W.isFn X.K (.ref f) = true) (hb : Binds X.K fd ps []) (hx : Passes CX X E) (hr : Room (k + 1) X.A)
    (hn : PySem.W.findIn X.K (.ref C) "__ne__" = some (some (.builtin "object.__ne__"))) (hm : PySem.W.mroIn X.K C (.type "object") = some true) : OpR X (compareOp .NotEq) (rOwn C X.K sp E not) := by
  intro pins s σ H x y v u Q I rx ry h
  obtain ⟨a, dx, fs, t, rfl, ha, ty, nf, q⟩ := h
  cases rx
  obtain ⟨mA, J, _⟩ := ins_get I.hok ha
  obtain ⟨od, J, _⟩ := J.look
  obtain ⟨P, Z, p, _⟩ := kit_of I ry ty
  have KI := I.kIn
  have hb' := Z.ty (model X.prog X.w) _ I.kIn p
  have hu : X.A.units < cLine := hr.units0
  show wpAny _ _ (richCompare .NotEq (.ref a) u) _ _ s
  have one : wpAny (model X.prog X.w) X.A (tryCompare (.ref a) "__ne__" u) (fun r s' => ∃ v, r = some v ∧ EP X pins σ Q v s') X.xe s := by
    unfold tryCompare
    refine wpAny_bind (NtL.csib (J.type.andThen (PySem.W.looks_findIn KI hn)) (PySem.F.cmp_object.ne.bind _) (wpAny_call (codeAny_call_builtin PySem.F.cmp_object.ne.plain PySem.F.cmpEntry_ne (PySem.W.check_slot PySem.F.cmpKind_ne PySem.F.cmpSplit_ne (J.type.andThen (PySem.W.looks_mroIn KI hm)) (PySem.F.cmpArgs_ne _ _) ?_))))
    unfold Builtin.«object.__ne__»
    refine wpAny_bind (wpAny_of_eq (a := ((Value.ref a : Value), [u])) (by first | rfl | (simp only [slotArgs]; rfl)) ?_)
    refine wpAny_bind (wpAny_cRoomFor (by show X.A.units + 1 < cLine; have := hr.units; omega) ?_)
    refine wpAny_bind (PySem.W.ifBound_K KI J hs hf (wpAny_mono (run_eq (dx := dx) (fs := fs) F hb hx hr.in1 rfl I ry q) (fun w s' z => ?_) fun _ _ z => z))
    obtain ⟨b, H', rfl, I', q'⟩ := z
    refine wpAny_bind (wpAny_truthy_bool ?_)
    refine wpAny_pure ?_
    exact wpAny_pure ⟨_, rfl, .bl (!b), H', I', rfl, q'⟩
  unfold richCompare
  simp only [oneThing_ref]
  refine wpAny_holding (wpAny_bind (wpAny_cRoomFor hu ?_))
  refine wpAny_bind (J.type.here (wpAny_bind (hb'.here ?_)))
  have fin : wpAny (model X.prog X.w) X.A (tryCompare (.ref a) "__ne__" u) (fun r s' => ∃ v, r = some v ∧ EP X pins σ Q v s') X.xe s := one
  split
  · rename_i z
    have e : PySem.W.subIn X.K t (.ref C) = some false := by
      rcases Bool.or_eq_true_iff.mp nf with e | e
      · rw [beq_iff_eq.mp e] at z; simp at z
      · exact beq_iff_eq.mp e
    refine wpAny_bind ((PySem.W.looks_subIn KI e).here ?_)
    simp only [Bool.false_eq_true, if_false]
    exact wpAny_bind (wpAny_mono fin (fun r s' z => by obtain ⟨v, rfl, hq⟩ := z; exact wpAny_pure hq) fun _ _ e => e)
  · refine wpAny_bind (wpAny_pure ?_)
    simp only [Bool.false_eq_true, if_false]
    exact wpAny_bind (wpAny_mono fin (fun r s' z => by obtain ⟨v, rfl, hq⟩ := z; exact wpAny_pure hq) fun _ _ e => e)
end
end So

namespace So
open PySem PySem.Spec PyProof.Rows L2

/-! ### runs in which no repr is under way -/
/-- as FnOk, where no repr is under way at the call -/
structure FnG (P : Program) (w : World) (K : PySem.W.Frag) (mg : Str → Option Value) (base : Heap) (CX : CXT) (k : Nat) (f : Addr) (fd : FuncData) (ps : List Str) (sp : Sp) : Prop where
  lenG : ∀ (vs : List V) (H : Hp) (Q : VK) (E : XK), sp vs H Q E → vs.length = ps.length
  runG : ∀ (A : Around) (outer : List Env) (s : Shared) (H : Hp) (args : Args) (us : List Value) (vs : List V) (Q : VK) (E : XK), A.guards = some [] → Room k A → Env0 P w K mg base A outer s H →
    BindsTo s fd args (ps.zip us) → Vals vs us → sp vs H Q E → codeAny (model P w) A (.call (.ref f) args) (CR CX outer P w H s Q E) s
section
variable {P : Program} {w : World} {K : PySem.W.Frag} {mg : Str → Option Value} {base : Heap} {CX : CXT} {sp : Sp} {fd : FuncData} {ps N : List Str} {k : Nat} {f : Addr}
theorem FnG.ofOk (F : FnOk P w K mg base CX k f fd ps sp) : FnG P w K mg base CX k f fd ps sp :=
  ⟨F.len, fun A outer s H args us vs Q E _ => F.run A outer s H args us vs Q E⟩
/-- a def by its body, as the layer's rule, the guards told -/
theorem fnG_of {x qual : Str} {st : Stmt} (F : Fun K x qual st f fd) (S : FnScope N ps (defScope st)) (len : ∀ vs H Q E, sp vs H Q E → vs.length = ps.length)
    (hbody : ∀ (cdv : Value) (A : Around) (outer : List Env) (s : Shared) (H : Hp) (vs : List V) (Q : VK) (E : XK), A.guards = some [] → Room k (A.deeper (envOfC qual (defScope st) s.heap.objs.size f cdv)) → sp vs H Q E →
      ∃ t, PSs (cxOf CX P w K mg base N qual (defScope st) f cdv A outer s H E).nox (defBody st) t ∧ t { nx := fun _ H' => Q .non H', rt := Q } (start N vs) H) : FnG P w K mg base CX (k + 1) f fd ps sp := by
  obtain ⟨oc, od, kV, doc, pm, an, cdv, ct, osl, rfl, lk, hcd⟩ := F.ex
  constructor
  · exact len
  intro A outer s H args us vs Q E hg hr e0 hb r hsp
  have old : ∀ b o, base.get? b = some o → s.heap.get? b = some o := fun b o e => (e0.bs b o e).1
  have KX := e0.mod.kin.keeps old
  have lim := e0.mod.nolimit.keeps old
  refine codeAny_call_function hr.depth (KX _ _ lk) rfl S.co S.gen rfl (PySem.W.codeRec_of KX hcd) (hb _ _ _ _ ?_)
  refine wpAny_newFunctionEnv_cells S.kind (fun y hy => ?_) fun env he s1 x => ?_
  · rcases S.par y.1 (List.of_mem_zip (show (y.1, y.2) ∈ ps.zip us from hy)).1 with q | q
    · exact Or.inl q
    · exact Or.inr (And.intro q (PySem.W.cellsFrom_some _ _ _ (Or.inl q)))
  subst he
  refine And.intro (lim.keeps x.toInCall.keep) (codeAny_func ?_)
  obtain ⟨t, ht, hq⟩ := hbody cdv A outer s H vs Q E hg (hr.deeper _) hsp
  refine wpAny_mono (ht.nox.run [] s1 (start N vs) H _ (inv_start S hr.hd e0 (len _ _ _ _ hsp) r x) hq) (fun fl s' hs => ?_) fun _ _ hs => hs
  match fl, hs with
  | .ret u, ⟨v, σ', H', J, rv, q⟩ => exact ⟨v, H', J.os, J.bare, J.base, J.hok, rv, q⟩
  | .next, ⟨σ', H', J, q⟩ => exact ⟨V.non, H', J.os, J.bare, J.base, J.hok, rfl, q⟩
  | .brk, ⟨_, _, _, q⟩ => exact q.elim
  | .cont, ⟨_, _, _, q⟩ => exact q.elim
end

/-! ### calls -/
section
variable {X : Cx} {CX : CXT} {k : Nat} {f C : Addr} {fd : FuncData} {ps ks : List Str} {sp : Sp} {E : XK} {x m : Str} {p pos apos : Pos} {e o : Expr} {es : List Expr} {kws : List Keyword} {ta : TE} {t tk : TA} {dvs : List V} {ds : List Value}
theorem run_fnG {pins : List (Addr × Obj)} {σ : L2.St} {H : Hp} {s : Shared} {Q : VK} {us : List Value} {vs : List V} (F : FnG X.prog X.w X.K X.mg X.base CX k f fd ps sp) (hg : X.A.guards = some []) (hr : Room k X.A) (hb : Binds X.K fd ps ds) (hd : Vals dvs ds)
    (hx : Passes CX X E) (I : Inv X pins σ H s) (r : Vals vs us) (h : sp (vs ++ dvs) H Q E) : wpAny (model X.prog X.w) X.A (call (.ref f) us) (EP X pins σ Q) X.xe s := by
  have r2 := r.append hd
  have hl : (us ++ ds).length = ps.length := r2.length.symm.trans (F.lenG _ _ _ _ h)
  refine wpAny_call (codeAny_mono (F.runG X.A X.stack s H ⟨us, []⟩ (us ++ ds) (vs ++ dvs) Q E hg hr I.env0 (hb s us I.kIn hl) r2 h) fun r s' hq => ?_)
  match r, hq with
  | .error e, hq => exact hx pins σ H s e s' I hq
  | .ok (.ret u), hq => exact I.after hq
  | .ok .next, hq => exact hq.elim
  | .ok .brk, hq => exact hq.elim
  | .ok .cont, hq => exact hq.elim
/-- f(e, ..), f by FnG -/
theorem pe_callG (F : FnG X.prog X.w X.K X.mg X.base CX k f fd ps sp) (hg : X.A.guards = some []) (hr : Room k X.A) (hgl : Gl X x) (hm : X.mg x = some (.ref f)) (hk : PySem.W.keepIn X.K (.ref f) = true) (hb : Binds X.K fd ps ds) (hd : Vals dvs ds) (hx : Passes CX X E)
    (ha : PA X (e :: es) t) (hdb : (x == ("__debug__" : Str)) = false := by decide) (he : starEach (e :: es) X.env = (false, eval e X.env) :: starEach es X.env := by rfl) (hpl : (backTo pos (starEach es X.env)).any (·.1) = false := by rfl) :
    PE X (.Call (.Name x p) (e :: es) [] pos) (tCall sp dvs E t) := by
  constructor
  intro pins s σ H Q I h
  refine wpAny_Call_Name_kw (ld_glob I hgl hm (PySem.W.callWith_K (h₀ := X.base) I.ok.mod.kin hk (thn (ha.run pos pins s σ H _ I h) fun us s1 q => ?_) he hpl) hdb)
  obtain ⟨vs, H1, I1, r, q⟩ := q
  exact ⟨I1.kIn, run_fnG F hg hr hb hd hx I1 r q⟩
/-- o.m(k = v, ..): keywords alone -/
theorem pe_methK {g : List Value → List Value → List Value} {gV : List V → List V → List V} {pl : Sem Bool} (he : PE X o ta) (c : Cls X.K C) (hm : Meth X.K C m f) (F : FnOk X.prog X.w X.K X.mg X.base CX k f fd ps sp) (hr : Room k X.A) (hb : KBinds X.K fd ps ks g gV)
    (hx : Passes CX X E) (hkw : PK X kws tk) (hall : (backToKw pos (keywordEach kws X.env)).all (·.1.isSome) = true := by rfl) (hks : (backToKw pos (keywordEach kws X.env)).filterMap (·.1) = ks := by rfl)
    (hpl : ((backTo pos (starEach [] X.env)).any (·.1) || (backToKw pos (keywordEach kws X.env)).any (·.1.isNone)) = false := by rfl)
    (ht : eval (.Call (.Attribute o m apos) [] kws pos) X.env = (do
      let ov ← eval o X.env
      standAt apos.atName
      let fx ← holding [ov] (getMethod ov m pl)
      callWith pos fx.1 fx.2 (backTo pos (starEach [] X.env)) (backToKw pos (keywordEach kws X.env))) := by rfl) :
    PE X (.Call (.Attribute o m apos) [] kws pos) (fun σ H Q => ta σ H fun x H1 => ∃ a dx fs, x = .ref a ∧ H1 a = some (.ins C dx fs) ∧ fs.lookup m = none ∧ tk σ H1 fun zs H2 => sp (gV [x] zs) H2 Q E) := by
  constructor
  intro pins s σ H Q I h
  refine PySem.W.methodCall_KW (pl := pl) (thn (he.run pins s σ H _ I h) fun u s1 z => ?_) ht
  obtain ⟨x, H1, I1, rx, a, dx, fs, ex, ea, l, q⟩ := z
  subst ex
  cases rx
  refine getmeth_ok I1 ea c hm l ?_
  refine PySem.W.callWith_KW0 (first := [.ref a]) (h₀ := X.base) I.ok.mod.kin hm.kp hall (thn (hkw.run pos pins s1 σ H1 _ I1 q) fun ws s2 z => ?_) hpl
  obtain ⟨zs, H2, I2, rz, q2⟩ := z
  refine ⟨I2.kIn, ?_⟩
  rw [hks]
  exact run_fnk (us := [.ref a]) (vs := [.ref a]) F hr hb hx I2 (.cons rfl .nil) rz q2
end

/-! ### the end of a law -/
theorem law_callG {P : Program} {w : World} {K : PySem.W.Frag} {mg mb : Str → Option Value} {CX : CXT} {k : Nat} {fa a : Addr} {fd : FuncData} {x : Str} {sp : Sp} {s₁ : Shared} {vs : List Value} {ns : List Int}
    (KX : K.In s₁.heap) (hns : s₁.heap.Ns mainGlobals mg) (hb : s₁.heap.Ns builtinsNs mb) (hbb : ∀ x : Str, x ≠ "__name__" → mb x = bootBuiltins x) (hlim : s₁.heap.NoLimit) (hg : s₁.gens = #[])
    (ha : s₁.heap.get? a = some { cls := .type "list", data := .seq vs.toArray }) (hi : IntsAre vs ns) (hl : ns.length ≤ sizeLine) (hr : Room k callerA)
    (F : ∀ base : Heap, K.In base → base.Ns mainGlobals mg → FnG P w K mg base CX k fa fd [x] sp) (hbind : ∀ (s : Shared) (u : Value), BindsTo s fd ⟨[u], []⟩ [(x, u)])
    (hsp : ∀ H : Hp, Only H → SqL K H a (ns.map V.int) → sp [.ref a] H (fun v _ => v = .bl true) fun _ _ _ => False)
    (hCX : ∀ H e s', CX [] H s₁ (fun _ _ _ => False) e s' → False) :
    codeAny (model P w) callerA (.call (.ref fa) ⟨[.ref a], []⟩) (fun r s' => r = .ok (.ret (.bool true)) ∧ OldK s₁.heap s'.heap ∧ s'.os = s₁.os ∧ AllBare s'.gens) s₁ := by
  -- the call itself, for a heap in which the script alone may be tracked
  have go : ∀ H : Hp, Only H → SqL K H a (ns.map V.int) → HOk P w H s₁.heap → (∀ b u, H b = some u → b = a ∧ K.lookup a = none) →
      codeAny (model P w) callerA (.call (.ref fa) ⟨[.ref a], []⟩) (fun r s' => r = .ok (.ret (.bool true)) ∧ OldK s₁.heap s'.heap ∧ s'.os = s₁.os ∧ AllBare s'.gens) s₁ := by
    intro H hO hS hok hA
    have free : ∀ b : Addr, (b ≠ a ∨ K.lookup a ≠ none) → H b = none := by
      intro b z
      cases q : H b with
      | none => rfl
      | some u => exact (z.elim (fun z => z (hA b u q).1) fun z => z (hA b u q).2).elim
    have notSeq : ∀ {b : Addr} {m : Str → Option Value}, s₁.heap.Ns b m → b ≠ a := by
      rintro b m ⟨o, es, ep, e, d, _⟩ rfl
      rw [ha] at e
      cases e
      cases d
    have inH : ∀ {b : Addr} {m : Str → Option Value}, s₁.heap.Ns b m → (hidT s₁.heap H).Ns b m := by
      intro b m n
      have nb := free b (Or.inl (notSeq n))
      obtain ⟨o, es, ep, e, r⟩ := n
      exact ⟨o, es, ep, hidT_get e nb, r⟩
    have kin : K.In (hidT s₁.heap H) := by
      intro b o e
      refine hidT_get (KX b o e) ?_
      by_cases hb : b = a
      · exact free b (Or.inr (by rw [← hb, e]; exact fun z => nomatch z))
      · exact free b (Or.inl hb)
    have lim2 : (hidT s₁.heap H).NoLimit := by
      obtain ⟨mc, h1, h2⟩ := hlim
      exact ⟨mc, inH h1, h2⟩
    have e0 : Env0 P w K mg (hidT s₁.heap H) callerA [] s₁ H := by
      refine ⟨rfl, ⟨kin, inH hns, ⟨mb, inH hb, hbb⟩, lim2⟩, fun b o e => of_hidT e, Nat.le_of_eq (hidT_size _ _), True.intro, ?_, hok, .of_eq hg⟩
      intro b hb
      cases hb
    refine codeAny_mono ((F _ kin (inH hns)).runG callerA [] s₁ H ⟨[.ref a], []⟩ [.ref a] [.ref a] _ _ rfl hr e0 (hbind s₁ (.ref a)) (.cons rfl .nil) (hsp H hO hS)) fun r s' h => ?_
    match r, h with
    | .error e, h => exact (hCX H e s' h).elim
    | .ok .next, h => exact h.elim
    | .ok .brk, h => exact h.elim
    | .ok .cont, h => exact h.elim
    | .ok (.ret u), ⟨v, H', os, bare, un, hok', rv, q⟩ =>
      have q2 : v = .bl true := q
      subst q2
      cases rv
      refine ⟨rfl, OldK.of_keep (fun b o e => ?_), os, bare⟩
      rcases hO b with z | ⟨ob, xs, z⟩
      · exact un.keep b o e z (fun z => nomatch z) (fun z => nomatch z)
      · have z1 := (hok b _ z).1
        have z2 := (hok' b _ (un.frzs b ob _ z)).1
        rw [z1] at e
        rw [z2, e]
  have rv := vals_ints hi
  have hlen : (ns.map V.int).length ≤ sizeLine := by rw [List.length_map]; exact hl
  cases hk : K.lookup a with
  | some o =>
    have e := KX a o hk
    rw [ha] at e
    cases e
    exact go (fun _ => none) (fun _ => Or.inl rfl) (Or.inr ⟨_, vs.toArray, _, hk, rfl, rfl, rfl, by rw [List.size_toArray, hi.length]; exact hl, by simpa using rv⟩) (fun b u z => nomatch z) fun b u z => nomatch z
  | none =>
    have at_ : ∀ b u, (if b = a then some (HO.frz { cls := .type "list", data := .seq vs.toArray } (.lst (ns.map V.int))) else none) = some u → b = a ∧ u = .frz { cls := .type "list", data := .seq vs.toArray } (.lst (ns.map V.int)) := by
      intro b u z
      split at z
      · rename_i hb
        exact ⟨hb, (Option.some.inj z).symm⟩
      · cases z
    refine go (fun b => if b = a then some (.frz { cls := .type "list", data := .seq vs.toArray } (.lst (ns.map V.int))) else none) (fun b => ?_) (Or.inl (Or.inr ⟨_, if_pos rfl⟩)) (fun b u z => ?_) fun b u z => ⟨(at_ b u z).1, hk⟩
    · by_cases hb : b = a
      · exact Or.inr ⟨_, _, if_pos hb⟩
      · exact Or.inl (if_neg hb)
    · obtain ⟨rfl, rfl⟩ := at_ b u z
      exact ⟨ha, hlen, vs, _, rv, ha⟩

theorem walk_ofG {l : PySem.W.OpenLaw} {n k : Nat} {q : Program} {loose : List Str} {XP : (Str → Option Value) → Heap → Prop} {YP : World → Heap → Prop} {d : DefRec} {K : Params → PySem.W.Frag} {CX : World → CXT} {sp : World → Sp} {x : Str}
    (hn : l.most = some n) (hn2 : n ≤ sizeLine) (hdf : d.params.defaults = []) (hr : Room k callerA) (hY : ∀ (w : World) (h : Heap), YP w h → (K w.params).In h)
    (F : ∀ (w : World) (mg : Str → Option Value) (fa : Addr) (h : Heap), (K w.params).In h → h.Ns mainGlobals mg → mg d.name = some (.ref fa) →
      ∃ fd : FuncData, (∀ (s : Shared) (u : Value), BindsTo s fd ⟨[u], []⟩ [(x, u)]) ∧ ∀ base : Heap, (K w.params).In base → base.Ns mainGlobals mg → FnG l.prog w (K w.params) mg base (CX w) k fa fd [x] (sp w))
    (hsp : ∀ (w : World) (H : Hp) (a : Addr) (ns : List Int), ns.length ≤ n → (∀ z ∈ ns, Builtin.Int.intBits z ≤ 1048576) → Only H → SqL (K w.params) H a (ns.map V.int) → sp w [.ref a] H (fun v _ => v = .bl true) fun _ _ _ => False)
    (hCX : ∀ (w : World) (H : Hp) (s : Shared) (e : Value) (s' : Shared), CX w [] H s (fun _ _ _ => False) e s' → False) :
    PySem.W.WalkO q loose XP YP l.row.toRowW d [] (fun f vs => PySem.call f vs) := by
  apply Att.attach_callB hn hdf
  intro w s₀ s₁ mg mb fa o pm cd doc a vs ns G Y _ _ _ hmg hobj hints hlen hbits hg
  obtain ⟨fd, hb, hF⟩ := F w mg fa _ (hY w _ Y) G.T.g hmg
  exact law_callG (hY w _ Y) G.T.g G.T.b G.T.builtins G.T.nolimit hg hobj hints (Nat.le_trans hlen hn2) hr hF hb (fun H hO hS => hsp w H a ns hlen hbits hO hS) fun H e s' => hCX w H s₁ e s'
end So

namespace So
open PySem PySem.Spec PyProof.Rows L2
section
variable {K : PySem.W.Frag} {C : Addr}
theorem kit_self : PySem.W.kitOne K (.ref C) (.ref C) = some true := by
  unfold PySem.W.kitOne
  rw [if_pos]
  simp
/-- no built-in type stands below an own class -/
theorem sub_ty {T : String} (h : (fastBuiltinMro T).map (fun l => l.all fun v => match v with | .type _ => true | _ => false) = some true) : PySem.W.subIn K (.type T) (.ref C) = some false := by
  show (fastBuiltinMro T).map (·.contains (.ref C)) = some false
  cases e : fastBuiltinMro T with
  | none => rw [e] at h; cases h
  | some l =>
    rw [e] at h
    have h2 : (l.all fun v => match v with | .type _ => true | _ => false) = true := Option.some.inj h
    show some (l.contains (.ref C)) = some false
    congr 1
    cases c : l.contains (.ref C) with
    | false => rfl
    | true =>
      have m : (Value.ref C) ∈ l := by simpa using c
      have := List.all_eq_true.mp h2 _ m
      cases this
theorem notFirst_ty {T : String} (h : (fastBuiltinMro T).map (fun l => l.all fun v => match v with | .type _ => true | _ => false) = some true) : PySem.W.notFirst K C (.type T) = true := by
  unfold PySem.W.notFirst
  rw [sub_ty h]
  simp
theorem kit_no {T : String} (hc : PySem.W.isClsIn K C = true) (ht : PySem.W.typeIn K (.ref C) = some (.type "type")) (h : (fastBuiltinMro T).map (fun l => l.all fun v => match v with | .type _ => true | _ => false) = some true) : PySem.W.kitOne K (.type T) (.ref C) = some false := by
  unfold PySem.W.kitOne PySem.W.kitCls
  unfold PySem.W.isClsIn at hc
  have hb : ((PySem.W.clsIn K C).isSome && PySem.W.typeIn K (.ref C) == some (.type "type")) = true := by
    rw [hc, ht]
    simp
  have sb := sub_ty (K := K) (C := C) h
  simp [hb, sb]
end
end So

/-! So, on: exceptions that are kept as values. -/
namespace So
open PySem PySem.Spec PyProof.Rows L2
/-- an exception object of the class cls, its dict at d, that stands at a and is nobody's news -/
def Xo (cls : Value) (d : Option Addr) (a : Addr) : HO := .ext fun h => ∃ (oe : Obj) (vs : Array Value), h.get? a = some oe ∧ Zc cls d oe ∧ oe.data = .fields vs
theorem xo_ok {P : Program} {w : World} {H : Hp} {h : Heap} {a : Addr} {cls : Value} {d : Option Addr} {oe : Obj} {vs : Array Value} (e : h.get? a = some oe) (z : Zc cls d oe) (f : oe.data = .fields vs) : ObjOk P w H h a (Xo cls d a) := by
  refine ⟨⟨oe, vs, e, z, f⟩, ⟨oe, e⟩, ?_⟩
  rintro h1 h2 ⟨o, v, q, r⟩ k
  exact ⟨o, v, k o q, r⟩
theorem xo_at {P : Program} {w : World} {H : Hp} {h : Heap} {a : Addr} {cls : Value} {d : Option Addr} (hok : HOk P w H h) (e : H a = some (Xo cls d a)) : ∃ (oe : Obj) (vs : Array Value), h.get? a = some oe ∧ Zc cls d oe ∧ oe.data = .fields vs := by
  have x : ObjOk P w H h a (.ext fun h => ∃ (oe : Obj) (vs : Array Value), h.get? a = some oe ∧ Zc cls d oe ∧ oe.data = .fields vs) := hok a _ e
  exact x.1
section
variable {X : Cx} {pins : List (Addr × Obj)} {σ : L2.St} {H : Hp} {s sI : Shared} {a : Addr} {cls : Value} {d : Option Addr} {oe : Obj} {vs : Array Value}
/-- an exception that has landed is tracked from now on -/
theorem track (J : Inv X pins σ H sI) (hex : X.ex = []) (hI : sI.heap.get? a = none) (I : Inv X pins σ H s) (he : s.heap.get? a = some oe) (hz : Zc cls d oe) (hd : oe.data = .fields vs) (na : H a = none) (nL : a ≠ X.env.locals) :
    Inv X pins σ (upd H a (Xo cls d a)) s := by
  have h0 : ∀ b o, X.s_0.heap.get? b = some o → b ≠ a := by
    rintro b o e rfl
    obtain ⟨o', e'⟩ := J.base.there b o e (by rw [hex]; exact fun z => nomatch z)
    rw [hI] at e'
    cases e'
  have hs : ∀ {b : Addr} {u : HO}, H b = some u → (upd H a (Xo cls d a)) b = some u := fun e => (upd_ne (ne_of_none e na)).trans e
  refine ⟨I.ok, I.os, I.bare, ⟨I.base.keep, I.base.slot, fun b o e n hx => (upd_ne (h0 b o e)).trans (I.base.free b o e n hx), I.base.there, fun b xs q => hs (I.base.tups b xs q), fun b o u q => hs (I.base.frzs b o u q), fun b ps q => ?_⟩,
    I.loc, I.cell, (upd_ne nL.symm).trans I.free, fun x c e => ?_, fun p hp => ?_, fun b u e => ?_, I.len⟩
  · obtain ⟨m, q'⟩ := I.base.tbls b ps q
    exact ⟨m, hs q'⟩
  · refine (upd_ne ?_).trans (I.freeC x c e)
    rintro rfl
    obtain ⟨v, o, ho, hc⟩ := I.cell x c e
    rw [he] at ho
    cases ho
    rw [hd] at hc
    cases hc
  · obtain ⟨p1, p2, p3, p4, p5⟩ := I.pin p hp
    refine ⟨p1, (upd_ne ?_).trans p2, p3, p4, p5⟩
    intro z
    have := (J.pin p hp).1
    rw [z, hI] at this
    cases this
  · by_cases hb : b = a
    · subst hb
      rw [upd_same] at e
      cases e
      exact xo_ok he hz hd
    · rw [upd_ne hb] at e
      exact (I.hok b u e).stay (fun _ _ _ q => q) (fun c q => hs q) fun c xs q => hs q
end

/-! ### try: body, except x as n: suite, the exception kept as a value -/
/-- what such a clause wishes of an exception of the body -/
def wKeep (K : PySem.W.Frag) (c : Value) (i : Nat) (ts : TS) (Wout : WX) (D : Ends) : WX := fun cls d σ H =>
  ∃ b, PySem.W.exmOne K cls c = some b ∧ (b = true → ∀ a, H a = none → ts { nx := fun σ' H' => D.nx (σ'.set i none) H', rt := D.rt, bk := fun σ' H' => D.bk (σ'.set i none) H', ct := fun σ' H' => D.ct (σ'.set i none) H' } (σ.set i (some (.ref a))) (upd H a (Xo cls d a))) ∧
    (b = false → Wout cls d σ H)
section
variable {X : Cx} {x n : Str} {c : Value} {i : Nat} {body suite : List Stmt} {b₀ : Stmt} {np pos pos' : Pos} {tb : WX → TS} {ts : TS} {Wout : WX}
theorem ps_try_keep (hs : X.stack = X.env :: X.outer) (hf : X.env.frame = some X.env.locals) (hex : X.ex = []) (hN : X.N.Nodup) (hi : X.N[i]? = some n) (hln : X.env.kindOf n = some .local) (hc : Names X x c) (tk : Takes X Wout)
    (hb : ∀ (W : WX) (pn : List (Addr × Obj)) (xe : Value → Shared → Prop), Takes (X.tr pn xe) W → PassesOwn (model X.prog X.w) X.A X.env xe → PSs (X.tr pn xe) body (tb W))
    (hsu : ∀ (a : Addr) (pn : List (Addr × Obj)), PSs (X.suite a pn) (b₀ :: suite) ts) :
    PS X (.Try body [.ExceptHandler (some (.Name x np)) (some n) (b₀ :: suite) pos'] [] [] pos) (fun D σ H => tb (wKeep X.K c i ts Wout D) D σ H) := by
  constructor
  intro pins s σ H D I h
  have ok := I.ok
  have hfr : X.A.frames = some (X.env :: X.outer) := ok.frames.trans (congrArg some hs)
  refine wpAny_Try_except (wpAny_mono ((hb (wKeep X.K c i ts Wout D) (X.pn ++ pins) (fun e s₁ => wpAny (model X.prog X.w) X.A (noteFrame e X.env) (fun _ s₂ => wpAny (model X.prog X.w) X.A (setFlight e none) (fun _ s₃ =>
    wpAny (model X.prog X.w) X.A (handleBy e X.env [.ExceptHandler (some (.Name x np)) (some n) (b₀ :: suite) pos']) (SP X pins D) X.xe s₃) X.xe s₂) X.xe s₁) (fun u s' xx => ?_) PassesOwn.looking).run [] s σ H D (I.toTry _) h) (fun f s1 hsp => ?_) fun e s1 he => he)
  · obtain ⟨a, B, sI, pins', σ', H', cls, d, rfl, J', nb, up, sky, na, os, ag, b, hb1, hyes, hno⟩ := xx
    have J : Inv X pins σ' H' sI := J'.ofTry ok
    have sky' : Sky B (X.env :: X.outer) a (Zc cls d) X.env.locals s'.heap := hs ▸ sky
    refine Sky.land Zc.steady hfr hf sky' fun h3 fl3 up3 => ?_
    have J3 : Inv X pins σ' H' { s' with heap := h3 } := J.landed nb fl3.1 (up.trans up3) os ag
    obtain ⟨oe3, vs3, he3, hz3, hd3⟩ := fl3.there
    have nfr : a ∉ frs (X.env :: X.outer) := fun hm => by
      obtain ⟨_, o', e', hnf⟩ := fl3.2.2.1.mem hm
      rw [he3] at e'
      cases e'
      exact hnf _ hd3
    have nL : a ≠ X.env.locals := fun z => nfr (by
      refine List.mem_filterMap.mpr ⟨X.env, List.mem_cons_self, ?_⟩
      rw [hf, z])
    have hBa : B.get? a = none := fl3.2.1
    have hIa : sI.heap.get? a = none := by
      cases e : sI.heap.get? a with
      | none => rfl
      | some o =>
        have := nb a o e (by rw [hs]; exact nfr)
        rw [hBa] at this
        cases this
    refine wpAny_handleBy_cons (codeAny_handlers_test ?_) (by intro q; cases q)
    have LT : PySem.W.Looks (model X.prog X.w) h3 (typeOf (.ref a)) cls := by
      intro A Q E s k q
      refine wpAny_typeOf_ref (k _ _ he3) ?_
      rw [hz3.1]
      exact q
    have LM := PySem.W.exm_one (M := model X.prog X.w) (J3.kIn) LT hb1
    have S0 : ∀ {h4 : Heap}, Inv X pins σ' H' { s' with heap := h4 } → ∀ {o : Obj} {v : Array Value}, h4.get? a = some o → Zc cls d o → o.data = .fields v → Inv (X.suite a (X.pn ++ pins)) [] σ' (upd H' a (Xo cls d a)) { s' with heap := h4 } := by
      intro h4 J4 o v e z dt
      have T := track J hex hIa J4 e z dt na nL
      exact ⟨T.ok.suite _ _, T.os, T.bare, T.base, T.loc, T.cell, T.free, T.freeC, fun p hp => T.pin p (by rwa [List.append_nil] at hp), T.hok, T.len⟩
    have S3 := S0 J3 he3 hz3 hd3
    have test : ∀ {Q : Value → Shared → Prop} {E : Value → Shared → Prop}, Q c { s' with heap := h3 } → wpAny (model X.prog X.w) (X.A.mark (some (.ref a))) (eval (.Name x np) X.env) Q E { s' with heap := h3 } := by
      intro Q E q
      rcases hc with ⟨hg, hdbg, hm | ⟨hm, hv, hnn⟩⟩
      · exact ld_glob (X := X.suite a (X.pn ++ pins)) S3 hg hm q hdbg
      · exact ld_blt (X := X.suite a (X.pn ++ pins)) S3 hg hm hv q hnn hdbg
    refine test (LM.here ?_)
    cases b with
    | true =>
      refine codeAny_handlers_suite_as (HandSPX.lands_againZ fl3 fun h4 fl4 up4 => ?_)
      have J4 : Inv X pins σ' H' { s' with heap := h4 } := J.landed nb fl4.1 ((up.trans up3).trans up4) os ag
      obtain ⟨oe4, vs4, he4, hz4, hd4⟩ := fl4.there
      have S4 := S0 J4 he4 hz4 hd4
      refine store_ok (X := X.suite a (X.pn ++ pins)) (v := .ref a) S4 hN hi (.inl hln) rfl (fun s5 S5 => ?_) (.inr hln)
      refine wpAny_mono ((hsu a (X.pn ++ pins)).run [] s5 _ _ _ S5 (hyes rfl a na)) (fun f s6 hsp => ?_) (fun _ _ z => z.elim)
      have out : ∀ {σ6 : L2.St} {H6 : Hp}, Inv (X.suite a (X.pn ++ pins)) [] σ6 H6 s6 → Inv X pins σ6 H6 s6 := fun S6 =>
        ⟨ok, S6.os, S6.bare, S6.base, S6.loc, S6.cell, S6.free, S6.freeC, fun p hp => S6.pin p (List.mem_append_left _ hp), S6.hok, S6.len⟩
      match f, hsp with
      | .next, ⟨σ6, H6, S6, q6⟩ => exact gone_ok (out S6) hN hi hln fun s7 J7 => ⟨_, _, J7, q6⟩
      | .brk, ⟨σ6, H6, S6, q6⟩ => exact gone_ok (out S6) hN hi hln fun s7 J7 => ⟨_, _, J7, q6⟩
      | .cont, ⟨σ6, H6, S6, q6⟩ => exact gone_ok (out S6) hN hi hln fun s7 J7 => ⟨_, _, J7, q6⟩
      | .ret u, ⟨v6, σ6, H6, S6, r6, q6⟩ => exact gone_ok (out S6) hN hi hln fun s7 J7 => ⟨_, _, _, J7, r6, q6⟩
    | false =>
      refine wpAny_handleBy_nil ?_
      obtain ⟨_, _, _, oe, vs, T, _, _, he, _, hd, h1, _⟩ := id fl3
      unfold PySem.passOn
      refine wpAny_bind (wpAny_field he hd h1 ?_)
      have nn : ¬ ((Value.ref T == Value.none) = true) := by simp
      rw [if_neg nn]
      have fin : wpAny (model X.prog X.w) X.A (setFlight (.ref a) X.env.frame) (fun _ s4 => wpAny (model X.prog X.w) X.A (throw (.ref a) : Sem Flow) (SP X pins D) X.xe s4) X.xe { s' with heap := h3 } := by
        rw [hf]
        refine HandSPX.setFlight_upZ fl3 fun h4 hh4 up4 => wpAny_throw (tk _ _ ⟨a, B, sI, pins, σ', H', cls, d, rfl, J, nb, (up.trans up3).trans up4, ?_, na, os, ag, hno rfl⟩)
        exact Or.inr (Or.inr (hs ▸ hh4))
      first
        | exact wpAny_bind (wpAny_pure (wpAny_bind fin))
        | exact wpAny_bind fin
  · match f, hsp with
    | .next, ⟨σ', H', J', q⟩ => exact wpAny_execs_nil ⟨σ', H', J'.ofTry ok, q⟩
    | .brk, ⟨σ', H', J', q⟩ => exact ⟨σ', H', J'.ofTry ok, q⟩
    | .cont, ⟨σ', H', J', q⟩ => exact ⟨σ', H', J'.ofTry ok, q⟩
    | .ret u, ⟨v, σ', H', J', r, q⟩ => exact ⟨v, σ', H', J'.ofTry ok, r, q⟩
end
end So

namespace So
open PySem PySem.Spec PyProof.Rows L2
/-- what an error class of the program's own says of its instances -/
structure Err (K : PySem.W.Frag) (C : Addr) : Prop where
  ga : PySem.W.findIn K (.ref C) "__getattribute__" = some (some (.builtin "BaseException.__getattribute__"))
  gg : PySem.W.findIn K (.ref C) "__getattr__" = some none
  exC : PySem.W.subIn K (.ref C) (.type "BaseException") = some true
  hdC : PySem.W.hasDictIn K C = true
  ca : PySem.W.findIn K (.ref C) "__class__" = some (some (.builtin "object.__class__"))
  cn : PySem.W.specialIn K (.builtin "object.__class__") "__get__" = some (some (.builtin "getset_descriptor.__get__"))
  ct : PySem.W.takesIn K (.builtin "object.__class__") = some true
  cm : PySem.W.mroIn K C (.type "object") = some true
section
variable {X : Cx}
/-- e.n, e an exception that is kept -/
theorem pe_xo {C : Addr} {e : Expr} {te : TE} {pos : Pos} {n : Str} (T : Err X.K C) (hno : PySem.W.findIn X.K (.ref C) n = some none) (he : PE X e te) (hb : attributeBase e n X.env (eval e X.env) = eval e X.env := by rfl) :
    PE X (.Attribute e n pos) (fun σ H Q => te σ H fun x H1 => ∃ (a dd : Addr) (fs : List (Str × V)) (v : V), x = .ref a ∧ H1 a = some (Xo (.ref C) (some dd) a) ∧ H1 dd = some (.xd fs) ∧ fs.lookup n = some v ∧ Q v H1) := by
  constructor
  intro pins s σ H Q I h
  refine attr_of hb (thn (he.run pins s σ H _ I h) fun u s1 hh => ?_)
  obtain ⟨x, H1, I1, rx, a, dd, fs, v, rfl, ha, ea, l, q⟩ := hh
  cases rx
  obtain ⟨oe, vs, hg, hz, hd⟩ := xo_at I1.hok ha
  obtain ⟨mA, hns, hr⟩ := (show ObjOk X.prog X.w H1 s1.heap dd (.xd fs) from I1.hok dd _ ea)
  obtain ⟨od, ho, hl⟩ := lookIn_ns hns
  have hrn := hr n
  rw [l] at hrn
  obtain ⟨u, hu, ru⟩ := RelO.some_of hrn
  have nc : PySem.W.notCls oe = true := by
    unfold PySem.W.notCls
    rw [hd]
  have J : PySem.W.InstAt s1.heap a oe C (some od) := by
    refine ⟨hg, hz.1, nc, ?_⟩
    rw [hz.2]
    exact ho
  have fo := PySem.W.findObj_own (K := X.K) (C := C) (od := od) (name := n) (v := u) T.hdC hno rfl (by rw [hl, hu])
  exact HandSPX.exc_get I1.kIn J T.ga T.gg T.exC fo (handed_of ru) ⟨v, H1, I1.tok _, ru, q⟩
end
/-! ### isinstance of a kept exception -/
section
open PySem.W PySem.Calls
variable {prog : Program} {w : World} {A : Around} {E : Value → Shared → Prop} {K : Frag} {x D : Addr} {ox : Obj} {od : Option Obj}
theorem err_class {Q : Option Value → Shared → Prop} (T : Err K D) (hp : Heap) (g : Array GenState) (dr : Drawn) (t : Nat) (os : OsState) (X : K.In hp) (I : InstAt hp x ox D od)
    (h : Q (some (.ref D)) ⟨hp, g, dr, t + 1, os⟩) : wpAny (model prog w) A (getAttr? (.ref x) "__class__") Q E ⟨hp, g, dr, t, os⟩ := by
  have isc : (clsIn K D).isSome = true := by
    obtain ⟨cd, hc, _⟩ := any_some T.hdC
    rw [hc]
    rfl
  have hf : findObj K D od "__class__" = some (.bind (.builtin "getset_descriptor.__get__") (.builtin "object.__class__")) := by
    cases od with
    | none => exact findObj_dataN isc T.ca T.cn T.ct
    | some o => exact findObj_data isc T.ca T.cn T.ct
  have k0 := I.type (M := model prog w)
  have k1 := looks_findIn (M := model prog w) X T.ga
  have k2 := looks_findIn (M := model prog w) X T.gg
  have k3 := looks_find (M := model prog w) X I hf
  have below : Looks (model prog w) hp (isInstance (.ref x) (.type "BaseException")) true := k0.andThen (looks_subIn X T.exC)
  have ne : (Value.builtin "BaseException.__getattribute__" == Value.builtin "object.__getattribute__") = false := by decide +kernel
  have both : (onTheHeap (Value.ref D) && Value.builtin "BaseException.__getattribute__" == Value.builtin "object.__getattribute__") = false := by
    rw [ne]
    exact Bool.and_false _
  have own : onTheHeap (Value.ref D) = true := rfl
  have noheap : (false && onTheHeap (Value.builtin "BaseException.__getattribute__")) = false := rfl
  unfold getAttr? getAttrBy? getAttrBy
  apply wpAny_bind
  apply wpAny_mkText
  apply wpAny_bind
  apply wpAny_attempt
  apply wpAny_holding
  apply wpAny_bind
  apply k0.at
  apply wpAny_bind
  apply k1.at
  show wpAny _ _ (ite ((onTheHeap (Value.ref D) && Value.builtin "BaseException.__getattribute__" == Value.builtin "object.__getattribute__") = true) _ _) _ _ _
  rw [both, if_neg (by decide)]
  unfold getAttrByItsOwn hookBefore
  apply wpAny_bind
  rw [if_pos own]
  apply k2.at
  apply wpAny_bind
  apply wpAny_attempt
  apply wpAny_holding
  unfold callGetattribute
  rw [noheap, if_neg (by decide)]
  unfold boundAndCalled
  rw [F.excAttr_ValueError.ga.bind (.ref x)]
  apply wpAny_bind
  apply wpAny_pure
  show wpAny _ _ (call (.builtin "BaseException.__getattribute__") [.ref x, .str "__class__" t]) _ _ _
  apply wpAny_call
  refine codeAny_call_builtin F.excAttr_ValueError.ga.plain F.entry_bexc_ga (@check_slot (model prog w) _ _ ⟨hp, g, dr, t + 1, os⟩ "BaseException.__getattribute__" "BaseException" "__getattribute__" (.ref x) [.str "__class__" t] [] _ (by decide +kernel) (by decide +kernel) below (F.args_bexc_ga (.ref x) (.str "__class__" t)) ?_)
  unfold Builtin.«object.__getattribute__»
  apply wpAny_bind
  refine wpAny_of_eq (a := ((Value.ref x : Value), [Value.str "__class__" t])) (by first | rfl | (simp only [slotArgs]; rfl)) ?_
  apply wpAny_bind
  apply wpAny_pure
  apply wpAny_bind
  apply k0.at
  apply wpAny_bind
  apply k3.at
  show wpAny _ _ (holding [Value.builtin "object.__class__"] (call (.builtin "getset_descriptor.__get__") [.builtin "object.__class__", .ref x, .ref D]) >>= ret) _ _ _
  apply wpAny_bind
  apply wpAny_holding
  apply wpAny_call
  refine class_get (s := ⟨hp, g, dr, t + 1, os⟩) (ox := ox) (od := od) X I T.cm (wpAny_pure ?_)
  show wpAny _ _ (handedOut (.ref D)) _ _ _
  rw [handedOut_of (v := .ref D) rfl]
  first
    | exact wpAny_pure (wpAny_pure h)
    | exact wpAny_pure h
    | exact wpAny_pure (wpAny_bind (wpAny_pure (wpAny_pure h)))
theorem kitx_err (T : Err K D) : KitX K (.ref x) (.ref D) (fun h => ∃ ox od, InstAt h x ox D od) where
  ty := fun _ _ _ ⟨_, _, I⟩ => I.type
  it := fun _ _ X _ => by
    obtain ⟨cd, hc, _⟩ := any_some T.hdC
    unfold clsIn at hc
    split at hc
    · rename_i ho
      intro A' Q' E' s' k q
      unfold isType loadHead
      exact wpAny_bind (wpAny_loadPart (k _ _ (X _ _ ho)) (wpAny_pure q))
    · cases hc
  ne := fun h tp dd its n sl X htp => by
    cases q : (Value.ref D == Value.ref tp) with
    | false => rfl
    | true =>
      have e : D = tp := Value.ref.inj (beq_iff_eq.mp q)
      subst e
      obtain ⟨cd, hc, _⟩ := any_some T.hdC
      unfold clsIn at hc
      split at hc
      · rename_i ho
        have z := (X _ _ ho).symm.trans htp
        cases z
      · cases hc
  ca := fun {prog w A E Q s} X I k => by
    obtain ⟨ox, od, I⟩ := I
    obtain ⟨hp, g, dr, t, os⟩ := s
    exact err_class T hp g dr t os X I k
end
section
variable {X : Cx}
/-- isinstance(e, c), e a kept exception, c one class -/
theorem call_isXo : CallR X (.builtin "isinstance") (fun xs H Q => ∃ (a D dd : Addr) (fs : List (Str × V)) (c : V) (u : Value) (b : Bool), xs = [.ref a, c] ∧ H a = some (Xo (.ref D) (some dd) a) ∧ H dd = some (.xd fs) ∧ Err X.K D ∧ ClsV c u ∧ PySem.W.kitOne X.K (.ref D) u = some b ∧ Q (.bl b) H) := by
  intro pins s σ H xs us Q I r h
  obtain ⟨a, D, dd, fs, c, u, b, rfl, ha, hd, T, cv, e, q⟩ := h
  obtain ⟨u1, u2, rfl, r1, r2⟩ := vals2 r
  cases r1
  have e2 := cv.eq r2
  subst e2
  obtain ⟨oe, vs, hg, hz, hdat⟩ := xo_at I.hok ha
  obtain ⟨mA, hns, _⟩ := (show ObjOk X.prog X.w H s.heap dd (.xd fs) from I.hok dd _ hd)
  obtain ⟨od, ho, _⟩ := lookIn_ns hns
  have nc : PySem.W.notCls oe = true := by
    unfold PySem.W.notCls
    rw [hdat]
  have J : PySem.W.InstAt s.heap a oe D (some od) := by
    refine ⟨hg, hz.1, nc, ?_⟩
    rw [hz.2]
    exact ho
  exact PySem.W.kia_one (kitx_err T) I.kIn ⟨oe, some od, J⟩ e (fun z => nomatch z) fun tk => ⟨.bl b, H, I.tok tk, rfl, q⟩
end
end So

namespace So
open PySem PySem.Spec PyProof.Rows L2
/-- C.m is a static method: its record at p, its def at g -/
structure Sta (K : PySem.W.Frag) (C : Addr) (mc : Value) (m : Str) (p g : Addr) : Prop where
  rd : PySem.W.readsIn K C mc = true
  ga : PySem.W.specialIn K (.ref C) "__getattribute__" = some (some (.builtin "type.__getattribute__"))
  at_ : PySem.W.findCls K (.ref C) mc m = some (.get (.builtin "staticmethod.__get__") (.ref p) .none (.ref C))
  rc : ∃ rest, PySem.W.recIn K p "staticmethod" = some (.ref g :: rest)
  kp : PySem.W.keepIn K (.ref g) = true
section
variable {X : Cx} {CX : CXT} {k : Nat} {C f p0 : Addr} {mc : Value} {fd : FuncData} {ps ks : List Str} {sp : Sp} {E : XK} {m : Str} {pos apos : Pos} {e o : Expr} {es : List Expr} {kws : List Keyword} {ta : TE} {t tk : TA}
theorem getsta_ok {pins : List (Addr × Obj)} {σ : L2.St} {H : Hp} {s : Shared} {pl : Sem Bool} {A : Around} {E' : Value → Shared → Prop} {Q : Value × List Value → Shared → Prop} (I : Inv X pins σ H s) (S : Sta X.K C mc m p0 f) (h : ∀ s', Inv X pins σ H s' → Q (.ref f, []) s') :
    wpAny (model X.prog X.w) A (getMethod (.ref C) m pl) Q E' s := by
  obtain ⟨rest, hp⟩ := S.rc
  refine PySem.W.method_cls I.kIn S.ga (PySem.W.cls_bind I.kIn S.rd S.at_ (wpAny_call (PySem.W.sm_get (s := { s with toks := s.toks + 1 }) I.kIn hp (PySem.W.handed_on rfl ?_))))
  exact h _ (I.tok _)
/-- C.m(e, ..), m static -/
theorem pe_sta {pl : Sem Bool} (he : PE X o ta) (S : Sta X.K C mc m p0 f) (F : FnOk X.prog X.w X.K X.mg X.base CX k f fd ps sp) (hr : Room k X.A) (hb : Binds X.K fd ps []) (hx : Passes CX X E) (ha : PA X (e :: es) t)
    (hst : starEach (e :: es) X.env = (false, eval e X.env) :: starEach es X.env := by rfl) (hpl : (backTo pos (starEach es X.env)).any (·.1) = false := by rfl)
    (ht : eval (.Call (.Attribute o m apos) (e :: es) [] pos) X.env = (do
      let ov ← eval o X.env
      standAt apos.atName
      let fx ← holding [ov] (getMethod ov m pl)
      callWith pos fx.1 fx.2 (backTo pos (starEach (e :: es) X.env)) (backToKw pos (keywordEach [] X.env))) := by rfl) :
    PE X (.Call (.Attribute o m apos) (e :: es) [] pos) (fun σ H Q => ta σ H fun x H1 => x = .ref C ∧ t σ H1 fun vs H2 => sp vs H2 Q E) := by
  constructor
  intro pins s σ H Q I h
  refine PySem.W.methodCall_KW (pl := pl) (thn (he.run pins s σ H _ I h) fun u s1 z => ?_) ht
  obtain ⟨x, H1, I1, rx, rfl, q⟩ := z
  cases rx
  refine getsta_ok I1 S fun s2 I2 => PySem.W.callWith_K (first := []) (h₀ := X.base) I2.ok.mod.kin S.kp (thn (ha.run pos pins s2 σ H1 _ I2 q) fun us s3 z => ?_) hst hpl
  obtain ⟨vs, H2, I3, r, q2⟩ := z
  refine ⟨I3.kIn, ?_⟩
  have q3 : sp (vs ++ []) H2 Q E := by
    rw [List.append_nil]
    exact q2
  exact run_fn F hr hb .nil hx I3 r q3
/-- C.m(k = v, ..), m static, keywords alone -/
theorem pe_staK {g : List Value → List Value → List Value} {gV : List V → List V → List V} {pl : Sem Bool} (he : PE X o ta) (S : Sta X.K C mc m p0 f) (F : FnOk X.prog X.w X.K X.mg X.base CX k f fd ps sp) (hr : Room k X.A) (hb : KBinds X.K fd ps ks g gV) (hx : Passes CX X E)
    (hkw : PK X kws tk) (hall : (backToKw pos (keywordEach kws X.env)).all (·.1.isSome) = true := by rfl) (hks : (backToKw pos (keywordEach kws X.env)).filterMap (·.1) = ks := by rfl)
    (hpl : ((backTo pos (starEach [] X.env)).any (·.1) || (backToKw pos (keywordEach kws X.env)).any (·.1.isNone)) = false := by rfl)
    (ht : eval (.Call (.Attribute o m apos) [] kws pos) X.env = (do
      let ov ← eval o X.env
      standAt apos.atName
      let fx ← holding [ov] (getMethod ov m pl)
      callWith pos fx.1 fx.2 (backTo pos (starEach [] X.env)) (backToKw pos (keywordEach kws X.env))) := by rfl) :
    PE X (.Call (.Attribute o m apos) [] kws pos) (fun σ H Q => ta σ H fun x H1 => x = .ref C ∧ tk σ H1 fun zs H2 => sp (gV [] zs) H2 Q E) := by
  constructor
  intro pins s σ H Q I h
  refine PySem.W.methodCall_KW (pl := pl) (thn (he.run pins s σ H _ I h) fun u s1 z => ?_) ht
  obtain ⟨x, H1, I1, rx, rfl, q⟩ := z
  cases rx
  refine getsta_ok I1 S fun s2 I2 => PySem.W.callWith_KW0 (first := []) (h₀ := X.base) I2.ok.mod.kin S.kp hall (thn (hkw.run pos pins s2 σ H1 _ I2 q) fun ws s3 z => ?_) hpl
  obtain ⟨zs, H2, I3, rz, q2⟩ := z
  refine ⟨I3.kIn, ?_⟩
  rw [hks]
  exact run_fnk (us := []) (vs := []) F hr hb hx I3 .nil rz q2
/-- ~o by an own __invert__ -/
theorem un_invOwn (F : FnOk X.prog X.w X.K X.mg X.base CX k f fd ps sp) (hs : PySem.W.findIn X.K (.ref C) "__invert__" = some (some (.ref f))) (hf : PySem.W.isFn X.K (.ref f) = true) (hb : Binds X.K fd ps []) (hx : Passes CX X E) (hr : Room k X.A) :
    UnR X (unaryOp .Invert) (fun x H Q => ∃ a dx fs, x = .ref a ∧ H a = some (.ins C dx fs) ∧ sp [.ref a] H Q E) := by
  intro pins s σ H x v Q I rx h
  obtain ⟨a, dx, fs, rfl, ha, q⟩ := h
  cases rx
  obtain ⟨mA, J, _⟩ := ins_get I.hok ha
  obtain ⟨od, J, _⟩ := J.look
  obtain ⟨m, hF⟩ := I.fr
  refine PySem.W.ksp_inv hF I.ok.mod.kin J hs hf ?_
  exact run_fn (us := [.ref a]) (vs := [.ref a]) F hr hb .nil hx I (.cons rfl .nil) q
end
end So

namespace So
open PySem PySem.Spec PyProof.Rows L2
/-! ### own errors with one field -/
/-- the __init__ of such an error: the field is what was passed -/
def spOneE (C : Addr) (n : Str) : Sp := fun vs H Q _ => ∃ (a : Addr) (v : V), vs = [.ref a, v] ∧ H a = some (exo a C none) ∧ ∀ dx, H dx = none → dx ≠ a → Q .non (upd (upd H dx (exd dx [(n, v)])) a (exo a C (some dx)))
/-- what the top says of such an error: its class at C, named x, its field n, its __init__ at f -/
structure OneE (K : PySem.W.Frag) (mg : Str → Option Value) (x n : Str) (C f : Addr) (fd : FuncData) : Prop where
  T : OexC K C
  iC : PySem.W.findIn K (.ref C) "__init__" = some (some (.ref f))
  tI : PySem.W.typeIn K (.ref f) = some (.type "function")
  mgC : mg x = some (.ref C)
  no : PySem.W.findIn K (.ref C) n = some none
  err : Err K C
  hb : Binds K fd ["self", n] []
/-- behind C(v) -/
theorem mkOne {C : Addr} {n : Str} {vs : List V} {v : V} {H1 : Hp} {Q : XK} (e : vs = [v]) (h : ∀ d H', Same H1 H' → H1 d = none → H' d = some (.xd [(n, v)]) → Q (.ref C) (some d) H') :
    vs.length ≤ 1000 ∧ ∀ a, H1 a = none → spOneE C n (.ref a :: (vs ++ [])) (upd H1 a (exo a C none))
      (fun v H2 => v = .non ∧ ∃ (d : Addr) (fs : List (Str × V)), H2 a = some (exo a C (some d)) ∧ H2 d = some (exd d fs) ∧ H1 d = none ∧ Q (.ref C) (some d) (upd (del H2 a) d (.xd fs))) (fun _ _ _ => False) := by
  subst e
  refine ⟨by show 1 ≤ 1000; decide, fun a ha => ⟨a, v, rfl, upd_same, fun dx hdx ne => ⟨rfl, dx, [(n, v)], upd_same, ?_, ?_, h dx _ (fun b o hb => ?_) ?_ upd_same⟩⟩⟩
  · rw [upd_ne ne, upd_same]
  · rw [upd_ne ne] at hdx
    exact hdx
  · rw [upd_ne ne] at hdx
    have hba : b ≠ a := ne_of_none hb ha
    have hbd : b ≠ dx := ne_of_none hb hdx
    rw [upd_ne hbd, del_ne hba, upd_ne hba, upd_ne hbd, upd_ne hba]
    exact hb
  · rw [upd_ne ne] at hdx
    exact hdx
section
variable {X : Cx} {x n : Str} {C f : Addr} {fd : FuncData} {ta : TA} {e : Expr} {p pos pos2 : Pos}
theorem pmk_one (O : OneE X.K X.mg x n C f fd) (F : FnOk X.prog X.w X.K X.mg X.base CX0 1 f fd ["self", n] (spOneE C n)) (hr : Room 2 X.A) (hg : Gl X x) (ha : PA X [e] ta)
    (hdb : (x == ("__debug__" : Str)) = false := by decide) (he : starEach [e] X.env = (false, eval e X.env) :: starEach [] X.env := by rfl) (hpl : (backTo pos (starEach [] X.env)).any (·.1) = false := by rfl) :
    PMk X (.Call (.Name x p) [e] [] pos) (tMkO C (spOneE C n) [] ta) :=
  pmk_oex O.T O.iC O.tI F hr O.hb .nil (fun _ _ _ _ _ _ _ h => h.elim) hg O.mgC ha hdb he hpl
/-- raise C(e) -/
theorem ps_raiseOne {W : WX} (O : OneE X.K X.mg x n C f fd) (F : FnOk X.prog X.w X.K X.mg X.base CX0 1 f fd ["self", n] (spOneE C n)) (hc : X.calm = true) (hr : Room 2 X.A) (tk : Takes X W) (hg : Gl X x) (ha : PA X [e] ta)
    (hdb : (x == ("__debug__" : Str)) = false := by decide) (he : starEach [e] X.env = (false, eval e X.env) :: starEach [] X.env := by rfl) (hpl : (backTo pos (starEach [] X.env)).any (·.1) = false := by rfl) :
    PS X (.Raise (some (.Call (.Name x p) [e] [] pos)) none pos2) (fun _ σ H => tMkO C (spOneE C n) [] ta σ H fun cls d H' => W cls d σ H') := ps_raise hc tk (pmk_one O F hr hg ha hdb he hpl)
end

/-! ### repr of data, of a tuple of a text and an empty dict -/
section
variable {X : Cx}
theorem call_reprT (hg : X.A.guards = some []) (hu : X.A.units + 64 < cLine) : CallR X (.builtin "repr") (fun xs H Q => ∃ (r a : Addr) (w : Str), xs = [.ref r] ∧ SqT X.K H r [.str w, .ref a] ∧ H a = some (.dK []) ∧ (PyData.tuple [.str w, .dict []]).shown.length ≤ sizeLine ∧ Q (.str (PyData.tuple [.str w, .dict []]).shown) H) := by
  intro pins s σ H xs us Q I r h
  obtain ⟨rr, a, w, rfl, ht, ha, hz, q⟩ := h
  obtain ⟨u, rfl, rv⟩ := vals1 r
  cases rv
  obtain ⟨its, rw', ⟨o, ho, hc, n, hd⟩, _⟩ := I.tuple ht
  obtain ⟨hz2, hsm, vs, hk, hD⟩ : ([] : List (Key × V)).length ≤ sizeLine ∧ (a == sysModules) = false ∧ ∃ vs, KV [] vs ∧ s.heap.DictOf (mixKind X.prog X.w) a vs := I.hok a _ ha
  obtain ⟨u1, u2, rfl, r1, r2⟩ := vals2 rw'
  obtain ⟨t1, rfl⟩ := r1
  cases r2
  obtain ⟨o2, es, ep, e1, e2, e3, _, e5, _⟩ := hD
  cases hk
  have es0 : es.toList = [] := by
    cases h : es.toList with
    | nil => rfl
    | cons y ys =>
      rw [h] at e5
      cases e5
  have rdD : Reads s.heap (.ref a) (.dict []) (a :: [] ++ []) := Reads.dict (kvs := []) e1 e2.1 e3 (by rw [es0]; exact ReadsAll.nil) (by rw [es0]; exact ReadsAll.nil)
  have rd : Reads s.heap (.ref rr) (.tuple [.str w, .dict []]) ([] ++ ((a :: [] ++ []) ++ [])) := Reads.tuple ho hc hd (ReadsAll.cons (Reads.str w t1) (ReadsAll.cons rdD ReadsAll.nil))
  refine repr_of_reads' rd rfl (fun _ z => ?_) hg (by show X.A.units + (2 + 1) < cLine; omega) (fun _ _ e => e) (fun h' t tk k => ?_) hz
  · have : sysModules = a := by simpa using z
    rw [this] at hsm
    simp at hsm
  · exact ⟨.str _, H, I.kept k, ⟨t, rfl⟩, q⟩
theorem CallR.or {b : Value} {r r' : List V → Hp → VK → Prop} (h : CallR X b r) (h' : CallR X b r') : CallR X b (fun xs H Q => r xs H Q ∨ r' xs H Q) := by
  intro pins s σ H xs us Q I rv q
  exact q.elim (h pins s σ H xs us Q I rv) (h' pins s σ H xs us Q I rv)
end
end So

namespace So
open PySem PySem.Spec PyProof.Rows L2 PySem.HandSPX
section
variable {M : Model} {A : Around} {E : Value → Shared → Prop} {h : Heap} {g : Array GenState} {d : Drawn} {t : Nat} {os : OsState}
variable {nm q : Str} {C N : Addr} {bs bm bmB : List Value} {hdct : Bool} {sn : List Str} {sub : List Value} {ab : Bool} {col : Option Bool} {dd : Option Addr} {k0 k1 k2 k3 k5 : Option Value} {B newId initId : String}
theorem kw_check (F : ExcBaseFacts B newId initId bmB) (hT : ∀ X : String, bm.contains (.type X) = bmB.contains (.type X)) {kws : List (Str × Value)} {Q : Unit → Shared → Prop}
    (hC : h.get? C = some (excClassObj nm q C N bs bm hdct sn sub ab col dd k0 k1 k2 k3 k5 newId)) (hq : Q () ⟨h, g, d, t, os⟩) :
    wpAny M A (checkBuiltinCall newId ⟨[.ref C], kws⟩) Q E ⟨h, g, d, t, os⟩ := by
  have inB : (Value.ref C :: bm).contains (.type B) = true := by
    rw [List.contains_cons, hT, F.hasB, Bool.or_true]
  have stars := F.noStar
  simp only [checkBuiltinCall, F.newKind, F.newSplit, F.newRow]
  repeat (first
    | refine wpAny_loadPart_at hC ?_
    | (refine wpAny_isSubtype_exc hC ?_
       rw [inB])
    | refine wpAny_staticBase_exc hC ?_
    | refine wpAny_madeBy_exc hC ?_
    | simp only [bne_self_eq_false, Bool.false_eq_true, if_false]
    | wp_step)
  exact hq
end
section
variable {prog : Program} {w : World} {A : Around} {E : Value → Shared → Prop} {R : Result → Shared → Prop} {h : Heap} {g : Array GenState} {d : Drawn} {t : Nat} {os : OsState}
variable {nm q : Str} {C N : Addr} {bs bm bmB : List Value} {hdct : Bool} {sn : List Str} {sub : List Value} {ab : Bool} {col : Option Bool} {dd : Option Addr} {k0 k1 k2 k3 k5 : Option Value} {B newId initId : String}
theorem kw_new (F : ExcBaseFacts B newId initId bmB) (hT : ∀ X : String, bm.contains (.type X) = bmB.contains (.type X)) {kws : List (Str × Value)}
    (hC : h.get? C = some (excClassObj nm q C N bs bm hdct sn sub ab col dd k0 k1 k2 k3 k5 newId))
    (hq : R (.ok (.ret (.ref (h.objs.size + 1)))) ⟨(h.push (PySem.W.kdv_tup [])).push (excO C h.objs.size), g, d, t, os⟩) :
    codeAny (model prog w) A (.builtin newId ⟨[.ref C], kws⟩) R ⟨h, g, d, t, os⟩ := by
  have ends := F.ends
  have inB : (Value.ref C :: bm).contains (.type B) = true := by
    rw [List.contains_cons, hT, F.hasB, Bool.or_true]
  have noA : (Value.ref C :: bm).contains (.type "AttributeError") = false := by
    rw [List.contains_cons, hT, F.noAttr]
    rfl
  have noN : (Value.ref C :: bm).contains (.type "NameError") = false := by
    rw [List.contains_cons, hT, F.noName]
    rfl
  refine codeAny_builtinAt F.entry ?_
  unfold Builtin.«BaseException.__new__»
  refine PySem.wpAt_bind ?_
  show PySem.wpAt _ _ _ (stack >>= _) _ _ _
  refine PySem.wpAt_bind (PySem.wpAt_stack fun p below => ?_)
  refine PySem.wpAt_of_wpAny ?_
  wp_walk
  refine PySem.wpAt_of_wpAny ?_
  rw [F.owner]
  repeat (first
    | with_reducible refine wpAny_madeHere_exc F.canon hC ?_
    | with_reducible refine wpAny_loadPart_at hC ?_
    | (with_reducible refine wpAny_isSubtype_exc hC ?_
       first
         | rw [inB]
         | rw [noA]
         | rw [noN])
    | wp_step)
  show R _ _
  rw [Heap.size_push]
  exact hq
theorem kw_type (F : ExcBaseFacts B newId initId bmB) (hT : ∀ X : String, bm.contains (.type X) = bmB.contains (.type X)) {kws : List (Str × Value)} {fI : Addr} {Q : Fin → Shared → Prop}
    (hC : h.get? C = some (excClassObj nm q C N bs bm hdct sn sub ab col dd k0 k1 k2 k3 k5 newId))
    (hi : PySem.W.Looks (model prog w) h (typeLookup (.ref C) "__init__") (some (.ref fI))) (hb : ∀ self, PySem.W.Looks (model prog w) h (bindSpecial (.ref fI) self) (.ref fI, [self]))
    (hq : codeAny (model prog w) A (.call (.ref fI) ⟨[.ref (h.objs.size + 1)], kws⟩)
      (fun r s' => match r with | .ok (.ret v) => v = .none ∧ Q (.done (.ret (.ref (h.objs.size + 1)))) s' | .ok _ => False | .error e => E e s')
      ⟨(h.push (PySem.W.kdv_tup [])).push (excO C h.objs.size), g, d, t, os⟩) :
    wpAny (model prog w) A (Builtin.«type.__call__» ⟨[.ref C], kws⟩) Q E ⟨h, g, d, t, os⟩ := by
  repeat (first
    | with_reducible refine wpAny_loadPart_at hC ?_
    | with_reducible refine wpAny_madeBy_exc hC ?_
    | wp_step)
  refine codeAny_call_builtin_code (Code.quiet_builtin _ F.quiet) ?_
  refine kw_check F hT hC ?_
  refine kw_new F hT hC ?_
  show wpAny _ _ _ _ _ _
  have keep : ∀ b o, h.get? b = some o → ((h.push (PySem.W.kdv_tup [])).push (excO C h.objs.size)).get? b = some o := by
    intro b o e
    exact Heap.get?_push_of_some _ (Heap.get?_push_of_some _ e)
  have hC' := keep _ _ hC
  have here : ((h.push (PySem.W.kdv_tup [])).push (excO C h.objs.size)).get? (h.objs.size + 1) = some (excO C h.objs.size) := by
    heap_get
  have self : (Value.ref C :: bm).contains (.ref C) = true := by simp
  have look := hi.keeps keep
  have bind := (hb (.ref (h.objs.size + 1))).keeps keep
  unfold isInstance
  repeat (first
    | with_reducible refine wpAny_loadPart_at here ?_
    | (with_reducible refine wpAny_isSubtype_exc hC' ?_
       rw [self])
    | wp_step)
  show wpAny _ _ (typeLookup (.ref C) _) _ _ _
  refine look.at ?_
  refine wpAny_holding (wpAny_bind (bind.at ?_))
  refine wpAny_bind (wpAny_call (codeAny_mono hq fun r s' z => ?_))
  match r, z with
  | .error e, z => exact z
  | .ok .next, z => exact z.elim
  | .ok .brk, z => exact z.elim
  | .ok .cont, z => exact z.elim
  | .ok (.ret v), z =>
    obtain ⟨e, z⟩ := z
    subst e
    first
      | exact wpAny_pure (wpAny_pure z)
      | (wp_walk
         exact z)
theorem kw_checkT {kws : List (Str × Value)} {Q : Unit → Shared → Prop} (hC : h.get? C = some (excClassObj nm q C N bs bm hdct sn sub ab col dd k0 k1 k2 k3 k5 newId)) (hq : Q () ⟨h, g, d, t, os⟩) :
    wpAny (model prog w) A (checkBuiltinCall "type.__call__" ⟨[.ref C], kws⟩) Q (fun e s' => E e s') ⟨h, g, d, t, os⟩ := by
  have f3 := tc_sub
  have ty : (⟨h, g, d, t, os⟩ : Shared).TypeIs (.ref C) "type" := ⟨_, hC, rfl⟩
  simp only [checkBuiltinCall, tc_kind, tc_split]
  repeat (any_goals (first
    | assumption
    | with_reducible refine wpAny_loadPart_at hC ?_
    | with_reducible refine wpAny_onRaise ?_
    | with_reducible refine wpAny_map ?_
    | wp_step))
theorem kw_call (F : ExcBaseFacts B newId initId bmB) (hT : ∀ X : String, bm.contains (.type X) = bmB.contains (.type X)) {kws : List (Str × Value)} {fI : Addr}
    (hC : h.get? C = some (excClassObj nm q C N bs bm hdct sn sub ab col dd k0 k1 k2 k3 k5 newId))
    (hi : PySem.W.Looks (model prog w) h (typeLookup (.ref C) "__init__") (some (.ref fI))) (hb : ∀ self, PySem.W.Looks (model prog w) h (bindSpecial (.ref fI) self) (.ref fI, [self]))
    (hq : codeAny (model prog w) (A.under (.builtin "type.__call__" ⟨[.ref C], kws⟩)) (.call (.ref fI) ⟨[.ref (h.objs.size + 1)], kws⟩) (PySem.W.InitBack (h.objs.size + 1) R)
      ⟨(h.push (PySem.W.kdv_tup [])).push (excO C h.objs.size), g, d, t, os⟩) :
    codeAny (model prog w) A (.call (.ref C) ⟨[], kws⟩) R ⟨h, g, d, t, os⟩ := by
  have lk := tc_lookup
  have bd := tc_bind (.ref C)
  have ty : (⟨h, g, d, t, os⟩ : Shared).TypeIs (.ref C) "type" := ⟨_, hC, rfl⟩
  refine codeAny_of_tree ?_
  show wpAny _ _ (callAny (.ref C) _) _ _ _
  repeat (any_goals (first
    | assumption
    | with_reducible refine wpAny_loadPart_at hC ?_
    | wp_step))
  refine ⟨rfl, ?_⟩
  refine codeAny_call_builtin_at (Code.quiet_builtin _ (by decide +kernel)) entry_typeCall ?_
  refine kw_checkT hC ?_
  refine kw_type F hT hC hi hb ?_
  refine codeAny_mono hq fun r s' z => ?_
  match r, z with
  | .error e, z => exact z
  | .ok (.ret v), z => exact z
  | .ok .next, z => exact z
  | .ok .brk, z => exact z
  | .ok .cont, z => exact z
end
end So

namespace So
open PySem PySem.Spec PyProof.Rows L2
/-- C(k = v, ..), C's own __init__ keeping sp -/
def tMkK (C : Addr) (n : Nat) (sp : Sp) (gV : List V → List V → List V) (tk : TA) : L2.St → Hp → XK → Prop := fun σ H Q => tk σ H fun zs H1 => zs.length = n ∧ ∀ a, H1 a = none → sp (gV [.ref a] zs) (upd H1 a (exo a C none))
  (fun v H2 => v = .non ∧ ∃ (d : Addr) (fs : List (Str × V)), H2 a = some (exo a C (some d)) ∧ H2 d = some (exd d fs) ∧ H1 d = none ∧ Q (.ref C) (some d) (upd (del H2 a) d (.xd fs))) (fun _ _ _ => False)
section
variable {X : Cx} {CX : CXT} {x : Str} {C fI : Addr} {k : Nat} {fd : FuncData} {ps ks : List Str} {sp : Sp} {g : List Value → List Value → List Value} {gV : List V → List V → List V} {kws : List Keyword} {tk : TA} {p pos : Pos}
theorem pmk_oexK (T : OexC X.K C) (iC : PySem.W.findIn X.K (.ref C) "__init__" = some (some (.ref fI))) (tI : PySem.W.typeIn X.K (.ref fI) = some (.type "function")) (F1 : FnOk X.prog X.w X.K X.mg X.base CX k fI fd ps sp) (hr : Room (k + 1) X.A) (hb : KBn X.K fd ps 1 ks g gV)
    (hx : Passes CX X (fun _ _ _ => False)) (hg : Gl X x) (hm : X.mg x = some (.ref C)) (hkw : PK X kws tk)
    (hall : (backToKw pos (keywordEach kws X.env)).all (·.1.isSome) = true := by rfl) (hks : (backToKw pos (keywordEach kws X.env)).filterMap (·.1) = ks := by rfl) (hdb : (x == ("__debug__" : Str)) = false := by decide)
    (hpl : ((backTo pos (starEach [] X.env)).any (·.1) || (backToKw pos (keywordEach kws X.env)).any (·.1.isNone)) = false := by rfl) :
    PMk X (.Call (.Name x p) [] kws pos) (tMkK C ks.length sp gV tk) := by
  intro pins s σ H Q I h
  obtain ⟨nm, q, N, bs, bm, sn, sub, ab, col, dd, k0, k1, k2, k3, k5, hC, hbm⟩ := T.cls
  refine wpAny_Call_Name_kw (ld_glob I hg hm ?_ hdb)
  refine PySem.W.callWith_KW0 (h₀ := X.base) I.ok.mod.kin T.kC hall ?_ hpl
  refine thn (hkw.run pos pins s σ H _ I h) fun ws s1 z => ?_
  obtain ⟨zs, H1, I1, rz, hz, q1⟩ := z
  refine ⟨I1.kIn, ?_⟩
  rw [hks]
  show wpAny _ _ (call (.ref C) [] (ks.zip ws)) _ _ _
  obtain ⟨hp, g', dr, tk', os⟩ := s1
  have big : hp.objs.size ≤ hp.objs.size + 1 := Nat.le_succ _
  have fresh : H1 (hp.objs.size + 1) = none := I1.hok.fresh big
  have hq := q1 _ fresh
  have keep : ∀ b o, hp.get? b = some o → ((hp.push (PySem.W.kdv_tup [])).push (PySem.HandSPX.excO C hp.objs.size)).get? b = some o := by
    intro b o e
    exact Heap.get?_push_of_some _ (Heap.get?_push_of_some _ e)
  have here : ((hp.push (PySem.W.kdv_tup [])).push (PySem.HandSPX.excO C hp.objs.size)).get? (hp.objs.size + 1) = some (PySem.HandSPX.excO C hp.objs.size) := by
    heap_get
  have I2 : Inv X pins σ (upd H1 (hp.objs.size + 1) (exo (hp.objs.size + 1) C none)) ⟨(hp.push (PySem.W.kdv_tup [])).push (PySem.HandSPX.excO C hp.objs.size), g', dr, tk', os⟩ :=
    I1.laid (t' := tk') (o := exo (hp.objs.size + 1) C none) keep big (exo_ok here)
  have r1 : Vals [V.ref (hp.objs.size + 1)] [Value.ref (hp.objs.size + 1)] := .cons rfl .nil
  refine wpAny_call (kw_call F.excBase_ValueError (fun Y => PySem.HandSPX.refsVE_contains Y bm hbm) (I1.kIn _ _ hC) (PySem.W.looks_findIn I1.kIn iC) (fun self => PySem.W.bind_fn I1.kIn self tI)
    (codeAny_mono (F1.run _ X.stack _ _ ⟨[.ref (hp.objs.size + 1)], ks.zip ws⟩ (g [.ref (hp.objs.size + 1)] ws) _ _ (fun _ _ _ => False) (hr.make C [] (ks.zip ws)) (I2.env0.make C [] (ks.zip ws))
      (hb.to _ [.ref (hp.objs.size + 1)] ws I2.kIn rfl (rz.length.symm.trans hz)) (hb.rel r1 rz) hq) fun r s' hq' => ?_))
  match r, hq' with
  | .error er, hq' => exact hx pins σ _ _ er s' I2 hq'
  | .ok .next, hq' => exact hq'.elim
  | .ok .brk, hq' => exact hq'.elim
  | .ok .cont, hq' => exact hq'.elim
  | .ok (.ret u), hq' =>
    obtain ⟨v, H2, os2, bare2, un2, hok2, rv, ev, d, fs, ea, ed, hd1, q2⟩ := hq'
    subst ev
    obtain ⟨h2, g2, d2, t2, os'⟩ := s'
    exact ⟨rv, mk_end (raises_own T.exC T.tyC) I1 big keep un2 hok2 os2 bare2 ea ed hd1 q2⟩
/-- an exception that is made and kept, not raised -/
theorem pe_ofMk {e : Expr} {t : L2.St → Hp → XK → Prop} (hex : X.ex = []) (h : PMk X e t) : PE X e (fun σ H Q => t σ H fun cls d H' => ∀ a, H' a = none → Q (.ref a) (upd H' a (Xo cls d a))) := by
  refine ⟨fun pins s σ H Q I w => ?_⟩
  refine thn (h pins s σ H _ I w) fun u s' z => ?_
  obtain ⟨a, oe, fv, sI, H', cls, d, rfl, J, k, na, he, hz, hd, h1, nH, ho, hb, _, q⟩ := z
  have K := J.kept (t' := s'.toks) (h' := s'.heap) k
  have I' : Inv X pins σ H' s' := ⟨K.ok, ho.trans J.os, hb, K.base, K.loc, K.cell, K.free, K.freeC, K.pin, K.hok, K.len⟩
  have nL : a ≠ X.env.locals := fun z => by
    obtain ⟨m, hn, _⟩ := J.loc
    obtain ⟨o, es, ep, e, _⟩ := hn
    rw [← z, na] at e
    cases e
  exact ⟨.ref a, _, track J hex na I' he hz hd nH nL, rfl, q a nH⟩
end
end So

namespace So
open PySem PySem.Spec PyProof.Rows L2
theorem overS {H H1 : Hp} {D : Addr} {o : HO} (s : Same H H1) (h : H1 D = none) : Same H (upd H1 D o) := fun b u e => (upd_ne (ne_of_none (s b u e) h)).trans (s b u e)
/-! ### errors with two fields -/
def spTwoE (C : Addr) (n1 n2 : Str) : Sp := fun vs H Q _ => ∃ (a : Addr) (v1 v2 : V), vs = [.ref a, v1, v2] ∧ H a = some (exo a C none) ∧ ∀ dx, H dx = none → dx ≠ a → Q .non (upd (upd (upd H dx (exd dx [(n1, v1)])) a (exo a C (some dx))) dx (exd dx [(n2, v2), (n1, v1)]))
section
variable {P : Program} {w : World} {K : PySem.W.Frag} {mg : Str → Option Value} {base : Heap}
theorem ok_one {n qual : Str} {st : Stmt} {C f : Addr} {fd : FuncData} (F : Fun K "__init__" qual st f fd) (T : OexC K C) (no : PySem.W.findIn K (.ref C) n = some none) (S : FnScope ["self", n] ["self", n] (defScope st))
    (hb : ∃ p1 p2 p3 p4, defBody st = [.Assign [.Attribute (.Name "self" p1) n p2] (.Name n p3) p4]) (h1 : (n == ("__debug__" : Str)) = false) (h2 : (n == ("__classdict__" : Str)) = false) :
    FnOk P w K mg base CX0 1 f fd ["self", n] (spOneE C n) := by
  obtain ⟨p1, p2, p3, p4, hb⟩ := hb
  refine F.ok S (fun vs H Q E h => ?_) (fun cdv A outer s H vs Q E hr h => ?_)
  · obtain ⟨a, v, rfl, _⟩ := h
    rfl
  · obtain ⟨a, v, rfl, ha, q⟩ := h
    rw [hb]
    have vs0 : Vis (defScope st) "self" := vis_par S (by simp)
    have vs1 : Vis (defScope st) n := vis_par S (by simp)
    exact ⟨_, pss_one (ps_ost (pe_var (i := 0) rfl vs0) (pe_var (i := 1) rfl vs1 h1 h2)), _, rfl, _, rfl, a, C, rfl, T, no, .inl ⟨ha, fun dx h n => q dx h n⟩⟩
theorem ok_two {n1 n2 qual : Str} {st : Stmt} {C f : Addr} {fd : FuncData} (F : Fun K "__init__" qual st f fd) (T : OexC K C) (no1 : PySem.W.findIn K (.ref C) n1 = some none) (no2 : PySem.W.findIn K (.ref C) n2 = some none) (S : FnScope ["self", n1, n2] ["self", n1, n2] (defScope st))
    (hb : ∃ p1 p2 p3 p4 q1 q2 q3 q4, defBody st = [.Assign [.Attribute (.Name "self" p1) n1 p2] (.Name n1 p3) p4, .Assign [.Attribute (.Name "self" q1) n2 q2] (.Name n2 q3) q4]) (h1 : (n1 == ("__debug__" : Str)) = false) (h2 : (n1 == ("__classdict__" : Str)) = false)
    (h3 : (n2 == ("__debug__" : Str)) = false) (h4 : (n2 == ("__classdict__" : Str)) = false) : FnOk P w K mg base CX0 1 f fd ["self", n1, n2] (spTwoE C n1 n2) := by
  obtain ⟨p1, p2, p3, p4, q1, q2, q3, q4, hb⟩ := hb
  refine F.ok S (fun vs H Q E h => ?_) (fun cdv A outer s H vs Q E hr h => ?_)
  · obtain ⟨a, v1, v2, rfl, _⟩ := h
    rfl
  · obtain ⟨a, v1, v2, rfl, ha, q⟩ := h
    rw [hb]
    have vs0 : Vis (defScope st) "self" := vis_par S (by simp)
    have vs1 : Vis (defScope st) n1 := vis_par S (by simp)
    have vs2 : Vis (defScope st) n2 := vis_par S (by simp)
    refine ⟨_, pss_cons (ps_ost (pe_var (i := 0) rfl vs0) (pe_var (i := 1) rfl vs1 h1 h2)) (pss_one (ps_ost (pe_var (i := 0) rfl vs0) (pe_var (i := 2) rfl vs2 h3 h4))), ?_⟩
    refine ⟨_, rfl, _, rfl, a, C, rfl, T, no1, .inl ⟨ha, fun dx hd ne => ?_⟩⟩
    refine ⟨_, rfl, _, rfl, a, C, rfl, T, no2, .inr ⟨dx, [(n1, v1)], upd_same, ?_, by show 1 ≤ 900; decide, q dx hd ne⟩⟩
    rw [upd_ne ne, upd_same]
end
/-- behind C(v1, v2) -/
theorem mkTwo {C : Addr} {n1 n2 : Str} {v1 v2 : V} {H1 : Hp} {Q : XK} (h : ∀ d H', Same H1 H' → H1 d = none → H' d = some (.xd [(n2, v2), (n1, v1)]) → Q (.ref C) (some d) H') :
    ∀ a, H1 a = none → spTwoE C n1 n2 [.ref a, v1, v2] (upd H1 a (exo a C none))
      (fun v H2 => v = .non ∧ ∃ (d : Addr) (fs : List (Str × V)), H2 a = some (exo a C (some d)) ∧ H2 d = some (exd d fs) ∧ H1 d = none ∧ Q (.ref C) (some d) (upd (del H2 a) d (.xd fs))) (fun _ _ _ => False) := by
  refine fun a ha => ⟨a, v1, v2, rfl, upd_same, fun dx hdx ne => ?_⟩
  have hd : H1 dx = none := by
    rw [upd_ne ne] at hdx
    exact hdx
  refine ⟨rfl, dx, [(n2, v2), (n1, v1)], ?_, upd_same, hd, h dx _ (fun b o hb => ?_) hd upd_same⟩
  · rw [upd_ne ne.symm, upd_same]
  · have hba : b ≠ a := ne_of_none hb ha
    have hbd : b ≠ dx := ne_of_none hb hd
    rw [upd_ne hbd, del_ne hba, upd_ne hbd, upd_ne hba, upd_ne hbd, upd_ne hba]
    exact hb
/-- a kept error with its fields -/
def ErAt (H : Hp) (a C : Addr) (fs : List (Str × V)) : Prop := ∃ d, H a = some (Xo (.ref C) (some d) a) ∧ H d = some (.xd fs)
theorem ErAt.same {H H' : Hp} {a C : Addr} {fs : List (Str × V)} (h : ErAt H a C fs) (s : Same H H') : ErAt H' a C fs := h.elim fun d e => ⟨d, s _ _ e.1, s _ _ e.2⟩
/-- what is wished behind an error that is made and kept -/
theorem keepOne {C : Addr} {fs : List (Str × V)} {H1 : Hp} {Q : VK} (h : ∀ a H', Same H1 H' → ErAt H' a C fs → Q (.ref a) H') :
    ∀ d H', Same H1 H' → H1 d = none → H' d = some (.xd fs) → ∀ a, H' a = none → Q (.ref a) (upd H' a (Xo (.ref C) (some d) a)) := by
  intro d H' s _ e a na
  exact h a _ (overS s na) ⟨d, upd_same, (upd_ne (ne_of_none e na)).trans e⟩
section
variable {X : Cx}
/-- e.n of a kept error of any class -/
theorem pe_xoA {e : Expr} {te : TE} {pos : Pos} {n : Str} (he : PE X e te) (hb : attributeBase e n X.env (eval e X.env) = eval e X.env := by rfl) :
    PE X (.Attribute e n pos) (fun σ H Q => te σ H fun x H1 => ∃ (a C : Addr) (fs : List (Str × V)) (v : V), x = .ref a ∧ ErAt H1 a C fs ∧ Err X.K C ∧ PySem.W.findIn X.K (.ref C) n = some none ∧ fs.lookup n = some v ∧ Q v H1) := by
  constructor
  intro pins s σ H Q I h
  refine attr_of hb (thn (he.run pins s σ H _ I h) fun u s1 hh => ?_)
  obtain ⟨x, H1, I1, rx, a, C, fs, v, rfl, ⟨dd, ha, ea⟩, T, hno, l, q⟩ := hh
  cases rx
  obtain ⟨oe, vs, hg, hz, hd⟩ := xo_at I1.hok ha
  obtain ⟨mA, hns, hr⟩ := (show ObjOk X.prog X.w H1 s1.heap dd (.xd fs) from I1.hok dd _ ea)
  obtain ⟨od, ho, hl⟩ := lookIn_ns hns
  have hrn := hr n
  rw [l] at hrn
  obtain ⟨u, hu, ru⟩ := RelO.some_of hrn
  have nc : PySem.W.notCls oe = true := by
    unfold PySem.W.notCls
    rw [hd]
  have J : PySem.W.InstAt s1.heap a oe C (some od) := by
    refine ⟨hg, hz.1, nc, ?_⟩
    rw [hz.2]
    exact ho
  have fo := PySem.W.findObj_own (K := X.K) (C := C) (od := od) (name := n) (v := u) T.hdC hno rfl (by rw [hl, hu])
  exact HandSPX.exc_get I1.kIn J T.ga T.gg T.exC fo (handed_of ru) ⟨v, H1, I1.tok _, ru, q⟩
/-- isinstance of a kept error that has no dict -/
theorem call_isX0 : CallR X (.builtin "isinstance") (fun xs H Q => ∃ (a D : Addr) (c : V) (u : Value) (b : Bool), xs = [.ref a, c] ∧ H a = some (Xo (.ref D) none a) ∧ Err X.K D ∧ ClsV c u ∧ PySem.W.kitOne X.K (.ref D) u = some b ∧ Q (.bl b) H) := by
  intro pins s σ H xs us Q I r h
  obtain ⟨a, D, c, u, b, rfl, ha, T, cv, e, q⟩ := h
  obtain ⟨u1, u2, rfl, r1, r2⟩ := vals2 r
  cases r1
  have e2 := cv.eq r2
  subst e2
  obtain ⟨oe, vs, hg, hz, hdat⟩ := xo_at I.hok ha
  have nc : PySem.W.notCls oe = true := by
    unfold PySem.W.notCls
    rw [hdat]
  have J : PySem.W.InstAt s.heap a oe D none := by
    refine ⟨hg, hz.1, nc, ?_⟩
    rw [hz.2]
    trivial
  exact PySem.W.kia_one (kitx_err T) I.kIn ⟨oe, none, J⟩ e (fun z => nomatch z) fun tk => ⟨.bl b, H, I.tok tk, rfl, q⟩
/-- C(), C an own error class without own __init__ -/
theorem pmk_own0 {C : Addr} {bmB : List Value} {B newId initId : String} {x : Str} {p pos : Pos} (F : ExcBaseFacts B newId initId bmB) (q : PySem.W.excIn X.K C bmB newId = true) (gC : X.mg x = some (.ref C))
    (kC : PySem.W.keepIn X.K (.ref C) = true) (r : Raises X (.ref C)) (hg : Gl X x) (hdb : (x == ("__debug__" : Str)) = false := by decide) :
    PMk X (.Call (.Name x p) [] [] pos) (fun _ H Q => Q (.ref C) none H) := by
  intro pins s σ H Q I h
  refine wpAny_Call_Name_kw (ld_glob I hg gC ?_ hdb)
  refine PySem.W.callWith_K0 I.kIn kC ?_
  show wpAny _ _ (call (.ref C) []) _ _ _
  obtain ⟨bm, N, nm, qn, bs, hdct, sn, sub, ab, col, dd, k0, k1, k2, k3, k5, mN, hC, hN, hni, T⟩ := exc_obj I.kIn q
  refine wpAny_call_exc_subT F T hC hN hni (fun h' e hm => ?_) (by decide)
  exact mk_of I hm r h (I.hok.gone hm.new)
end
end So

/-! own errors made and kept: what is asked in one step -/
namespace So
open PySem PySem.Spec PyProof.Rows L2
section
variable {X : Cx}
theorem pe_weak {e : Expr} {t t' : TE} (h : PE X e t) (k : ∀ σ H Q, t' σ H Q → t σ H Q) : PE X e t' := ⟨fun pins s σ H Q I w => h.run pins s σ H Q I (k σ H Q w)⟩
theorem ps_weak {st : Stmt} {t t' : TS} (h : PS X st t) (k : ∀ D σ H, t' D σ H → t D σ H) : PS X st t' := ⟨fun pins s σ H D I w => h.run pins s σ H D I (k D σ H w)⟩
/-- what the top says of an error with two fields -/
structure TwoE (K : PySem.W.Frag) (mg : Str → Option Value) (x n1 n2 : Str) (C f : Addr) (fd : FuncData) : Prop where
  T : OexC K C
  iC : PySem.W.findIn K (.ref C) "__init__" = some (some (.ref f))
  tI : PySem.W.typeIn K (.ref f) = some (.type "function")
  mgC : mg x = some (.ref C)
  no1 : PySem.W.findIn K (.ref C) n1 = some none
  no2 : PySem.W.findIn K (.ref C) n2 = some none
  err : Err K C
  hb : Binds K fd ["self", n1, n2] []
def k2 {α : Type} : List α → List α → List α
  | [u], [z] => [u, z]
  | _, _ => []
def k3 {α : Type} : List α → List α → List α
  | [u], [y, z] => [u, z, y]
  | _, _ => []
theorem k2_rel {vs : List V} {us : List Value} {zs : List V} {ws : List Value} (a : Vals vs us) (b : Vals zs ws) : Vals (k2 vs zs) (k2 us ws) := by
  cases a with
  | nil => exact .nil
  | cons a1 a2 =>
    cases a2 with
    | cons _ _ => exact .nil
    | nil =>
      cases b with
      | nil => exact .nil
      | cons b1 b2 =>
        cases b2 with
        | nil => exact .cons a1 (.cons b1 .nil)
        | cons _ _ => exact .nil
theorem k3_rel {vs : List V} {us : List Value} {zs : List V} {ws : List Value} (a : Vals vs us) (b : Vals zs ws) : Vals (k3 vs zs) (k3 us ws) := by
  cases a with
  | nil => exact .nil
  | cons a1 a2 =>
    cases a2 with
    | cons _ _ => exact .nil
    | nil =>
      cases b with
      | nil => exact .nil
      | cons b1 b2 =>
        cases b2 with
        | nil => exact .nil
        | cons b3 b4 =>
          cases b4 with
          | nil => exact .cons a1 (.cons b3 (.cons b1 .nil))
          | cons _ _ => exact .nil
theorem kbn2 {K : PySem.W.Frag} {fd : FuncData} {n : Str} (h : ∀ (s : Shared) (u z : Value), BindsTo s fd ⟨[u], [(n, z)]⟩ [("self", u), (n, z)]) : KBn K fd ["self", n] 1 [n] k2 k2 :=
  ⟨fun s us ws _ h1 h2 => match us, ws, h1, h2 with | [u], [z], _, _ => h s u z, k2_rel⟩
theorem kbn3 {K : PySem.W.Frag} {fd : FuncData} {n1 n2 : Str} (h : ∀ (s : Shared) (u y z : Value), BindsTo s fd ⟨[u], [(n2, y), (n1, z)]⟩ [("self", u), (n1, z), (n2, y)]) : KBn K fd ["self", n1, n2] 1 [n2, n1] k3 k3 :=
  ⟨fun s us ws _ h1 h2 => match us, ws, h1, h2 with | [u], [y, z], _, _ => h s u y z, k3_rel⟩
variable {x n n1 n2 : Str} {C f : Addr} {fd : FuncData} {e e2 : Expr} {p pos kp kp2 : Pos} {i j : Nat}
theorem pe_new1 (hex : X.ex = []) (O : OneE X.K X.mg x n C f fd) (F : FnOk X.prog X.w X.K X.mg X.base CX0 1 f fd ["self", n] (spOneE C n)) (hr : Room 2 X.A) (hg : Gl X x) (ha : PA X [e] (tCons (tVar i) tNil))
    (hdb : (x == ("__debug__" : Str)) = false := by decide) (hst : starEach [e] X.env = (false, eval e X.env) :: starEach [] X.env := by rfl) (hpl : (backTo pos (starEach [] X.env)).any (·.1) = false := by rfl) :
    PE X (.Call (.Name x p) [e] [] pos) (fun σ H Q => ∃ v, σ[i]? = some (some v) ∧ ∀ a H', Same H H' → ErAt H' a C [(n, v)] → Q (.ref a) H') :=
  pe_weak (pe_ofMk hex (pmk_one O F hr hg ha hdb hst hpl)) fun _ _ Q0 ⟨v, q, h⟩ => ⟨v, q, mkOne (C := C) (n := n) (v := v) (vs := [v]) (Q := fun cls d H' => ∀ a, H' a = none → Q0 (.ref a) (upd H' a (Xo cls d a))) rfl (keepOne h)⟩
theorem pe_new1K (hex : X.ex = []) (O : OneE X.K X.mg x n C f fd) (F : FnOk X.prog X.w X.K X.mg X.base CX0 1 f fd ["self", n] (spOneE C n)) (kb : KBn X.K fd ["self", n] 1 [n] k2 k2) (hr : Room 2 X.A) (hg : Gl X x) (he : PE X e (tVar i))
    (hall : (backToKw pos (keywordEach [⟨some n, e, kp⟩] X.env)).all (·.1.isSome) = true := by rfl) (hks : (backToKw pos (keywordEach [⟨some n, e, kp⟩] X.env)).filterMap (·.1) = [n] := by rfl) (hdb : (x == ("__debug__" : Str)) = false := by decide)
    (hpl : ((backTo pos (starEach [] X.env)).any (·.1) || (backToKw pos (keywordEach [⟨some n, e, kp⟩] X.env)).any (·.1.isNone)) = false := by rfl) :
    PE X (.Call (.Name x p) [] [⟨some n, e, kp⟩] pos) (fun σ H Q => ∃ v, σ[i]? = some (some v) ∧ ∀ a H', Same H H' → ErAt H' a C [(n, v)] → Q (.ref a) H') :=
  pe_weak (pe_ofMk hex (pmk_oexK O.T O.iC O.tI F hr kb (fun _ _ _ _ _ _ _ h => h.elim) hg O.mgC (pk_cons he pk_nil) hall hks hdb hpl)) fun _ _ Q0 ⟨v, q, h⟩ => ⟨v, q, rfl, (mkOne (C := C) (n := n) (v := v) (vs := [v]) (Q := fun cls d H' => ∀ a, H' a = none → Q0 (.ref a) (upd H' a (Xo cls d a))) rfl (keepOne h)).2⟩
theorem pe_new2 (hex : X.ex = []) (O : TwoE X.K X.mg x n1 n2 C f fd) (F : FnOk X.prog X.w X.K X.mg X.base CX0 1 f fd ["self", n1, n2] (spTwoE C n1 n2)) (hr : Room 2 X.A) (hg : Gl X x) (ha : PA X [e, e2] (tCons (tVar i) (tCons (tVar j) tNil)))
    (hdb : (x == ("__debug__" : Str)) = false := by decide) (hst : starEach [e, e2] X.env = (false, eval e X.env) :: starEach [e2] X.env := by rfl) (hpl : (backTo pos (starEach [e2] X.env)).any (·.1) = false := by rfl) :
    PE X (.Call (.Name x p) [e, e2] [] pos) (fun σ H Q => ∃ v, σ[i]? = some (some v) ∧ ∃ u, σ[j]? = some (some u) ∧ ∀ a H', Same H H' → ErAt H' a C [(n2, u), (n1, v)] → Q (.ref a) H') :=
  pe_weak (pe_ofMk hex (pmk_oex O.T O.iC O.tI F hr O.hb .nil (fun _ _ _ _ _ _ _ h => h.elim) hg O.mgC ha hdb hst hpl)) fun _ _ Q0 ⟨v, q, u, q2, h⟩ => ⟨v, q, u, q2, by show 2 ≤ 1000; decide, mkTwo (C := C) (n1 := n1) (n2 := n2) (v1 := v) (v2 := u) (Q := fun cls d H' => ∀ a, H' a = none → Q0 (.ref a) (upd H' a (Xo cls d a))) (keepOne h)⟩
theorem pe_new2K (hex : X.ex = []) (O : TwoE X.K X.mg x n1 n2 C f fd) (F : FnOk X.prog X.w X.K X.mg X.base CX0 1 f fd ["self", n1, n2] (spTwoE C n1 n2)) (kb : KBn X.K fd ["self", n1, n2] 1 [n2, n1] k3 k3) (hr : Room 2 X.A) (hg : Gl X x) (he : PE X e (tVar i)) (he2 : PE X e2 (tVar j))
    (hall : (backToKw pos (keywordEach [⟨some n2, e2, kp2⟩, ⟨some n1, e, kp⟩] X.env)).all (·.1.isSome) = true := by rfl) (hks : (backToKw pos (keywordEach [⟨some n2, e2, kp2⟩, ⟨some n1, e, kp⟩] X.env)).filterMap (·.1) = [n2, n1] := by rfl) (hdb : (x == ("__debug__" : Str)) = false := by decide)
    (hpl : ((backTo pos (starEach [] X.env)).any (·.1) || (backToKw pos (keywordEach [⟨some n2, e2, kp2⟩, ⟨some n1, e, kp⟩] X.env)).any (·.1.isNone)) = false := by rfl) :
    PE X (.Call (.Name x p) [] [⟨some n2, e2, kp2⟩, ⟨some n1, e, kp⟩] pos) (fun σ H Q => ∃ u, σ[j]? = some (some u) ∧ ∃ v, σ[i]? = some (some v) ∧ ∀ a H', Same H H' → ErAt H' a C [(n2, u), (n1, v)] → Q (.ref a) H') :=
  pe_weak (pe_ofMk hex (pmk_oexK O.T O.iC O.tI F hr kb (fun _ _ _ _ _ _ _ h => h.elim) hg O.mgC (pk_cons he2 (pk_cons he pk_nil)) hall hks hdb hpl)) fun _ _ Q0 ⟨u, q, v, q2, h⟩ => ⟨u, q, v, q2, rfl, mkTwo (C := C) (n1 := n1) (n2 := n2) (v1 := v) (v2 := u) (Q := fun cls d H' => ∀ a, H' a = none → Q0 (.ref a) (upd H' a (Xo cls d a))) (keepOne h)⟩
theorem pe_new0 (hex : X.ex = []) {bmB : List Value} {B newId initId : String} (F : ExcBaseFacts B newId initId bmB) (q : PySem.W.excIn X.K C bmB newId = true) (gC : X.mg x = some (.ref C)) (kC : PySem.W.keepIn X.K (.ref C) = true) (r : Raises X (.ref C)) (hg : Gl X x)
    (hdb : (x == ("__debug__" : Str)) = false := by decide) :
    PE X (.Call (.Name x p) [] [] pos) (fun _ H Q => ∀ a H', Same H H' → H' a = some (Xo (.ref C) none a) → Q (.ref a) H') :=
  pe_weak (pe_ofMk hex (pmk_own0 F q gC kC r hg hdb)) fun _ H _ h => fun a ha => h a _ (overS (Same.refl H) ha) upd_same
end
end So

/-! repr of data with dicts: each thing's text built by itself, so that no more is asked of an address than that a dict is not the modules' own. -/
namespace So
open PySem PySem.Spec PyProof.Rows L2
mutual
/-- a value is this data; dicts with texts as keys may stand in it -/
inductive Dd (K : PySem.W.Frag) (H : Hp) : V → PyData → Prop
  | non : Dd K H .non .none
  | bl (b : Bool) : Dd K H (.bl b) (.bool b)
  | int (i : Int) : Dd K H (.int i) (.int i)
  | str (x : Str) : Dd K H (.str x) (.str x)
  | lst {a : Addr} {xs : List V} {ds : List PyData} (e : SqL K H a xs) (h : DdAll K H xs ds) : Dd K H (.ref a) (.list ds)
  | tup {a : Addr} {xs : List V} {ds : List PyData} (e : SqT K H a xs) (h : DdAll K H xs ds) : Dd K H (.ref a) (.tuple ds)
  | dct {a : Addr} {kvs : List (Key × V)} {ds : List (PyData × PyData)} (e : H a = some (.dK kvs)) (h : DdKv K H kvs ds) : Dd K H (.ref a) (.dict ds)
inductive DdAll (K : PySem.W.Frag) (H : Hp) : List V → List PyData → Prop
  | nil : DdAll K H [] []
  | cons {v : V} {vs : List V} {d : PyData} {ds : List PyData} (h : Dd K H v d) (t : DdAll K H vs ds) : DdAll K H (v :: vs) (d :: ds)
inductive DdKv (K : PySem.W.Frag) (H : Hp) : List (Key × V) → List (PyData × PyData) → Prop
  | nil : DdKv K H [] []
  | cons {k : Str} {v : V} {r : List (Key × V)} {d : PyData} {ds : List (PyData × PyData)} (h : Dd K H v d) (t : DdKv K H r ds) : DdKv K H ((Sum.inr k, v) :: r) ((.str k, d) :: ds)
end
section
variable {X : Cx} {pins : List (Addr × Obj)} {σ : L2.St} {H : Hp} {s : Shared}
/-- a thing in memory that shows so -/
def ShK (X : Cx) (h : Heap) (u : Value) (d : PyData) : Prop := ∃ as bs, Reads h u d as ∧ ReadAtMost h d.depth bs ∧ ReprK X.prog X.w bs h d.depth u d.shown
def ShAll (X : Cx) (h : Heap) (us : List Value) (ds : List PyData) : Prop := ∃ as bs, ReadsAll h us ds as ∧ ReadAtMost h (PyData.depthAll ds) bs ∧ ReprAllK X.prog X.w bs h (PyData.depthAll ds) us (PyData.shownAll ds)
theorem shAll_cons {h : Heap} {u : Value} {us : List Value} {d : PyData} {ds : List PyData} (a : ShK X h u d) (b : ShAll X h us ds) : ShAll X h (u :: us) (d :: ds) := by
  obtain ⟨as1, b1, r1, hb1, k1⟩ := a
  obtain ⟨as2, b2, r2, hb2, k2⟩ := b
  refine ⟨_, b1 ++ b2, .cons r1 r2, ?_, ?_⟩
  · intro b hm
    simp only [PyData.depthAll]
    rcases List.mem_append.mp hm with hm | hm
    · obtain ⟨d', as', r', hd'⟩ := hb1 b hm
      exact ⟨d', as', r', Nat.le_trans hd' (Nat.le_max_left _ _)⟩
    · obtain ⟨d', as', r', hd'⟩ := hb2 b hm
      exact ⟨d', as', r', Nat.le_trans hd' (Nat.le_max_right _ _)⟩
  · simp only [PyData.depthAll, PyData.shownAll]
    exact .cons ((k1.more fun b hb => List.mem_append_left _ hb).level_le (Nat.le_max_left _ _)) (k2.more_le (fun b hb => List.mem_append_right _ hb) (Nat.le_max_right _ _))
theorem shAll_nil {h : Heap} : ShAll X h [] [] := ⟨_, [], .nil, (fun _ h => nomatch h), by simp only [PyData.shownAll]; exact .nil⟩
mutual
theorem Dd.sh (I : Inv X pins σ H s) : ∀ (d : PyData) (v : V) (u : Value), Dd X.K H v d → RelV v u → d.showable = true → d.shown.length ≤ sizeLine → ShK X s.heap u d
  | .none, _, _, h, r, _, _ => by
    cases h
    cases r
    exact ⟨_, [], .none, (fun _ h => nomatch h), by simp only [PyData.shown]; exact .of_is ReprIs.none _ _ _⟩
  | .bool b, _, _, h, r, _, _ => by
    cases h
    cases r
    exact ⟨_, [], .bool b, (fun _ h => nomatch h), by simp only [PyData.shown]; exact .of_is (ReprIs.bool b) _ _ _⟩
  | .int i, _, _, h, r, hs, _ => by
    cases h
    obtain ⟨t, rfl⟩ := r
    exact ⟨_, [], .int i t, (fun _ h => nomatch h), by simp only [PyData.shown]; exact .of_is (ReprIs.int t (by simpa [PyData.showable] using hs)) _ _ _⟩
  | .str x, _, _, h, r, _, hz => by
    cases h
    obtain ⟨t, rfl⟩ := r
    exact ⟨_, [], .str x t, (fun _ h => nomatch h), by simp only [PyData.shown]; exact .of_is (ReprIs.str x t (by simpa only [PyData.shown] using hz)) _ _ _⟩
  | .list ds, _, _, h, r, hs, hz => by
    cases h with
    | @lst a xs _ e hall =>
      cases r
      have hz' : (listText (PyData.shownAll ds)).length ≤ sizeLine := by simpa only [PyData.shown] using hz
      obtain ⟨its, rv, ⟨o, n, h1, h2, _, h3⟩, _⟩ := I.list e
      obtain ⟨as, bs, rd, hb, hk⟩ := DdAll.sh I ds xs its hall rv (by simpa [PyData.showable] using hs) (fun t ht => Nat.le_trans (listText_mem_le ht) hz')
      have rr : Reads s.heap (.ref a) (.list ds) _ := .list h1 h2 h3 rd
      have hna : a ∉ bs := not_mem_of_deeper rr (by simp only [PyData.depth]; omega) hb
      refine ⟨_, a :: bs, rr, ReadAtMost.cons rr (by simp only [PyData.depth]; omega) hb, ?_⟩
      simp only [PyData.depth, PyData.shown]
      cases its with
      | nil =>
        cases rd
        simp only [PyData.shownAll, listText_nil]
        exact ReprK.listEmpty h1 h2 h3
      | cons x l => exact ReprK.list h1 h2 h3 hna (by simpa using hk.length_eq) (fun i y e => hk.item i y (by simpa using e))
  | .tuple ds, _, _, h, r, hs, hz => by
    cases h with
    | @tup a xs _ e hall =>
      cases r
      have hz' : (tupleText (PyData.shownAll ds)).length ≤ sizeLine := by simpa only [PyData.shown] using hz
      obtain ⟨its, rv, ⟨o, h1, h2, n, h3⟩, _⟩ := I.tuple e
      obtain ⟨as, bs, rd, hb, hk⟩ := DdAll.sh I ds xs its hall rv (by simpa [PyData.showable] using hs) (fun t ht => Nat.le_trans (tupleText_mem_le ht) hz')
      have rr : Reads s.heap (.ref a) (.tuple ds) _ := .tuple h1 h2 h3 rd
      have hna : a ∉ bs := not_mem_of_deeper rr (by simp only [PyData.depth]; omega) hb
      refine ⟨_, a :: bs, rr, ReadAtMost.cons rr (by simp only [PyData.depth]; omega) hb, ?_⟩
      simp only [PyData.depth, PyData.shown]
      exact ReprK.tuple h1 h2 h3 hna hk
  | .dict ds, _, _, h, r, hs, hz => by
    cases h with
    | @dct a kvs _ e hall =>
      cases r
      have hz' : (dictText (PyData.shownKv ds)).length ≤ sizeLine := by simpa only [PyData.shown] using hz
      obtain ⟨_, hsys, vs, hk, hD⟩ : kvs.length ≤ sizeLine ∧ (a == sysModules) = false ∧ ∃ vs, KV kvs vs ∧ s.heap.DictOf (mixKind X.prog X.w) a vs := I.hok a _ e
      obtain ⟨o, es, ep, h1, h2, h3, _, e5, _⟩ := hD
      obtain ⟨hs1, hs2⟩ := PyData.showableKv_split ds (by simpa [PyData.showable] using hs)
      obtain ⟨⟨as1, b1, r1, hb1, k1⟩, as2, b2, r2, hb2, k2⟩ := DdKv.sh I ds kvs vs es.toList hall hk e5 hs1 hs2
        (fun t ht => let ⟨p, hp, hl⟩ := PyData.shownKv_key_le ds t ht; Nat.le_trans hl (Nat.le_trans (dictText_mem_le hp) hz')) (fun t ht => let ⟨p, hp, hl⟩ := PyData.shownKv_val_le ds t ht; Nat.le_trans hl (Nat.le_trans (dictText_mem_le hp) hz'))
      have rr : Reads s.heap (.ref a) (.dict ds) _ := .dict h1 h2.1 h3 r1 r2
      have hb : ReadAtMost s.heap (PyData.depthKv ds) (b1 ++ b2) := (hb1.mono (PyData.depthAll_keys_le ds)).append (hb2.mono (PyData.depthAll_vals_le ds))
      have hna : a ∉ b1 ++ b2 := not_mem_of_deeper rr (by simp only [PyData.depth]; omega) hb
      refine ⟨_, a :: (b1 ++ b2), rr, ReadAtMost.cons rr (by simp only [PyData.depth]; omega) hb, ?_⟩
      simp only [PyData.depth, PyData.shown, PyData.shownKv_eq]
      exact ReprK.dict h1 h2.1 h3 hsys hna (ReprEntriesK.of_two es.toList _ _
        (k1.more_le (fun b hb => List.mem_append_left _ hb) (PyData.depthAll_keys_le ds)) (k2.more_le (fun b hb => List.mem_append_right _ hb) (PyData.depthAll_vals_le ds)))
theorem DdAll.sh (I : Inv X pins σ H s) : ∀ (ds : List PyData) (vs : List V) (us : List Value), DdAll X.K H vs ds → Vals vs us → PyData.showableAll ds = true → (∀ t ∈ PyData.shownAll ds, t.length ≤ sizeLine) → ShAll X s.heap us ds
  | [], _, _, h, r, _, _ => by
    cases h
    cases r
    exact shAll_nil
  | d :: ds, _, _, h, r, hs, hz => by
    cases h with
    | cons h1 h2 =>
      cases r with
      | cons r1 r2 =>
        have hs' : d.showable = true ∧ PyData.showableAll ds = true := by simpa [PyData.showableAll] using hs
        exact shAll_cons (Dd.sh I d _ _ h1 r1 hs'.1 (hz _ (by simp only [PyData.shownAll]; exact List.mem_cons_self ..))) (DdAll.sh I ds _ _ h2 r2 hs'.2 fun t ht => hz t (by simp only [PyData.shownAll]; exact List.mem_cons_of_mem _ ht))
theorem DdKv.sh (I : Inv X pins σ H s) : ∀ (ds : List (PyData × PyData)) (kvs : List (Key × V)) (vs : List (Key × Value)) (es : List DictEntry), DdKv X.K H kvs ds → KV kvs vs → Pairs (mixKind X.prog X.w) es vs → PyData.showableAll (ds.map (·.1)) = true → PyData.showableAll (ds.map (·.2)) = true →
    (∀ t ∈ PyData.shownAll (ds.map (·.1)), t.length ≤ sizeLine) → (∀ t ∈ PyData.shownAll (ds.map (·.2)), t.length ≤ sizeLine) → ShAll X s.heap (es.map (·.key)) (ds.map (·.1)) ∧ ShAll X s.heap (es.map (·.val)) (ds.map (·.2))
  | [], _, _, _, h, hk, hp, _, _, _, _ => by
    cases h
    cases hk
    cases hp
    exact ⟨shAll_nil, shAll_nil⟩
  | (dk, dv) :: ds, _, _, _, h, hk, hp, hs1, hs2, z1, z2 => by
    cases h with
    | @cons k v r _ _ h1 h2 =>
      cases hk with
      | @cons _ kv _ _ hk1 hk2 =>
        obtain ⟨kk, kval⟩ := kv
        obtain ⟨q1, q2⟩ := hk1
        simp only at q1 q2
        subst q1
        cases hp with
        | @cons en _ es' _ p1 p2 p3 =>
          have hs1' : (PyData.str k).showable = true ∧ PyData.showableAll (ds.map (·.1)) = true := by simpa [PyData.showableAll] using hs1
          have hs2' : dv.showable = true ∧ PyData.showableAll (ds.map (·.2)) = true := by simpa [PyData.showableAll] using hs2
          have hz1 : (PyData.str k).shown.length ≤ sizeLine := z1 _ (by simp only [List.map_cons, PyData.shownAll]; exact List.mem_cons_self ..)
          have hz2 : dv.shown.length ≤ sizeLine := z2 _ (by simp only [List.map_cons, PyData.shownAll]; exact List.mem_cons_self ..)
          obtain ⟨c1, c2⟩ := DdKv.sh I ds _ _ _ h2 hk2 p3 hs1'.2 hs2'.2 (fun t ht => z1 t (by simp only [List.map_cons, PyData.shownAll]; exact List.mem_cons_of_mem _ ht)) (fun t ht => z2 t (by simp only [List.map_cons, PyData.shownAll]; exact List.mem_cons_of_mem _ ht))
          simp only at p2
          refine ⟨?_, ?_⟩
          · rcases keyIs_shape (show keyIs (Sum.inr k) en.key = true from p1) with ⟨j, t3, z, _⟩ | ⟨y, t3, z, ez⟩
            · cases z
            · cases z
              simp only [List.map_cons]
              refine shAll_cons ?_ c1
              rw [ez]
              exact ⟨_, [], .str k t3, (fun _ h => nomatch h), by simp only [PyData.shown]; exact .of_is (ReprIs.str k t3 (by simpa only [PyData.shown] using hz1)) _ _ _⟩
          · simp only [List.map_cons]
            rw [p2]
            exact shAll_cons (Dd.sh I dv v _ h1 q2 hs2'.1 hz2) c2
end
/-- such a thing is shown by its own type -/
theorem Dd.shows (I : Inv X pins σ H s) {a : Addr} {d : PyData} (h : Dd X.K H (.ref a) d) (hs : d.showable = true) (hz : d.shown.length ≤ sizeLine) : ∃ T idr, ShowsBy X.prog X.w s.heap a d T idr := by
  cases h with
  | @lst _ xs ds e hall =>
    have hz' : (listText (PyData.shownAll ds)).length ≤ sizeLine := by simpa only [PyData.shown] using hz
    obtain ⟨its, rv, ⟨o, n, h1, h2, _, h3⟩, _⟩ := I.list e
    obtain ⟨as, bs, rd, hb, hk⟩ := DdAll.sh I ds xs its hall rv (by simpa [PyData.showable] using hs) (fun t ht => Nat.le_trans (listText_mem_le ht) hz')
    have rr : Reads s.heap (.ref a) (.list ds) _ := .list h1 h2 h3 rd
    have hna : a ∉ bs := not_mem_of_deeper rr (by simp only [PyData.depth]; omega) hb
    refine ⟨"list", "list.__repr__", F.slot_list_repr.toG, F.slot_list_str, F.slot_list_format, fun s' hk0 => ⟨o, hk0 _ _ h1, h2⟩, fun A E s' Q hg hu hk0 hQ => ?_⟩
    simp only [PyData.depth] at hu
    simp only [PyData.shown] at hQ
    cases its with
    | nil =>
      cases rd
      simp only [PyData.shownAll, listText_nil] at hQ
      exact call_list_repr_empty ⟨o, hk0 _ _ h1, h2⟩ (hk0 _ _ h1) h3 (hQ s'.heap _ _ fun _ _ e => e)
    | cons x l => exact call_list_reprK h1 h2 h3 hna (by simpa using hk.length_eq) (fun i y e => hk.item i y (by simpa using e)) hg (fun b _ => Clear.nil b) hu hk0 hQ hz'
  | @tup _ xs ds e hall =>
    have hz' : (tupleText (PyData.shownAll ds)).length ≤ sizeLine := by simpa only [PyData.shown] using hz
    obtain ⟨its, rv, ⟨o, h1, h2, n, h3⟩, _⟩ := I.tuple e
    obtain ⟨as, bs, rd, hb, hk⟩ := DdAll.sh I ds xs its hall rv (by simpa [PyData.showable] using hs) (fun t ht => Nat.le_trans (tupleText_mem_le ht) hz')
    have rr : Reads s.heap (.ref a) (.tuple ds) _ := .tuple h1 h2 h3 rd
    have hna : a ∉ bs := not_mem_of_deeper rr (by simp only [PyData.depth]; omega) hb
    refine ⟨"tuple", "tuple.__repr__", F.slot_tuple_repr, F.slot_tuple_str, F.slot_tuple_format, fun s' hk0 => ⟨o, hk0 _ _ h1, h2⟩, fun A E s' Q hg hu hk0 hQ => ?_⟩
    simp only [PyData.depth] at hu
    simp only [PyData.shown] at hQ
    exact call_tuple_reprK h1 h2 h3 hna hk hg (fun b _ => Clear.nil b) hu hk0 hQ hz'
  | @dct _ kvs ds e hall =>
    have hz' : (dictText (PyData.shownKv ds)).length ≤ sizeLine := by simpa only [PyData.shown] using hz
    obtain ⟨_, hsys, vs, hk, hD⟩ : kvs.length ≤ sizeLine ∧ (a == sysModules) = false ∧ ∃ vs, KV kvs vs ∧ s.heap.DictOf (mixKind X.prog X.w) a vs := I.hok a _ e
    obtain ⟨o, es, ep, h1, h2, h3, _, e5, _⟩ := hD
    obtain ⟨hs1, hs2⟩ := PyData.showableKv_split ds (by simpa [PyData.showable] using hs)
    obtain ⟨⟨as1, b1, r1, hb1, k1⟩, as2, b2, r2, hb2, k2⟩ := DdKv.sh I ds kvs vs es.toList hall hk e5 hs1 hs2
      (fun t ht => let ⟨p, hp, hl⟩ := PyData.shownKv_key_le ds t ht; Nat.le_trans hl (Nat.le_trans (dictText_mem_le hp) hz')) (fun t ht => let ⟨p, hp, hl⟩ := PyData.shownKv_val_le ds t ht; Nat.le_trans hl (Nat.le_trans (dictText_mem_le hp) hz'))
    have rr : Reads s.heap (.ref a) (.dict ds) _ := .dict h1 h2.1 h3 r1 r2
    have hb : ReadAtMost s.heap (PyData.depthKv ds) (b1 ++ b2) := (hb1.mono (PyData.depthAll_keys_le ds)).append (hb2.mono (PyData.depthAll_vals_le ds))
    have hna : a ∉ b1 ++ b2 := not_mem_of_deeper rr (by simp only [PyData.depth]; omega) hb
    refine ⟨"dict", "dict.__repr__", F.slot_dict_repr, F.slot_dict_str, F.slot_dict_format, fun s' hk0 => ⟨o, hk0 _ _ h1, h2.1⟩, fun A E s' Q hg hu hk0 hQ => ?_⟩
    simp only [PyData.depth] at hu
    simp only [PyData.shown, PyData.shownKv_eq] at hQ
    exact call_dict_reprK h1 h2.1 h3 hsys hna (ReprEntriesK.of_two es.toList _ _
      (k1.more_le (fun b hb => List.mem_append_left _ hb) (PyData.depthAll_keys_le ds)) (k2.more_le (fun b hb => List.mem_append_right _ hb) (PyData.depthAll_vals_le ds))) hg (fun b _ => Clear.nil b) hu hk0 hQ (by rw [← PyData.shownKv_eq]; exact hz')
/-- repr of data, dicts in it -/
def rReprG (K : PySem.W.Frag) : List V → Hp → VK → Prop := fun xs H Q => ∃ v d, xs = [v] ∧ Dd K H v d ∧ d.showable = true ∧ d.depth ≤ 60 ∧ d.shown.length ≤ sizeLine ∧ Q (.str d.shown) H
theorem call_reprG (hg : X.A.guards = some []) (hu : X.A.units + 64 < cLine) : CallR X (.builtin "repr") (rReprG X.K) := by
  intro pins s σ H xs us Q I r h
  obtain ⟨v, d, rfl, hd, hs, hdep, hz, q⟩ := h
  obtain ⟨u, rfl, rv⟩ := vals1 r
  cases v with
  | ref a =>
    cases rv
    obtain ⟨T, idr, S⟩ := hd.shows I hs hz
    refine call_repr_slot (by omega) (S.typeIs s fun _ _ e => e) S.slotRepr (S.call X.A.in1 X.xe s _ hg (by show X.A.units + 1 + d.depth < cLine; omega) (fun _ _ e => e) fun h' u tk hk => ⟨_, _, rfl, ?_⟩)
    exact ⟨.str d.shown, H, I.kept hk, ⟨_, rfl⟩, q⟩
  | non =>
    cases hd
    cases rv
    exact PySem.P.repr_of_none ⟨.str _, H, I.tok _, ⟨_, rfl⟩, q⟩
  | bl b =>
    cases hd
    cases rv
    refine PySem.P.repr_of_bool ⟨.str (PyData.shown (.bool b)), H, I.tok _, ⟨s.toks, ?_⟩, q⟩
    cases b <;> rfl
  | int i =>
    cases hd
    obtain ⟨t, rfl⟩ := rv
    exact PySem.P.repr_of_int (by simpa [PyData.showable] using hs) ⟨.str _, H, I.tok _, ⟨_, rfl⟩, q⟩
  | str x =>
    cases hd
    obtain ⟨t, rfl⟩ := rv
    exact PySem.P.repr_of_str ⟨.str _, H, I.tok _, ⟨_, rfl⟩, q⟩ hz
  | byt b => cases hd
  | flt b => cases hd
  | ty n => cases hd
end
/-! data stays -/
mutual
theorem Dd.same {K : PySem.W.Frag} {H H' : Hp} (s : Ext H H') : ∀ {d : PyData} {v : V}, Dd K H v d → Dd K H' v d
  | _, _, .non => .non
  | _, _, .bl b => .bl b
  | _, _, .int i => .int i
  | _, _, .str x => .str x
  | _, _, .lst e h => .lst (SqL.ext e s) (DdAll.same s h)
  | _, _, .tup e h => .tup (SqT.ext e s) (DdAll.same s h)
  | _, _, .dct e h => .dct (s _ _ e) (DdKv.same s h)
theorem DdAll.same {K : PySem.W.Frag} {H H' : Hp} (s : Ext H H') : ∀ {ds : List PyData} {vs : List V}, DdAll K H vs ds → DdAll K H' vs ds
  | _, _, .nil => .nil
  | _, _, .cons h t => .cons (Dd.same s h) (DdAll.same s t)
theorem DdKv.same {K : PySem.W.Frag} {H H' : Hp} (s : Ext H H') : ∀ {ds : List (PyData × PyData)} {vs : List (Key × V)}, DdKv K H vs ds → DdKv K H' vs ds
  | _, _, .nil => .nil
  | _, _, .cons h t => .cons (Dd.same s h) (DdKv.same s t)
end
end So

/-! a value as data over a part of memory that stays; text * int -/
namespace So
open PySem PySem.Spec PyProof.Rows L2
section
variable {X : Cx}
theorem op_mul_str : OpR X (binaryOp .Mult) (fun x y H Q => ∃ z n, x = .str z ∧ y = .int n ∧ MulOk z n ∧ Q (.str (Txt.mul z n)) H) := by
  intro pins s σ H x y v u Q I rx ry h
  obtain ⟨z, n, rfl, rfl, ok, q⟩ := h
  obtain ⟨t, rfl⟩ := rx
  obtain ⟨t', rfl⟩ := ry
  exact SB.mul ok fun t' k => ⟨.str (Txt.mul z n), H, I.tok _, ⟨_, rfl⟩, q⟩
end
/-- memory without p -/
def hole (p : Addr) (H : Hp) : Hp := fun b => if b = p then none else H b
theorem hole_ne {p b : Addr} {H : Hp} (h : b ≠ p) : hole p H b = H b := if_neg h
theorem hole_at {p : Addr} {H : Hp} : hole p H p = none := if_pos rfl
theorem hole_same {p : Addr} {H : Hp} : Same (hole p H) H := fun b o e => by
  by_cases z : b = p
  · subst z
    rw [hole_at] at e
    cases e
  · rwa [hole_ne z] at e
/-- v is the data d, by a part of memory that has no p -/
def Kp (K : PySem.W.Frag) (p : Addr) (H : Hp) (v : V) (d : PyData) : Prop := ∃ F, F p = none ∧ Same F H ∧ Dd K F v d
section
variable {K : PySem.W.Frag} {p : Addr} {H H' : Hp} {v : V} {d : PyData}
theorem Kp.same (h : Kp K p H v d) (s : Same H H') : Kp K p H' v d := h.elim fun F e => ⟨F, e.1, e.2.1.trans s, e.2.2⟩
theorem Kp.off (h : Kp K p H v d) (s : ∀ b o, b ≠ p → H b = some o → H' b = some o) : Kp K p H' v d := h.elim fun F e => ⟨F, e.1, fun b o z => s b o (fun y => by
  subst y
  rw [e.1] at z
  cases z) (e.2.1 b o z), e.2.2⟩
theorem Kp.dd (h : Kp K p H v d) : Dd K H v d := h.elim fun F e => Dd.same (fun b o z => e.2.1 b o z) e.2.2
theorem Kp.hole (h : Dd K (So.hole p H) v d) : Kp K p H v d := ⟨So.hole p H, hole_at, hole_same, h⟩
theorem Kp.at (h : Dd K H v d) (e : H p = none) (s : Same H H') : Kp K p H' v d := ⟨H, e, s, h⟩
theorem Kp.non : Kp K p H .non .none := .hole .non
theorem Kp.bl (b : Bool) : Kp K p H (.bl b) (.bool b) := .hole (.bl b)
theorem Kp.int (i : Int) : Kp K p H (.int i) (.int i) := .hole (.int i)
theorem Kp.str (z : Str) : Kp K p H (.str z) (.str z) := .hole (.str z)
end
end So

namespace K07
open PySem PySem.Spec PyProof.Rows L2 So
/-! ### the text -/
def topS (i : Nat) : Stmt := PySem.Challenge.pw_soundtill_k07_errors_kept.main.body.getD i (.Pass ⟨0, 0, 0, 0⟩)
abbrev sPen : Stmt := topS 26
abbrev sDraw : Stmt := topS 27
abbrev sPick : Stmt := topS 28
theorem scPen : FnScope ["_law_script"] ["_law_script"] (defScope sPen) := ⟨rfl, rfl, rfl, by decide +kernel, rfl, by decide +kernel, by decide +kernel⟩
theorem scDraw : FnScope ["_law_pen_here", "_law_many", "_law_digit", "_law_spot", "_law_cell", "_law_great", "_law_mixed"] ["_law_pen_here", "_law_many"] (defScope sDraw) := ⟨rfl, rfl, rfl, by decide +kernel, rfl, by decide +kernel, by decide +kernel⟩
theorem scPick : FnScope ["_law_pen_here", "_law_some"] ["_law_pen_here", "_law_some"] (defScope sPick) := ⟨rfl, rfl, rfl, by decide +kernel, rfl, by decide +kernel, by decide +kernel⟩

/-! ### the pen -/
/-- the pen at p: the cells at l, how many were begun, what is left of a great one -/
structure Pen (H : Hp) (p l : Addr) (ns : List Int) (n : Nat) (g : Int) : Prop where
  pen : H p = some (.lst [.ref l, .int n, .int g])
  cells : H l = some (.lst (ns.map V.int))
  left : 0 ≤ g
/-- all that was tracked beside p is as it was -/
def Off (p : Addr) (H H' : Hp) : Prop := ∀ b o, b ≠ p → H b = some o → H' b = some o
theorem Off.refl {p : Addr} {H : Hp} : Off p H H := fun _ _ _ e => e
theorem Off.trans {p : Addr} {H H1 H2 : Hp} (a : Off p H H1) (b : Off p H1 H2) : Off p H H2 := fun c o n e => b c o n (a c o n e)
theorem Off.upd {p : Addr} {H H1 : Hp} {o : HO} (a : Off p H H1) : Off p H (upd H1 p o) := fun c u n e => by
  rw [upd_ne n]
  exact a c u n e
theorem Off.new {p q : Addr} {H H1 : Hp} {o : HO} (a : Off p H H1) (h : H1 q = none) : Off p H (L2.upd H1 q o) := fun c u n e => by
  have e1 := a c u n e
  rw [upd_ne (ne_of_none e1 h)]
  exact e1
theorem dp_ints {K : PySem.W.Frag} {H : Hp} : ∀ ns : List Int, DpAll K H (ns.map V.int) (ns.map PyData.int)
  | [] => .nil
  | n :: r => .cons (.int n) (dp_ints r)
theorem depth_ints : ∀ ns : List Int, PyData.depthAll (ns.map PyData.int) ≤ 1
  | [] => by simp [PyData.depthAll]
  | n :: r => by
    have h := depth_ints r
    simp only [List.map_cons, PyData.depthAll, PyData.depth]
    omega
theorem shaped_ints (ns : List Int) : SeqAt.shaped (.list (ns.map PyData.int)) = true := by
  unfold SeqAt.shaped
  rw [Bool.and_eq_true]
  have hd := depth_ints ns
  refine ⟨?_, decide_eq_true ?_⟩
  · show PyData.canLay0 _ = true
    simp only [PyData.canLay0]
    induction ns with
    | nil => rfl
    | cons a r ih => simpa [PyData.canLayAll0, PyData.canLay0] using ih (depth_ints r)
  · simp only [PyData.depth]
    omega
theorem Pen.apart {H : Hp} {p l : Addr} {ns : List Int} {n : Nat} {g : Int} (h : Pen H p l ns n g) : l ≠ p := by
  refine ne_of h.cells h.pen (fun z => ?_)
  injection z with z
  cases ns with
  | nil => cases z
  | cons a r => cases z
theorem eqv_nil (ds : List PyData) : PyData.eqv (.list ds) (.list []) = ds.isEmpty := by
  cases ds <;> simp [PyData.eqv, PyData.eqvAll]
section
variable {P : Program} {w : World} {K : PySem.W.Frag} {mg : Str → Option Value} {base : Heap}
def spDraw : Sp := fun vs H Q _ => ∃ (p l : Addr) (ns : List Int) (n : Nat) (g many : Int), vs = [.ref p, .int many] ∧ Pen H p l ns n g ∧ n < 1000000 ∧ 0 < many ∧ many.natAbs < 2 ^ 200 ∧
  ∀ (d : Int) (n' : Nat) (g' : Int) (H' : Hp), 0 ≤ d → d < many → n' ≤ n + 1 → Off p H H' → Pen H' p l ns n' g' → Q (.int d) H'
theorem ok_draw {f : Addr} {fd : FuncData} (F : Fun K "_law_draw" "_law_draw" sDraw f fd) (ml : mg "len" = none) (mi : mg "int" = none) (ma : mg "abs" = none) : FnOk P w K mg base CX0 1 f fd ["_law_pen_here", "_law_many"] spDraw := by
  refine F.ok scDraw (fun vs H Q E h => ?_) (fun cdv A outer s H vs Q E hr h => ?_)
  · obtain ⟨p, l, ns, n, g, many, rfl, _⟩ := h
    rfl
  · obtain ⟨p, l, ns, n, g, many, rfl, hp, hn, hm, hm2, q⟩ := h
    refine ⟨_, pss_cons (ps_if (pt_cmpR op_gt (pe_ix ix_list (pv 0) pe_int (fun _ _ => rfl)) pe_int (nomark _))
        (pss_cons (ps_set (i := 2) scDraw.nd rfl (.inl rfl) (pe_op op_mod (pe_callTy call_int1 (by rfl) mi (by decide +kernel) (pa_cons (pe_ix ix_list (pv 0) pe_int (fun _ _ => rfl)) pa_nil)) (pv 1)))
        (pss_cons (ps_asg (pe_op op_fdivW (pe_callTy call_int1 (by rfl) mi (by decide +kernel) (pa_cons (pe_ix ix_list (pv 0) pe_int (fun _ _ => rfl)) pa_nil)) (pv 1)) (pg_sub (pv 0) pe_int set_list))
        (pss_one (ps_ret (pv 2))))) pss_nil)
      (pss_cons (ps_set (i := 3) scDraw.nd rfl (.inl rfl) (pe_ix ix_list (pv 0) pe_int (fun _ _ => rfl)))
      (pss_cons (ps_asg (pe_op op_add (pv 3) pe_int) (pg_sub (pv 0) pe_int set_list))
      (pss_cons (ps_set (i := 4) scDraw.nd rfl (.inl rfl) (pe_op op_add (pe_op op_mul pe_int (pv 3)) pe_int))
      (C8.pss_cut (ps_if (pt_cmpR (op_neD (by have := hr.units; exact this)) (pe_ix ix_list (pv 0) pe_int (fun _ _ => rfl)) (pe_lst pa_nil) (nomark _))
        (pss_one (ps_set (i := 4) scDraw.nd rfl (.inl rfl) (pe_ix ix_list (pe_ix ix_list (pv 0) pe_int (fun _ _ => rfl)) (pe_op op_mod (pe_callTy call_int1 (by rfl) mi (by decide +kernel) (pa_cons (pv 3) pa_nil)) (pe_callB call_len_seq (by rfl) ml PySem.boot_len (pa_cons (pe_ix ix_list (pv 0) pe_int (fun _ _ => rfl)) pa_nil))) (fun _ _ => rfl)))) pss_nil)
      (pss_cons (ps_if (PW.pt (pw_and (pt_cmpR op_lt (pv 3) (pe_callB call_len_seq (by rfl) ml PySem.boot_len (pa_cons (pe_ix ix_list (pv 0) pe_int (fun _ _ => rfl)) pa_nil)) (nomark _))
            (pw_and1 (pt_cmpR op_ge (pe_callB call_abs (by rfl) ma (by decide +kernel) (pa_cons (pv 4) pa_nil)) (pe_op op_pow pe_int pe_int) (nomark _)))))
        (pss_cons (ps_set (i := 5) scDraw.nd rfl (.inl rfl) (pe_op op_add (pe_op op_mul pe_int (pe_op op_sub (pe_callB call_abs (by rfl) ma (by decide +kernel) (pa_cons (pv 4) pa_nil)) (pe_op op_pow pe_int pe_int)))
            (pe_callTy call_int1 (by rfl) mi (by decide +kernel) (pa_cons (pe_cmpR op_lt (pv 4) pe_int (nomark _)) pa_nil))))
        (pss_cons (ps_asg (pe_op op_fdivW (pe_callTy call_int1 (by rfl) mi (by decide +kernel) (pa_cons (pv 5) pa_nil)) (pv 1)) (pg_sub (pv 0) pe_int set_list))
        (pss_one (ps_ret (pe_op op_mod (pe_callTy call_int1 (by rfl) mi (by decide +kernel) (pa_cons (pv 5) pa_nil)) (pv 1)))))) pss_nil)
      (pss_cons (ps_set (i := 6) scDraw.nd rfl (.inl rfl) (pe_op op_mod (pe_callTy call_int1 (by rfl) mi (by decide +kernel) (pa_cons
          (pe_op op_pow (pe_op op_add (pe_op op_add (pe_op op_mod (pe_callTy call_int1 (by rfl) mi (by decide +kernel) (pa_cons (pv 4) pa_nil)) pe_int) (pe_op op_mul pe_int (pv 3))) pe_int) pe_int) pa_nil)) pe_int))
      (pss_cons (ps_set (i := 6) scDraw.nd rfl (.inl rfl) (pe_op op_mod (pe_callTy call_int1 (by rfl) mi (by decide +kernel) (pa_cons
          (pe_op op_pow (pe_op op_add (pe_op op_add (pe_op op_mul (pv 6) (pe_op op_add (pe_op op_mul pe_int (pv 3)) pe_int)) (pe_op op_mul (pe_op op_mul pe_int (pv 3)) (pv 3))) pe_int) pe_int) pa_nil)) pe_int))
      (pss_one (ps_ret (pe_op op_mod (pe_callTy call_int1 (by rfl) mi (by decide +kernel) (pa_cons (pe_op op_fdiv (pv 6) pe_int) pa_nil)) (pv 1))))))))))), ?_⟩
    have hP : SqL K H p [.ref l, .int n, .int g] := SqL.of hp.pen
    refine ⟨_, rfl, p, _, 2, _, rfl, rfl, hP, atI_nat (j := 2) rfl, _, _, rfl, rfl, _, rfl, ite2 (fun e => ?_) (fun e => ?_)⟩
    · refine ⟨_, rfl, p, _, 2, _, rfl, rfl, hP, atI_nat (j := 2) rfl, .inl ⟨_, rfl, _, rfl, _, _, rfl, rfl, hm, ?_⟩⟩
      refine ⟨_, rfl, p, _, 2, _, rfl, rfl, hP, atI_nat (j := 2) rfl, .inl ⟨_, rfl, _, rfl, _, _, rfl, rfl, wide_div hm hm2 (by decide) (by decide), _, rfl, p, _, 2, 2, rfl, rfl, hp.pen, rfl, ?_⟩⟩
      refine ⟨_, rfl, q _ n (g / many) _ (Int.emod_nonneg _ (Int.ne_of_gt hm)) (Int.emod_lt_of_pos _ hm) (by omega) Off.refl.upd ⟨upd_same, (upd_ne hp.apart).trans hp.cells, Int.ediv_nonneg hp.left (Int.le_of_lt hm)⟩⟩
    · refine ⟨_, rfl, p, _, 1, _, rfl, rfl, hP, atI_nat (j := 1) rfl, ?_⟩
      refine ⟨_, rfl, _, _, rfl, rfl, _, rfl, p, _, 1, 1, rfl, rfl, hp.pen, rfl, ?_⟩
      have hP1 : (upd H p (.lst [.ref l, .int (n + 1), .int g])) p = some (.lst [.ref l, .int (n + 1), .int g]) := upd_same
      have hL1 : (upd H p (.lst [.ref l, .int (n + 1), .int g])) l = some (.lst (ns.map V.int)) := (upd_ne hp.apart).trans hp.cells
      have hO1 : Off p H (upd H p (.lst [.ref l, .int (n + 1), .int g])) := Off.refl.upd
      refine ⟨_, rfl, _, _, rfl, rfl, .inl ⟨by decide, by decide⟩, _, _, rfl, rfl, ?_⟩
      refine ⟨fun σ' H2 => ∃ c : Int, σ' = [some (.ref p), some (.int many), none, some (.int n), some (.int c), none, none] ∧ H2 p = some (.lst [.ref l, .int (n + 1), .int g]) ∧ H2 l = some (.lst (ns.map V.int)) ∧ Off p H H2, ?_, ?_⟩
      · refine ⟨_, rfl, p, _, 0, _, rfl, rfl, SqL.of hP1, atI_nat (j := 0) rfl, Nat.zero_le _, fun z hz => ?_⟩
        have hP2 := (upd_ne (o := .lst []) (ne_of_none hP1 hz)).trans hP1
        have hL2 := (upd_ne (o := .lst []) (ne_of_none hL1 hz)).trans hL1
        refine ⟨.list (ns.map PyData.int), .list [], .lst (SqL.of hL2) (dp_ints ns), .lst (SqL.of upd_same) .nil, shaped_ints ns, by decide, _, rfl, ite2 (fun e1 => ?_) (fun e1 => ?_)⟩
        · rw [eqv_nil] at e1
          have hlen : 0 < ns.length := by
            cases ns with
            | nil => cases e1
            | cons a r => exact Nat.succ_pos _
          have hlt : n % ns.length < ns.length := Nat.mod_lt _ hlen
          refine ⟨_, rfl, p, _, 0, _, rfl, rfl, SqL.of hP2, atI_nat (j := 0) rfl, _, rfl, .inl ⟨_, rfl, _, rfl, p, _, 0, _, rfl, rfl, SqL.of hP2, atI_nat (j := 0) rfl, l, _, rfl, .inl (SqL.of hL2), _, _, rfl, rfl, (by rw [List.length_map]; omega), l, _, _, .int ns[n % ns.length], rfl, rfl, SqL.of hL2, ?_, ?_⟩⟩
          · have e2 : ((n : Int) % (((ns.map V.int).length : Nat) : Int)) = ((n % ns.length : Nat) : Int) := by
              rw [List.length_map]
              exact (Int.natCast_emod n ns.length).symm
            rw [e2]
            refine atI_nat ?_
            rw [List.getElem?_map, List.getElem?_eq_getElem hlt]
            rfl
          · exact ⟨_, rfl, hP2, hL2, hO1.new hz⟩
        · exact ⟨_, rfl, hP2, hL2, hO1.new hz⟩
      · rintro σ' H2 ⟨c, rfl, hP2, hL2, hO2⟩
        have hmix : ∀ t : Int, 0 ≤ t % many ∧ t % many < many := fun t => ⟨Int.emod_nonneg _ (Int.ne_of_gt hm), Int.emod_lt_of_pos _ hm⟩
        have bm : ∀ Y : Int, 0 ≤ Y % 2147483587 ∧ Y % 2147483587 < 2147483587 := fun Y => ⟨Int.emod_nonneg _ (by decide), Int.emod_lt_of_pos _ (by decide)⟩
        have bd : ∀ Y : Int, -(2 ^ 64) < Y % 2147483587 ∧ Y % 2147483587 < 2 ^ 64 := fun Y => by
          have := bm Y
          omega
        have key : ∀ Y : Int, ((Y % 2147483587) * (2 * (n : Int) + 41) + 53267 * (n : Int) * (n : Int) + 29).natAbs < 2 ^ 64 := by
          intro Y
          have b2 := bm Y
          revert b2
          generalize Y % 2147483587 = m1
          intro b2
          have b3 : 0 ≤ m1 * (2 * (n : Int) + 41) ∧ m1 * (2 * (n : Int) + 41) ≤ 2147483587 * 2000041 := ⟨Int.mul_nonneg b2.1 (by omega), Int.mul_le_mul (by omega) (by omega) (by omega) (by decide)⟩
          have b4 : 0 ≤ 53267 * (n : Int) * (n : Int) ∧ 53267 * (n : Int) * (n : Int) ≤ (53267 * 1000000) * 1000000 := ⟨Int.mul_nonneg (by omega) (by omega), Int.mul_le_mul (by omega) (by omega) (by omega) (by decide)⟩
          omega
        refine ⟨_, rfl, _, rfl, p, _, 0, _, rfl, rfl, SqL.of hP2, atI_nat (j := 0) rfl, l, _, rfl, .inl (SqL.of hL2), _, _, rfl, rfl, _, rfl, ite2 (fun e1 => ⟨_, rfl, _, rfl, _, _, rfl, rfl, ⟨by decide, by decide, by decide⟩, _, _, rfl, rfl, _, rfl, ite2 (fun e2 => ?great) (fun e2 => ?late)⟩) (fun e1 => ?small)⟩
        case great =>
          have e3 : (10 : Int) ^ (18 : Int).toNat ≤ (if c < 0 then -c else c) := of_decide_eq_true e2
          refine ⟨_, rfl, _, rfl, _, _, rfl, rfl, ⟨by decide, by decide, by decide⟩, _, _, rfl, rfl, _, _, rfl, rfl, .inl ⟨by decide, by decide⟩, _, rfl, _, _, rfl, rfl, .inr ⟨_, rfl, _, _, rfl, rfl, ?_⟩⟩
          have hG : ∀ k : Bool, 0 ≤ 2 * ((if c < 0 then -c else c) - (10 : Int) ^ (18 : Int).toNat) + (if k = true then (1 : Int) else 0) := by
            intro k
            have : (0 : Int) ≤ (if k = true then (1 : Int) else 0) := by cases k <;> decide
            omega
          have hG1 := hG (decide (c < 0))
          refine ⟨_, rfl, .inl ⟨_, rfl, _, rfl, _, _, rfl, rfl, wide_div hm hm2 (by decide) (by decide), _, rfl, p, _, 2, 2, rfl, rfl, hP2, rfl, ?_⟩⟩
          exact ⟨_, rfl, .inl ⟨_, rfl, _, rfl, _, _, rfl, rfl, hm, q _ (n + 1) _ _ (hmix _).1 (hmix _).2 (Nat.le_refl _) hO2.upd ⟨upd_same, (upd_ne (Pen.apart ⟨hP2, hL2, hp.left⟩)).trans hL2, Int.ediv_nonneg hG1 (Int.le_of_lt hm)⟩⟩⟩
        all_goals
          have b1 : 0 ≤ c % 2147483549 ∧ c % 2147483549 < 2147483549 := ⟨Int.emod_nonneg _ (by decide), Int.emod_lt_of_pos _ (by decide)⟩
          refine ⟨_, rfl, .inl ⟨_, rfl, _, _, rfl, rfl, (by decide : (0 : Int) < 2147483549), _, rfl, _, _, rfl, rfl, .inl ⟨by decide, by decide⟩, _, _, rfl, rfl, _, _, rfl, rfl, _, _, rfl, rfl, ⟨by decide, by decide, ?_⟩, .inl ⟨_, rfl, _, _, rfl, rfl, (by decide : (0 : Int) < 2147483587), ?_⟩⟩⟩
          · omega
          refine ⟨_, rfl, _, rfl, _, _, rfl, rfl, .inl ⟨by decide, by decide⟩, _, _, rfl, rfl, _, _, rfl, rfl, .inl (bd _), _, rfl, _, _, rfl, rfl, .inl ⟨by decide, by decide⟩, _, rfl, _, _, rfl, rfl, .inr ⟨?_, ?_⟩, _, _, rfl, rfl, _, _, rfl, rfl, _, _, rfl, rfl, ⟨by decide, by decide, key _⟩, .inl ⟨_, rfl, _, _, rfl, rfl, (by decide : (0 : Int) < 2147483629), ?_⟩⟩
          · omega
          · omega
          exact ⟨_, rfl, _, _, rfl, rfl, ⟨by decide, by decide⟩, .inl ⟨_, rfl, _, rfl, _, _, rfl, rfl, hm, q _ (n + 1) g H2 (hmix _).1 (hmix _).2 (Nat.le_refl _) hO2 ⟨hP2, hL2, hp.left⟩⟩⟩


/-- one of a list's things, one of a text's signs -/
def spPick (K : PySem.W.Frag) : Sp := fun vs H Q _ => ∃ (p l : Addr) (ns : List Int) (n : Nat) (g : Int) (y : V), vs = [.ref p, y] ∧ Pen H p l ns n g ∧ n < 1000000 ∧
  ((∃ (q : Addr) (xs : List V), y = .ref q ∧ q ≠ p ∧ H q = some (.lst xs) ∧ 0 < xs.length ∧ xs.length ≤ 1000 ∧
    ∀ (v : V) (n' : Nat) (g' : Int) (H' : Hp), v ∈ xs → n' ≤ n + 1 → Off p H H' → Pen H' p l ns n' g' → Q v H') ∨
   (∃ z : Str, y = .str z ∧ 0 < z.length ∧ z.length ≤ 1000 ∧
    ∀ (c : Nat) (n' : Nat) (g' : Int) (H' : Hp), c ∈ z.cps.toList → n' ≤ n + 1 → Off p H H' → Pen H' p l ns n' g' → Q (.str (⟨#[c]⟩)) H'))
theorem ok_pick {f fD : Addr} {fd fdD : FuncData} (F : Fun K "_law_pick" "_law_pick" sPick f fd) (ml : mg "len" = none) (FD : Fun K "_law_draw" "_law_draw" sDraw fD fdD) (bD : Binds K fdD ["_law_pen_here", "_law_many"] []) (gD : mg "_law_draw" = some (.ref fD))
    (GD : FnOk P w K mg base CX0 1 fD fdD ["_law_pen_here", "_law_many"] spDraw) : FnOk P w K mg base CX0 2 f fd ["_law_pen_here", "_law_some"] (spPick K) := by
  refine F.ok scPick (fun vs H Q E h => ?_) (fun cdv A outer s H vs Q E hr h => ?_)
  · obtain ⟨p, l, ns, n, g, y, rfl, _⟩ := h
    rfl
  · obtain ⟨p, l, ns, n, g, y, rfl, hp, hn, k⟩ := h
    refine ⟨_, pss_one (ps_ret (pe_ix (ix_list.or ix_str) (pv 1) (pe_call GD hr (by rfl) gD FD.kp bD .nil pass0 (pa_cons (pv 0) (pa_cons (pe_callB (So.CallR.or call_len_seq call_len_str) (by rfl) ml PySem.boot_len (pa_cons (pv 1) pa_nil)) pa_nil))) (fun _ _ => rfl))), ?_⟩
    rcases k with ⟨q, xs, rfl, hne, hq, h0, h1, k⟩ | ⟨z, rfl, h0, h1, k⟩
    · refine ⟨_, rfl, _, rfl, _, rfl, .inl ⟨q, _, rfl, .inl (SqL.of hq), p, l, ns, n, g, _, rfl, hp, hn, by omega, ?_, ?_⟩⟩
      · have : ((xs.length : Nat) : Int).natAbs = xs.length := Int.natAbs_natCast _
        rw [this]
        exact Nat.lt_of_le_of_lt h1 (by decide)
      · intro d n' g' H' d0 d1 hn' off pen
        obtain ⟨j, rfl⟩ : ∃ j : Nat, d = j := ⟨d.toNat, by omega⟩
        have hlt : j < xs.length := by omega
        exact .inl ⟨q, xs, j, xs[j], rfl, rfl, SqL.of (off q _ hne hq), atI_nat (List.getElem?_eq_getElem hlt), k _ n' g' H' (List.getElem_mem hlt) hn' off pen⟩
    · refine ⟨_, rfl, _, rfl, _, rfl, .inr ⟨z, rfl, Nat.le_trans h1 (by decide), p, l, ns, n, g, _, rfl, hp, hn, by omega, ?_, ?_⟩⟩
      · have : ((z.length : Nat) : Int).natAbs = z.length := Int.natAbs_natCast _
        rw [this]
        exact Nat.lt_of_le_of_lt h1 (by decide)
      · intro d n' g' H' d0 d1 hn' off pen
        obtain ⟨j, rfl⟩ : ∃ j : Nat, d = j := ⟨d.toNat, by omega⟩
        have hz : z.length = z.cps.toList.length := Array.length_toList.symm
        have hlt : j < z.cps.toList.length := by omega
        exact .inr ⟨z, j, z.cps.toList[j], rfl, rfl, Nat.le_trans h1 (by decide), atI_nat (List.getElem?_eq_getElem hlt), k _ n' g' H' (List.getElem_mem hlt) hn' off pen⟩
theorem Pen.new {H : Hp} {p l q : Addr} {ns : List Int} {n : Nat} {g : Int} {o : HO} (h : Pen H p l ns n g) (hq : H q = none) : Pen (upd H q o) p l ns n g :=
  ⟨(upd_ne (ne_of_none h.pen hq)).trans h.pen, (upd_ne (ne_of_none h.cells hq)).trans h.cells, h.left⟩
end
end K07

namespace K07
open PySem PySem.Spec PyProof.Rows L2 So
abbrev sPlace : Stmt := topS 29
abbrev sByName : Stmt := topS 30
abbrev sFields : Stmt := topS 31
abbrev sKept : Stmt := topS 32
abbrev sMarks : Stmt := topS 33
theorem scKept : FnScope ["_law_caught", "_law_sign"] ["_law_caught", "_law_sign"] (defScope sKept) := ⟨rfl, rfl, rfl, by decide +kernel, rfl, by decide +kernel, by decide +kernel⟩
theorem scMarks : FnScope ["_law_caught", "_law_some"] ["_law_caught"] (defScope sMarks) := ⟨rfl, rfl, rfl, by decide +kernel, rfl, by decide +kernel, by decide +kernel⟩
theorem scPlace : FnScope ["_law_a", "_law_b", "_law_some"] ["_law_a", "_law_b"] (defScope sPlace) := ⟨rfl, rfl, rfl, by decide +kernel, rfl, by decide +kernel, by decide +kernel⟩
theorem scByName : FnScope ["_law_a", "_law_b", "_law_some"] ["_law_a", "_law_b"] (defScope sByName) := ⟨rfl, rfl, rfl, by decide +kernel, rfl, by decide +kernel, by decide +kernel⟩
theorem notS {a b : Str} (h : a ≠ b) : ¬ (decide (V.str a = V.str b) = true) := fun e => h (V.str.inj (of_decide_eq_true e))
theorem same_upd0 {H : Hp} {p : Addr} {o : HO} (h : H p = none) : Same H (upd H p o) := overS (Same.refl H) h
/-- the attributes of the error at a place, made of v and w -/
def fsOf : Nat → V → V → List (Str × V)
  | 0, v, w => [("name", v)]
  | 1, v, w => [("moment", v)]
  | 2, v, w => [("value", v)]
  | 3, v, w => [("value", v)]
  | 4, v, w => [("at", v)]
  | 5, v, w => [("at", v)]
  | 6, v, w => [("at", v)]
  | 7, v, w => [("tool", v)]
  | 8, v, w => [("number", v)]
  | 9, v, w => [("number", v)]
  | 10, v, w => [("name", v)]
  | 11, v, w => [("name", v)]
  | 12, v, w => [("value", v)]
  | 13, v, w => [("word", v)]
  | 14, v, w => [("most", w), ("what", v)]
  | 15, v, w => [("moment", v)]
  | 16, v, w => [("name", v)]
  | 17, v, w => [("tool", v)]
  | 18, v, w => [("number", v)]
  | 19, v, w => [("at", v)]
  | 20, v, w => [("at", v)]
  | 21, v, w => [("word", w), ("line", v)]
  | _, _, _ => []
/-- an object of the class at place i, with or without attributes -/
def IsE (H : Hp) (a D : Addr) : Prop := H a = some (Xo (.ref D) none a) ∨ ∃ fs, ErAt H a D fs
theorem IsE.same {H H' : Hp} {a D : Addr} (h : IsE H a D) (s : Same H H') : IsE H' a D := h.elim (fun e => .inl (s _ _ e)) fun ⟨fs, e⟩ => .inr ⟨fs, e.same s⟩
def EO (cl : Nat → Addr) (H : Hp) (a : Addr) (i : Nat) (v w : V) : Prop := (i = 22 ∧ H a = some (Xo (.ref (cl 22)) none a)) ∨ (i < 22 ∧ ErAt H a (cl i) (fsOf i v w))
theorem EO.same {cl : Nat → Addr} {H H' : Hp} {a : Addr} {i : Nat} {v w : V} (h : EO cl H a i v w) (s : Same H H') : EO cl H' a i v w := h.elim (fun e => .inl ⟨e.1, s _ _ e.2⟩) fun e => .inr ⟨e.1, e.2.same s⟩
theorem EO.isE {cl : Nat → Addr} {H : Hp} {a : Addr} {i : Nat} {v w : V} (h : EO cl H a i v w) : IsE H a (cl i) := h.elim (fun e => .inl (by rw [e.1]; exact e.2)) fun e => .inr ⟨_, e.2⟩
/-- which attribute a sign names -/
def Fld (c n : Str) : Prop := (c = "a" ∧ n = "name") ∨ (c = "o" ∧ n = "moment") ∨ (c = "v" ∧ n = "value") ∨ (c = "t" ∧ n = "at") ∨ (c = "l" ∧ n = "tool") ∨ (c = "u" ∧ n = "number") ∨ (c = "w" ∧ n = "word") ∨ (c = "h" ∧ n = "what") ∨ (c = "m" ∧ n = "most") ∨ (c = "i" ∧ n = "line")
/-- what the top says of the classes -/
structure Cls (K : PySem.W.Frag) (mg : Str → Option Value) (cl : Nat → Addr) : Prop where
  isi : mg "isinstance" = none
  g0 : mg "BadName" = some (.ref (cl 0))
  g1 : mg "BadMoment" = some (.ref (cl 1))
  g2 : mg "BadSaying" = some (.ref (cl 2))
  g3 : mg "BadPoint" = some (.ref (cl 3))
  g4 : mg "BadRow" = some (.ref (cl 4))
  g5 : mg "BadTurn" = some (.ref (cl 5))
  g6 : mg "BadTurns" = some (.ref (cl 6))
  g7 : mg "NoTool" = some (.ref (cl 7))
  g8 : mg "NoRow" = some (.ref (cl 8))
  g9 : mg "NoDeed" = some (.ref (cl 9))
  g10 : mg "NoRecord" = some (.ref (cl 10))
  g11 : mg "NoLot" = some (.ref (cl 11))
  g12 : mg "NoLife" = some (.ref (cl 12))
  g13 : mg "NoEvidence" = some (.ref (cl 13))
  g14 : mg "TooMany" = some (.ref (cl 14))
  g15 : mg "Later" = some (.ref (cl 15))
  g16 : mg "Clash" = some (.ref (cl 16))
  g17 : mg "Unlike" = some (.ref (cl 17))
  g18 : mg "Contradicted" = some (.ref (cl 18))
  g19 : mg "BadChain" = some (.ref (cl 19))
  g20 : mg "BadEntry" = some (.ref (cl 20))
  g21 : mg "BadText" = some (.ref (cl 21))
  g22 : mg "NoLine" = some (.ref (cl 22))
  er : ∀ i, i < 23 → Err K (cl i)
  kit : ∀ i j, i < 23 → j < 23 → PySem.W.kitOne K (.ref (cl i)) (.ref (cl j)) = some (decide (i = j))
  n0_0 : PySem.W.findIn K (.ref (cl 0)) "name" = some none
  n1_0 : PySem.W.findIn K (.ref (cl 1)) "moment" = some none
  n2_0 : PySem.W.findIn K (.ref (cl 2)) "value" = some none
  n3_0 : PySem.W.findIn K (.ref (cl 3)) "value" = some none
  n4_0 : PySem.W.findIn K (.ref (cl 4)) "at" = some none
  n5_0 : PySem.W.findIn K (.ref (cl 5)) "at" = some none
  n6_0 : PySem.W.findIn K (.ref (cl 6)) "at" = some none
  n7_0 : PySem.W.findIn K (.ref (cl 7)) "tool" = some none
  n8_0 : PySem.W.findIn K (.ref (cl 8)) "number" = some none
  n9_0 : PySem.W.findIn K (.ref (cl 9)) "number" = some none
  n10_0 : PySem.W.findIn K (.ref (cl 10)) "name" = some none
  n11_0 : PySem.W.findIn K (.ref (cl 11)) "name" = some none
  n12_0 : PySem.W.findIn K (.ref (cl 12)) "value" = some none
  n13_0 : PySem.W.findIn K (.ref (cl 13)) "word" = some none
  n14_0 : PySem.W.findIn K (.ref (cl 14)) "what" = some none
  n14_1 : PySem.W.findIn K (.ref (cl 14)) "most" = some none
  n15_0 : PySem.W.findIn K (.ref (cl 15)) "moment" = some none
  n16_0 : PySem.W.findIn K (.ref (cl 16)) "name" = some none
  n17_0 : PySem.W.findIn K (.ref (cl 17)) "tool" = some none
  n18_0 : PySem.W.findIn K (.ref (cl 18)) "number" = some none
  n19_0 : PySem.W.findIn K (.ref (cl 19)) "at" = some none
  n20_0 : PySem.W.findIn K (.ref (cl 20)) "at" = some none
  n21_0 : PySem.W.findIn K (.ref (cl 21)) "line" = some none
  n21_1 : PySem.W.findIn K (.ref (cl 21)) "word" = some none
section
variable {X : Cx}
/-- isinstance of such an object -/
theorem call_isE : CallR X (.builtin "isinstance") (fun xs H Q => ∃ (a D : Addr) (c : V) (u : Value) (b : Bool), xs = [.ref a, c] ∧ IsE H a D ∧ Err X.K D ∧ ClsV c u ∧ PySem.W.kitOne X.K (.ref D) u = some b ∧ Q (.bl b) H) := by
  intro pins s σ H xs us Q I r h
  obtain ⟨a, D, c, u, b, e, hi, er, cv, k, q⟩ := h
  rcases hi with hi | ⟨fs, dd, e1, e2⟩
  · exact call_isX0 pins s σ H xs us Q I r ⟨a, D, c, u, b, e, hi, er, cv, k, q⟩
  · exact call_isXo pins s σ H xs us Q I r ⟨a, D, dd, fs, c, u, b, e, e1, e2, er, cv, k, q⟩
end
section
variable {P : Program} {w : World} {K : PySem.W.Frag} {mg : Str → Option Value} {base : Heap}
def spKept (K : PySem.W.Frag) : Sp := fun vs H Q _ => ∃ (a C : Addr) (fs : List (Str × V)) (c n : Str) (v : V), vs = [.ref a, .str c] ∧ Fld c n ∧ ErAt H a C fs ∧ Err K C ∧ PySem.W.findIn K (.ref C) n = some none ∧ fs.lookup n = some v ∧ Q v H
theorem ok_kept {f : Addr} {fd : FuncData} (F : Fun K "_law_kept" "_law_kept" sKept f fd) : FnOk P w K mg base CX0 1 f fd ["_law_caught", "_law_sign"] (spKept K) := by
  refine F.ok scKept (fun vs H Q E h => ?_) (fun cdv A outer s H vs Q E hr h => ?_)
  · obtain ⟨a, C, fs, c, n, v, rfl, _⟩ := h
    rfl
  · obtain ⟨a, C, fs, c, n, v, rfl, hf, hE, hEr, hno, hl, q⟩ := h
    refine ⟨_, (pss_cons (ps_if (pt_cmpR op_eq (pv 1) pe_str (nomark _)) (pss_one (ps_ret (pe_xoA (pv 0)))) pss_nil)
      (pss_cons (ps_if (pt_cmpR op_eq (pv 1) pe_str (nomark _)) (pss_one (ps_ret (pe_xoA (pv 0)))) pss_nil)
      (pss_cons (ps_if (pt_cmpR op_eq (pv 1) pe_str (nomark _)) (pss_one (ps_ret (pe_xoA (pv 0)))) pss_nil)
      (pss_cons (ps_if (pt_cmpR op_eq (pv 1) pe_str (nomark _)) (pss_one (ps_ret (pe_xoA (pv 0)))) pss_nil)
      (pss_cons (ps_if (pt_cmpR op_eq (pv 1) pe_str (nomark _)) (pss_one (ps_ret (pe_xoA (pv 0)))) pss_nil)
      (pss_cons (ps_if (pt_cmpR op_eq (pv 1) pe_str (nomark _)) (pss_one (ps_ret (pe_xoA (pv 0)))) pss_nil)
      (pss_cons (ps_if (pt_cmpR op_eq (pv 1) pe_str (nomark _)) (pss_one (ps_ret (pe_xoA (pv 0)))) pss_nil)
      (pss_cons (ps_if (pt_cmpR op_eq (pv 1) pe_str (nomark _)) (pss_one (ps_ret (pe_xoA (pv 0)))) pss_nil)
      (pss_one (ps_ret (pe_ifExp (pt_cmpR op_eq (pv 1) pe_str (nomark _)) (pe_xoA (pv 0)) (pe_xoA (pv 0))))))))))))), ?_⟩
    rcases hf with ⟨rfl, rfl⟩ | ⟨rfl, rfl⟩ | ⟨rfl, rfl⟩ | ⟨rfl, rfl⟩ | ⟨rfl, rfl⟩ | ⟨rfl, rfl⟩ | ⟨rfl, rfl⟩ | ⟨rfl, rfl⟩ | ⟨rfl, rfl⟩ | ⟨rfl, rfl⟩
    · refine ⟨_, rfl, rfl, _, rfl, ite2 (fun _ => ?_) (fun e => absurd (decide_eq_true rfl) e)⟩
      exact ⟨_, rfl, a, C, fs, v, rfl, hE, hEr, hno, hl, q⟩
    · refine ⟨_, rfl, rfl, _, rfl, ite2 (fun e => absurd e (notS (by decide +kernel))) (fun _ => ?_)⟩
      refine ⟨_, rfl, rfl, _, rfl, ite2 (fun _ => ?_) (fun e => absurd (decide_eq_true rfl) e)⟩
      exact ⟨_, rfl, a, C, fs, v, rfl, hE, hEr, hno, hl, q⟩
    · refine ⟨_, rfl, rfl, _, rfl, ite2 (fun e => absurd e (notS (by decide +kernel))) (fun _ => ?_)⟩
      refine ⟨_, rfl, rfl, _, rfl, ite2 (fun e => absurd e (notS (by decide +kernel))) (fun _ => ?_)⟩
      refine ⟨_, rfl, rfl, _, rfl, ite2 (fun _ => ?_) (fun e => absurd (decide_eq_true rfl) e)⟩
      exact ⟨_, rfl, a, C, fs, v, rfl, hE, hEr, hno, hl, q⟩
    · refine ⟨_, rfl, rfl, _, rfl, ite2 (fun e => absurd e (notS (by decide +kernel))) (fun _ => ?_)⟩
      refine ⟨_, rfl, rfl, _, rfl, ite2 (fun e => absurd e (notS (by decide +kernel))) (fun _ => ?_)⟩
      refine ⟨_, rfl, rfl, _, rfl, ite2 (fun e => absurd e (notS (by decide +kernel))) (fun _ => ?_)⟩
      refine ⟨_, rfl, rfl, _, rfl, ite2 (fun _ => ?_) (fun e => absurd (decide_eq_true rfl) e)⟩
      exact ⟨_, rfl, a, C, fs, v, rfl, hE, hEr, hno, hl, q⟩
    · refine ⟨_, rfl, rfl, _, rfl, ite2 (fun e => absurd e (notS (by decide +kernel))) (fun _ => ?_)⟩
      refine ⟨_, rfl, rfl, _, rfl, ite2 (fun e => absurd e (notS (by decide +kernel))) (fun _ => ?_)⟩
      refine ⟨_, rfl, rfl, _, rfl, ite2 (fun e => absurd e (notS (by decide +kernel))) (fun _ => ?_)⟩
      refine ⟨_, rfl, rfl, _, rfl, ite2 (fun e => absurd e (notS (by decide +kernel))) (fun _ => ?_)⟩
      refine ⟨_, rfl, rfl, _, rfl, ite2 (fun _ => ?_) (fun e => absurd (decide_eq_true rfl) e)⟩
      exact ⟨_, rfl, a, C, fs, v, rfl, hE, hEr, hno, hl, q⟩
    · refine ⟨_, rfl, rfl, _, rfl, ite2 (fun e => absurd e (notS (by decide +kernel))) (fun _ => ?_)⟩
      refine ⟨_, rfl, rfl, _, rfl, ite2 (fun e => absurd e (notS (by decide +kernel))) (fun _ => ?_)⟩
      refine ⟨_, rfl, rfl, _, rfl, ite2 (fun e => absurd e (notS (by decide +kernel))) (fun _ => ?_)⟩
      refine ⟨_, rfl, rfl, _, rfl, ite2 (fun e => absurd e (notS (by decide +kernel))) (fun _ => ?_)⟩
      refine ⟨_, rfl, rfl, _, rfl, ite2 (fun e => absurd e (notS (by decide +kernel))) (fun _ => ?_)⟩
      refine ⟨_, rfl, rfl, _, rfl, ite2 (fun _ => ?_) (fun e => absurd (decide_eq_true rfl) e)⟩
      exact ⟨_, rfl, a, C, fs, v, rfl, hE, hEr, hno, hl, q⟩
    · refine ⟨_, rfl, rfl, _, rfl, ite2 (fun e => absurd e (notS (by decide +kernel))) (fun _ => ?_)⟩
      refine ⟨_, rfl, rfl, _, rfl, ite2 (fun e => absurd e (notS (by decide +kernel))) (fun _ => ?_)⟩
      refine ⟨_, rfl, rfl, _, rfl, ite2 (fun e => absurd e (notS (by decide +kernel))) (fun _ => ?_)⟩
      refine ⟨_, rfl, rfl, _, rfl, ite2 (fun e => absurd e (notS (by decide +kernel))) (fun _ => ?_)⟩
      refine ⟨_, rfl, rfl, _, rfl, ite2 (fun e => absurd e (notS (by decide +kernel))) (fun _ => ?_)⟩
      refine ⟨_, rfl, rfl, _, rfl, ite2 (fun e => absurd e (notS (by decide +kernel))) (fun _ => ?_)⟩
      refine ⟨_, rfl, rfl, _, rfl, ite2 (fun _ => ?_) (fun e => absurd (decide_eq_true rfl) e)⟩
      exact ⟨_, rfl, a, C, fs, v, rfl, hE, hEr, hno, hl, q⟩
    · refine ⟨_, rfl, rfl, _, rfl, ite2 (fun e => absurd e (notS (by decide +kernel))) (fun _ => ?_)⟩
      refine ⟨_, rfl, rfl, _, rfl, ite2 (fun e => absurd e (notS (by decide +kernel))) (fun _ => ?_)⟩
      refine ⟨_, rfl, rfl, _, rfl, ite2 (fun e => absurd e (notS (by decide +kernel))) (fun _ => ?_)⟩
      refine ⟨_, rfl, rfl, _, rfl, ite2 (fun e => absurd e (notS (by decide +kernel))) (fun _ => ?_)⟩
      refine ⟨_, rfl, rfl, _, rfl, ite2 (fun e => absurd e (notS (by decide +kernel))) (fun _ => ?_)⟩
      refine ⟨_, rfl, rfl, _, rfl, ite2 (fun e => absurd e (notS (by decide +kernel))) (fun _ => ?_)⟩
      refine ⟨_, rfl, rfl, _, rfl, ite2 (fun e => absurd e (notS (by decide +kernel))) (fun _ => ?_)⟩
      refine ⟨_, rfl, rfl, _, rfl, ite2 (fun _ => ?_) (fun e => absurd (decide_eq_true rfl) e)⟩
      exact ⟨_, rfl, a, C, fs, v, rfl, hE, hEr, hno, hl, q⟩
    · refine ⟨_, rfl, rfl, _, rfl, ite2 (fun e => absurd e (notS (by decide +kernel))) (fun _ => ?_)⟩
      refine ⟨_, rfl, rfl, _, rfl, ite2 (fun e => absurd e (notS (by decide +kernel))) (fun _ => ?_)⟩
      refine ⟨_, rfl, rfl, _, rfl, ite2 (fun e => absurd e (notS (by decide +kernel))) (fun _ => ?_)⟩
      refine ⟨_, rfl, rfl, _, rfl, ite2 (fun e => absurd e (notS (by decide +kernel))) (fun _ => ?_)⟩
      refine ⟨_, rfl, rfl, _, rfl, ite2 (fun e => absurd e (notS (by decide +kernel))) (fun _ => ?_)⟩
      refine ⟨_, rfl, rfl, _, rfl, ite2 (fun e => absurd e (notS (by decide +kernel))) (fun _ => ?_)⟩
      refine ⟨_, rfl, rfl, _, rfl, ite2 (fun e => absurd e (notS (by decide +kernel))) (fun _ => ?_)⟩
      refine ⟨_, rfl, rfl, _, rfl, ite2 (fun e => absurd e (notS (by decide +kernel))) (fun _ => ?_)⟩
      refine ⟨_, rfl, rfl, _, rfl, ite2 (fun _ => ?_) (fun e => absurd (decide_eq_true rfl) e)⟩
      exact ⟨_, rfl, a, C, fs, v, rfl, hE, hEr, hno, hl, q⟩
    · refine ⟨_, rfl, rfl, _, rfl, ite2 (fun e => absurd e (notS (by decide +kernel))) (fun _ => ?_)⟩
      refine ⟨_, rfl, rfl, _, rfl, ite2 (fun e => absurd e (notS (by decide +kernel))) (fun _ => ?_)⟩
      refine ⟨_, rfl, rfl, _, rfl, ite2 (fun e => absurd e (notS (by decide +kernel))) (fun _ => ?_)⟩
      refine ⟨_, rfl, rfl, _, rfl, ite2 (fun e => absurd e (notS (by decide +kernel))) (fun _ => ?_)⟩
      refine ⟨_, rfl, rfl, _, rfl, ite2 (fun e => absurd e (notS (by decide +kernel))) (fun _ => ?_)⟩
      refine ⟨_, rfl, rfl, _, rfl, ite2 (fun e => absurd e (notS (by decide +kernel))) (fun _ => ?_)⟩
      refine ⟨_, rfl, rfl, _, rfl, ite2 (fun e => absurd e (notS (by decide +kernel))) (fun _ => ?_)⟩
      refine ⟨_, rfl, rfl, _, rfl, ite2 (fun e => absurd e (notS (by decide +kernel))) (fun _ => ?_)⟩
      refine ⟨_, rfl, rfl, _, rfl, ite2 (fun e => absurd e (notS (by decide +kernel))) (fun _ => ?_)⟩
      exact ⟨_, rfl, a, C, fs, v, rfl, hE, hEr, hno, hl, q⟩
/-- the marks of the class at place i -/
def marks (i : Nat) : List V := (List.range 23).map fun j => V.bl (decide (i = j))
def spMarks (cl : Nat → Addr) : Sp := fun vs H Q _ => ∃ (a : Addr) (i : Nat), vs = [.ref a] ∧ i < 23 ∧ IsE H a (cl i) ∧ ∀ (H' : Hp) (p : Addr), Same H H' → H' p = some (.lst (marks i)) → Q (.ref p) H'
theorem ok_marks {cl : Nat → Addr} {f : Addr} {fd : FuncData} (F : Fun K "_law_marks" "_law_marks" sMarks f fd) (T : Cls K mg cl) : FnOk P w K mg base CX0 1 f fd ["_law_caught"] (spMarks cl) := by
  refine F.ok scMarks (fun vs H Q E h => ?_) (fun cdv A outer s H vs Q E hr h => ?_)
  · obtain ⟨a, i, rfl, _⟩ := h
    rfl
  · obtain ⟨a, i, rfl, hi, hI, q⟩ := h
    have er := T.er i hi
    have k0 := T.kit i 0 hi (by decide)
    have k1 := T.kit i 1 hi (by decide)
    have k2 := T.kit i 2 hi (by decide)
    have k3 := T.kit i 3 hi (by decide)
    have k4 := T.kit i 4 hi (by decide)
    have k5 := T.kit i 5 hi (by decide)
    have k6 := T.kit i 6 hi (by decide)
    have k7 := T.kit i 7 hi (by decide)
    have k8 := T.kit i 8 hi (by decide)
    have k9 := T.kit i 9 hi (by decide)
    have k10 := T.kit i 10 hi (by decide)
    have k11 := T.kit i 11 hi (by decide)
    have k12 := T.kit i 12 hi (by decide)
    have k13 := T.kit i 13 hi (by decide)
    have k14 := T.kit i 14 hi (by decide)
    have k15 := T.kit i 15 hi (by decide)
    have k16 := T.kit i 16 hi (by decide)
    have k17 := T.kit i 17 hi (by decide)
    have k18 := T.kit i 18 hi (by decide)
    have k19 := T.kit i 19 hi (by decide)
    have k20 := T.kit i 20 hi (by decide)
    have k21 := T.kit i 21 hi (by decide)
    have k22 := T.kit i 22 hi (by decide)
    refine ⟨_, (pss_cons (ps_set (i := 1) scMarks.nd rfl (.inl rfl) (pe_lst (pa_cons (pe_callB call_isE (by rfl) T.isi (by decide +kernel) (pa_cons (pv 0) (pa_cons (pe_glob (v := .ref (cl 0)) rfl T.g0 rfl) pa_nil))) (pa_cons (pe_callB call_isE (by rfl) T.isi (by decide +kernel) (pa_cons (pv 0) (pa_cons (pe_glob (v := .ref (cl 1)) rfl T.g1 rfl) pa_nil))) (pa_cons (pe_callB call_isE (by rfl) T.isi (by decide +kernel) (pa_cons (pv 0) (pa_cons (pe_glob (v := .ref (cl 2)) rfl T.g2 rfl) pa_nil))) pa_nil)))))
      (pss_cons (ps_set (i := 1) scMarks.nd rfl (.inl rfl) (pe_op op_cat (pv 1) (pe_lst (pa_cons (pe_callB call_isE (by rfl) T.isi (by decide +kernel) (pa_cons (pv 0) (pa_cons (pe_glob (v := .ref (cl 3)) rfl T.g3 rfl) pa_nil))) pa_nil))))
      (pss_cons (ps_set (i := 1) scMarks.nd rfl (.inl rfl) (pe_op op_cat (pv 1) (pe_lst (pa_cons (pe_callB call_isE (by rfl) T.isi (by decide +kernel) (pa_cons (pv 0) (pa_cons (pe_glob (v := .ref (cl 4)) rfl T.g4 rfl) pa_nil))) (pa_cons (pe_callB call_isE (by rfl) T.isi (by decide +kernel) (pa_cons (pv 0) (pa_cons (pe_glob (v := .ref (cl 5)) rfl T.g5 rfl) pa_nil))) (pa_cons (pe_callB call_isE (by rfl) T.isi (by decide +kernel) (pa_cons (pv 0) (pa_cons (pe_glob (v := .ref (cl 6)) rfl T.g6 rfl) pa_nil))) pa_nil))))))
      (pss_cons (ps_set (i := 1) scMarks.nd rfl (.inl rfl) (pe_op op_cat (pv 1) (pe_lst (pa_cons (pe_callB call_isE (by rfl) T.isi (by decide +kernel) (pa_cons (pv 0) (pa_cons (pe_glob (v := .ref (cl 7)) rfl T.g7 rfl) pa_nil))) (pa_cons (pe_callB call_isE (by rfl) T.isi (by decide +kernel) (pa_cons (pv 0) (pa_cons (pe_glob (v := .ref (cl 8)) rfl T.g8 rfl) pa_nil))) (pa_cons (pe_callB call_isE (by rfl) T.isi (by decide +kernel) (pa_cons (pv 0) (pa_cons (pe_glob (v := .ref (cl 9)) rfl T.g9 rfl) pa_nil))) pa_nil))))))
      (pss_cons (ps_set (i := 1) scMarks.nd rfl (.inl rfl) (pe_op op_cat (pv 1) (pe_lst (pa_cons (pe_callB call_isE (by rfl) T.isi (by decide +kernel) (pa_cons (pv 0) (pa_cons (pe_glob (v := .ref (cl 10)) rfl T.g10 rfl) pa_nil))) (pa_cons (pe_callB call_isE (by rfl) T.isi (by decide +kernel) (pa_cons (pv 0) (pa_cons (pe_glob (v := .ref (cl 11)) rfl T.g11 rfl) pa_nil))) (pa_cons (pe_callB call_isE (by rfl) T.isi (by decide +kernel) (pa_cons (pv 0) (pa_cons (pe_glob (v := .ref (cl 12)) rfl T.g12 rfl) pa_nil))) pa_nil))))))
      (pss_cons (ps_set (i := 1) scMarks.nd rfl (.inl rfl) (pe_op op_cat (pv 1) (pe_lst (pa_cons (pe_callB call_isE (by rfl) T.isi (by decide +kernel) (pa_cons (pv 0) (pa_cons (pe_glob (v := .ref (cl 13)) rfl T.g13 rfl) pa_nil))) (pa_cons (pe_callB call_isE (by rfl) T.isi (by decide +kernel) (pa_cons (pv 0) (pa_cons (pe_glob (v := .ref (cl 14)) rfl T.g14 rfl) pa_nil))) (pa_cons (pe_callB call_isE (by rfl) T.isi (by decide +kernel) (pa_cons (pv 0) (pa_cons (pe_glob (v := .ref (cl 15)) rfl T.g15 rfl) pa_nil))) pa_nil))))))
      (pss_cons (ps_set (i := 1) scMarks.nd rfl (.inl rfl) (pe_op op_cat (pv 1) (pe_lst (pa_cons (pe_callB call_isE (by rfl) T.isi (by decide +kernel) (pa_cons (pv 0) (pa_cons (pe_glob (v := .ref (cl 16)) rfl T.g16 rfl) pa_nil))) (pa_cons (pe_callB call_isE (by rfl) T.isi (by decide +kernel) (pa_cons (pv 0) (pa_cons (pe_glob (v := .ref (cl 17)) rfl T.g17 rfl) pa_nil))) (pa_cons (pe_callB call_isE (by rfl) T.isi (by decide +kernel) (pa_cons (pv 0) (pa_cons (pe_glob (v := .ref (cl 18)) rfl T.g18 rfl) pa_nil))) pa_nil))))))
      (pss_cons (ps_set (i := 1) scMarks.nd rfl (.inl rfl) (pe_op op_cat (pv 1) (pe_lst (pa_cons (pe_callB call_isE (by rfl) T.isi (by decide +kernel) (pa_cons (pv 0) (pa_cons (pe_glob (v := .ref (cl 19)) rfl T.g19 rfl) pa_nil))) (pa_cons (pe_callB call_isE (by rfl) T.isi (by decide +kernel) (pa_cons (pv 0) (pa_cons (pe_glob (v := .ref (cl 20)) rfl T.g20 rfl) pa_nil))) (pa_cons (pe_callB call_isE (by rfl) T.isi (by decide +kernel) (pa_cons (pv 0) (pa_cons (pe_glob (v := .ref (cl 21)) rfl T.g21 rfl) pa_nil))) pa_nil))))))
      (pss_cons (ps_set (i := 1) scMarks.nd rfl (.inl rfl) (pe_op op_cat (pv 1) (pe_lst (pa_cons (pe_callB call_isE (by rfl) T.isi (by decide +kernel) (pa_cons (pv 0) (pa_cons (pe_glob (v := .ref (cl 22)) rfl T.g22 rfl) pa_nil))) pa_nil))))
      (pss_one (ps_ret (pv 1)))))))))))), ?_⟩
    have hI0 := hI
    have s0 := Same.refl H
    refine ⟨_, rfl, a, cl i, _, _, _, rfl, hI0, er, .own _, k0, _, rfl, a, cl i, _, _, _, rfl, hI0, er, .own _, k1, _, rfl, a, cl i, _, _, _, rfl, hI0, er, .own _, k2, by show 3 ≤ sizeLine; decide, fun l0 h0 => ?_⟩
    have c0 : (upd H l0 (.lst [.bl (decide (i = 0)), .bl (decide (i = 1)), .bl (decide (i = 2))])) l0 = some (.lst [.bl (decide (i = 0)), .bl (decide (i = 1)), .bl (decide (i = 2))]) := upd_same
    have sa := same_upd0 (o := .lst [.bl (decide (i = 0)), .bl (decide (i = 1)), .bl (decide (i = 2))]) h0
    have hI1 := hI0.same sa
    replace s0 := s0.trans sa
    clear hI0 sa h0
    revert c0 hI1 s0
    generalize upd H l0 (.lst [.bl (decide (i = 0)), .bl (decide (i = 1)), .bl (decide (i = 2))]) = G0
    intro c0 hI0 s0
    refine ⟨_, rfl, _, rfl, a, cl i, _, _, _, rfl, hI0, er, .own _, k3, by show 1 ≤ sizeLine; decide, fun m1 w1 => ?_⟩
    have sb := same_upd0 (o := .lst [.bl (decide (i = 3))]) w1
    refine ⟨l0, m1, _, _, rfl, rfl, sb _ _ c0, upd_same, by show 4 ≤ sizeLine; decide, fun l1 h1 => ?_⟩
    have sc := sb.trans (same_upd0 (o := .lst ([.bl (decide (i = 0)), .bl (decide (i = 1)), .bl (decide (i = 2))] ++ [.bl (decide (i = 3))])) h1)
    have c1 : (upd (upd G0 m1 (.lst [.bl (decide (i = 3))])) l1 (.lst ([.bl (decide (i = 0)), .bl (decide (i = 1)), .bl (decide (i = 2))] ++ [.bl (decide (i = 3))]))) l1 = some (.lst [.bl (decide (i = 0)), .bl (decide (i = 1)), .bl (decide (i = 2)), .bl (decide (i = 3))]) := upd_same
    have hI1 := hI0.same sc
    replace s0 := s0.trans sc
    clear hI0 sb sc c0
    revert c1 hI1 s0
    generalize upd (upd G0 m1 (.lst [.bl (decide (i = 3))])) l1 (.lst ([.bl (decide (i = 0)), .bl (decide (i = 1)), .bl (decide (i = 2))] ++ [.bl (decide (i = 3))])) = G1
    intro c1 hI0 s0
    refine ⟨_, rfl, _, rfl, a, cl i, _, _, _, rfl, hI0, er, .own _, k4, _, rfl, a, cl i, _, _, _, rfl, hI0, er, .own _, k5, _, rfl, a, cl i, _, _, _, rfl, hI0, er, .own _, k6, by show 3 ≤ sizeLine; decide, fun m2 w2 => ?_⟩
    have sb := same_upd0 (o := .lst [.bl (decide (i = 4)), .bl (decide (i = 5)), .bl (decide (i = 6))]) w2
    refine ⟨l1, m2, _, _, rfl, rfl, sb _ _ c1, upd_same, by show 7 ≤ sizeLine; decide, fun l2 h2 => ?_⟩
    have sc := sb.trans (same_upd0 (o := .lst ([.bl (decide (i = 0)), .bl (decide (i = 1)), .bl (decide (i = 2)), .bl (decide (i = 3))] ++ [.bl (decide (i = 4)), .bl (decide (i = 5)), .bl (decide (i = 6))])) h2)
    have c2 : (upd (upd G1 m2 (.lst [.bl (decide (i = 4)), .bl (decide (i = 5)), .bl (decide (i = 6))])) l2 (.lst ([.bl (decide (i = 0)), .bl (decide (i = 1)), .bl (decide (i = 2)), .bl (decide (i = 3))] ++ [.bl (decide (i = 4)), .bl (decide (i = 5)), .bl (decide (i = 6))]))) l2 = some (.lst [.bl (decide (i = 0)), .bl (decide (i = 1)), .bl (decide (i = 2)), .bl (decide (i = 3)), .bl (decide (i = 4)), .bl (decide (i = 5)), .bl (decide (i = 6))]) := upd_same
    have hI1 := hI0.same sc
    replace s0 := s0.trans sc
    clear hI0 sb sc c1
    revert c2 hI1 s0
    generalize upd (upd G1 m2 (.lst [.bl (decide (i = 4)), .bl (decide (i = 5)), .bl (decide (i = 6))])) l2 (.lst ([.bl (decide (i = 0)), .bl (decide (i = 1)), .bl (decide (i = 2)), .bl (decide (i = 3))] ++ [.bl (decide (i = 4)), .bl (decide (i = 5)), .bl (decide (i = 6))])) = G2
    intro c2 hI0 s0
    refine ⟨_, rfl, _, rfl, a, cl i, _, _, _, rfl, hI0, er, .own _, k7, _, rfl, a, cl i, _, _, _, rfl, hI0, er, .own _, k8, _, rfl, a, cl i, _, _, _, rfl, hI0, er, .own _, k9, by show 3 ≤ sizeLine; decide, fun m3 w3 => ?_⟩
    have sb := same_upd0 (o := .lst [.bl (decide (i = 7)), .bl (decide (i = 8)), .bl (decide (i = 9))]) w3
    refine ⟨l2, m3, _, _, rfl, rfl, sb _ _ c2, upd_same, by show 10 ≤ sizeLine; decide, fun l3 h3 => ?_⟩
    have sc := sb.trans (same_upd0 (o := .lst ([.bl (decide (i = 0)), .bl (decide (i = 1)), .bl (decide (i = 2)), .bl (decide (i = 3)), .bl (decide (i = 4)), .bl (decide (i = 5)), .bl (decide (i = 6))] ++ [.bl (decide (i = 7)), .bl (decide (i = 8)), .bl (decide (i = 9))])) h3)
    have c3 : (upd (upd G2 m3 (.lst [.bl (decide (i = 7)), .bl (decide (i = 8)), .bl (decide (i = 9))])) l3 (.lst ([.bl (decide (i = 0)), .bl (decide (i = 1)), .bl (decide (i = 2)), .bl (decide (i = 3)), .bl (decide (i = 4)), .bl (decide (i = 5)), .bl (decide (i = 6))] ++ [.bl (decide (i = 7)), .bl (decide (i = 8)), .bl (decide (i = 9))]))) l3 = some (.lst [.bl (decide (i = 0)), .bl (decide (i = 1)), .bl (decide (i = 2)), .bl (decide (i = 3)), .bl (decide (i = 4)), .bl (decide (i = 5)), .bl (decide (i = 6)), .bl (decide (i = 7)), .bl (decide (i = 8)), .bl (decide (i = 9))]) := upd_same
    have hI1 := hI0.same sc
    replace s0 := s0.trans sc
    clear hI0 sb sc c2
    revert c3 hI1 s0
    generalize upd (upd G2 m3 (.lst [.bl (decide (i = 7)), .bl (decide (i = 8)), .bl (decide (i = 9))])) l3 (.lst ([.bl (decide (i = 0)), .bl (decide (i = 1)), .bl (decide (i = 2)), .bl (decide (i = 3)), .bl (decide (i = 4)), .bl (decide (i = 5)), .bl (decide (i = 6))] ++ [.bl (decide (i = 7)), .bl (decide (i = 8)), .bl (decide (i = 9))])) = G3
    intro c3 hI0 s0
    refine ⟨_, rfl, _, rfl, a, cl i, _, _, _, rfl, hI0, er, .own _, k10, _, rfl, a, cl i, _, _, _, rfl, hI0, er, .own _, k11, _, rfl, a, cl i, _, _, _, rfl, hI0, er, .own _, k12, by show 3 ≤ sizeLine; decide, fun m4 w4 => ?_⟩
    have sb := same_upd0 (o := .lst [.bl (decide (i = 10)), .bl (decide (i = 11)), .bl (decide (i = 12))]) w4
    refine ⟨l3, m4, _, _, rfl, rfl, sb _ _ c3, upd_same, by show 13 ≤ sizeLine; decide, fun l4 h4 => ?_⟩
    have sc := sb.trans (same_upd0 (o := .lst ([.bl (decide (i = 0)), .bl (decide (i = 1)), .bl (decide (i = 2)), .bl (decide (i = 3)), .bl (decide (i = 4)), .bl (decide (i = 5)), .bl (decide (i = 6)), .bl (decide (i = 7)), .bl (decide (i = 8)), .bl (decide (i = 9))] ++ [.bl (decide (i = 10)), .bl (decide (i = 11)), .bl (decide (i = 12))])) h4)
    have c4 : (upd (upd G3 m4 (.lst [.bl (decide (i = 10)), .bl (decide (i = 11)), .bl (decide (i = 12))])) l4 (.lst ([.bl (decide (i = 0)), .bl (decide (i = 1)), .bl (decide (i = 2)), .bl (decide (i = 3)), .bl (decide (i = 4)), .bl (decide (i = 5)), .bl (decide (i = 6)), .bl (decide (i = 7)), .bl (decide (i = 8)), .bl (decide (i = 9))] ++ [.bl (decide (i = 10)), .bl (decide (i = 11)), .bl (decide (i = 12))]))) l4 = some (.lst [.bl (decide (i = 0)), .bl (decide (i = 1)), .bl (decide (i = 2)), .bl (decide (i = 3)), .bl (decide (i = 4)), .bl (decide (i = 5)), .bl (decide (i = 6)), .bl (decide (i = 7)), .bl (decide (i = 8)), .bl (decide (i = 9)), .bl (decide (i = 10)), .bl (decide (i = 11)), .bl (decide (i = 12))]) := upd_same
    have hI1 := hI0.same sc
    replace s0 := s0.trans sc
    clear hI0 sb sc c3
    revert c4 hI1 s0
    generalize upd (upd G3 m4 (.lst [.bl (decide (i = 10)), .bl (decide (i = 11)), .bl (decide (i = 12))])) l4 (.lst ([.bl (decide (i = 0)), .bl (decide (i = 1)), .bl (decide (i = 2)), .bl (decide (i = 3)), .bl (decide (i = 4)), .bl (decide (i = 5)), .bl (decide (i = 6)), .bl (decide (i = 7)), .bl (decide (i = 8)), .bl (decide (i = 9))] ++ [.bl (decide (i = 10)), .bl (decide (i = 11)), .bl (decide (i = 12))])) = G4
    intro c4 hI0 s0
    refine ⟨_, rfl, _, rfl, a, cl i, _, _, _, rfl, hI0, er, .own _, k13, _, rfl, a, cl i, _, _, _, rfl, hI0, er, .own _, k14, _, rfl, a, cl i, _, _, _, rfl, hI0, er, .own _, k15, by show 3 ≤ sizeLine; decide, fun m5 w5 => ?_⟩
    have sb := same_upd0 (o := .lst [.bl (decide (i = 13)), .bl (decide (i = 14)), .bl (decide (i = 15))]) w5
    refine ⟨l4, m5, _, _, rfl, rfl, sb _ _ c4, upd_same, by show 16 ≤ sizeLine; decide, fun l5 h5 => ?_⟩
    have sc := sb.trans (same_upd0 (o := .lst ([.bl (decide (i = 0)), .bl (decide (i = 1)), .bl (decide (i = 2)), .bl (decide (i = 3)), .bl (decide (i = 4)), .bl (decide (i = 5)), .bl (decide (i = 6)), .bl (decide (i = 7)), .bl (decide (i = 8)), .bl (decide (i = 9)), .bl (decide (i = 10)), .bl (decide (i = 11)), .bl (decide (i = 12))] ++ [.bl (decide (i = 13)), .bl (decide (i = 14)), .bl (decide (i = 15))])) h5)
    have c5 : (upd (upd G4 m5 (.lst [.bl (decide (i = 13)), .bl (decide (i = 14)), .bl (decide (i = 15))])) l5 (.lst ([.bl (decide (i = 0)), .bl (decide (i = 1)), .bl (decide (i = 2)), .bl (decide (i = 3)), .bl (decide (i = 4)), .bl (decide (i = 5)), .bl (decide (i = 6)), .bl (decide (i = 7)), .bl (decide (i = 8)), .bl (decide (i = 9)), .bl (decide (i = 10)), .bl (decide (i = 11)), .bl (decide (i = 12))] ++ [.bl (decide (i = 13)), .bl (decide (i = 14)), .bl (decide (i = 15))]))) l5 = some (.lst [.bl (decide (i = 0)), .bl (decide (i = 1)), .bl (decide (i = 2)), .bl (decide (i = 3)), .bl (decide (i = 4)), .bl (decide (i = 5)), .bl (decide (i = 6)), .bl (decide (i = 7)), .bl (decide (i = 8)), .bl (decide (i = 9)), .bl (decide (i = 10)), .bl (decide (i = 11)), .bl (decide (i = 12)), .bl (decide (i = 13)), .bl (decide (i = 14)), .bl (decide (i = 15))]) := upd_same
    have hI1 := hI0.same sc
    replace s0 := s0.trans sc
    clear hI0 sb sc c4
    revert c5 hI1 s0
    generalize upd (upd G4 m5 (.lst [.bl (decide (i = 13)), .bl (decide (i = 14)), .bl (decide (i = 15))])) l5 (.lst ([.bl (decide (i = 0)), .bl (decide (i = 1)), .bl (decide (i = 2)), .bl (decide (i = 3)), .bl (decide (i = 4)), .bl (decide (i = 5)), .bl (decide (i = 6)), .bl (decide (i = 7)), .bl (decide (i = 8)), .bl (decide (i = 9)), .bl (decide (i = 10)), .bl (decide (i = 11)), .bl (decide (i = 12))] ++ [.bl (decide (i = 13)), .bl (decide (i = 14)), .bl (decide (i = 15))])) = G5
    intro c5 hI0 s0
    refine ⟨_, rfl, _, rfl, a, cl i, _, _, _, rfl, hI0, er, .own _, k16, _, rfl, a, cl i, _, _, _, rfl, hI0, er, .own _, k17, _, rfl, a, cl i, _, _, _, rfl, hI0, er, .own _, k18, by show 3 ≤ sizeLine; decide, fun m6 w6 => ?_⟩
    have sb := same_upd0 (o := .lst [.bl (decide (i = 16)), .bl (decide (i = 17)), .bl (decide (i = 18))]) w6
    refine ⟨l5, m6, _, _, rfl, rfl, sb _ _ c5, upd_same, by show 19 ≤ sizeLine; decide, fun l6 h6 => ?_⟩
    have sc := sb.trans (same_upd0 (o := .lst ([.bl (decide (i = 0)), .bl (decide (i = 1)), .bl (decide (i = 2)), .bl (decide (i = 3)), .bl (decide (i = 4)), .bl (decide (i = 5)), .bl (decide (i = 6)), .bl (decide (i = 7)), .bl (decide (i = 8)), .bl (decide (i = 9)), .bl (decide (i = 10)), .bl (decide (i = 11)), .bl (decide (i = 12)), .bl (decide (i = 13)), .bl (decide (i = 14)), .bl (decide (i = 15))] ++ [.bl (decide (i = 16)), .bl (decide (i = 17)), .bl (decide (i = 18))])) h6)
    have c6 : (upd (upd G5 m6 (.lst [.bl (decide (i = 16)), .bl (decide (i = 17)), .bl (decide (i = 18))])) l6 (.lst ([.bl (decide (i = 0)), .bl (decide (i = 1)), .bl (decide (i = 2)), .bl (decide (i = 3)), .bl (decide (i = 4)), .bl (decide (i = 5)), .bl (decide (i = 6)), .bl (decide (i = 7)), .bl (decide (i = 8)), .bl (decide (i = 9)), .bl (decide (i = 10)), .bl (decide (i = 11)), .bl (decide (i = 12)), .bl (decide (i = 13)), .bl (decide (i = 14)), .bl (decide (i = 15))] ++ [.bl (decide (i = 16)), .bl (decide (i = 17)), .bl (decide (i = 18))]))) l6 = some (.lst [.bl (decide (i = 0)), .bl (decide (i = 1)), .bl (decide (i = 2)), .bl (decide (i = 3)), .bl (decide (i = 4)), .bl (decide (i = 5)), .bl (decide (i = 6)), .bl (decide (i = 7)), .bl (decide (i = 8)), .bl (decide (i = 9)), .bl (decide (i = 10)), .bl (decide (i = 11)), .bl (decide (i = 12)), .bl (decide (i = 13)), .bl (decide (i = 14)), .bl (decide (i = 15)), .bl (decide (i = 16)), .bl (decide (i = 17)), .bl (decide (i = 18))]) := upd_same
    have hI1 := hI0.same sc
    replace s0 := s0.trans sc
    clear hI0 sb sc c5
    revert c6 hI1 s0
    generalize upd (upd G5 m6 (.lst [.bl (decide (i = 16)), .bl (decide (i = 17)), .bl (decide (i = 18))])) l6 (.lst ([.bl (decide (i = 0)), .bl (decide (i = 1)), .bl (decide (i = 2)), .bl (decide (i = 3)), .bl (decide (i = 4)), .bl (decide (i = 5)), .bl (decide (i = 6)), .bl (decide (i = 7)), .bl (decide (i = 8)), .bl (decide (i = 9)), .bl (decide (i = 10)), .bl (decide (i = 11)), .bl (decide (i = 12)), .bl (decide (i = 13)), .bl (decide (i = 14)), .bl (decide (i = 15))] ++ [.bl (decide (i = 16)), .bl (decide (i = 17)), .bl (decide (i = 18))])) = G6
    intro c6 hI0 s0
    refine ⟨_, rfl, _, rfl, a, cl i, _, _, _, rfl, hI0, er, .own _, k19, _, rfl, a, cl i, _, _, _, rfl, hI0, er, .own _, k20, _, rfl, a, cl i, _, _, _, rfl, hI0, er, .own _, k21, by show 3 ≤ sizeLine; decide, fun m7 w7 => ?_⟩
    have sb := same_upd0 (o := .lst [.bl (decide (i = 19)), .bl (decide (i = 20)), .bl (decide (i = 21))]) w7
    refine ⟨l6, m7, _, _, rfl, rfl, sb _ _ c6, upd_same, by show 22 ≤ sizeLine; decide, fun l7 h7 => ?_⟩
    have sc := sb.trans (same_upd0 (o := .lst ([.bl (decide (i = 0)), .bl (decide (i = 1)), .bl (decide (i = 2)), .bl (decide (i = 3)), .bl (decide (i = 4)), .bl (decide (i = 5)), .bl (decide (i = 6)), .bl (decide (i = 7)), .bl (decide (i = 8)), .bl (decide (i = 9)), .bl (decide (i = 10)), .bl (decide (i = 11)), .bl (decide (i = 12)), .bl (decide (i = 13)), .bl (decide (i = 14)), .bl (decide (i = 15)), .bl (decide (i = 16)), .bl (decide (i = 17)), .bl (decide (i = 18))] ++ [.bl (decide (i = 19)), .bl (decide (i = 20)), .bl (decide (i = 21))])) h7)
    have c7 : (upd (upd G6 m7 (.lst [.bl (decide (i = 19)), .bl (decide (i = 20)), .bl (decide (i = 21))])) l7 (.lst ([.bl (decide (i = 0)), .bl (decide (i = 1)), .bl (decide (i = 2)), .bl (decide (i = 3)), .bl (decide (i = 4)), .bl (decide (i = 5)), .bl (decide (i = 6)), .bl (decide (i = 7)), .bl (decide (i = 8)), .bl (decide (i = 9)), .bl (decide (i = 10)), .bl (decide (i = 11)), .bl (decide (i = 12)), .bl (decide (i = 13)), .bl (decide (i = 14)), .bl (decide (i = 15)), .bl (decide (i = 16)), .bl (decide (i = 17)), .bl (decide (i = 18))] ++ [.bl (decide (i = 19)), .bl (decide (i = 20)), .bl (decide (i = 21))]))) l7 = some (.lst [.bl (decide (i = 0)), .bl (decide (i = 1)), .bl (decide (i = 2)), .bl (decide (i = 3)), .bl (decide (i = 4)), .bl (decide (i = 5)), .bl (decide (i = 6)), .bl (decide (i = 7)), .bl (decide (i = 8)), .bl (decide (i = 9)), .bl (decide (i = 10)), .bl (decide (i = 11)), .bl (decide (i = 12)), .bl (decide (i = 13)), .bl (decide (i = 14)), .bl (decide (i = 15)), .bl (decide (i = 16)), .bl (decide (i = 17)), .bl (decide (i = 18)), .bl (decide (i = 19)), .bl (decide (i = 20)), .bl (decide (i = 21))]) := upd_same
    have hI1 := hI0.same sc
    replace s0 := s0.trans sc
    clear hI0 sb sc c6
    revert c7 hI1 s0
    generalize upd (upd G6 m7 (.lst [.bl (decide (i = 19)), .bl (decide (i = 20)), .bl (decide (i = 21))])) l7 (.lst ([.bl (decide (i = 0)), .bl (decide (i = 1)), .bl (decide (i = 2)), .bl (decide (i = 3)), .bl (decide (i = 4)), .bl (decide (i = 5)), .bl (decide (i = 6)), .bl (decide (i = 7)), .bl (decide (i = 8)), .bl (decide (i = 9)), .bl (decide (i = 10)), .bl (decide (i = 11)), .bl (decide (i = 12)), .bl (decide (i = 13)), .bl (decide (i = 14)), .bl (decide (i = 15)), .bl (decide (i = 16)), .bl (decide (i = 17)), .bl (decide (i = 18))] ++ [.bl (decide (i = 19)), .bl (decide (i = 20)), .bl (decide (i = 21))])) = G7
    intro c7 hI0 s0
    refine ⟨_, rfl, _, rfl, a, cl i, _, _, _, rfl, hI0, er, .own _, k22, by show 1 ≤ sizeLine; decide, fun m8 w8 => ?_⟩
    have sb := same_upd0 (o := .lst [.bl (decide (i = 22))]) w8
    refine ⟨l7, m8, _, _, rfl, rfl, sb _ _ c7, upd_same, by show 23 ≤ sizeLine; decide, fun l8 h8 => ?_⟩
    have sc := sb.trans (same_upd0 (o := .lst ([.bl (decide (i = 0)), .bl (decide (i = 1)), .bl (decide (i = 2)), .bl (decide (i = 3)), .bl (decide (i = 4)), .bl (decide (i = 5)), .bl (decide (i = 6)), .bl (decide (i = 7)), .bl (decide (i = 8)), .bl (decide (i = 9)), .bl (decide (i = 10)), .bl (decide (i = 11)), .bl (decide (i = 12)), .bl (decide (i = 13)), .bl (decide (i = 14)), .bl (decide (i = 15)), .bl (decide (i = 16)), .bl (decide (i = 17)), .bl (decide (i = 18)), .bl (decide (i = 19)), .bl (decide (i = 20)), .bl (decide (i = 21))] ++ [.bl (decide (i = 22))])) h8)
    have c8 : (upd (upd G7 m8 (.lst [.bl (decide (i = 22))])) l8 (.lst ([.bl (decide (i = 0)), .bl (decide (i = 1)), .bl (decide (i = 2)), .bl (decide (i = 3)), .bl (decide (i = 4)), .bl (decide (i = 5)), .bl (decide (i = 6)), .bl (decide (i = 7)), .bl (decide (i = 8)), .bl (decide (i = 9)), .bl (decide (i = 10)), .bl (decide (i = 11)), .bl (decide (i = 12)), .bl (decide (i = 13)), .bl (decide (i = 14)), .bl (decide (i = 15)), .bl (decide (i = 16)), .bl (decide (i = 17)), .bl (decide (i = 18)), .bl (decide (i = 19)), .bl (decide (i = 20)), .bl (decide (i = 21))] ++ [.bl (decide (i = 22))]))) l8 = some (.lst [.bl (decide (i = 0)), .bl (decide (i = 1)), .bl (decide (i = 2)), .bl (decide (i = 3)), .bl (decide (i = 4)), .bl (decide (i = 5)), .bl (decide (i = 6)), .bl (decide (i = 7)), .bl (decide (i = 8)), .bl (decide (i = 9)), .bl (decide (i = 10)), .bl (decide (i = 11)), .bl (decide (i = 12)), .bl (decide (i = 13)), .bl (decide (i = 14)), .bl (decide (i = 15)), .bl (decide (i = 16)), .bl (decide (i = 17)), .bl (decide (i = 18)), .bl (decide (i = 19)), .bl (decide (i = 20)), .bl (decide (i = 21)), .bl (decide (i = 22))]) := upd_same
    have hI1 := hI0.same sc
    replace s0 := s0.trans sc
    clear hI0 sb sc c7
    revert c8 hI1 s0
    generalize upd (upd G7 m8 (.lst [.bl (decide (i = 22))])) l8 (.lst ([.bl (decide (i = 0)), .bl (decide (i = 1)), .bl (decide (i = 2)), .bl (decide (i = 3)), .bl (decide (i = 4)), .bl (decide (i = 5)), .bl (decide (i = 6)), .bl (decide (i = 7)), .bl (decide (i = 8)), .bl (decide (i = 9)), .bl (decide (i = 10)), .bl (decide (i = 11)), .bl (decide (i = 12)), .bl (decide (i = 13)), .bl (decide (i = 14)), .bl (decide (i = 15)), .bl (decide (i = 16)), .bl (decide (i = 17)), .bl (decide (i = 18)), .bl (decide (i = 19)), .bl (decide (i = 20)), .bl (decide (i = 21))] ++ [.bl (decide (i = 22))])) = G8
    intro c8 hI0 s0
    exact ⟨_, rfl, q G8 l8 s0 c8⟩
end
end K07

namespace K07
open PySem PySem.Spec PyProof.Rows L2 So
abbrev sE0 : Stmt := inClass (topS 2) 0
theorem scE0 : FnScope ["self", "name"] ["self", "name"] (defScope sE0) := ⟨rfl, rfl, rfl, by decide +kernel, rfl, by decide +kernel, by decide +kernel⟩
abbrev sE1 : Stmt := inClass (topS 3) 0
theorem scE1 : FnScope ["self", "moment"] ["self", "moment"] (defScope sE1) := ⟨rfl, rfl, rfl, by decide +kernel, rfl, by decide +kernel, by decide +kernel⟩
abbrev sE2 : Stmt := inClass (topS 4) 0
theorem scE2 : FnScope ["self", "value"] ["self", "value"] (defScope sE2) := ⟨rfl, rfl, rfl, by decide +kernel, rfl, by decide +kernel, by decide +kernel⟩
abbrev sE3 : Stmt := inClass (topS 5) 0
theorem scE3 : FnScope ["self", "value"] ["self", "value"] (defScope sE3) := ⟨rfl, rfl, rfl, by decide +kernel, rfl, by decide +kernel, by decide +kernel⟩
abbrev sE4 : Stmt := inClass (topS 6) 0
theorem scE4 : FnScope ["self", "at"] ["self", "at"] (defScope sE4) := ⟨rfl, rfl, rfl, by decide +kernel, rfl, by decide +kernel, by decide +kernel⟩
abbrev sE5 : Stmt := inClass (topS 7) 0
theorem scE5 : FnScope ["self", "at"] ["self", "at"] (defScope sE5) := ⟨rfl, rfl, rfl, by decide +kernel, rfl, by decide +kernel, by decide +kernel⟩
abbrev sE6 : Stmt := inClass (topS 8) 0
theorem scE6 : FnScope ["self", "at"] ["self", "at"] (defScope sE6) := ⟨rfl, rfl, rfl, by decide +kernel, rfl, by decide +kernel, by decide +kernel⟩
abbrev sE7 : Stmt := inClass (topS 9) 0
theorem scE7 : FnScope ["self", "tool"] ["self", "tool"] (defScope sE7) := ⟨rfl, rfl, rfl, by decide +kernel, rfl, by decide +kernel, by decide +kernel⟩
abbrev sE8 : Stmt := inClass (topS 10) 0
theorem scE8 : FnScope ["self", "number"] ["self", "number"] (defScope sE8) := ⟨rfl, rfl, rfl, by decide +kernel, rfl, by decide +kernel, by decide +kernel⟩
abbrev sE9 : Stmt := inClass (topS 11) 0
theorem scE9 : FnScope ["self", "number"] ["self", "number"] (defScope sE9) := ⟨rfl, rfl, rfl, by decide +kernel, rfl, by decide +kernel, by decide +kernel⟩
abbrev sE10 : Stmt := inClass (topS 12) 0
theorem scE10 : FnScope ["self", "name"] ["self", "name"] (defScope sE10) := ⟨rfl, rfl, rfl, by decide +kernel, rfl, by decide +kernel, by decide +kernel⟩
abbrev sE11 : Stmt := inClass (topS 13) 0
theorem scE11 : FnScope ["self", "name"] ["self", "name"] (defScope sE11) := ⟨rfl, rfl, rfl, by decide +kernel, rfl, by decide +kernel, by decide +kernel⟩
abbrev sE12 : Stmt := inClass (topS 14) 0
theorem scE12 : FnScope ["self", "value"] ["self", "value"] (defScope sE12) := ⟨rfl, rfl, rfl, by decide +kernel, rfl, by decide +kernel, by decide +kernel⟩
abbrev sE13 : Stmt := inClass (topS 15) 0
theorem scE13 : FnScope ["self", "word"] ["self", "word"] (defScope sE13) := ⟨rfl, rfl, rfl, by decide +kernel, rfl, by decide +kernel, by decide +kernel⟩
abbrev sE14 : Stmt := inClass (topS 16) 0
theorem scE14 : FnScope ["self", "what", "most"] ["self", "what", "most"] (defScope sE14) := ⟨rfl, rfl, rfl, by decide +kernel, rfl, by decide +kernel, by decide +kernel⟩
abbrev sE15 : Stmt := inClass (topS 17) 0
theorem scE15 : FnScope ["self", "moment"] ["self", "moment"] (defScope sE15) := ⟨rfl, rfl, rfl, by decide +kernel, rfl, by decide +kernel, by decide +kernel⟩
abbrev sE16 : Stmt := inClass (topS 18) 0
theorem scE16 : FnScope ["self", "name"] ["self", "name"] (defScope sE16) := ⟨rfl, rfl, rfl, by decide +kernel, rfl, by decide +kernel, by decide +kernel⟩
abbrev sE17 : Stmt := inClass (topS 19) 0
theorem scE17 : FnScope ["self", "tool"] ["self", "tool"] (defScope sE17) := ⟨rfl, rfl, rfl, by decide +kernel, rfl, by decide +kernel, by decide +kernel⟩
abbrev sE18 : Stmt := inClass (topS 20) 0
theorem scE18 : FnScope ["self", "number"] ["self", "number"] (defScope sE18) := ⟨rfl, rfl, rfl, by decide +kernel, rfl, by decide +kernel, by decide +kernel⟩
abbrev sE19 : Stmt := inClass (topS 21) 0
theorem scE19 : FnScope ["self", "at"] ["self", "at"] (defScope sE19) := ⟨rfl, rfl, rfl, by decide +kernel, rfl, by decide +kernel, by decide +kernel⟩
abbrev sE20 : Stmt := inClass (topS 22) 0
theorem scE20 : FnScope ["self", "at"] ["self", "at"] (defScope sE20) := ⟨rfl, rfl, rfl, by decide +kernel, rfl, by decide +kernel, by decide +kernel⟩
abbrev sE21 : Stmt := inClass (topS 23) 0
theorem scE21 : FnScope ["self", "line", "word"] ["self", "line", "word"] (defScope sE21) := ⟨rfl, rfl, rfl, by decide +kernel, rfl, by decide +kernel, by decide +kernel⟩
/-- the errors made so far -/
def Al (cl : Nat → Addr) (H : Hp) (v w : V) (as : List Addr) : Prop := ∀ j a, as[j]? = some a → EO cl H a j v w
theorem Al.nil {cl : Nat → Addr} {H : Hp} {v w : V} : Al cl H v w [] := fun j a h => by simp at h
theorem Al.same {cl : Nat → Addr} {H H' : Hp} {v w : V} {as : List Addr} (h : Al cl H v w as) (s : Same H H') : Al cl H' v w as := fun j a e => (h j a e).same s
theorem Al.snoc {cl : Nat → Addr} {H H' : Hp} {v w : V} {as : List Addr} {a : Addr} (h : Al cl H v w as) (s : Same H H') (e : EO cl H' a as.length v w) : Al cl H' v w (as ++ [a]) := by
  intro j b hb
  by_cases hj : j < as.length
  · rw [List.getElem?_append_left hj] at hb
    exact (h j b hb).same s
  · rw [List.getElem?_append_right (Nat.le_of_not_lt hj)] at hb
    have h0 : j = as.length := by
      rcases Nat.eq_zero_or_pos (j - as.length) with z | z
      · omega
      · rw [List.getElem?_eq_none (by show 1 ≤ _; omega)] at hb
        cases hb
    subst h0
    rw [Nat.sub_self] at hb
    cases hb
    exact e
/-- what the top says of the errors' makers -/
structure Made (K : PySem.W.Frag) (mg : Str → Option Value) (cl : Nat → Addr) : Prop where
  e0 : ∃ (f : Addr) (fd : FuncData), OneE K mg "BadName" "name" (cl 0) f fd ∧ Fun K "__init__" "BadName.__init__" sE0 f fd ∧ KBn K fd ["self", "name"] 1 ["name"] k2 k2
  e1 : ∃ (f : Addr) (fd : FuncData), OneE K mg "BadMoment" "moment" (cl 1) f fd ∧ Fun K "__init__" "BadMoment.__init__" sE1 f fd ∧ KBn K fd ["self", "moment"] 1 ["moment"] k2 k2
  e2 : ∃ (f : Addr) (fd : FuncData), OneE K mg "BadSaying" "value" (cl 2) f fd ∧ Fun K "__init__" "BadSaying.__init__" sE2 f fd ∧ KBn K fd ["self", "value"] 1 ["value"] k2 k2
  e3 : ∃ (f : Addr) (fd : FuncData), OneE K mg "BadPoint" "value" (cl 3) f fd ∧ Fun K "__init__" "BadPoint.__init__" sE3 f fd ∧ KBn K fd ["self", "value"] 1 ["value"] k2 k2
  e4 : ∃ (f : Addr) (fd : FuncData), OneE K mg "BadRow" "at" (cl 4) f fd ∧ Fun K "__init__" "BadRow.__init__" sE4 f fd ∧ KBn K fd ["self", "at"] 1 ["at"] k2 k2
  e5 : ∃ (f : Addr) (fd : FuncData), OneE K mg "BadTurn" "at" (cl 5) f fd ∧ Fun K "__init__" "BadTurn.__init__" sE5 f fd ∧ KBn K fd ["self", "at"] 1 ["at"] k2 k2
  e6 : ∃ (f : Addr) (fd : FuncData), OneE K mg "BadTurns" "at" (cl 6) f fd ∧ Fun K "__init__" "BadTurns.__init__" sE6 f fd ∧ KBn K fd ["self", "at"] 1 ["at"] k2 k2
  e7 : ∃ (f : Addr) (fd : FuncData), OneE K mg "NoTool" "tool" (cl 7) f fd ∧ Fun K "__init__" "NoTool.__init__" sE7 f fd ∧ KBn K fd ["self", "tool"] 1 ["tool"] k2 k2
  e8 : ∃ (f : Addr) (fd : FuncData), OneE K mg "NoRow" "number" (cl 8) f fd ∧ Fun K "__init__" "NoRow.__init__" sE8 f fd ∧ KBn K fd ["self", "number"] 1 ["number"] k2 k2
  e9 : ∃ (f : Addr) (fd : FuncData), OneE K mg "NoDeed" "number" (cl 9) f fd ∧ Fun K "__init__" "NoDeed.__init__" sE9 f fd ∧ KBn K fd ["self", "number"] 1 ["number"] k2 k2
  e10 : ∃ (f : Addr) (fd : FuncData), OneE K mg "NoRecord" "name" (cl 10) f fd ∧ Fun K "__init__" "NoRecord.__init__" sE10 f fd ∧ KBn K fd ["self", "name"] 1 ["name"] k2 k2
  e11 : ∃ (f : Addr) (fd : FuncData), OneE K mg "NoLot" "name" (cl 11) f fd ∧ Fun K "__init__" "NoLot.__init__" sE11 f fd ∧ KBn K fd ["self", "name"] 1 ["name"] k2 k2
  e12 : ∃ (f : Addr) (fd : FuncData), OneE K mg "NoLife" "value" (cl 12) f fd ∧ Fun K "__init__" "NoLife.__init__" sE12 f fd ∧ KBn K fd ["self", "value"] 1 ["value"] k2 k2
  e13 : ∃ (f : Addr) (fd : FuncData), OneE K mg "NoEvidence" "word" (cl 13) f fd ∧ Fun K "__init__" "NoEvidence.__init__" sE13 f fd ∧ KBn K fd ["self", "word"] 1 ["word"] k2 k2
  e14 : ∃ (f : Addr) (fd : FuncData), TwoE K mg "TooMany" "what" "most" (cl 14) f fd ∧ Fun K "__init__" "TooMany.__init__" sE14 f fd ∧ KBn K fd ["self", "what", "most"] 1 ["most", "what"] k3 k3
  e15 : ∃ (f : Addr) (fd : FuncData), OneE K mg "Later" "moment" (cl 15) f fd ∧ Fun K "__init__" "Later.__init__" sE15 f fd ∧ KBn K fd ["self", "moment"] 1 ["moment"] k2 k2
  e16 : ∃ (f : Addr) (fd : FuncData), OneE K mg "Clash" "name" (cl 16) f fd ∧ Fun K "__init__" "Clash.__init__" sE16 f fd ∧ KBn K fd ["self", "name"] 1 ["name"] k2 k2
  e17 : ∃ (f : Addr) (fd : FuncData), OneE K mg "Unlike" "tool" (cl 17) f fd ∧ Fun K "__init__" "Unlike.__init__" sE17 f fd ∧ KBn K fd ["self", "tool"] 1 ["tool"] k2 k2
  e18 : ∃ (f : Addr) (fd : FuncData), OneE K mg "Contradicted" "number" (cl 18) f fd ∧ Fun K "__init__" "Contradicted.__init__" sE18 f fd ∧ KBn K fd ["self", "number"] 1 ["number"] k2 k2
  e19 : ∃ (f : Addr) (fd : FuncData), OneE K mg "BadChain" "at" (cl 19) f fd ∧ Fun K "__init__" "BadChain.__init__" sE19 f fd ∧ KBn K fd ["self", "at"] 1 ["at"] k2 k2
  e20 : ∃ (f : Addr) (fd : FuncData), OneE K mg "BadEntry" "at" (cl 20) f fd ∧ Fun K "__init__" "BadEntry.__init__" sE20 f fd ∧ KBn K fd ["self", "at"] 1 ["at"] k2 k2
  e21 : ∃ (f : Addr) (fd : FuncData), TwoE K mg "BadText" "line" "word" (cl 21) f fd ∧ Fun K "__init__" "BadText.__init__" sE21 f fd ∧ KBn K fd ["self", "line", "word"] 1 ["word", "line"] k3 k3
  q22 : PySem.W.excIn K (cl 22) [.type "ValueError", .type "Exception", .type "BaseException", .type "object"] "ValueError.__new__" = true
  g22 : mg "NoLine" = some (.ref (cl 22))
  k22 : PySem.W.keepIn K (.ref (cl 22)) = true
  b22 : PySem.W.subIn K (.ref (cl 22)) (.type "BaseException") = some true
  t22 : PySem.W.typeIn K (.ref (cl 22)) = some (.type "type")
def spMade (cl : Nat → Addr) : Sp := fun vs H Q _ => ∃ v w, vs = [v, w] ∧ ∀ (H' : Hp) (p : Addr) (as : List Addr), Same H H' → as.length = 23 → H' p = some (.lst (as.map V.ref)) → Al cl H' v w as → Q (.ref p) H'
section
variable {P : Program} {w : World} {K : PySem.W.Frag} {mg : Str → Option Value} {base : Heap}
theorem ok_by_place {cl : Nat → Addr} {f : Addr} {fd : FuncData} (F : Fun K "_law_by_place" "_law_by_place" sPlace f fd) (M : Made K mg cl) : FnOk P w K mg base CX0 3 f fd ["_law_a", "_law_b"] (spMade cl) := by
  obtain ⟨f0, fd0, O0, F0, B0⟩ := M.e0
  have G0 : FnOk P w K mg base CX0 1 f0 fd0 ["self", "name"] (spOneE (cl 0) "name") := ok_one F0 O0.T O0.no scE0 ⟨_, _, _, _, rfl⟩ (by decide) (by decide)
  obtain ⟨f1, fd1, O1, F1, B1⟩ := M.e1
  have G1 : FnOk P w K mg base CX0 1 f1 fd1 ["self", "moment"] (spOneE (cl 1) "moment") := ok_one F1 O1.T O1.no scE1 ⟨_, _, _, _, rfl⟩ (by decide) (by decide)
  obtain ⟨f2, fd2, O2, F2, B2⟩ := M.e2
  have G2 : FnOk P w K mg base CX0 1 f2 fd2 ["self", "value"] (spOneE (cl 2) "value") := ok_one F2 O2.T O2.no scE2 ⟨_, _, _, _, rfl⟩ (by decide) (by decide)
  obtain ⟨f3, fd3, O3, F3, B3⟩ := M.e3
  have G3 : FnOk P w K mg base CX0 1 f3 fd3 ["self", "value"] (spOneE (cl 3) "value") := ok_one F3 O3.T O3.no scE3 ⟨_, _, _, _, rfl⟩ (by decide) (by decide)
  obtain ⟨f4, fd4, O4, F4, B4⟩ := M.e4
  have G4 : FnOk P w K mg base CX0 1 f4 fd4 ["self", "at"] (spOneE (cl 4) "at") := ok_one F4 O4.T O4.no scE4 ⟨_, _, _, _, rfl⟩ (by decide) (by decide)
  obtain ⟨f5, fd5, O5, F5, B5⟩ := M.e5
  have G5 : FnOk P w K mg base CX0 1 f5 fd5 ["self", "at"] (spOneE (cl 5) "at") := ok_one F5 O5.T O5.no scE5 ⟨_, _, _, _, rfl⟩ (by decide) (by decide)
  obtain ⟨f6, fd6, O6, F6, B6⟩ := M.e6
  have G6 : FnOk P w K mg base CX0 1 f6 fd6 ["self", "at"] (spOneE (cl 6) "at") := ok_one F6 O6.T O6.no scE6 ⟨_, _, _, _, rfl⟩ (by decide) (by decide)
  obtain ⟨f7, fd7, O7, F7, B7⟩ := M.e7
  have G7 : FnOk P w K mg base CX0 1 f7 fd7 ["self", "tool"] (spOneE (cl 7) "tool") := ok_one F7 O7.T O7.no scE7 ⟨_, _, _, _, rfl⟩ (by decide) (by decide)
  obtain ⟨f8, fd8, O8, F8, B8⟩ := M.e8
  have G8 : FnOk P w K mg base CX0 1 f8 fd8 ["self", "number"] (spOneE (cl 8) "number") := ok_one F8 O8.T O8.no scE8 ⟨_, _, _, _, rfl⟩ (by decide) (by decide)
  obtain ⟨f9, fd9, O9, F9, B9⟩ := M.e9
  have G9 : FnOk P w K mg base CX0 1 f9 fd9 ["self", "number"] (spOneE (cl 9) "number") := ok_one F9 O9.T O9.no scE9 ⟨_, _, _, _, rfl⟩ (by decide) (by decide)
  obtain ⟨f10, fd10, O10, F10, B10⟩ := M.e10
  have G10 : FnOk P w K mg base CX0 1 f10 fd10 ["self", "name"] (spOneE (cl 10) "name") := ok_one F10 O10.T O10.no scE10 ⟨_, _, _, _, rfl⟩ (by decide) (by decide)
  obtain ⟨f11, fd11, O11, F11, B11⟩ := M.e11
  have G11 : FnOk P w K mg base CX0 1 f11 fd11 ["self", "name"] (spOneE (cl 11) "name") := ok_one F11 O11.T O11.no scE11 ⟨_, _, _, _, rfl⟩ (by decide) (by decide)
  obtain ⟨f12, fd12, O12, F12, B12⟩ := M.e12
  have G12 : FnOk P w K mg base CX0 1 f12 fd12 ["self", "value"] (spOneE (cl 12) "value") := ok_one F12 O12.T O12.no scE12 ⟨_, _, _, _, rfl⟩ (by decide) (by decide)
  obtain ⟨f13, fd13, O13, F13, B13⟩ := M.e13
  have G13 : FnOk P w K mg base CX0 1 f13 fd13 ["self", "word"] (spOneE (cl 13) "word") := ok_one F13 O13.T O13.no scE13 ⟨_, _, _, _, rfl⟩ (by decide) (by decide)
  obtain ⟨f14, fd14, O14, F14, B14⟩ := M.e14
  have G14 : FnOk P w K mg base CX0 1 f14 fd14 ["self", "what", "most"] (spTwoE (cl 14) "what" "most") := ok_two F14 O14.T O14.no1 O14.no2 scE14 ⟨_, _, _, _, _, _, _, _, rfl⟩ (by decide) (by decide) (by decide) (by decide)
  obtain ⟨f15, fd15, O15, F15, B15⟩ := M.e15
  have G15 : FnOk P w K mg base CX0 1 f15 fd15 ["self", "moment"] (spOneE (cl 15) "moment") := ok_one F15 O15.T O15.no scE15 ⟨_, _, _, _, rfl⟩ (by decide) (by decide)
  obtain ⟨f16, fd16, O16, F16, B16⟩ := M.e16
  have G16 : FnOk P w K mg base CX0 1 f16 fd16 ["self", "name"] (spOneE (cl 16) "name") := ok_one F16 O16.T O16.no scE16 ⟨_, _, _, _, rfl⟩ (by decide) (by decide)
  obtain ⟨f17, fd17, O17, F17, B17⟩ := M.e17
  have G17 : FnOk P w K mg base CX0 1 f17 fd17 ["self", "tool"] (spOneE (cl 17) "tool") := ok_one F17 O17.T O17.no scE17 ⟨_, _, _, _, rfl⟩ (by decide) (by decide)
  obtain ⟨f18, fd18, O18, F18, B18⟩ := M.e18
  have G18 : FnOk P w K mg base CX0 1 f18 fd18 ["self", "number"] (spOneE (cl 18) "number") := ok_one F18 O18.T O18.no scE18 ⟨_, _, _, _, rfl⟩ (by decide) (by decide)
  obtain ⟨f19, fd19, O19, F19, B19⟩ := M.e19
  have G19 : FnOk P w K mg base CX0 1 f19 fd19 ["self", "at"] (spOneE (cl 19) "at") := ok_one F19 O19.T O19.no scE19 ⟨_, _, _, _, rfl⟩ (by decide) (by decide)
  obtain ⟨f20, fd20, O20, F20, B20⟩ := M.e20
  have G20 : FnOk P w K mg base CX0 1 f20 fd20 ["self", "at"] (spOneE (cl 20) "at") := ok_one F20 O20.T O20.no scE20 ⟨_, _, _, _, rfl⟩ (by decide) (by decide)
  obtain ⟨f21, fd21, O21, F21, B21⟩ := M.e21
  have G21 : FnOk P w K mg base CX0 1 f21 fd21 ["self", "line", "word"] (spTwoE (cl 21) "line" "word") := ok_two F21 O21.T O21.no1 O21.no2 scE21 ⟨_, _, _, _, _, _, _, _, rfl⟩ (by decide) (by decide) (by decide) (by decide)
  refine F.ok scPlace (fun vs H Q E h => ?_) (fun cdv A outer s H vs Q E hr h => ?_)
  · obtain ⟨v, u, rfl, _⟩ := h
    rfl
  · obtain ⟨v, u, rfl, q⟩ := h
    refine ⟨_, (pss_cons (ps_set (i := 2) scPlace.nd rfl (.inl rfl) (pe_lst (pa_cons (pe_new1 rfl O0 G0 hr rfl (pa_cons (pv 0) pa_nil)) (pa_cons (pe_new1 rfl O1 G1 hr rfl (pa_cons (pv 0) pa_nil)) (pa_cons (pe_new1 rfl O2 G2 hr rfl (pa_cons (pv 0) pa_nil)) (pa_cons (pe_new1 rfl O3 G3 hr rfl (pa_cons (pv 0) pa_nil)) (pa_cons (pe_new1 rfl O4 G4 hr rfl (pa_cons (pv 0) pa_nil)) (pa_cons (pe_new1 rfl O5 G5 hr rfl (pa_cons (pv 0) pa_nil)) (pa_cons (pe_new1 rfl O6 G6 hr rfl (pa_cons (pv 0) pa_nil)) (pa_cons (pe_new1 rfl O7 G7 hr rfl (pa_cons (pv 0) pa_nil)) pa_nil))))))))))
      (pss_cons (ps_set (i := 2) scPlace.nd rfl (.inl rfl) (pe_op op_cat (pv 2) (pe_lst (pa_cons (pe_new1 rfl O8 G8 hr rfl (pa_cons (pv 0) pa_nil)) (pa_cons (pe_new1 rfl O9 G9 hr rfl (pa_cons (pv 0) pa_nil)) (pa_cons (pe_new1 rfl O10 G10 hr rfl (pa_cons (pv 0) pa_nil)) (pa_cons (pe_new1 rfl O11 G11 hr rfl (pa_cons (pv 0) pa_nil)) (pa_cons (pe_new1 rfl O12 G12 hr rfl (pa_cons (pv 0) pa_nil)) (pa_cons (pe_new1 rfl O13 G13 hr rfl (pa_cons (pv 0) pa_nil)) (pa_cons (pe_new2 rfl O14 G14 hr rfl (pa_cons (pv 0) (pa_cons (pv 1) pa_nil))) (pa_cons (pe_new1 rfl O15 G15 hr rfl (pa_cons (pv 0) pa_nil)) pa_nil)))))))))))
      (pss_one (ps_ret (pe_op op_cat (pv 2) (pe_lst (pa_cons (pe_new1 rfl O16 G16 hr rfl (pa_cons (pv 0) pa_nil)) (pa_cons (pe_new1 rfl O17 G17 hr rfl (pa_cons (pv 0) pa_nil)) (pa_cons (pe_new1 rfl O18 G18 hr rfl (pa_cons (pv 0) pa_nil)) (pa_cons (pe_new1 rfl O19 G19 hr rfl (pa_cons (pv 0) pa_nil)) (pa_cons (pe_new1 rfl O20 G20 hr rfl (pa_cons (pv 0) pa_nil)) (pa_cons (pe_new2 rfl O21 G21 hr rfl (pa_cons (pv 0) (pa_cons (pv 1) pa_nil))) (pa_cons (pe_new0 rfl PySem.F.excBase_ValueError M.q22 M.g22 M.k22 (raises_own M.b22 M.t22) rfl) pa_nil))))))))))))), ?_⟩
    have A : Al cl H v u [] := .nil
    have s0 := Same.refl H
    refine ⟨_, rfl, fun a0 H0 s e => ?_⟩
    replace A : Al cl H0 v u [a0] := A.snoc s (.inr ⟨by show 0 < 22; decide, e⟩)
    replace s0 := s0.trans s
    clear s e
    refine ⟨_, rfl, fun a1 H1 s e => ?_⟩
    replace A : Al cl H1 v u [a0, a1] := A.snoc s (.inr ⟨by show 1 < 22; decide, e⟩)
    replace s0 := s0.trans s
    clear s e
    refine ⟨_, rfl, fun a2 H2 s e => ?_⟩
    replace A : Al cl H2 v u [a0, a1, a2] := A.snoc s (.inr ⟨by show 2 < 22; decide, e⟩)
    replace s0 := s0.trans s
    clear s e
    refine ⟨_, rfl, fun a3 H3 s e => ?_⟩
    replace A : Al cl H3 v u [a0, a1, a2, a3] := A.snoc s (.inr ⟨by show 3 < 22; decide, e⟩)
    replace s0 := s0.trans s
    clear s e
    refine ⟨_, rfl, fun a4 H4 s e => ?_⟩
    replace A : Al cl H4 v u [a0, a1, a2, a3, a4] := A.snoc s (.inr ⟨by show 4 < 22; decide, e⟩)
    replace s0 := s0.trans s
    clear s e
    refine ⟨_, rfl, fun a5 H5 s e => ?_⟩
    replace A : Al cl H5 v u [a0, a1, a2, a3, a4, a5] := A.snoc s (.inr ⟨by show 5 < 22; decide, e⟩)
    replace s0 := s0.trans s
    clear s e
    refine ⟨_, rfl, fun a6 H6 s e => ?_⟩
    replace A : Al cl H6 v u [a0, a1, a2, a3, a4, a5, a6] := A.snoc s (.inr ⟨by show 6 < 22; decide, e⟩)
    replace s0 := s0.trans s
    clear s e
    refine ⟨_, rfl, fun a7 H7 s e => ?_⟩
    replace A : Al cl H7 v u [a0, a1, a2, a3, a4, a5, a6, a7] := A.snoc s (.inr ⟨by show 7 < 22; decide, e⟩)
    replace s0 := s0.trans s
    clear s e
    refine ⟨by show 8 ≤ sizeLine; decide, fun l0 hl => ?_⟩
    have sa := same_upd0 (o := .lst [.ref a0, .ref a1, .ref a2, .ref a3, .ref a4, .ref a5, .ref a6, .ref a7]) hl
    have c : (upd H7 l0 (.lst [.ref a0, .ref a1, .ref a2, .ref a3, .ref a4, .ref a5, .ref a6, .ref a7])) l0 = some (.lst [.ref a0, .ref a1, .ref a2, .ref a3, .ref a4, .ref a5, .ref a6, .ref a7]) := upd_same
    replace A := A.same sa
    replace s0 := s0.trans sa
    clear sa hl
    revert c A s0
    generalize upd H7 l0 (.lst [.ref a0, .ref a1, .ref a2, .ref a3, .ref a4, .ref a5, .ref a6, .ref a7]) = J0
    intro c A s0
    refine ⟨_, rfl, _, rfl, fun a8 H8 s e => ?_⟩
    replace A : Al cl H8 v u [a0, a1, a2, a3, a4, a5, a6, a7, a8] := A.snoc s (.inr ⟨by show 8 < 22; decide, e⟩)
    replace s0 := s0.trans s
    replace c := s _ _ c
    clear s e
    refine ⟨_, rfl, fun a9 H9 s e => ?_⟩
    replace A : Al cl H9 v u [a0, a1, a2, a3, a4, a5, a6, a7, a8, a9] := A.snoc s (.inr ⟨by show 9 < 22; decide, e⟩)
    replace s0 := s0.trans s
    replace c := s _ _ c
    clear s e
    refine ⟨_, rfl, fun a10 H10 s e => ?_⟩
    replace A : Al cl H10 v u [a0, a1, a2, a3, a4, a5, a6, a7, a8, a9, a10] := A.snoc s (.inr ⟨by show 10 < 22; decide, e⟩)
    replace s0 := s0.trans s
    replace c := s _ _ c
    clear s e
    refine ⟨_, rfl, fun a11 H11 s e => ?_⟩
    replace A : Al cl H11 v u [a0, a1, a2, a3, a4, a5, a6, a7, a8, a9, a10, a11] := A.snoc s (.inr ⟨by show 11 < 22; decide, e⟩)
    replace s0 := s0.trans s
    replace c := s _ _ c
    clear s e
    refine ⟨_, rfl, fun a12 H12 s e => ?_⟩
    replace A : Al cl H12 v u [a0, a1, a2, a3, a4, a5, a6, a7, a8, a9, a10, a11, a12] := A.snoc s (.inr ⟨by show 12 < 22; decide, e⟩)
    replace s0 := s0.trans s
    replace c := s _ _ c
    clear s e
    refine ⟨_, rfl, fun a13 H13 s e => ?_⟩
    replace A : Al cl H13 v u [a0, a1, a2, a3, a4, a5, a6, a7, a8, a9, a10, a11, a12, a13] := A.snoc s (.inr ⟨by show 13 < 22; decide, e⟩)
    replace s0 := s0.trans s
    replace c := s _ _ c
    clear s e
    refine ⟨_, rfl, _, rfl, fun a14 H14 s e => ?_⟩
    replace A : Al cl H14 v u [a0, a1, a2, a3, a4, a5, a6, a7, a8, a9, a10, a11, a12, a13, a14] := A.snoc s (.inr ⟨by show 14 < 22; decide, e⟩)
    replace s0 := s0.trans s
    replace c := s _ _ c
    clear s e
    refine ⟨_, rfl, fun a15 H15 s e => ?_⟩
    replace A : Al cl H15 v u [a0, a1, a2, a3, a4, a5, a6, a7, a8, a9, a10, a11, a12, a13, a14, a15] := A.snoc s (.inr ⟨by show 15 < 22; decide, e⟩)
    replace s0 := s0.trans s
    replace c := s _ _ c
    clear s e
    refine ⟨by show 8 ≤ sizeLine; decide, fun l1 hl => ?_⟩
    have sa := same_upd0 (o := .lst [.ref a8, .ref a9, .ref a10, .ref a11, .ref a12, .ref a13, .ref a14, .ref a15]) hl
    refine ⟨l0, l1, _, _, rfl, rfl, sa _ _ c, upd_same, by show 16 ≤ sizeLine; decide, fun m1 hm => ?_⟩
    have sb := sa.trans (same_upd0 (o := .lst ([.ref a0, .ref a1, .ref a2, .ref a3, .ref a4, .ref a5, .ref a6, .ref a7] ++ [.ref a8, .ref a9, .ref a10, .ref a11, .ref a12, .ref a13, .ref a14, .ref a15])) hm)
    replace A := A.same sb
    replace s0 := s0.trans sb
    clear c
    have c : (upd (upd H15 l1 (.lst [.ref a8, .ref a9, .ref a10, .ref a11, .ref a12, .ref a13, .ref a14, .ref a15])) m1 (.lst ([.ref a0, .ref a1, .ref a2, .ref a3, .ref a4, .ref a5, .ref a6, .ref a7] ++ [.ref a8, .ref a9, .ref a10, .ref a11, .ref a12, .ref a13, .ref a14, .ref a15]))) m1 = some (.lst [.ref a0, .ref a1, .ref a2, .ref a3, .ref a4, .ref a5, .ref a6, .ref a7, .ref a8, .ref a9, .ref a10, .ref a11, .ref a12, .ref a13, .ref a14, .ref a15]) := upd_same
    clear sa sb hl hm
    revert c A s0
    generalize upd (upd H15 l1 (.lst [.ref a8, .ref a9, .ref a10, .ref a11, .ref a12, .ref a13, .ref a14, .ref a15])) m1 (.lst ([.ref a0, .ref a1, .ref a2, .ref a3, .ref a4, .ref a5, .ref a6, .ref a7] ++ [.ref a8, .ref a9, .ref a10, .ref a11, .ref a12, .ref a13, .ref a14, .ref a15])) = J1
    intro A s0 c
    refine ⟨_, rfl, _, rfl, fun a16 H16 s e => ?_⟩
    replace A : Al cl H16 v u [a0, a1, a2, a3, a4, a5, a6, a7, a8, a9, a10, a11, a12, a13, a14, a15, a16] := A.snoc s (.inr ⟨by show 16 < 22; decide, e⟩)
    replace s0 := s0.trans s
    replace c := s _ _ c
    clear s e
    refine ⟨_, rfl, fun a17 H17 s e => ?_⟩
    replace A : Al cl H17 v u [a0, a1, a2, a3, a4, a5, a6, a7, a8, a9, a10, a11, a12, a13, a14, a15, a16, a17] := A.snoc s (.inr ⟨by show 17 < 22; decide, e⟩)
    replace s0 := s0.trans s
    replace c := s _ _ c
    clear s e
    refine ⟨_, rfl, fun a18 H18 s e => ?_⟩
    replace A : Al cl H18 v u [a0, a1, a2, a3, a4, a5, a6, a7, a8, a9, a10, a11, a12, a13, a14, a15, a16, a17, a18] := A.snoc s (.inr ⟨by show 18 < 22; decide, e⟩)
    replace s0 := s0.trans s
    replace c := s _ _ c
    clear s e
    refine ⟨_, rfl, fun a19 H19 s e => ?_⟩
    replace A : Al cl H19 v u [a0, a1, a2, a3, a4, a5, a6, a7, a8, a9, a10, a11, a12, a13, a14, a15, a16, a17, a18, a19] := A.snoc s (.inr ⟨by show 19 < 22; decide, e⟩)
    replace s0 := s0.trans s
    replace c := s _ _ c
    clear s e
    refine ⟨_, rfl, fun a20 H20 s e => ?_⟩
    replace A : Al cl H20 v u [a0, a1, a2, a3, a4, a5, a6, a7, a8, a9, a10, a11, a12, a13, a14, a15, a16, a17, a18, a19, a20] := A.snoc s (.inr ⟨by show 20 < 22; decide, e⟩)
    replace s0 := s0.trans s
    replace c := s _ _ c
    clear s e
    refine ⟨_, rfl, _, rfl, fun a21 H21 s e => ?_⟩
    replace A : Al cl H21 v u [a0, a1, a2, a3, a4, a5, a6, a7, a8, a9, a10, a11, a12, a13, a14, a15, a16, a17, a18, a19, a20, a21] := A.snoc s (.inr ⟨by show 21 < 22; decide, e⟩)
    replace s0 := s0.trans s
    replace c := s _ _ c
    clear s e
    refine fun a22 H22 s e => ?_
    replace A : Al cl H22 v u [a0, a1, a2, a3, a4, a5, a6, a7, a8, a9, a10, a11, a12, a13, a14, a15, a16, a17, a18, a19, a20, a21, a22] := A.snoc s (.inl ⟨rfl, e⟩)
    replace s0 := s0.trans s
    replace c := s _ _ c
    clear s e
    refine ⟨by show 7 ≤ sizeLine; decide, fun l2 hl => ?_⟩
    have sa := same_upd0 (o := .lst [.ref a16, .ref a17, .ref a18, .ref a19, .ref a20, .ref a21, .ref a22]) hl
    refine ⟨m1, l2, _, _, rfl, rfl, sa _ _ c, upd_same, by show 23 ≤ sizeLine; decide, fun m2 hm => ?_⟩
    have sb := sa.trans (same_upd0 (o := .lst ([.ref a0, .ref a1, .ref a2, .ref a3, .ref a4, .ref a5, .ref a6, .ref a7, .ref a8, .ref a9, .ref a10, .ref a11, .ref a12, .ref a13, .ref a14, .ref a15] ++ [.ref a16, .ref a17, .ref a18, .ref a19, .ref a20, .ref a21, .ref a22])) hm)
    replace A := A.same sb
    replace s0 := s0.trans sb
    clear c
    have c : (upd (upd H22 l2 (.lst [.ref a16, .ref a17, .ref a18, .ref a19, .ref a20, .ref a21, .ref a22])) m2 (.lst ([.ref a0, .ref a1, .ref a2, .ref a3, .ref a4, .ref a5, .ref a6, .ref a7, .ref a8, .ref a9, .ref a10, .ref a11, .ref a12, .ref a13, .ref a14, .ref a15] ++ [.ref a16, .ref a17, .ref a18, .ref a19, .ref a20, .ref a21, .ref a22]))) m2 = some (.lst [.ref a0, .ref a1, .ref a2, .ref a3, .ref a4, .ref a5, .ref a6, .ref a7, .ref a8, .ref a9, .ref a10, .ref a11, .ref a12, .ref a13, .ref a14, .ref a15, .ref a16, .ref a17, .ref a18, .ref a19, .ref a20, .ref a21, .ref a22]) := upd_same
    clear sa sb hl hm
    revert c A s0
    generalize upd (upd H22 l2 (.lst [.ref a16, .ref a17, .ref a18, .ref a19, .ref a20, .ref a21, .ref a22])) m2 (.lst ([.ref a0, .ref a1, .ref a2, .ref a3, .ref a4, .ref a5, .ref a6, .ref a7, .ref a8, .ref a9, .ref a10, .ref a11, .ref a12, .ref a13, .ref a14, .ref a15] ++ [.ref a16, .ref a17, .ref a18, .ref a19, .ref a20, .ref a21, .ref a22])) = J2
    intro A s0 c
    exact q _ m2 [a0, a1, a2, a3, a4, a5, a6, a7, a8, a9, a10, a11, a12, a13, a14, a15, a16, a17, a18, a19, a20, a21, a22] s0 rfl c A
theorem ok_by_name {cl : Nat → Addr} {f : Addr} {fd : FuncData} (F : Fun K "_law_by_name" "_law_by_name" sByName f fd) (M : Made K mg cl) : FnOk P w K mg base CX0 3 f fd ["_law_a", "_law_b"] (spMade cl) := by
  obtain ⟨f0, fd0, O0, F0, B0⟩ := M.e0
  have G0 : FnOk P w K mg base CX0 1 f0 fd0 ["self", "name"] (spOneE (cl 0) "name") := ok_one F0 O0.T O0.no scE0 ⟨_, _, _, _, rfl⟩ (by decide) (by decide)
  obtain ⟨f1, fd1, O1, F1, B1⟩ := M.e1
  have G1 : FnOk P w K mg base CX0 1 f1 fd1 ["self", "moment"] (spOneE (cl 1) "moment") := ok_one F1 O1.T O1.no scE1 ⟨_, _, _, _, rfl⟩ (by decide) (by decide)
  obtain ⟨f2, fd2, O2, F2, B2⟩ := M.e2
  have G2 : FnOk P w K mg base CX0 1 f2 fd2 ["self", "value"] (spOneE (cl 2) "value") := ok_one F2 O2.T O2.no scE2 ⟨_, _, _, _, rfl⟩ (by decide) (by decide)
  obtain ⟨f3, fd3, O3, F3, B3⟩ := M.e3
  have G3 : FnOk P w K mg base CX0 1 f3 fd3 ["self", "value"] (spOneE (cl 3) "value") := ok_one F3 O3.T O3.no scE3 ⟨_, _, _, _, rfl⟩ (by decide) (by decide)
  obtain ⟨f4, fd4, O4, F4, B4⟩ := M.e4
  have G4 : FnOk P w K mg base CX0 1 f4 fd4 ["self", "at"] (spOneE (cl 4) "at") := ok_one F4 O4.T O4.no scE4 ⟨_, _, _, _, rfl⟩ (by decide) (by decide)
  obtain ⟨f5, fd5, O5, F5, B5⟩ := M.e5
  have G5 : FnOk P w K mg base CX0 1 f5 fd5 ["self", "at"] (spOneE (cl 5) "at") := ok_one F5 O5.T O5.no scE5 ⟨_, _, _, _, rfl⟩ (by decide) (by decide)
  obtain ⟨f6, fd6, O6, F6, B6⟩ := M.e6
  have G6 : FnOk P w K mg base CX0 1 f6 fd6 ["self", "at"] (spOneE (cl 6) "at") := ok_one F6 O6.T O6.no scE6 ⟨_, _, _, _, rfl⟩ (by decide) (by decide)
  obtain ⟨f7, fd7, O7, F7, B7⟩ := M.e7
  have G7 : FnOk P w K mg base CX0 1 f7 fd7 ["self", "tool"] (spOneE (cl 7) "tool") := ok_one F7 O7.T O7.no scE7 ⟨_, _, _, _, rfl⟩ (by decide) (by decide)
  obtain ⟨f8, fd8, O8, F8, B8⟩ := M.e8
  have G8 : FnOk P w K mg base CX0 1 f8 fd8 ["self", "number"] (spOneE (cl 8) "number") := ok_one F8 O8.T O8.no scE8 ⟨_, _, _, _, rfl⟩ (by decide) (by decide)
  obtain ⟨f9, fd9, O9, F9, B9⟩ := M.e9
  have G9 : FnOk P w K mg base CX0 1 f9 fd9 ["self", "number"] (spOneE (cl 9) "number") := ok_one F9 O9.T O9.no scE9 ⟨_, _, _, _, rfl⟩ (by decide) (by decide)
  obtain ⟨f10, fd10, O10, F10, B10⟩ := M.e10
  have G10 : FnOk P w K mg base CX0 1 f10 fd10 ["self", "name"] (spOneE (cl 10) "name") := ok_one F10 O10.T O10.no scE10 ⟨_, _, _, _, rfl⟩ (by decide) (by decide)
  obtain ⟨f11, fd11, O11, F11, B11⟩ := M.e11
  have G11 : FnOk P w K mg base CX0 1 f11 fd11 ["self", "name"] (spOneE (cl 11) "name") := ok_one F11 O11.T O11.no scE11 ⟨_, _, _, _, rfl⟩ (by decide) (by decide)
  obtain ⟨f12, fd12, O12, F12, B12⟩ := M.e12
  have G12 : FnOk P w K mg base CX0 1 f12 fd12 ["self", "value"] (spOneE (cl 12) "value") := ok_one F12 O12.T O12.no scE12 ⟨_, _, _, _, rfl⟩ (by decide) (by decide)
  obtain ⟨f13, fd13, O13, F13, B13⟩ := M.e13
  have G13 : FnOk P w K mg base CX0 1 f13 fd13 ["self", "word"] (spOneE (cl 13) "word") := ok_one F13 O13.T O13.no scE13 ⟨_, _, _, _, rfl⟩ (by decide) (by decide)
  obtain ⟨f14, fd14, O14, F14, B14⟩ := M.e14
  have G14 : FnOk P w K mg base CX0 1 f14 fd14 ["self", "what", "most"] (spTwoE (cl 14) "what" "most") := ok_two F14 O14.T O14.no1 O14.no2 scE14 ⟨_, _, _, _, _, _, _, _, rfl⟩ (by decide) (by decide) (by decide) (by decide)
  obtain ⟨f15, fd15, O15, F15, B15⟩ := M.e15
  have G15 : FnOk P w K mg base CX0 1 f15 fd15 ["self", "moment"] (spOneE (cl 15) "moment") := ok_one F15 O15.T O15.no scE15 ⟨_, _, _, _, rfl⟩ (by decide) (by decide)
  obtain ⟨f16, fd16, O16, F16, B16⟩ := M.e16
  have G16 : FnOk P w K mg base CX0 1 f16 fd16 ["self", "name"] (spOneE (cl 16) "name") := ok_one F16 O16.T O16.no scE16 ⟨_, _, _, _, rfl⟩ (by decide) (by decide)
  obtain ⟨f17, fd17, O17, F17, B17⟩ := M.e17
  have G17 : FnOk P w K mg base CX0 1 f17 fd17 ["self", "tool"] (spOneE (cl 17) "tool") := ok_one F17 O17.T O17.no scE17 ⟨_, _, _, _, rfl⟩ (by decide) (by decide)
  obtain ⟨f18, fd18, O18, F18, B18⟩ := M.e18
  have G18 : FnOk P w K mg base CX0 1 f18 fd18 ["self", "number"] (spOneE (cl 18) "number") := ok_one F18 O18.T O18.no scE18 ⟨_, _, _, _, rfl⟩ (by decide) (by decide)
  obtain ⟨f19, fd19, O19, F19, B19⟩ := M.e19
  have G19 : FnOk P w K mg base CX0 1 f19 fd19 ["self", "at"] (spOneE (cl 19) "at") := ok_one F19 O19.T O19.no scE19 ⟨_, _, _, _, rfl⟩ (by decide) (by decide)
  obtain ⟨f20, fd20, O20, F20, B20⟩ := M.e20
  have G20 : FnOk P w K mg base CX0 1 f20 fd20 ["self", "at"] (spOneE (cl 20) "at") := ok_one F20 O20.T O20.no scE20 ⟨_, _, _, _, rfl⟩ (by decide) (by decide)
  obtain ⟨f21, fd21, O21, F21, B21⟩ := M.e21
  have G21 : FnOk P w K mg base CX0 1 f21 fd21 ["self", "line", "word"] (spTwoE (cl 21) "line" "word") := ok_two F21 O21.T O21.no1 O21.no2 scE21 ⟨_, _, _, _, _, _, _, _, rfl⟩ (by decide) (by decide) (by decide) (by decide)
  refine F.ok scByName (fun vs H Q E h => ?_) (fun cdv A outer s H vs Q E hr h => ?_)
  · obtain ⟨v, u, rfl, _⟩ := h
    rfl
  · obtain ⟨v, u, rfl, q⟩ := h
    refine ⟨_, (pss_cons (ps_set (i := 2) scByName.nd rfl (.inl rfl) (pe_lst (pa_cons (pe_new1K rfl O0 G0 B0 hr rfl (pv 0)) (pa_cons (pe_new1K rfl O1 G1 B1 hr rfl (pv 0)) (pa_cons (pe_new1K rfl O2 G2 B2 hr rfl (pv 0)) (pa_cons (pe_new1K rfl O3 G3 B3 hr rfl (pv 0)) (pa_cons (pe_new1K rfl O4 G4 B4 hr rfl (pv 0)) pa_nil)))))))
      (pss_cons (ps_set (i := 2) scByName.nd rfl (.inl rfl) (pe_op op_cat (pv 2) (pe_lst (pa_cons (pe_new1K rfl O5 G5 B5 hr rfl (pv 0)) (pa_cons (pe_new1K rfl O6 G6 B6 hr rfl (pv 0)) (pa_cons (pe_new1K rfl O7 G7 B7 hr rfl (pv 0)) (pa_cons (pe_new1K rfl O8 G8 B8 hr rfl (pv 0)) (pa_cons (pe_new1K rfl O9 G9 B9 hr rfl (pv 0)) pa_nil))))))))
      (pss_cons (ps_set (i := 2) scByName.nd rfl (.inl rfl) (pe_op op_cat (pv 2) (pe_lst (pa_cons (pe_new1K rfl O10 G10 B10 hr rfl (pv 0)) (pa_cons (pe_new1K rfl O11 G11 B11 hr rfl (pv 0)) (pa_cons (pe_new1K rfl O12 G12 B12 hr rfl (pv 0)) (pa_cons (pe_new1K rfl O13 G13 B13 hr rfl (pv 0)) pa_nil)))))))
      (pss_cons (ps_set (i := 2) scByName.nd rfl (.inl rfl) (pe_op op_cat (pv 2) (pe_lst (pa_cons (pe_new2K rfl O14 G14 B14 hr rfl (pv 0) (pv 1)) (pa_cons (pe_new1K rfl O15 G15 B15 hr rfl (pv 0)) (pa_cons (pe_new1K rfl O16 G16 B16 hr rfl (pv 0)) (pa_cons (pe_new1K rfl O17 G17 B17 hr rfl (pv 0)) pa_nil)))))))
      (pss_one (ps_ret (pe_op op_cat (pv 2) (pe_lst (pa_cons (pe_new1K rfl O18 G18 B18 hr rfl (pv 0)) (pa_cons (pe_new1K rfl O19 G19 B19 hr rfl (pv 0)) (pa_cons (pe_new1K rfl O20 G20 B20 hr rfl (pv 0)) (pa_cons (pe_new2K rfl O21 G21 B21 hr rfl (pv 0) (pv 1)) (pa_cons (pe_new0 rfl PySem.F.excBase_ValueError M.q22 M.g22 M.k22 (raises_own M.b22 M.t22) rfl) pa_nil))))))))))))), ?_⟩
    have A : Al cl H v u [] := .nil
    have s0 := Same.refl H
    refine ⟨_, rfl, fun a0 H0 s e => ?_⟩
    replace A : Al cl H0 v u [a0] := A.snoc s (.inr ⟨by show 0 < 22; decide, e⟩)
    replace s0 := s0.trans s
    clear s e
    refine ⟨_, rfl, fun a1 H1 s e => ?_⟩
    replace A : Al cl H1 v u [a0, a1] := A.snoc s (.inr ⟨by show 1 < 22; decide, e⟩)
    replace s0 := s0.trans s
    clear s e
    refine ⟨_, rfl, fun a2 H2 s e => ?_⟩
    replace A : Al cl H2 v u [a0, a1, a2] := A.snoc s (.inr ⟨by show 2 < 22; decide, e⟩)
    replace s0 := s0.trans s
    clear s e
    refine ⟨_, rfl, fun a3 H3 s e => ?_⟩
    replace A : Al cl H3 v u [a0, a1, a2, a3] := A.snoc s (.inr ⟨by show 3 < 22; decide, e⟩)
    replace s0 := s0.trans s
    clear s e
    refine ⟨_, rfl, fun a4 H4 s e => ?_⟩
    replace A : Al cl H4 v u [a0, a1, a2, a3, a4] := A.snoc s (.inr ⟨by show 4 < 22; decide, e⟩)
    replace s0 := s0.trans s
    clear s e
    refine ⟨by show 5 ≤ sizeLine; decide, fun l0 hl => ?_⟩
    have sa := same_upd0 (o := .lst [.ref a0, .ref a1, .ref a2, .ref a3, .ref a4]) hl
    have c : (upd H4 l0 (.lst [.ref a0, .ref a1, .ref a2, .ref a3, .ref a4])) l0 = some (.lst [.ref a0, .ref a1, .ref a2, .ref a3, .ref a4]) := upd_same
    replace A := A.same sa
    replace s0 := s0.trans sa
    clear sa hl
    revert c A s0
    generalize upd H4 l0 (.lst [.ref a0, .ref a1, .ref a2, .ref a3, .ref a4]) = J0
    intro c A s0
    refine ⟨_, rfl, _, rfl, fun a5 H5 s e => ?_⟩
    replace A : Al cl H5 v u [a0, a1, a2, a3, a4, a5] := A.snoc s (.inr ⟨by show 5 < 22; decide, e⟩)
    replace s0 := s0.trans s
    replace c := s _ _ c
    clear s e
    refine ⟨_, rfl, fun a6 H6 s e => ?_⟩
    replace A : Al cl H6 v u [a0, a1, a2, a3, a4, a5, a6] := A.snoc s (.inr ⟨by show 6 < 22; decide, e⟩)
    replace s0 := s0.trans s
    replace c := s _ _ c
    clear s e
    refine ⟨_, rfl, fun a7 H7 s e => ?_⟩
    replace A : Al cl H7 v u [a0, a1, a2, a3, a4, a5, a6, a7] := A.snoc s (.inr ⟨by show 7 < 22; decide, e⟩)
    replace s0 := s0.trans s
    replace c := s _ _ c
    clear s e
    refine ⟨_, rfl, fun a8 H8 s e => ?_⟩
    replace A : Al cl H8 v u [a0, a1, a2, a3, a4, a5, a6, a7, a8] := A.snoc s (.inr ⟨by show 8 < 22; decide, e⟩)
    replace s0 := s0.trans s
    replace c := s _ _ c
    clear s e
    refine ⟨_, rfl, fun a9 H9 s e => ?_⟩
    replace A : Al cl H9 v u [a0, a1, a2, a3, a4, a5, a6, a7, a8, a9] := A.snoc s (.inr ⟨by show 9 < 22; decide, e⟩)
    replace s0 := s0.trans s
    replace c := s _ _ c
    clear s e
    refine ⟨by show 5 ≤ sizeLine; decide, fun l1 hl => ?_⟩
    have sa := same_upd0 (o := .lst [.ref a5, .ref a6, .ref a7, .ref a8, .ref a9]) hl
    refine ⟨l0, l1, _, _, rfl, rfl, sa _ _ c, upd_same, by show 10 ≤ sizeLine; decide, fun m1 hm => ?_⟩
    have sb := sa.trans (same_upd0 (o := .lst ([.ref a0, .ref a1, .ref a2, .ref a3, .ref a4] ++ [.ref a5, .ref a6, .ref a7, .ref a8, .ref a9])) hm)
    replace A := A.same sb
    replace s0 := s0.trans sb
    clear c
    have c : (upd (upd H9 l1 (.lst [.ref a5, .ref a6, .ref a7, .ref a8, .ref a9])) m1 (.lst ([.ref a0, .ref a1, .ref a2, .ref a3, .ref a4] ++ [.ref a5, .ref a6, .ref a7, .ref a8, .ref a9]))) m1 = some (.lst [.ref a0, .ref a1, .ref a2, .ref a3, .ref a4, .ref a5, .ref a6, .ref a7, .ref a8, .ref a9]) := upd_same
    clear sa sb hl hm
    revert c A s0
    generalize upd (upd H9 l1 (.lst [.ref a5, .ref a6, .ref a7, .ref a8, .ref a9])) m1 (.lst ([.ref a0, .ref a1, .ref a2, .ref a3, .ref a4] ++ [.ref a5, .ref a6, .ref a7, .ref a8, .ref a9])) = J1
    intro A s0 c
    refine ⟨_, rfl, _, rfl, fun a10 H10 s e => ?_⟩
    replace A : Al cl H10 v u [a0, a1, a2, a3, a4, a5, a6, a7, a8, a9, a10] := A.snoc s (.inr ⟨by show 10 < 22; decide, e⟩)
    replace s0 := s0.trans s
    replace c := s _ _ c
    clear s e
    refine ⟨_, rfl, fun a11 H11 s e => ?_⟩
    replace A : Al cl H11 v u [a0, a1, a2, a3, a4, a5, a6, a7, a8, a9, a10, a11] := A.snoc s (.inr ⟨by show 11 < 22; decide, e⟩)
    replace s0 := s0.trans s
    replace c := s _ _ c
    clear s e
    refine ⟨_, rfl, fun a12 H12 s e => ?_⟩
    replace A : Al cl H12 v u [a0, a1, a2, a3, a4, a5, a6, a7, a8, a9, a10, a11, a12] := A.snoc s (.inr ⟨by show 12 < 22; decide, e⟩)
    replace s0 := s0.trans s
    replace c := s _ _ c
    clear s e
    refine ⟨_, rfl, fun a13 H13 s e => ?_⟩
    replace A : Al cl H13 v u [a0, a1, a2, a3, a4, a5, a6, a7, a8, a9, a10, a11, a12, a13] := A.snoc s (.inr ⟨by show 13 < 22; decide, e⟩)
    replace s0 := s0.trans s
    replace c := s _ _ c
    clear s e
    refine ⟨by show 4 ≤ sizeLine; decide, fun l2 hl => ?_⟩
    have sa := same_upd0 (o := .lst [.ref a10, .ref a11, .ref a12, .ref a13]) hl
    refine ⟨m1, l2, _, _, rfl, rfl, sa _ _ c, upd_same, by show 14 ≤ sizeLine; decide, fun m2 hm => ?_⟩
    have sb := sa.trans (same_upd0 (o := .lst ([.ref a0, .ref a1, .ref a2, .ref a3, .ref a4, .ref a5, .ref a6, .ref a7, .ref a8, .ref a9] ++ [.ref a10, .ref a11, .ref a12, .ref a13])) hm)
    replace A := A.same sb
    replace s0 := s0.trans sb
    clear c
    have c : (upd (upd H13 l2 (.lst [.ref a10, .ref a11, .ref a12, .ref a13])) m2 (.lst ([.ref a0, .ref a1, .ref a2, .ref a3, .ref a4, .ref a5, .ref a6, .ref a7, .ref a8, .ref a9] ++ [.ref a10, .ref a11, .ref a12, .ref a13]))) m2 = some (.lst [.ref a0, .ref a1, .ref a2, .ref a3, .ref a4, .ref a5, .ref a6, .ref a7, .ref a8, .ref a9, .ref a10, .ref a11, .ref a12, .ref a13]) := upd_same
    clear sa sb hl hm
    revert c A s0
    generalize upd (upd H13 l2 (.lst [.ref a10, .ref a11, .ref a12, .ref a13])) m2 (.lst ([.ref a0, .ref a1, .ref a2, .ref a3, .ref a4, .ref a5, .ref a6, .ref a7, .ref a8, .ref a9] ++ [.ref a10, .ref a11, .ref a12, .ref a13])) = J2
    intro A s0 c
    refine ⟨_, rfl, _, rfl, _, rfl, fun a14 H14 s e => ?_⟩
    replace A : Al cl H14 v u [a0, a1, a2, a3, a4, a5, a6, a7, a8, a9, a10, a11, a12, a13, a14] := A.snoc s (.inr ⟨by show 14 < 22; decide, e⟩)
    replace s0 := s0.trans s
    replace c := s _ _ c
    clear s e
    refine ⟨_, rfl, fun a15 H15 s e => ?_⟩
    replace A : Al cl H15 v u [a0, a1, a2, a3, a4, a5, a6, a7, a8, a9, a10, a11, a12, a13, a14, a15] := A.snoc s (.inr ⟨by show 15 < 22; decide, e⟩)
    replace s0 := s0.trans s
    replace c := s _ _ c
    clear s e
    refine ⟨_, rfl, fun a16 H16 s e => ?_⟩
    replace A : Al cl H16 v u [a0, a1, a2, a3, a4, a5, a6, a7, a8, a9, a10, a11, a12, a13, a14, a15, a16] := A.snoc s (.inr ⟨by show 16 < 22; decide, e⟩)
    replace s0 := s0.trans s
    replace c := s _ _ c
    clear s e
    refine ⟨_, rfl, fun a17 H17 s e => ?_⟩
    replace A : Al cl H17 v u [a0, a1, a2, a3, a4, a5, a6, a7, a8, a9, a10, a11, a12, a13, a14, a15, a16, a17] := A.snoc s (.inr ⟨by show 17 < 22; decide, e⟩)
    replace s0 := s0.trans s
    replace c := s _ _ c
    clear s e
    refine ⟨by show 4 ≤ sizeLine; decide, fun l3 hl => ?_⟩
    have sa := same_upd0 (o := .lst [.ref a14, .ref a15, .ref a16, .ref a17]) hl
    refine ⟨m2, l3, _, _, rfl, rfl, sa _ _ c, upd_same, by show 18 ≤ sizeLine; decide, fun m3 hm => ?_⟩
    have sb := sa.trans (same_upd0 (o := .lst ([.ref a0, .ref a1, .ref a2, .ref a3, .ref a4, .ref a5, .ref a6, .ref a7, .ref a8, .ref a9, .ref a10, .ref a11, .ref a12, .ref a13] ++ [.ref a14, .ref a15, .ref a16, .ref a17])) hm)
    replace A := A.same sb
    replace s0 := s0.trans sb
    clear c
    have c : (upd (upd H17 l3 (.lst [.ref a14, .ref a15, .ref a16, .ref a17])) m3 (.lst ([.ref a0, .ref a1, .ref a2, .ref a3, .ref a4, .ref a5, .ref a6, .ref a7, .ref a8, .ref a9, .ref a10, .ref a11, .ref a12, .ref a13] ++ [.ref a14, .ref a15, .ref a16, .ref a17]))) m3 = some (.lst [.ref a0, .ref a1, .ref a2, .ref a3, .ref a4, .ref a5, .ref a6, .ref a7, .ref a8, .ref a9, .ref a10, .ref a11, .ref a12, .ref a13, .ref a14, .ref a15, .ref a16, .ref a17]) := upd_same
    clear sa sb hl hm
    revert c A s0
    generalize upd (upd H17 l3 (.lst [.ref a14, .ref a15, .ref a16, .ref a17])) m3 (.lst ([.ref a0, .ref a1, .ref a2, .ref a3, .ref a4, .ref a5, .ref a6, .ref a7, .ref a8, .ref a9, .ref a10, .ref a11, .ref a12, .ref a13] ++ [.ref a14, .ref a15, .ref a16, .ref a17])) = J3
    intro A s0 c
    refine ⟨_, rfl, _, rfl, fun a18 H18 s e => ?_⟩
    replace A : Al cl H18 v u [a0, a1, a2, a3, a4, a5, a6, a7, a8, a9, a10, a11, a12, a13, a14, a15, a16, a17, a18] := A.snoc s (.inr ⟨by show 18 < 22; decide, e⟩)
    replace s0 := s0.trans s
    replace c := s _ _ c
    clear s e
    refine ⟨_, rfl, fun a19 H19 s e => ?_⟩
    replace A : Al cl H19 v u [a0, a1, a2, a3, a4, a5, a6, a7, a8, a9, a10, a11, a12, a13, a14, a15, a16, a17, a18, a19] := A.snoc s (.inr ⟨by show 19 < 22; decide, e⟩)
    replace s0 := s0.trans s
    replace c := s _ _ c
    clear s e
    refine ⟨_, rfl, fun a20 H20 s e => ?_⟩
    replace A : Al cl H20 v u [a0, a1, a2, a3, a4, a5, a6, a7, a8, a9, a10, a11, a12, a13, a14, a15, a16, a17, a18, a19, a20] := A.snoc s (.inr ⟨by show 20 < 22; decide, e⟩)
    replace s0 := s0.trans s
    replace c := s _ _ c
    clear s e
    refine ⟨_, rfl, _, rfl, fun a21 H21 s e => ?_⟩
    replace A : Al cl H21 v u [a0, a1, a2, a3, a4, a5, a6, a7, a8, a9, a10, a11, a12, a13, a14, a15, a16, a17, a18, a19, a20, a21] := A.snoc s (.inr ⟨by show 21 < 22; decide, e⟩)
    replace s0 := s0.trans s
    replace c := s _ _ c
    clear s e
    refine fun a22 H22 s e => ?_
    replace A : Al cl H22 v u [a0, a1, a2, a3, a4, a5, a6, a7, a8, a9, a10, a11, a12, a13, a14, a15, a16, a17, a18, a19, a20, a21, a22] := A.snoc s (.inl ⟨rfl, e⟩)
    replace s0 := s0.trans s
    replace c := s _ _ c
    clear s e
    refine ⟨by show 5 ≤ sizeLine; decide, fun l4 hl => ?_⟩
    have sa := same_upd0 (o := .lst [.ref a18, .ref a19, .ref a20, .ref a21, .ref a22]) hl
    refine ⟨m3, l4, _, _, rfl, rfl, sa _ _ c, upd_same, by show 23 ≤ sizeLine; decide, fun m4 hm => ?_⟩
    have sb := sa.trans (same_upd0 (o := .lst ([.ref a0, .ref a1, .ref a2, .ref a3, .ref a4, .ref a5, .ref a6, .ref a7, .ref a8, .ref a9, .ref a10, .ref a11, .ref a12, .ref a13, .ref a14, .ref a15, .ref a16, .ref a17] ++ [.ref a18, .ref a19, .ref a20, .ref a21, .ref a22])) hm)
    replace A := A.same sb
    replace s0 := s0.trans sb
    clear c
    have c : (upd (upd H22 l4 (.lst [.ref a18, .ref a19, .ref a20, .ref a21, .ref a22])) m4 (.lst ([.ref a0, .ref a1, .ref a2, .ref a3, .ref a4, .ref a5, .ref a6, .ref a7, .ref a8, .ref a9, .ref a10, .ref a11, .ref a12, .ref a13, .ref a14, .ref a15, .ref a16, .ref a17] ++ [.ref a18, .ref a19, .ref a20, .ref a21, .ref a22]))) m4 = some (.lst [.ref a0, .ref a1, .ref a2, .ref a3, .ref a4, .ref a5, .ref a6, .ref a7, .ref a8, .ref a9, .ref a10, .ref a11, .ref a12, .ref a13, .ref a14, .ref a15, .ref a16, .ref a17, .ref a18, .ref a19, .ref a20, .ref a21, .ref a22]) := upd_same
    clear sa sb hl hm
    revert c A s0
    generalize upd (upd H22 l4 (.lst [.ref a18, .ref a19, .ref a20, .ref a21, .ref a22])) m4 (.lst ([.ref a0, .ref a1, .ref a2, .ref a3, .ref a4, .ref a5, .ref a6, .ref a7, .ref a8, .ref a9, .ref a10, .ref a11, .ref a12, .ref a13, .ref a14, .ref a15, .ref a16, .ref a17] ++ [.ref a18, .ref a19, .ref a20, .ref a21, .ref a22])) = J4
    intro A s0 c
    exact q _ m4 [a0, a1, a2, a3, a4, a5, a6, a7, a8, a9, a10, a11, a12, a13, a14, a15, a16, a17, a18, a19, a20, a21, a22] s0 rfl c A
end
end K07

namespace K07
open PySem PySem.Spec PyProof.Rows L2 So
abbrev sValue : Stmt := topS 34
theorem scValue : FnScope ["_law_pen_here", "_law_some"] ["_law_pen_here"] (defScope sValue) := ⟨rfl, rfl, rfl, by decide +kernel, rfl, by decide +kernel, by decide +kernel⟩
def okV (d : PyData) : Prop := d.showable = true ∧ d.depth ≤ 10 ∧ d.shown.length ≤ 2000
theorem xs_ok : ∀ n < 99, MulOk ("x" : Str) (n : Nat) := by
  unfold MulOk
  decide +kernel
theorem xs_ch : ∀ n < 99, (Txt.mul ("x" : Str) ((n : Nat) : Int)).length ≤ 99 ∧ ∀ c ∈ (Txt.mul ("x" : Str) ((n : Nat) : Int)).cps.toList, c < 128 := by decide +kernel
theorem xs_len (n : Nat) (h : n < 99) : (reprText (Txt.mul ("x" : Str) ((n : Nat) : Int))).length ≤ 2000 := by
  have h1 := PySem.StrLaws.reprText_len _ (fun c hc => Nat.lt_trans ((xs_ch n h).2 c hc) (by decide))
  have h2 := (xs_ch n h).1
  omega
theorem show_int {i : Int} (h : i.natAbs < 2 ^ 200) : okV (.int i) := by
  have hl : i.natAbs.log2 < 1920 := Nat.lt_of_lt_of_le (PySem.Flt.log2_lt_of (by decide) h) (by decide)
  refine ⟨by simp [PyData.showable, hl], Nat.zero_le _, ?_⟩
  show (Str.ofString (toString i)).length ≤ 2000
  rw [PyProof.Rows.ofString_length]
  exact Nat.le_trans (int_text_length_le (k := 1920) (by decide) hl) (by decide)
section
variable {P : Program} {w : World} {K : PySem.W.Frag} {mg : Str → Option Value} {base : Heap}
def spValue (K : PySem.W.Frag) : Sp := fun vs H Q _ => ∃ (p l : Addr) (ns : List Int) (n : Nat) (g : Int), vs = [.ref p] ∧ Pen H p l ns n g ∧ n < 999000 ∧
  ∀ (v : V) (d : PyData) (n' : Nat) (g' : Int) (H' : Hp), Kp K p H' v d → okV d → n' ≤ n + 3 → Off p H H' → Pen H' p l ns n' g' → Q v H'
theorem offS {p : Addr} {H H' : Hp} (s : Same H H') : Off p H H' := fun b o _ e => s b o e
theorem Pen.same {H H' : Hp} {p l : Addr} {ns : List Int} {n : Nat} {g : Int} (h : Pen H p l ns n g) (s : Same H H') : Pen H' p l ns n g := ⟨s _ _ h.pen, s _ _ h.cells, h.left⟩
theorem Pen.ne {H : Hp} {p l q : Addr} {ns : List Int} {n : Nat} {g : Int} (h : Pen H p l ns n g) (hq : H q = none) : q ≠ p := (ne_of_none h.pen hq).symm
theorem ok_value {f fP fD : Addr} {fd fdP fdD : FuncData} (F : Fun K "_law_value" "_law_value" sValue f fd) (FP : Fun K "_law_pick" "_law_pick" sPick fP fdP) (bP : Binds K fdP ["_law_pen_here", "_law_some"] []) (gP : mg "_law_pick" = some (.ref fP))
    (GP : FnOk P w K mg base CX0 2 fP fdP ["_law_pen_here", "_law_some"] (spPick K)) (FD : Fun K "_law_draw" "_law_draw" sDraw fD fdD) (bD : Binds K fdD ["_law_pen_here", "_law_many"] []) (gD : mg "_law_draw" = some (.ref fD))
    (GD : FnOk P w K mg base CX0 1 fD fdD ["_law_pen_here", "_law_many"] spDraw) : FnOk P w K mg base CX0 3 f fd ["_law_pen_here"] (spValue K) := by
  refine F.ok scValue (fun vs H Q E h => ?_) (fun cdv A outer s H vs Q E hr h => ?_)
  · obtain ⟨p, l, ns, n, g, rfl, _⟩ := h
    rfl
  · obtain ⟨p, l, ns, n, g, rfl, hp, hn, k⟩ := h
    have hr1 : Room 1 _ := hr.mono (by decide)
    refine ⟨_, (pss_cons (ps_set (i := 1) scValue.nd rfl (.inl rfl) (pe_lst (pa_cons pe_non (pa_cons pe_bl (pa_cons pe_bl (pa_cons pe_int (pa_cons (pe_un un_neg pe_int) (pa_cons (pe_op op_pow pe_int pe_int) (pa_cons pe_str (pa_cons pe_str (pa_cons pe_str (pa_cons (pe_tup pa_nil) (pa_cons (pe_tup (pa_cons pe_int (pa_cons pe_str pa_nil))) (pa_cons (pe_lst pa_nil) (pa_cons (pe_lst (pa_cons pe_int (pa_cons (pe_lst (pa_cons pe_int pa_nil)) pa_nil))) (pa_cons pe_dnewK (pa_cons (pe_disp (pps_cons pe_str pe_int pps_nil) rfl rfl (by decide) (by decide)) (pa_cons pe_str pa_nil))))))))))))))))))
      (pss_one (ps_ret (pe_call GP hr (by rfl) gP FP.kp bP .nil pass0 (pa_cons (pv 0) (pa_cons (pe_op op_cat (pv 1) (pe_lst (pa_cons (pe_call GD hr1 (by rfl) gD FD.kp bD .nil pass0 (pa_cons (pv 0) (pa_cons (pe_op op_pow pe_int pe_int) pa_nil))) (pa_cons (pe_op op_mul_str pe_str (pe_call GD hr1 (by rfl) gD FD.kp bD .nil pass0 (pa_cons (pv 0) (pa_cons pe_int pa_nil)))) pa_nil)))) pa_nil)))))), ?_⟩
    refine ⟨_, rfl, _, _, rfl, rfl, ⟨by decide, by decide, by decide⟩, by show 0 ≤ sizeLine; decide, fun t1 h1 => ⟨by show 2 ≤ sizeLine; decide, fun t2 h2 => ⟨by show 0 ≤ sizeLine; decide, fun t3 h3 => ⟨by show 1 ≤ sizeLine; decide, fun t4 h4 => ⟨by show 2 ≤ sizeLine; decide, fun t5 h5 => fun t6 h6 => fun t7 h7 => ⟨upd_same, [(Sum.inr "a", .int 1)], rfl, by decide, by show 16 ≤ sizeLine; decide, fun t8 h8 => ?_⟩⟩⟩⟩⟩⟩
    have u1 := same_upd0 (o := .tup []) h1
    have u2 := same_upd0 (o := .tup [.int 1, .str "a"]) h2
    have u3 := same_upd0 (o := .lst []) h3
    have u4 := same_upd0 (o := .lst [.int 2]) h4
    have u5 := same_upd0 (o := .lst [.int 1, .ref t4]) h5
    have u6 := same_upd0 (o := .dK []) h6
    have n1 := hp.ne h1
    have p1 := hp.same u1
    have n2 := p1.ne h2
    have p2 := p1.same u2
    have n3 := p2.ne h3
    have p3 := p2.same u3
    have n4 := p3.ne h4
    have p4 := p3.same u4
    have n5 := p4.ne h5
    have p5 := p4.same u5
    have n6 := p5.ne h6
    have p6 := p5.same u6
    have n7 := p6.ne h7
    have u7 : Same (upd (upd (upd (upd (upd (upd H t1 (.tup [])) t2 (.tup [.int 1, .str "a"])) t3 (.lst [])) t4 (.lst [.int 2])) t5 (.lst [.int 1, .ref t4])) t6 (.dK [])) (upd (upd (upd (upd (upd (upd (upd (upd H t1 (.tup [])) t2 (.tup [.int 1, .str "a"])) t3 (.lst [])) t4 (.lst [.int 2])) t5 (.lst [.int 1, .ref t4])) t6 (.dK [])) t7 (.dK [])) t7 (.dK (mergeK [] [(Sum.inr "a", .int 1)]))) := fun b o e => by
      have hb : b ≠ t7 := ne_of_none e h7
      rw [upd_ne hb, upd_ne hb]
      exact e
    have p7 := p6.same u7
    have n8 := p7.ne h8
    generalize hxs : [V.non, V.bl true, V.bl false, V.int 0, V.int (-7), V.int ((10 : Int) ^ Int.toNat 30), V.str "", V.str "a", V.str "a b", V.ref t1, V.ref t2, V.ref t3, V.ref t5, V.ref t6, V.ref t7, V.str "begun"] = xs
    have u8 := same_upd0 (o := .lst xs) h8
    have len : xs.length = 16 := by rw [← hxs]; rfl
    have e1 : (upd H t1 (.tup [])) t1 = some (.tup []) := upd_same
    have e2 : (upd (upd H t1 (.tup [])) t2 (.tup [.int 1, .str "a"])) t2 = some (.tup [.int 1, .str "a"]) := upd_same
    have e3 : (upd (upd (upd H t1 (.tup [])) t2 (.tup [.int 1, .str "a"])) t3 (.lst [])) t3 = some (.lst []) := upd_same
    have e4 : (upd (upd (upd (upd H t1 (.tup [])) t2 (.tup [.int 1, .str "a"])) t3 (.lst [])) t4 (.lst [.int 2])) t4 = some (.lst [.int 2]) := upd_same
    have e5 : (upd (upd (upd (upd (upd H t1 (.tup [])) t2 (.tup [.int 1, .str "a"])) t3 (.lst [])) t4 (.lst [.int 2])) t5 (.lst [.int 1, .ref t4])) t5 = some (.lst [.int 1, .ref t4]) := upd_same
    have e6 : (upd (upd (upd (upd (upd (upd H t1 (.tup [])) t2 (.tup [.int 1, .str "a"])) t3 (.lst [])) t4 (.lst [.int 2])) t5 (.lst [.int 1, .ref t4])) t6 (.dK [])) t6 = some (.dK []) := upd_same
    have e7 : (upd (upd (upd (upd (upd (upd (upd (upd H t1 (.tup [])) t2 (.tup [.int 1, .str "a"])) t3 (.lst [])) t4 (.lst [.int 2])) t5 (.lst [.int 1, .ref t4])) t6 (.dK [])) t7 (.dK [])) t7 (.dK (mergeK [] [(Sum.inr "a", .int 1)]))) t7 = some (.dK [(Sum.inr "a", .int 1)]) := upd_same
    replace e6 := u8 _ _ (u7 _ _ e6)
    replace e7 := u8 _ _ e7
    replace e5 := u8 _ _ (u7 _ _ (u6 _ _ e5))
    replace e4 := u8 _ _ (u7 _ _ (u6 _ _ (u5 _ _ e4)))
    replace e3 := u8 _ _ (u7 _ _ (u6 _ _ (u5 _ _ (u4 _ _ e3))))
    replace e2 := u8 _ _ (u7 _ _ (u6 _ _ (u5 _ _ (u4 _ _ (u3 _ _ e2)))))
    replace e1 := u8 _ _ (u7 _ _ (u6 _ _ (u5 _ _ (u4 _ _ (u3 _ _ (u2 _ _ e1))))))
    have sm := ((((((u1.trans u2).trans u3).trans u4).trans u5).trans u6).trans u7).trans u8
    have p8 := p7.same u8
    have hS : (upd (upd (upd (upd (upd (upd (upd (upd (upd H t1 (.tup [])) t2 (.tup [.int 1, .str "a"])) t3 (.lst [])) t4 (.lst [.int 2])) t5 (.lst [.int 1, .ref t4])) t6 (.dK [])) t7 (.dK [])) t7 (.dK (mergeK [] [(Sum.inr "a", .int 1)]))) t8 (.lst xs)) t8 = some (.lst xs) := upd_same
    clear u1 u2 u3 u4 u5 u6 u7 u8 p1 p2 p3 p4 p5 p6 p7 h1 h2 h3 h4 h5 h6 h7 h8
    revert e1 e2 e3 e4 e5 e6 e7 sm p8 hS
    generalize upd (upd (upd (upd (upd (upd (upd (upd (upd H t1 (.tup [])) t2 (.tup [.int 1, .str "a"])) t3 (.lst [])) t4 (.lst [.int 2])) t5 (.lst [.int 1, .ref t4])) t6 (.dK [])) t7 (.dK [])) t7 (.dK (mergeK [] [(Sum.inr "a", .int 1)]))) t8 (.lst xs) = G
    intro e6 e7 e5 e4 e3 e2 e1 sm p8 hS
    have key : ∀ x ∈ xs, ∃ d, Kp K p G x d ∧ okV d := by
      rw [← hxs]
      simp only [List.forall_mem_cons]
      refine ⟨⟨_, .non, rfl, by decide, by decide⟩, ⟨_, .bl true, rfl, by decide, by decide⟩, ⟨_, .bl false, rfl, by decide, by decide⟩, ⟨_, .int _, show_int (by decide)⟩, ⟨_, .int _, show_int (by decide)⟩, ⟨_, .int _, show_int (by decide +kernel)⟩, ⟨_, .str _, rfl, by decide, by decide +kernel⟩, ⟨_, .str _, rfl, by decide, by decide +kernel⟩, ⟨_, .str _, rfl, by decide, by decide +kernel⟩,
        ⟨_, .hole (.tup (SqT.of (by rw [hole_ne n1]; exact e1)) .nil), by decide +kernel, by decide +kernel, by decide +kernel⟩,
        ⟨_, .hole (.tup (SqT.of (by rw [hole_ne n2]; exact e2)) (.cons (.int 1) (.cons (.str "a") .nil))), by decide +kernel, by decide +kernel, by decide +kernel⟩,
        ⟨_, .hole (.lst (SqL.of (by rw [hole_ne n3]; exact e3)) .nil), by decide +kernel, by decide +kernel, by decide +kernel⟩,
        ⟨_, .hole (.lst (SqL.of (by rw [hole_ne n5]; exact e5)) (.cons (.int 1) (.cons (.lst (SqL.of (by rw [hole_ne n4]; exact e4)) (.cons (.int 2) .nil)) .nil))), by decide +kernel, by decide +kernel, by decide +kernel⟩,
        ⟨_, .hole (.dct (by rw [hole_ne n6]; exact e6) .nil), by decide +kernel, by decide +kernel, by decide +kernel⟩,
        ⟨_, .hole (.dct (by rw [hole_ne n7]; exact e7) (.cons (.int 1) .nil)), by decide +kernel, by decide +kernel, by decide +kernel⟩,
        ⟨_, .str _, rfl, by decide, by decide +kernel⟩, fun _ h => nomatch h⟩
    clear hxs e1 e2 e3 e4 e5 e6 e7
    refine ⟨_, rfl, _, rfl, _, rfl, _, _, rfl, rfl, ⟨by decide, by decide, by decide⟩, p, l, ns, n, g, _, rfl, p8, by omega, by decide +kernel, by decide +kernel, fun d1 m1 g1 G1 d1a d1b hm1 off1 pen1 => ?_⟩
    refine ⟨_, rfl, p, l, ns, m1, g1, _, rfl, pen1, by omega, by decide, by decide, fun d2 m2 g2 G2 d2a d2b hm2 off2 pen2 => ?_⟩
    obtain ⟨j, rfl⟩ : ∃ j : Nat, d2 = j := ⟨d2.toNat, by omega⟩
    have hj : j < 99 := by omega
    refine ⟨"x", (j : Int), rfl, rfl, xs_ok j hj, by show 2 ≤ sizeLine; decide, fun q1 w1 => ?_⟩
    have hS2 : G2 t8 = some (.lst xs) := off2 _ _ n8 (off1 _ _ n8 hS)
    have v1 := same_upd0 (o := .lst [.int d1, .str (Txt.mul "x" (j : Int))]) w1
    refine ⟨t8, q1, _, _, rfl, rfl, v1 _ _ hS2, upd_same, by rw [len]; show 18 ≤ sizeLine; decide, fun q2 w2 => ?_⟩
    have v2 := v1.trans (same_upd0 (o := .lst (xs ++ [.int d1, .str (Txt.mul "x" (j : Int))])) w2)
    have nq : q2 ≠ p := (pen2.same v1).ne w2
    have hd1 : d1.natAbs < 2 ^ 200 := by
      have h1 : d1 < (10 : Int) ^ Int.toNat 59 := d1b
      have h2 : ((10 : Int) ^ Int.toNat 59).natAbs < 2 ^ 200 := by decide +kernel
      omega
    refine ⟨p, l, ns, m2, g2, _, rfl, pen2.same v2, by omega, .inl ⟨q2, _, rfl, nq, upd_same, by rw [List.length_append, len]; exact Nat.succ_pos _, by rw [List.length_append, len]; show 18 ≤ 1000; decide, fun v m3 g3 G3 hv hm3 off3 pen3 => ?_⟩⟩
    have fin : ∃ d, Kp K p G3 v d ∧ okV d := by
      rcases List.mem_append.mp hv with h | h
      · obtain ⟨d, a, b⟩ := key v h
        exact ⟨d, (((a.off off1).off off2).same v2).off off3, b⟩
      · rcases List.mem_cons.mp h with h | h
        · subst h
          exact ⟨_, .int _, show_int hd1⟩
        · rw [List.mem_singleton.mp h]
          exact ⟨_, .str _, rfl, Nat.zero_le _, xs_len j hj⟩
    obtain ⟨d, a, b⟩ := fin
    exact k v d m3 g3 G3 a b (by omega) ((((offS sm).trans off1).trans off2).trans ((offS v2).trans off3)) pen3
end
end K07

namespace K07
open PySem PySem.Spec PyProof.Rows L2 So
abbrev sLaw : Stmt := topS 35
abbrev lawN : List Str := ["_law_script", "_law_pen_here", "_law_turn", "_law_first", "_law_later", "_law_fields_here", "_law_some", "_law_spot", "_law_caught", "_law_kept_here", "_law_sign", "_law_k"]
theorem scLaw : FnScope lawN ["_law_script"] (defScope sLaw) := ⟨rfl, rfl, rfl, by decide +kernel, rfl, by decide +kernel, by decide +kernel⟩
theorem scFields : FnScope [] [] (defScope sFields) := ⟨rfl, rfl, rfl, by decide +kernel, rfl, by decide +kernel, by decide +kernel⟩
def sgs : List Str := ["a", "o", "v", "v", "t", "t", "t", "l", "u", "u", "a", "a", "v", "w", "hm", "o", "a", "l", "u", "t", "t", "iw", ""]
def sg (i : Nat) : Str := sgs.getD i ""
theorem fields_split : Txt.split ("a o v v t t t l u u a a v w hm o a l u t t iw " : Str) " " = sgs := by decide +kernel
theorem sgs_at : ∀ i < 23, sgs[i]? = some (sg i) ∧ (sg i).length ≤ 2 := by decide +kernel
theorem cutK (xs : List V) (k : Nat) : cutV xs none (some (k : Int)) = xs.take k := by
  unfold cutV
  rw [HT.sIx_none, show HT.sIx xs.length xs.length (some (k : Int)) = min k xs.length from HT.sIx_nat xs.length xs.length k]
  by_cases h : k ≤ xs.length
  · rw [Nat.min_eq_left h]
    simp
  · rw [Nat.min_eq_right (Nat.le_of_not_le h)]
    simp [List.take_of_length_le (Nat.le_of_not_le h)]
theorem neSame {s : Str} : ¬ ((!decide (V.str s = V.str s)) = true) := by simp
theorem notI {a b : Int} (h : a = b) : ¬ ((!decide (V.int a = V.int b)) = true) := by simp [h]
/-- the sign of an attribute, what it gives -/
theorem sign_gives {K : PySem.W.Frag} {mg : Str → Option Value} {cl : Nat → Addr} (T : Cls K mg cl) (v w : V) : ∀ i < 22, ∀ (j c : Nat), (sg i).cps.toList[j]? = some c →
    ∃ n x, Fld ⟨#[c]⟩ n ∧ PySem.W.findIn K (.ref (cl i)) n = some none ∧ (fsOf i v w).lookup n = some x ∧ ([v, w].take (sg i).length)[j]? = some x := by
  intro i hi j c hc
  match i, hi with
  | 0, _ =>
    have e : (sg 0).cps.toList = [97] := by decide +kernel
    rw [e] at hc
    match j, hc with
    | 0, hc =>
      cases hc
      exact ⟨_, _, .inl ⟨rfl, rfl⟩, T.n0_0, rfl, rfl⟩
    | j + 1, hc => simp at hc
  | 1, _ =>
    have e : (sg 1).cps.toList = [111] := by decide +kernel
    rw [e] at hc
    match j, hc with
    | 0, hc =>
      cases hc
      exact ⟨_, _, .inr (.inl ⟨rfl, rfl⟩), T.n1_0, rfl, rfl⟩
    | j + 1, hc => simp at hc
  | 2, _ =>
    have e : (sg 2).cps.toList = [118] := by decide +kernel
    rw [e] at hc
    match j, hc with
    | 0, hc =>
      cases hc
      exact ⟨_, _, .inr (.inr (.inl ⟨rfl, rfl⟩)), T.n2_0, rfl, rfl⟩
    | j + 1, hc => simp at hc
  | 3, _ =>
    have e : (sg 3).cps.toList = [118] := by decide +kernel
    rw [e] at hc
    match j, hc with
    | 0, hc =>
      cases hc
      exact ⟨_, _, .inr (.inr (.inl ⟨rfl, rfl⟩)), T.n3_0, rfl, rfl⟩
    | j + 1, hc => simp at hc
  | 4, _ =>
    have e : (sg 4).cps.toList = [116] := by decide +kernel
    rw [e] at hc
    match j, hc with
    | 0, hc =>
      cases hc
      exact ⟨_, _, .inr (.inr (.inr (.inl ⟨rfl, rfl⟩))), T.n4_0, rfl, rfl⟩
    | j + 1, hc => simp at hc
  | 5, _ =>
    have e : (sg 5).cps.toList = [116] := by decide +kernel
    rw [e] at hc
    match j, hc with
    | 0, hc =>
      cases hc
      exact ⟨_, _, .inr (.inr (.inr (.inl ⟨rfl, rfl⟩))), T.n5_0, rfl, rfl⟩
    | j + 1, hc => simp at hc
  | 6, _ =>
    have e : (sg 6).cps.toList = [116] := by decide +kernel
    rw [e] at hc
    match j, hc with
    | 0, hc =>
      cases hc
      exact ⟨_, _, .inr (.inr (.inr (.inl ⟨rfl, rfl⟩))), T.n6_0, rfl, rfl⟩
    | j + 1, hc => simp at hc
  | 7, _ =>
    have e : (sg 7).cps.toList = [108] := by decide +kernel
    rw [e] at hc
    match j, hc with
    | 0, hc =>
      cases hc
      exact ⟨_, _, .inr (.inr (.inr (.inr (.inl ⟨rfl, rfl⟩)))), T.n7_0, rfl, rfl⟩
    | j + 1, hc => simp at hc
  | 8, _ =>
    have e : (sg 8).cps.toList = [117] := by decide +kernel
    rw [e] at hc
    match j, hc with
    | 0, hc =>
      cases hc
      exact ⟨_, _, .inr (.inr (.inr (.inr (.inr (.inl ⟨rfl, rfl⟩))))), T.n8_0, rfl, rfl⟩
    | j + 1, hc => simp at hc
  | 9, _ =>
    have e : (sg 9).cps.toList = [117] := by decide +kernel
    rw [e] at hc
    match j, hc with
    | 0, hc =>
      cases hc
      exact ⟨_, _, .inr (.inr (.inr (.inr (.inr (.inl ⟨rfl, rfl⟩))))), T.n9_0, rfl, rfl⟩
    | j + 1, hc => simp at hc
  | 10, _ =>
    have e : (sg 10).cps.toList = [97] := by decide +kernel
    rw [e] at hc
    match j, hc with
    | 0, hc =>
      cases hc
      exact ⟨_, _, .inl ⟨rfl, rfl⟩, T.n10_0, rfl, rfl⟩
    | j + 1, hc => simp at hc
  | 11, _ =>
    have e : (sg 11).cps.toList = [97] := by decide +kernel
    rw [e] at hc
    match j, hc with
    | 0, hc =>
      cases hc
      exact ⟨_, _, .inl ⟨rfl, rfl⟩, T.n11_0, rfl, rfl⟩
    | j + 1, hc => simp at hc
  | 12, _ =>
    have e : (sg 12).cps.toList = [118] := by decide +kernel
    rw [e] at hc
    match j, hc with
    | 0, hc =>
      cases hc
      exact ⟨_, _, .inr (.inr (.inl ⟨rfl, rfl⟩)), T.n12_0, rfl, rfl⟩
    | j + 1, hc => simp at hc
  | 13, _ =>
    have e : (sg 13).cps.toList = [119] := by decide +kernel
    rw [e] at hc
    match j, hc with
    | 0, hc =>
      cases hc
      exact ⟨_, _, .inr (.inr (.inr (.inr (.inr (.inr (.inl ⟨rfl, rfl⟩)))))), T.n13_0, rfl, rfl⟩
    | j + 1, hc => simp at hc
  | 14, _ =>
    have e : (sg 14).cps.toList = [104, 109] := by decide +kernel
    rw [e] at hc
    have eF14 : (fsOf 14 v w).lookup ("what" : Str) = some v := by
      have e : (("what" : Str) == "most") = false := by decide +kernel
      simp [fsOf, List.lookup, e]
    match j, hc with
    | 0, hc =>
      cases hc
      exact ⟨_, _, .inr (.inr (.inr (.inr (.inr (.inr (.inr (.inl ⟨rfl, rfl⟩))))))), T.n14_0, eF14, rfl⟩
    | 1, hc =>
      cases hc
      exact ⟨_, _, .inr (.inr (.inr (.inr (.inr (.inr (.inr (.inr (.inl ⟨rfl, rfl⟩)))))))), T.n14_1, rfl, rfl⟩
    | j + 2, hc => simp at hc
  | 15, _ =>
    have e : (sg 15).cps.toList = [111] := by decide +kernel
    rw [e] at hc
    match j, hc with
    | 0, hc =>
      cases hc
      exact ⟨_, _, .inr (.inl ⟨rfl, rfl⟩), T.n15_0, rfl, rfl⟩
    | j + 1, hc => simp at hc
  | 16, _ =>
    have e : (sg 16).cps.toList = [97] := by decide +kernel
    rw [e] at hc
    match j, hc with
    | 0, hc =>
      cases hc
      exact ⟨_, _, .inl ⟨rfl, rfl⟩, T.n16_0, rfl, rfl⟩
    | j + 1, hc => simp at hc
  | 17, _ =>
    have e : (sg 17).cps.toList = [108] := by decide +kernel
    rw [e] at hc
    match j, hc with
    | 0, hc =>
      cases hc
      exact ⟨_, _, .inr (.inr (.inr (.inr (.inl ⟨rfl, rfl⟩)))), T.n17_0, rfl, rfl⟩
    | j + 1, hc => simp at hc
  | 18, _ =>
    have e : (sg 18).cps.toList = [117] := by decide +kernel
    rw [e] at hc
    match j, hc with
    | 0, hc =>
      cases hc
      exact ⟨_, _, .inr (.inr (.inr (.inr (.inr (.inl ⟨rfl, rfl⟩))))), T.n18_0, rfl, rfl⟩
    | j + 1, hc => simp at hc
  | 19, _ =>
    have e : (sg 19).cps.toList = [116] := by decide +kernel
    rw [e] at hc
    match j, hc with
    | 0, hc =>
      cases hc
      exact ⟨_, _, .inr (.inr (.inr (.inl ⟨rfl, rfl⟩))), T.n19_0, rfl, rfl⟩
    | j + 1, hc => simp at hc
  | 20, _ =>
    have e : (sg 20).cps.toList = [116] := by decide +kernel
    rw [e] at hc
    match j, hc with
    | 0, hc =>
      cases hc
      exact ⟨_, _, .inr (.inr (.inr (.inl ⟨rfl, rfl⟩))), T.n20_0, rfl, rfl⟩
    | j + 1, hc => simp at hc
  | 21, _ =>
    have e : (sg 21).cps.toList = [105, 119] := by decide +kernel
    rw [e] at hc
    have eF21 : (fsOf 21 v w).lookup ("line" : Str) = some v := by
      have e : (("line" : Str) == "word") = false := by decide +kernel
      simp [fsOf, List.lookup, e]
    match j, hc with
    | 0, hc =>
      cases hc
      exact ⟨_, _, .inr (.inr (.inr (.inr (.inr (.inr (.inr (.inr (.inr (⟨rfl, rfl⟩))))))))), T.n21_0, eF21, rfl⟩
    | 1, hc =>
      cases hc
      exact ⟨_, _, .inr (.inr (.inr (.inr (.inr (.inr (.inl ⟨rfl, rfl⟩)))))), T.n21_1, rfl, rfl⟩
    | j + 2, hc => simp at hc
  | i + 22, h => exact absurd h (by omega)
theorem overN {H H1 : Hp} {D : Addr} {o : HO} (s : Same H H1) (h : H D = none) : Same H (upd H1 D o) := fun b u e => by
  rw [upd_ne (ne_of_none e h)]
  exact s b u e
theorem sg22 : (sg 22).cps.toList = [] := by decide +kernel
theorem eqv_bools : ∀ bs : List Bool, PyData.eqv (.list (bs.map PyData.bool)) (.list (bs.map PyData.bool)) = true := by
  intro bs
  simp only [PyData.eqv]
  induction bs with
  | nil => rfl
  | cons b r ih => simp [PyData.eqvAll, PyData.eqv, ih]
theorem dp_bools {K : PySem.W.Frag} {H : Hp} : ∀ bs : List Bool, DpAll K H (bs.map V.bl) (bs.map PyData.bool)
  | [] => .nil
  | b :: r => .cons (.bl b) (dp_bools r)
theorem shaped_bools (bs : List Bool) : SeqAt.shaped (.list (bs.map PyData.bool)) = true := by
  have hd : ∀ bs : List Bool, PyData.depthAll (bs.map PyData.bool) = 0 := fun bs => by
    induction bs with
    | nil => rfl
    | cons b r ih => simp [PyData.depthAll, PyData.depth, ih]
  have hc : ∀ bs : List Bool, PyData.canLayAll0 (bs.map PyData.bool) = true := fun bs => by
    induction bs with
    | nil => rfl
    | cons b r ih => simpa [PyData.canLayAll0, PyData.canLay0] using ih
  unfold SeqAt.shaped
  rw [Bool.and_eq_true]
  refine ⟨?_, decide_eq_true ?_⟩
  · show PyData.canLay0 _ = true
    simp only [PyData.canLay0]
    exact hc bs
  · simp only [PyData.depth, hd]
    decide
theorem marks_bools (i : Nat) : marks i = ((List.range 23).map fun j => decide (i = j)).map V.bl := by
  unfold marks
  rw [List.map_map]
  rfl
/-- the lengths of what repr tells -/
theorem shownAll_map : ∀ ds : List PyData, PyData.shownAll ds = ds.map PyData.shown
  | [] => rfl
  | d :: r => by
    unfold PyData.shownAll
    rw [shownAll_map r]
    rfl
theorem two_ok {dv dw : PyData} (h1 : okV dv) (h2 : okV dw) (k : Nat) : (PyData.list ([dv, dw].take k)).showable = true ∧ (PyData.list ([dv, dw].take k)).depth ≤ 60 ∧ (PyData.list ([dv, dw].take k)).shown.length ≤ sizeLine := by
  obtain ⟨a1, a2, a3⟩ := h1
  obtain ⟨b1, b2, b3⟩ := h2
  have z : ∀ ds : List PyData, (∀ d ∈ ds, d.shown.length ≤ 2000) → ds.length ≤ 2 → (PyData.list ds).shown.length ≤ sizeLine := by
    intro ds h hl
    have h1 := listText_len_le (PyData.shownAll ds)
    have h2 : ((PyData.shownAll ds).map (·.length)).sum ≤ 2000 * ds.length := by
      rw [shownAll_map]
      clear hl h1
      induction ds with
      | nil => simp
      | cons d r ih =>
        have := h d List.mem_cons_self
        have := ih fun x hx => h x (List.mem_cons_of_mem _ hx)
        simp only [List.map_cons, List.sum_cons, List.length_cons]
        omega
    have h3 : (PyData.shownAll ds).length = ds.length := by rw [shownAll_map, List.length_map]
    show (listText (PyData.shownAll ds)).length ≤ sizeLine
    refine Nat.le_trans (show (listText (PyData.shownAll ds)).length ≤ 5000 by omega) (by decide)
  match k with
  | 0 => exact ⟨rfl, by show (PyData.list []).depth ≤ 60; decide, by show (PyData.list []).shown.length ≤ sizeLine; decide +kernel⟩
  | 1 =>
    refine ⟨by simp [PyData.showable, PyData.showableAll, a1], by simp [PyData.depth, PyData.depthAll]; omega, z [dv] (fun d hd => ?_) (by show 1 ≤ 2; decide)⟩
    rw [List.mem_singleton.mp hd]
    exact a3
  | k + 2 =>
    have e : [dv, dw].take (k + 2) = [dv, dw] := by simp
    rw [e]
    refine ⟨by simp [PyData.showable, PyData.showableAll, a1, b1], by simp [PyData.depth, PyData.depthAll]; omega, z [dv, dw] (fun d hd => ?_) (by show 2 ≤ 2; decide)⟩
    rcases List.mem_cons.mp hd with e | hd
    · rw [e]
      exact a3
    · rw [List.mem_singleton.mp hd]
      exact b3
theorem dd_take {K : PySem.W.Frag} {H : Hp} {v w : V} {dv dw : PyData} (h1 : Dd K H v dv) (h2 : Dd K H w dw) : ∀ k : Nat, DdAll K H ([v, w].take k) ([dv, dw].take k)
  | 0 => .nil
  | 1 => .cons h1 .nil
  | k + 2 => by
    simp only [List.take_succ_cons, List.take_nil]
    exact .cons h1 (.cons h2 .nil)
structure Env (K : PySem.W.Frag) (mg : Str → Option Value) (cl : Nat → Addr) (CT : Addr) : Prop where
  T : Cls K mg cl
  rng : mg "range" = none
  rpr : mg "repr" = none
  len : mg "len" = none
  ve : mg "ValueError" = none
  gT : mg "TillError" = some (.ref CT)
  kT : ∀ i, i < 23 → PySem.W.kitOne K (.ref (cl i)) (.ref CT) = some true
  kV : ∀ i, i < 23 → PySem.W.kitOne K (.ref (cl i)) (.type "ValueError") = some true
section
variable {P : Program} {w : World} {K : PySem.W.Frag} {mg : Str → Option Value} {base : Heap}
def spPen (K : PySem.W.Frag) : Sp := fun vs H Q _ => ∃ (a : Addr) (ns : List Int), vs = [.ref a] ∧ SqL K H a (ns.map V.int) ∧ ∀ (H' : Hp) (p l : Addr) (ns' : List Int), Same H H' → Pen H' p l ns' 0 0 → Q (.ref p) H'
theorem ok_pen {f : Addr} {fd : FuncData} (F : Fun K "_law_pen" "_law_pen" sPen f fd) (ml : mg "list" = none) : FnOk P w K mg base CX0 1 f fd ["_law_script"] (spPen K) := by
  refine F.ok scPen (fun vs H Q E h => ?_) (fun cdv A outer s H vs Q E hr h => ?_)
  · obtain ⟨a, ns, rfl, _⟩ := h
    rfl
  · obtain ⟨a, ns, rfl, hS, q⟩ := h
    refine ⟨_, pss_one (ps_ret (pe_lst (pa_cons (pe_callTy call_list_of (by rfl) ml (by decide +kernel) (pa_cons (pe_slice sl_list (pv 0) po_none (po_some pe_int)) pa_nil)) (pa_cons pe_int (pa_cons pe_int pa_nil))))), ?_⟩
    refine ⟨_, rfl, 63, rfl, a, ns.map V.int, rfl, hS, fun c hc => ?_⟩
    rw [show (63 : Int) = ((63 : Nat) : Int) from rfl, cutK, ← List.map_take]
    refine ⟨c, _, rfl, .inl (SqL.of upd_same), fun l hl => ?_⟩
    refine ⟨by show 3 ≤ sizeLine; decide, fun p hp => ?_⟩
    have s1 : Same H (upd (upd (upd H c (.lst ((ns.take 63).map V.int))) l (.lst ((ns.take 63).map V.int))) p (.lst [.ref l, .int 0, .int 0])) := ((same_upd0 hc).trans (same_upd0 hl)).trans (same_upd0 hp)
    have nlp : l ≠ p := fun e => by
      rw [e, upd_same] at hp
      cases hp
    exact q _ p l (ns.take 63) s1 ⟨upd_same, (upd_ne nlp).trans upd_same, Int.le_refl 0⟩
def spFields : Sp := fun vs H Q _ => vs = [] ∧ ∀ (H' : Hp) (q : Addr), Same H H' → H q = none → H' q = some (.lst (sgs.map V.str)) → Q (.ref q) H'
theorem ok_fields {f : Addr} {fd : FuncData} (F : Fun K "_law_fields" "_law_fields" sFields f fd) : FnOk P w K mg base CX0 1 f fd [] spFields := by
  refine F.ok scFields (fun vs H Q E h => ?_) (fun cdv A outer s H vs Q E hr h => ?_)
  · obtain ⟨rfl, _⟩ := h
    rfl
  · obtain ⟨rfl, q⟩ := h
    refine ⟨_, pss_one (ps_ret (pe_bm PySem.F.plainAttrs_str PySem.F.slot_str_split PySem.F.type_str_split mt_split pe_str (pa_cons pe_str pa_nil))), ?_⟩
    refine ⟨rfl, _, _, rfl, rfl, by decide, by decide, fun a ha => ?_⟩
    rw [fields_split]
    exact q _ a (same_upd0 ha) ha upd_same
def spLaw (K : PySem.W.Frag) : Sp := fun vs H Q _ => ∃ (a : Addr) (ns : List Int), vs = [.ref a] ∧ SqL K H a (ns.map V.int) ∧ ∀ H', Q (.bl true) H'
theorem ok_law {cl : Nat → Addr} {CT f fPen fV fF fB fN fK fM : Addr} {fd fdPen fdV fdF fdB fdN fdK fdM : FuncData} (F : Fun K "law" "law" sLaw f fd) (N : Env K mg cl CT)
    (FPen : Fun K "_law_pen" "_law_pen" sPen fPen fdPen) (bPen : Binds K fdPen ["_law_script"] []) (gPen : mg "_law_pen" = some (.ref fPen)) (GPen : FnOk P w K mg base CX0 1 fPen fdPen ["_law_script"] (spPen K))
    (FV : Fun K "_law_value" "_law_value" sValue fV fdV) (bV : Binds K fdV ["_law_pen_here"] []) (gV : mg "_law_value" = some (.ref fV)) (GV : FnOk P w K mg base CX0 3 fV fdV ["_law_pen_here"] (spValue K))
    (FF : Fun K "_law_fields" "_law_fields" sFields fF fdF) (bF : Binds K fdF [] []) (gF : mg "_law_fields" = some (.ref fF)) (GF : FnOk P w K mg base CX0 1 fF fdF [] spFields)
    (FB : Fun K "_law_by_place" "_law_by_place" sPlace fB fdB) (bB : Binds K fdB ["_law_a", "_law_b"] []) (gB : mg "_law_by_place" = some (.ref fB)) (GB : FnOk P w K mg base CX0 3 fB fdB ["_law_a", "_law_b"] (spMade cl))
    (FN : Fun K "_law_by_name" "_law_by_name" sByName fN fdN) (bN : Binds K fdN ["_law_a", "_law_b"] []) (gN : mg "_law_by_name" = some (.ref fN)) (GN : FnOk P w K mg base CX0 3 fN fdN ["_law_a", "_law_b"] (spMade cl))
    (FK : Fun K "_law_kept" "_law_kept" sKept fK fdK) (bK : Binds K fdK ["_law_caught", "_law_sign"] []) (gK : mg "_law_kept" = some (.ref fK)) (GK : FnOk P w K mg base CX0 1 fK fdK ["_law_caught", "_law_sign"] (spKept K))
    (FM : Fun K "_law_marks" "_law_marks" sMarks fM fdM) (bM : Binds K fdM ["_law_caught"] []) (gM : mg "_law_marks" = some (.ref fM)) (GM : FnOk P w K mg base CX0 1 fM fdM ["_law_caught"] (spMarks cl)) :
    FnG P w K mg base CX0 4 f fd ["_law_script"] (spLaw K) := by
  refine fnG_of F scLaw (fun vs H Q E h => ?_) (fun cdv A outer s H vs Q E hg hr h => ?_)
  · obtain ⟨a, ns, rfl, _⟩ := h
    rfl
  · obtain ⟨a, ns, rfl, hS, q⟩ := h
    have hr1 : Room 1 _ := hr.mono (by decide)
    refine ⟨_, (pss_cons (ps_set (i := 1) scLaw.nd rfl (.inl rfl) (pe_call GPen hr1 (by rfl) gPen FPen.kp bPen .nil pass0 (pa_cons (pv 0) pa_nil)))
      (pss_cons (ps_for PassesOwn.never rfl (pi_range1 (by rfl) N.rng (pa_cons pe_int pa_nil)) (pg_name (i := 2) scLaw.nd rfl (Or.inl rfl))
    (pss_cons (ps_par (i := 3) (j := 4) (by rfl) scLaw.nd rfl rfl (by decide) rfl rfl (pa_cons (pe_call GV hr (by rfl) gV FV.kp bV .nil pass0 (pa_cons (pv 1) pa_nil)) (pa_cons (pe_call GV hr (by rfl) gV FV.kp bV .nil pass0 (pa_cons (pv 1) pa_nil)) pa_nil)) (by rfl))
      (pss_cons (ps_set (i := 5) scLaw.nd rfl (.inl rfl) (pe_call0 GF hr1 (by rfl) gF FF.kp bF .nil pass0))
      (pss_one (ps_for PassesOwn.never rfl (pi_tup (pe_tup (pa_cons (pe_call GB hr (by rfl) gB FB.kp bB .nil pass0 (pa_cons (pv 3) (pa_cons (pv 4) pa_nil))) (pa_cons (pe_call GN hr (by rfl) gN FN.kp bN .nil pass0 (pa_cons (pv 3) (pa_cons (pv 4) pa_nil))) pa_nil)))) (pg_name (i := 6) scLaw.nd rfl (Or.inl rfl))
      (pss_cons (ps_if (pt_cmpR op_ne (pe_callB call_len_seq (by rfl) N.len PySem.boot_len (pa_cons (pv 6) pa_nil)) (pe_callB call_len_seq (by rfl) N.len PySem.boot_len (pa_cons (pv 5) pa_nil)) (nomark _)) (pss_one (ps_ret pe_bl)) pss_nil)
      (pss_one (ps_for PassesOwn.never rfl (pi_range1 (by rfl) N.rng (pa_cons (pe_callB call_len_seq (by rfl) N.len PySem.boot_len (pa_cons (pv 6) pa_nil)) pa_nil)) (pg_name (i := 7) scLaw.nd rfl (Or.inr rfl))
        (pss_cons (ps_set (i := 8) scLaw.nd rfl (.inr rfl) (pe_ix ix_list (pv 6) (pv 7) (fun _ _ => rfl)))
      (pss_cons (ps_setLc (i := 9) (own := [("_law_sign", 10)]) (g := gName 10) (tt := tYes) rfl scLaw.nd rfl rfl (sw_true rfl rfl rfl (by decide +kernel)) (pi_str (pe_ix ix_list (pv 5) (pv 7) (fun _ _ => rfl))) (blkOk_by (N := lawN) (sc := defScope sLaw) (by decide +kernel)) (fun _ _ _ _ _ => pg_name (i := 10) scLaw.nd rfl (Or.inl rfl)) (fun _ _ _ _ _ => pts_nil)
          (fun _ _ _ _ _ => (pe_call GK hr1 (by rfl) gK FK.kp bK .nil pass0 (pa_cons (pv 8) (pa_cons (pv 10) pa_nil)))))
      (pss_cons (ps_if (pt_cmpR op_ne (pe_callB (call_reprG hg hr.units) (by rfl) N.rpr (by decide +kernel) (pa_cons (pv 9) pa_nil)) (pe_callB (call_reprG hg hr.units) (by rfl) N.rpr (by decide +kernel) (pa_cons (pe_slice sl_list (pe_lst (pa_cons (pv 3) (pa_cons (pv 4) pa_nil))) po_none (po_some (pe_callB call_len_str (by rfl) N.len PySem.boot_len (pa_cons (pe_ix ix_list (pv 5) (pv 7) (fun _ _ => rfl)) pa_nil)))) pa_nil)) (nomark _)) (pss_one (ps_ret pe_bl)) pss_nil)
      (pss_cons (ps_if (PW.pt (pw_or (pt_not (pt_val (pe_callB call_isE (by rfl) N.T.isi (by decide +kernel) (pa_cons (pv 8) (pa_cons (pe_glob (v := .ref CT) rfl N.gT rfl) pa_nil))))) (pw_or1 (pt_not (pt_val (pe_callB call_isE (by rfl) N.T.isi (by decide +kernel) (pa_cons (pv 8) (pa_cons (pe_bltn (v := .ty "ValueError") (by rfl) N.ve (by decide +kernel) rfl) pa_nil)))))))) (pss_one (ps_ret pe_bl)) pss_nil)
      (pss_one (ps_if (pt_cmpR (op_neD (by have := hr.units; exact this)) (pe_call GM hr1 (by rfl) gM FM.kp bM .nil pass0 (pa_cons (pv 8) pa_nil)) (pe_lc (own := [("_law_k", 11)]) (g := gName 11) (tt := tYes) rfl scLaw.nd (pi_range1 (by rfl) N.rng (pa_cons (pe_callB call_len_seq (by rfl) N.len PySem.boot_len (pa_cons (pv 6) pa_nil)) pa_nil)) (blkOk_by (N := lawN) (sc := defScope sLaw) (by decide +kernel)) (fun _ _ _ _ _ => pg_name (i := 11) scLaw.nd rfl (Or.inl rfl)) (fun _ _ _ _ _ => pts_nil)
          (fun _ _ _ _ _ => pe_cmpR op_eq (pv 11) (pv 7) (nomark _))) (nomark _)) (pss_one (ps_ret pe_bl)) pss_nil))))))))))))))
      (pss_one (ps_ret pe_bl)))), ?_⟩
    refine ⟨_, rfl, a, ns, rfl, hS, fun H1 p l cs s1 pen1 => ?_⟩
    refine ⟨4, rfl, by decide, by decide, for_range (lo := 0) (n := 4) (fun i σ H' => ∃ x2 x3 x4 x5 x6 x7 x8 x9 x10 x11 n' g', σ = [some (.ref a), some (.ref p), x2, x3, x4, x5, x6, x7, x8, x9, x10, x11] ∧ Pen H' p l cs n' g' ∧ n' ≤ 20 * i)
      ⟨none, none, none, none, none, none, none, none, none, none, 0, 0, rfl, pen1, Nat.zero_le _⟩ ?_ ?_⟩
    case refine_2 =>
      rintro σ H2 ⟨x2, x3, x4, x5, x6, x7, x8, x9, x10, x11, n', g', rfl, pen, hn⟩
      exact q _
    rintro i σ H2 hi ⟨x2, x3, x4, x5, x6, x7, x8, x9, x10, x11, n2, g2, rfl, pen2, hn2⟩
    refine ⟨_, rfl, p, l, cs, n2, g2, rfl, pen2, by omega, fun v dv n3 g3 H3 kv3 okv hn3 off3 pen3 => ?_⟩
    refine ⟨_, rfl, p, l, cs, n3, g3, rfl, pen3, by omega, fun w dw n4 g4 H4 kw4 okw hn4 off4 pen4 => ?_⟩
    have kv4 := kv3.off off4
    refine ⟨_, _, rfl, rfl, fun H5 q5 s5 nq5 hq5 => ?_⟩
    have pen5 := pen4.same s5
    have kv5 := kv4.same s5
    have kw5 := kw4.same s5
    clear kv3 kv4 kw4 pen3 pen4 off3 off4 pen2
    refine ⟨_, rfl, _, rfl, v, w, rfl, fun H6 p6 as6 s6 len6 l6 A6 => ⟨_, rfl, _, rfl, v, w, rfl, fun H7 p7 as7 s7 len7 l7 A7 => ⟨by show 2 ≤ sizeLine; decide, fun t8 h8 => ?_⟩⟩⟩
    have s8 := same_upd0 (o := .tup [.ref p6, .ref p7]) h8
    have hT : (upd H7 t8 (.tup [.ref p6, .ref p7])) t8 = some (.tup [.ref p6, .ref p7]) := upd_same
    have hq8 := s8 _ _ (s7 _ _ (s6 _ _ hq5))
    have kv8 := kv5.same ((s6.trans s7).trans s8)
    have kw8 := kw5.same ((s6.trans s7).trans s8)
    have pen8 := pen5.same ((s6.trans s7).trans s8)
    have l6' := s8 _ _ (s7 _ _ l6)
    have l7' := s8 _ _ l7
    have A6' := A6.same (s7.trans s8)
    have A7' := A7.same s8
    clear s5 s6 s7 s8 h8 l6 l7 A6 A7 hq5 kv5 kw5 pen5
    revert hT hq8 kv8 kw8 pen8 l6' l7' A6' A7'
    generalize upd H7 t8 (.tup [.ref p6, .ref p7]) = G
    intro hT hq8 kv8 kw8 pen8 l6 l7 A6 A7
    refine ⟨t8, rfl, ⟨_, SqT.of hT⟩, for_tup (xs := [.ref p6, .ref p7]) (fun j σ' H' => ∃ x6 x7 x8 x9 x10 x11, σ' = [some (.ref a), some (.ref p), some (.int (0 + (i : Int))), some v, some w, some (.ref q5), x6, x7, x8, x9, x10, x11] ∧ Same G H')
      ⟨x6, x7, x8, x9, x10, x11, rfl, Same.refl G⟩ (fun j σ' H' _ h => ?_) ?_ ?_⟩
    · obtain ⟨_, _, _, _, _, _, _, sm⟩ := h
      exact SqT.of (sm _ _ hT)
    case refine_3 =>
      rintro σ' H' ⟨y6, y7, y8, y9, y10, y11, rfl, sm⟩
      exact ⟨_, _, _, _, _, _, _, _, _, _, n4, g4, rfl, pen8.same sm, by omega⟩
    rintro j x σ' H9 hj ⟨y6, y7, y8, y9, y10, y11, rfl, sm9⟩
    obtain ⟨pj, as, rfl, hlen, lj, Aj⟩ : ∃ pj as, x = .ref pj ∧ as.length = 23 ∧ H9 pj = some (.lst (as.map V.ref)) ∧ Al cl H9 v w as := by
      match j, hj with
      | 0, hj =>
        cases hj
        exact ⟨p6, as6, rfl, len6, sm9 _ _ l6, A6.same sm9⟩
      | 1, hj =>
        cases hj
        exact ⟨p7, as7, rfl, len7, sm9 _ _ l7, A7.same sm9⟩
      | j + 2, hj => simp at hj
    have hq9 := sm9 _ _ hq8
    have kv9 := kv8.same sm9
    have kw9 := kw8.same sm9
    have l23 : (as.map V.ref).length = 23 := by rw [List.length_map]; exact hlen
    have s23 : (sgs.map V.str).length = 23 := by decide
    refine ⟨_, rfl, pj, _, rfl, .inl (SqL.of lj), _, rfl, q5, _, rfl, .inl (SqL.of hq9), rfl, _, rfl, ite2 (fun e => absurd e (notI (by rw [l23, s23]))) (fun _ => ?_)⟩
    refine ⟨_, rfl, pj, _, rfl, .inl (SqL.of lj), _, rfl, by omega, by omega, for_range (lo := 0) (n := (((as.map V.ref).length : Nat) : Int).toNat) (fun k σ' H' => ∃ y7 y8 y9 y10 y11, σ' = [some (.ref a), some (.ref p), some (.int (0 + (i : Int))), some v, some w, some (.ref q5), some (.ref pj), y7, y8, y9, y10, y11] ∧ Same H9 H')
      ⟨y7, y8, y9, y10, y11, rfl, Same.refl H9⟩ ?_ ?_⟩
    case refine_2 =>
      rintro σ' H' ⟨z7, z8, z9, z10, z11, rfl, sm⟩
      exact ⟨_, _, _, _, _, _, rfl, sm9.trans sm⟩
    rintro k σ' H10 hk ⟨z7, z8, z9, z10, z11, rfl, sm10⟩
    have hk23 : k < 23 := by omega
    have ek : (0 + (k : Int)) = ((k : Nat) : Int) := Int.zero_add _
    obtain ⟨ak, hak⟩ : ∃ ak, as[k]? = some ak := ⟨as[k]'(by omega), List.getElem?_eq_getElem (by omega)⟩
    have Ek : EO cl H10 ak k v w := (Aj k ak hak).same sm10
    have lj10 := sm10 _ _ lj
    have hq10 := sm10 _ _ hq9
    have kv10 := kv9.same sm10
    have kw10 := kw9.same sm10
    obtain ⟨hsg, hsl⟩ := sgs_at k hk23
    have sgz : (sg k).length ≤ sizeLine := Nat.le_trans hsl (by decide)
    have atS : atI (sgs.map V.str) (0 + (k : Int)) = some (.str (sg k)) := by
      rw [ek]
      refine atI_nat ?_
      rw [List.getElem?_map, hsg]
      rfl
    have atL : atI (as.map V.ref) (0 + (k : Int)) = some (.ref ak) := by
      rw [ek]
      refine atI_nat ?_
      rw [List.getElem?_map, hak]
      rfl
    refine ⟨_, rfl, _, rfl, pj, _, _, _, rfl, rfl, SqL.of lj10, atL, ?_⟩
    refine ⟨_, rfl, _, rfl, q5, _, _, _, rfl, rfl, SqL.of hq10, atS, _, rfl, fun D hD => ?_⟩
    refine lc_it walk_str (fun m H' => H' D = some (.lst (([v, w].take (sg k).length).take m)) ∧ Same H10 H') ⟨upd_same, same_upd0 hD⟩ (fun _ _ _ _ => trivial) ?_ ?_
    · rintro m x H1' H2' hm ⟨hd, sd⟩ ⟨rfl, c, hc, rfl⟩
      have hc2 : (sg k).cps.toList[m]? = some c := by
        rw [Array.getElem?_toList]
        exact hc
      rcases Ek with ⟨e22, _⟩ | ⟨k22, hE⟩
      · subst e22
        rw [sg22] at hc2
        simp at hc2
      obtain ⟨n, x, f1, f2, f3, f4⟩ := sign_gives N.T v w k k22 m c hc2
      refine ⟨rfl, _, rfl, _, rfl, ak, cl k, _, _, n, x, rfl, f1, hE.same sd, N.T.er k hk23, f2, f3, _, hd, ?_, ?_, overN sd hD⟩
      · rw [List.length_take, List.length_take]
        exact Nat.lt_of_le_of_lt (Nat.le_trans (Nat.min_le_right _ _) (Nat.min_le_left _ _)) (Nat.lt_of_le_of_lt hsl (by decide))
      · rw [upd_same, List.take_add_one, f4]
        rfl
    rintro H11 ⟨hD11, s11⟩
    have eT : ([v, w].take (sg k).length).take (sg k).cps.size = [v, w].take (sg k).length := List.take_of_length_le (by rw [List.length_take]; exact Nat.min_le_left _ _)
    rw [eT] at hD11
    have kv11 := (kv10.same s11).dd
    have kw11 := (kw10.same s11).dd
    obtain ⟨o1, o2, o3⟩ := two_ok okv okw (sg k).length
    refine ⟨_, rfl, _, _, rfl, .lst (SqL.of hD11) (dd_take kv11 kw11 _), o1, o2, o3, ?_⟩
    refine ⟨_, rfl, _, rfl, by show 2 ≤ sizeLine; decide, fun l12 h12 => ?_⟩
    have s12 := same_upd0 (o := .lst [v, w]) h12
    refine ⟨_, rfl, _, rfl, q5, _, _, _, rfl, rfl, SqL.of (s12 _ _ (s11 _ _ hq10)), atS, _, rfl, sgz, _, rfl, l12, _, rfl, SqL.of upd_same, fun l13 h13 => ?_⟩
    rw [cutK]
    have s13 := s12.trans (same_upd0 (o := .lst ([v, w].take (sg k).length)) h13)
    refine ⟨_, _, rfl, .lst (SqL.of upd_same) (dd_take (Dd.same (fun b o e => s13 b o e) kv11) (Dd.same (fun b o e => s13 b o e) kw11) _), o1, o2, o3, rfl, _, rfl, ite2 (fun e => absurd e neSame) (fun _ => ?_)⟩
    have I13 : IsE (upd (upd H11 l12 (.lst [v, w])) l13 (.lst ([v, w].take (sg k).length))) ak (cl k) := (Ek.isE.same s11).same s13
    have s14 : Same H10 (upd (upd H11 l12 (.lst [v, w])) l13 (.lst ([v, w].take (sg k).length))) := s11.trans s13
    clear s12 s13 h12 h13 kv11 kw11 hD11 s11
    revert I13 s14
    generalize upd (upd H11 l12 (.lst [v, w])) l13 (.lst ([v, w].take (sg k).length)) = G14
    intro I14 s14
    refine ⟨_, rfl, ak, cl k, _, _, true, rfl, I14, N.T.er k hk23, .own CT, N.kT k hk23, _, rfl, iteF ?_⟩
    refine ⟨_, rfl, ak, cl k, _, _, true, rfl, I14, N.T.er k hk23, .ty "ValueError", N.kV k hk23, _, rfl, iteF ?_⟩
    refine ⟨_, rfl, ak, k, rfl, hk23, I14, fun H15 m15 s15 h15 => ?_⟩
    have lj15 := s15 _ _ (s14 _ _ lj10)
    refine ⟨_, rfl, pj, _, rfl, .inl (SqL.of lj15), _, rfl, by omega, by omega, fun D2 hD2 => ?_⟩
    refine lc_it (walk_range (lo := 0) (n := (((as.map V.ref).length : Nat) : Int).toNat)) (fun m H' => H' D2 = some (.lst (((List.range m).map fun j => decide (k = j)).map V.bl)) ∧ Same H15 H') ⟨upd_same, same_upd0 hD2⟩ (fun _ _ _ _ => trivial) ?_ ?_
    · rintro m x H1' H2' hm ⟨hd, sd⟩ ⟨rfl, rfl⟩
      refine ⟨rfl, _, rfl, _, rfl, rfl, _, hd, ?_, ?_, overN sd hD2⟩
      · rw [List.length_map, List.length_map, List.length_range]
        exact Nat.lt_of_lt_of_le (show m < 23 by omega) (by decide)
      · have e : decide (V.int (0 + (m : Int)) = V.int (0 + (k : Int))) = decide (k = m) := by
          by_cases z : k = m
          · simp [z]
          · have : ¬ (V.int (0 + (m : Int)) = V.int (0 + (k : Int))) := fun y => z (by injection y with y; omega)
            rw [decide_eq_false this, decide_eq_false z]
        rw [upd_same, e, List.range_succ, List.map_append, List.map_append]
        rfl
    rintro H16 ⟨h16, s16⟩
    have e23 : (((as.map V.ref).length : Nat) : Int).toNat = 23 := by omega
    rw [e23] at h16
    have hm16 := s16 _ _ h15
    rw [marks_bools] at hm16
    refine ⟨_, _, .lst (SqL.of hm16) (dp_bools _), .lst (SqL.of h16) (dp_bools _), shaped_bools _, shaped_bools _, _, rfl, ?_⟩
    rw [eqv_bools]
    refine iteF ?_
    exact ⟨_, _, _, _, _, rfl, ((sm10.trans s14).trans s15).trans s16⟩
end
end K07

namespace K07
open PySem PySem.Spec PyProof.Rows L2 So
theorem mro_exc {K : PySem.W.Frag} {D N : Addr} {nm q : Str} {bs bm sub : List Value} {sn : List Str} {hd ab : Bool} {col : Option Bool} {dd : Option Addr} {m0 m1 m2 m3 m5 : Option Value} {nw : String}
    (x : K.lookup D = some (excClassObj nm q D N bs bm hd sn sub ab col dd m0 m1 m2 m3 m5 nw)) (b : Value) : PySem.W.subIn K (.ref D) b = some ((Value.ref D :: bm).contains b) := by
  show PySem.W.mroIn K D b = _
  unfold PySem.W.mroIn PySem.W.clsIn
  rw [x]
  rfl
theorem type_exc {K : PySem.W.Frag} {D N : Addr} {nm q : Str} {bs bm sub : List Value} {sn : List Str} {hd ab : Bool} {col : Option Bool} {dd : Option Addr} {m0 m1 m2 m3 m5 : Option Value} {nw : String}
    (x : K.lookup D = some (excClassObj nm q D N bs bm hd sn sub ab col dd m0 m1 m2 m3 m5 nw)) : PySem.W.typeIn K (.ref D) = some (.type "type") ∧ PySem.W.isClsIn K D = true := by
  refine ⟨?_, ?_⟩
  · show (K.lookup D).map (·.cls) = _
    rw [x]
    rfl
  · unfold PySem.W.isClsIn PySem.W.clsIn
    rw [x]
    rfl
theorem kit_own {K : PySem.W.Frag} {D C : Addr} {b : Bool} (hc : PySem.W.isClsIn K C = true) (ht : PySem.W.typeIn K (.ref C) = some (.type "type")) (hs : PySem.W.subIn K (.ref D) (.ref C) = some b) (self : PySem.W.subIn K (.ref C) (.ref C) = some true) : PySem.W.kitOne K (.ref D) (.ref C) = some b := by
  by_cases e : D = C
  · subst e
    rw [self] at hs
    rw [kit_self, hs]
  · unfold PySem.W.kitOne PySem.W.kitCls
    unfold PySem.W.isClsIn at hc
    simp [hc, ht, hs, e]
theorem kit_VE {K : PySem.W.Frag} {D : Addr} (h : PySem.W.subIn K (.ref D) (.type "ValueError") = some true) : PySem.W.kitOne K (.ref D) (.type "ValueError") = some true := by
  unfold PySem.W.kitOne PySem.W.kitCls
  have e : PySem.W.kitMeta "ValueError" = true := by decide +kernel
  simp [h, e]
theorem sub_ref {D CT C : Addr} : (Value.ref D :: [.ref CT, .type "ValueError", .type "Exception", .type "BaseException", .type "object"]).contains (.ref C) = (decide (C = D) || decide (C = CT)) := by
  by_cases h1 : C = D <;> by_cases h2 : C = CT <;> simp [h1, h2]
theorem sub_ve {D CT : Addr} : (Value.ref D :: [.ref CT, .type "ValueError", .type "Exception", .type "BaseException", .type "object"]).contains (.type "ValueError") = true := by simp
theorem sub_be {D CT : Addr} : (Value.ref D :: [.ref CT, .type "ValueError", .type "Exception", .type "BaseException", .type "object"]).contains (.type "BaseException") = true := by simp
theorem sub_ob {D CT : Addr} : (Value.ref D :: [.ref CT, .type "ValueError", .type "Exception", .type "BaseException", .type "object"]).contains (.type "object") = true := by simp
theorem all_mk {l : PySem.W.OpenLaw} {w : World} {K : PySem.W.Frag} {h : Heap} {mg : Str → Option Value} {fa CT fpen fdraw fpick fplace fbyname ffields fkept fmarks fvalue flaw C0 C1 C2 C3 C4 C5 C6 C7 C8 C9 C10 C11 C12 C13 C14 C15 C16 C17 C18 C19 C20 C21 C22 fe0 fe1 fe2 fe3 fe4 fe5 fe6 fe7 fe8 fe9 fe10 fe11 fe12 fe13 fe14 fe15 fe16 fe17 fe18 fe19 fe20 fe21 : Addr} (X : K.In h) (G : h.Ns mainGlobals mg) (hfa : mg "law" = some (.ref fa))
    {odpen anpen oddraw andraw odpick anpick odplace anplace odbyname anbyname odfields anfields odkept ankept odmarks anmarks odvalue anvalue odlaw anlaw ode0 ane0 ode1 ane1 ode2 ane2 ode3 ane3 ode4 ane4 ode5 ane5 ode6 ane6 ode7 ane7 ode8 ane8 ode9 ane9 ode10 ane10 ode11 ane11 ode12 ane12 ode13 ane13 ode14 ane14 ode15 ane15 ode16 ane16 ode17 ane17 ode18 ane18 ode19 ane19 ode20 ane20 ode21 ane21 : Option Addr} {slpen sldraw slpick slplace slbyname slfields slkept slmarks slvalue sllaw sle0 sle1 sle2 sle3 sle4 sle5 sle6 sle7 sle8 sle9 sle10 sle11 sle12 sle13 sle14 sle15 sle16 sle17 sle18 sle19 sle20 sle21 : Array (Option Value)} {ocpen kVpen dcpen pmpen ctpen cdpen ocdraw kVdraw dcdraw pmdraw ctdraw cddraw ocpick kVpick dcpick pmpick ctpick cdpick ocplace kVplace dcplace pmplace ctplace cdplace ocbyname kVbyname dcbyname pmbyname ctbyname cdbyname ocfields kVfields dcfields pmfields ctfields cdfields ockept kVkept dckept pmkept ctkept cdkept ocmarks kVmarks dcmarks pmmarks ctmarks cdmarks ocvalue kVvalue dcvalue pmvalue ctvalue cdvalue oclaw kVlaw dclaw pmlaw ctlaw cdlaw oce0 kVe0 dce0 pme0 cte0 cde0 oce1 kVe1 dce1 pme1 cte1 cde1 oce2 kVe2 dce2 pme2 cte2 cde2 oce3 kVe3 dce3 pme3 cte3 cde3 oce4 kVe4 dce4 pme4 cte4 cde4 oce5 kVe5 dce5 pme5 cte5 cde5 oce6 kVe6 dce6 pme6 cte6 cde6 oce7 kVe7 dce7 pme7 cte7 cde7 oce8 kVe8 dce8 pme8 cte8 cde8 oce9 kVe9 dce9 pme9 cte9 cde9 oce10 kVe10 dce10 pme10 cte10 cde10 oce11 kVe11 dce11 pme11 cte11 cde11 oce12 kVe12 dce12 pme12 cte12 cde12 oce13 kVe13 dce13 pme13 cte13 cde13 oce14 kVe14 dce14 pme14 cte14 cde14 oce15 kVe15 dce15 pme15 cte15 cde15 oce16 kVe16 dce16 pme16 cte16 cde16 oce17 kVe17 dce17 pme17 cte17 cde17 oce18 kVe18 dce18 pme18 cte18 cde18 oce19 kVe19 dce19 pme19 cte19 cde19 oce20 kVe20 dce20 pme20 cte20 cde20 oce21 kVe21 dce21 pme21 cte21 cde21 : Value} {nm0 q0 : Str} {N0 : Addr} {bs0 sub0 : List Value} {sn0 : List Str} {ab0 : Bool} {col0 : Option Bool} {dd0 : Option Addr} {m00 m10 m20 m30 m50 : Option Value} {nm1 q1 : Str} {N1 : Addr} {bs1 sub1 : List Value} {sn1 : List Str} {ab1 : Bool} {col1 : Option Bool} {dd1 : Option Addr} {m01 m11 m21 m31 m51 : Option Value} {nm2 q2 : Str} {N2 : Addr} {bs2 sub2 : List Value} {sn2 : List Str} {ab2 : Bool} {col2 : Option Bool} {dd2 : Option Addr} {m02 m12 m22 m32 m52 : Option Value} {nm3 q3 : Str} {N3 : Addr} {bs3 sub3 : List Value} {sn3 : List Str} {ab3 : Bool} {col3 : Option Bool} {dd3 : Option Addr} {m03 m13 m23 m33 m53 : Option Value} {nm4 q4 : Str} {N4 : Addr} {bs4 sub4 : List Value} {sn4 : List Str} {ab4 : Bool} {col4 : Option Bool} {dd4 : Option Addr} {m04 m14 m24 m34 m54 : Option Value} {nm5 q5 : Str} {N5 : Addr} {bs5 sub5 : List Value} {sn5 : List Str} {ab5 : Bool} {col5 : Option Bool} {dd5 : Option Addr} {m05 m15 m25 m35 m55 : Option Value} {nm6 q6 : Str} {N6 : Addr} {bs6 sub6 : List Value} {sn6 : List Str} {ab6 : Bool} {col6 : Option Bool} {dd6 : Option Addr} {m06 m16 m26 m36 m56 : Option Value} {nm7 q7 : Str} {N7 : Addr} {bs7 sub7 : List Value} {sn7 : List Str} {ab7 : Bool} {col7 : Option Bool} {dd7 : Option Addr} {m07 m17 m27 m37 m57 : Option Value} {nm8 q8 : Str} {N8 : Addr} {bs8 sub8 : List Value} {sn8 : List Str} {ab8 : Bool} {col8 : Option Bool} {dd8 : Option Addr} {m08 m18 m28 m38 m58 : Option Value} {nm9 q9 : Str} {N9 : Addr} {bs9 sub9 : List Value} {sn9 : List Str} {ab9 : Bool} {col9 : Option Bool} {dd9 : Option Addr} {m09 m19 m29 m39 m59 : Option Value} {nm10 q10 : Str} {N10 : Addr} {bs10 sub10 : List Value} {sn10 : List Str} {ab10 : Bool} {col10 : Option Bool} {dd10 : Option Addr} {m010 m110 m210 m310 m510 : Option Value} {nm11 q11 : Str} {N11 : Addr} {bs11 sub11 : List Value} {sn11 : List Str} {ab11 : Bool} {col11 : Option Bool} {dd11 : Option Addr} {m011 m111 m211 m311 m511 : Option Value} {nm12 q12 : Str} {N12 : Addr} {bs12 sub12 : List Value} {sn12 : List Str} {ab12 : Bool} {col12 : Option Bool} {dd12 : Option Addr} {m012 m112 m212 m312 m512 : Option Value} {nm13 q13 : Str} {N13 : Addr} {bs13 sub13 : List Value} {sn13 : List Str} {ab13 : Bool} {col13 : Option Bool} {dd13 : Option Addr} {m013 m113 m213 m313 m513 : Option Value} {nm14 q14 : Str} {N14 : Addr} {bs14 sub14 : List Value} {sn14 : List Str} {ab14 : Bool} {col14 : Option Bool} {dd14 : Option Addr} {m014 m114 m214 m314 m514 : Option Value} {nm15 q15 : Str} {N15 : Addr} {bs15 sub15 : List Value} {sn15 : List Str} {ab15 : Bool} {col15 : Option Bool} {dd15 : Option Addr} {m015 m115 m215 m315 m515 : Option Value} {nm16 q16 : Str} {N16 : Addr} {bs16 sub16 : List Value} {sn16 : List Str} {ab16 : Bool} {col16 : Option Bool} {dd16 : Option Addr} {m016 m116 m216 m316 m516 : Option Value} {nm17 q17 : Str} {N17 : Addr} {bs17 sub17 : List Value} {sn17 : List Str} {ab17 : Bool} {col17 : Option Bool} {dd17 : Option Addr} {m017 m117 m217 m317 m517 : Option Value} {nm18 q18 : Str} {N18 : Addr} {bs18 sub18 : List Value} {sn18 : List Str} {ab18 : Bool} {col18 : Option Bool} {dd18 : Option Addr} {m018 m118 m218 m318 m518 : Option Value} {nm19 q19 : Str} {N19 : Addr} {bs19 sub19 : List Value} {sn19 : List Str} {ab19 : Bool} {col19 : Option Bool} {dd19 : Option Addr} {m019 m119 m219 m319 m519 : Option Value} {nm20 q20 : Str} {N20 : Addr} {bs20 sub20 : List Value} {sn20 : List Str} {ab20 : Bool} {col20 : Option Bool} {dd20 : Option Addr} {m020 m120 m220 m320 m520 : Option Value} {nm21 q21 : Str} {N21 : Addr} {bs21 sub21 : List Value} {sn21 : List Str} {ab21 : Bool} {col21 : Option Bool} {dd21 : Option Addr} {m021 m121 m221 m321 m521 : Option Value} {nm22 q22 : Str} {N22 : Addr} {bs22 sub22 : List Value} {sn22 : List Str} {ab22 : Bool} {col22 : Option Bool} {dd22 : Option Addr} {m022 m122 m222 m322 m522 : Option Value} {hx22 : Bool} 
    (apen : PySem.W.nsIn K mainGlobals "_law_pen" = some (some (.ref fpen)))
    (lpen : K.lookup fpen = some ⟨ocpen, odpen, .func (PySem.W.fnOf "_law_pen" "_law_pen" (defArgs sPen) (defBody sPen) (defScope sPen) .none kVpen dcpen pmpen anpen cdpen ctpen), slpen⟩)
    (cpen : PySem.W.codeIn K cdpen "_law_pen" = true)
    (kpen : PySem.W.keepIn K (.ref fpen) = true)
    (adraw : PySem.W.nsIn K mainGlobals "_law_draw" = some (some (.ref fdraw)))
    (ldraw : K.lookup fdraw = some ⟨ocdraw, oddraw, .func (PySem.W.fnOf "_law_draw" "_law_draw" (defArgs sDraw) (defBody sDraw) (defScope sDraw) .none kVdraw dcdraw pmdraw andraw cddraw ctdraw), sldraw⟩)
    (cdraw : PySem.W.codeIn K cddraw "_law_draw" = true)
    (kdraw : PySem.W.keepIn K (.ref fdraw) = true)
    (apick : PySem.W.nsIn K mainGlobals "_law_pick" = some (some (.ref fpick)))
    (lpick : K.lookup fpick = some ⟨ocpick, odpick, .func (PySem.W.fnOf "_law_pick" "_law_pick" (defArgs sPick) (defBody sPick) (defScope sPick) .none kVpick dcpick pmpick anpick cdpick ctpick), slpick⟩)
    (cpick : PySem.W.codeIn K cdpick "_law_pick" = true)
    (kpick : PySem.W.keepIn K (.ref fpick) = true)
    (aplace : PySem.W.nsIn K mainGlobals "_law_by_place" = some (some (.ref fplace)))
    (lplace : K.lookup fplace = some ⟨ocplace, odplace, .func (PySem.W.fnOf "_law_by_place" "_law_by_place" (defArgs sPlace) (defBody sPlace) (defScope sPlace) .none kVplace dcplace pmplace anplace cdplace ctplace), slplace⟩)
    (cplace : PySem.W.codeIn K cdplace "_law_by_place" = true)
    (kplace : PySem.W.keepIn K (.ref fplace) = true)
    (abyname : PySem.W.nsIn K mainGlobals "_law_by_name" = some (some (.ref fbyname)))
    (lbyname : K.lookup fbyname = some ⟨ocbyname, odbyname, .func (PySem.W.fnOf "_law_by_name" "_law_by_name" (defArgs sByName) (defBody sByName) (defScope sByName) .none kVbyname dcbyname pmbyname anbyname cdbyname ctbyname), slbyname⟩)
    (cbyname : PySem.W.codeIn K cdbyname "_law_by_name" = true)
    (kbyname : PySem.W.keepIn K (.ref fbyname) = true)
    (afields : PySem.W.nsIn K mainGlobals "_law_fields" = some (some (.ref ffields)))
    (lfields : K.lookup ffields = some ⟨ocfields, odfields, .func (PySem.W.fnOf "_law_fields" "_law_fields" (defArgs sFields) (defBody sFields) (defScope sFields) .none kVfields dcfields pmfields anfields cdfields ctfields), slfields⟩)
    (cfields : PySem.W.codeIn K cdfields "_law_fields" = true)
    (kfields : PySem.W.keepIn K (.ref ffields) = true)
    (akept : PySem.W.nsIn K mainGlobals "_law_kept" = some (some (.ref fkept)))
    (lkept : K.lookup fkept = some ⟨ockept, odkept, .func (PySem.W.fnOf "_law_kept" "_law_kept" (defArgs sKept) (defBody sKept) (defScope sKept) .none kVkept dckept pmkept ankept cdkept ctkept), slkept⟩)
    (ckept : PySem.W.codeIn K cdkept "_law_kept" = true)
    (kkept : PySem.W.keepIn K (.ref fkept) = true)
    (amarks : PySem.W.nsIn K mainGlobals "_law_marks" = some (some (.ref fmarks)))
    (lmarks : K.lookup fmarks = some ⟨ocmarks, odmarks, .func (PySem.W.fnOf "_law_marks" "_law_marks" (defArgs sMarks) (defBody sMarks) (defScope sMarks) .none kVmarks dcmarks pmmarks anmarks cdmarks ctmarks), slmarks⟩)
    (cmarks : PySem.W.codeIn K cdmarks "_law_marks" = true)
    (kmarks : PySem.W.keepIn K (.ref fmarks) = true)
    (avalue : PySem.W.nsIn K mainGlobals "_law_value" = some (some (.ref fvalue)))
    (lvalue : K.lookup fvalue = some ⟨ocvalue, odvalue, .func (PySem.W.fnOf "_law_value" "_law_value" (defArgs sValue) (defBody sValue) (defScope sValue) .none kVvalue dcvalue pmvalue anvalue cdvalue ctvalue), slvalue⟩)
    (cvalue : PySem.W.codeIn K cdvalue "_law_value" = true)
    (kvalue : PySem.W.keepIn K (.ref fvalue) = true)
    (alaw : PySem.W.nsIn K mainGlobals "law" = some (some (.ref flaw)))
    (llaw : K.lookup flaw = some ⟨oclaw, odlaw, .func (PySem.W.fnOf "law" "law" (defArgs sLaw) (defBody sLaw) (defScope sLaw) .none kVlaw dclaw pmlaw anlaw cdlaw ctlaw), sllaw⟩)
    (claw : PySem.W.codeIn K cdlaw "law" = true)
    (klaw : PySem.W.keepIn K (.ref flaw) = true)
    (b_isinstance : PySem.W.nsIn K mainGlobals "isinstance" = some none)
    (b_int : PySem.W.nsIn K mainGlobals "int" = some none)
    (b_len : PySem.W.nsIn K mainGlobals "len" = some none)
    (b_abs : PySem.W.nsIn K mainGlobals "abs" = some none)
    (b_range : PySem.W.nsIn K mainGlobals "range" = some none)
    (b_repr : PySem.W.nsIn K mainGlobals "repr" = some none)
    (b_list : PySem.W.nsIn K mainGlobals "list" = some none)
    (b_ValueError : PySem.W.nsIn K mainGlobals "ValueError" = some none)
    (aT : PySem.W.nsIn K mainGlobals "TillError" = some (some (.ref CT)))
    (iT : PySem.W.isClsIn K CT = true)
    (tT : PySem.W.typeIn K (.ref CT) = some (.type "type"))
    (sT : PySem.W.subIn K (.ref CT) (.ref CT) = some true)
    (thn : PySem.W.specialIn K (.builtin "object.__class__") "__get__" = some (some (.builtin "getset_descriptor.__get__")))
    (tht : PySem.W.takesIn K (.builtin "object.__class__") = some true)
    (a0 : PySem.W.nsIn K mainGlobals "BadName" = some (some (.ref C0)))
    (a1 : PySem.W.nsIn K mainGlobals "BadMoment" = some (some (.ref C1)))
    (a2 : PySem.W.nsIn K mainGlobals "BadSaying" = some (some (.ref C2)))
    (a3 : PySem.W.nsIn K mainGlobals "BadPoint" = some (some (.ref C3)))
    (a4 : PySem.W.nsIn K mainGlobals "BadRow" = some (some (.ref C4)))
    (a5 : PySem.W.nsIn K mainGlobals "BadTurn" = some (some (.ref C5)))
    (a6 : PySem.W.nsIn K mainGlobals "BadTurns" = some (some (.ref C6)))
    (a7 : PySem.W.nsIn K mainGlobals "NoTool" = some (some (.ref C7)))
    (a8 : PySem.W.nsIn K mainGlobals "NoRow" = some (some (.ref C8)))
    (a9 : PySem.W.nsIn K mainGlobals "NoDeed" = some (some (.ref C9)))
    (a10 : PySem.W.nsIn K mainGlobals "NoRecord" = some (some (.ref C10)))
    (a11 : PySem.W.nsIn K mainGlobals "NoLot" = some (some (.ref C11)))
    (a12 : PySem.W.nsIn K mainGlobals "NoLife" = some (some (.ref C12)))
    (a13 : PySem.W.nsIn K mainGlobals "NoEvidence" = some (some (.ref C13)))
    (a14 : PySem.W.nsIn K mainGlobals "TooMany" = some (some (.ref C14)))
    (a15 : PySem.W.nsIn K mainGlobals "Later" = some (some (.ref C15)))
    (a16 : PySem.W.nsIn K mainGlobals "Clash" = some (some (.ref C16)))
    (a17 : PySem.W.nsIn K mainGlobals "Unlike" = some (some (.ref C17)))
    (a18 : PySem.W.nsIn K mainGlobals "Contradicted" = some (some (.ref C18)))
    (a19 : PySem.W.nsIn K mainGlobals "BadChain" = some (some (.ref C19)))
    (a20 : PySem.W.nsIn K mainGlobals "BadEntry" = some (some (.ref C20)))
    (a21 : PySem.W.nsIn K mainGlobals "BadText" = some (some (.ref C21)))
    (a22 : PySem.W.nsIn K mainGlobals "NoLine" = some (some (.ref C22)))
    (x0 : K.lookup C0 = some (excClassObj nm0 q0 C0 N0 bs0 [.ref CT, .type "ValueError", .type "Exception", .type "BaseException", .type "object"] true sn0 sub0 ab0 col0 dd0 m00 m10 m20 m30 m50 "ValueError.__new__"))
    (ge0 : PySem.W.findIn K (.ref C0) "__getattribute__" = some (some (.builtin "BaseException.__getattribute__")))
    (he0 : PySem.W.findIn K (.ref C0) "__getattr__" = some none)
    (kke0 : PySem.W.keepIn K (.ref C0) = true)
    (hde0 : PySem.W.hasDictIn K C0 = true)
    (cae0 : PySem.W.findIn K (.ref C0) "__class__" = some (some (.builtin "object.__class__")))
    (se0 : PySem.W.findIn K (.ref C0) "__setattr__" = some (some (.builtin "object.__setattr__")))
    (n0e0 : PySem.W.findIn K (.ref C0) "name" = some none)
    (ae0 : PySem.W.findIn K (.ref C0) "__init__" = some (some (.ref fe0)))
    (te0 : PySem.W.typeIn K (.ref fe0) = some (.type "function"))
    (le0 : K.lookup fe0 = some ⟨oce0, ode0, .func (PySem.W.fnOf "__init__" "BadName.__init__" (defArgs sE0) (defBody sE0) (defScope sE0) .none kVe0 dce0 pme0 ane0 cde0 cte0), sle0⟩)
    (ce0 : PySem.W.codeIn K cde0 "BadName.__init__" = true)
    (ke0 : PySem.W.keepIn K (.ref fe0) = true)
    (x1 : K.lookup C1 = some (excClassObj nm1 q1 C1 N1 bs1 [.ref CT, .type "ValueError", .type "Exception", .type "BaseException", .type "object"] true sn1 sub1 ab1 col1 dd1 m01 m11 m21 m31 m51 "ValueError.__new__"))
    (ge1 : PySem.W.findIn K (.ref C1) "__getattribute__" = some (some (.builtin "BaseException.__getattribute__")))
    (he1 : PySem.W.findIn K (.ref C1) "__getattr__" = some none)
    (kke1 : PySem.W.keepIn K (.ref C1) = true)
    (hde1 : PySem.W.hasDictIn K C1 = true)
    (cae1 : PySem.W.findIn K (.ref C1) "__class__" = some (some (.builtin "object.__class__")))
    (se1 : PySem.W.findIn K (.ref C1) "__setattr__" = some (some (.builtin "object.__setattr__")))
    (n0e1 : PySem.W.findIn K (.ref C1) "moment" = some none)
    (ae1 : PySem.W.findIn K (.ref C1) "__init__" = some (some (.ref fe1)))
    (te1 : PySem.W.typeIn K (.ref fe1) = some (.type "function"))
    (le1 : K.lookup fe1 = some ⟨oce1, ode1, .func (PySem.W.fnOf "__init__" "BadMoment.__init__" (defArgs sE1) (defBody sE1) (defScope sE1) .none kVe1 dce1 pme1 ane1 cde1 cte1), sle1⟩)
    (ce1 : PySem.W.codeIn K cde1 "BadMoment.__init__" = true)
    (ke1 : PySem.W.keepIn K (.ref fe1) = true)
    (x2 : K.lookup C2 = some (excClassObj nm2 q2 C2 N2 bs2 [.ref CT, .type "ValueError", .type "Exception", .type "BaseException", .type "object"] true sn2 sub2 ab2 col2 dd2 m02 m12 m22 m32 m52 "ValueError.__new__"))
    (ge2 : PySem.W.findIn K (.ref C2) "__getattribute__" = some (some (.builtin "BaseException.__getattribute__")))
    (he2 : PySem.W.findIn K (.ref C2) "__getattr__" = some none)
    (kke2 : PySem.W.keepIn K (.ref C2) = true)
    (hde2 : PySem.W.hasDictIn K C2 = true)
    (cae2 : PySem.W.findIn K (.ref C2) "__class__" = some (some (.builtin "object.__class__")))
    (se2 : PySem.W.findIn K (.ref C2) "__setattr__" = some (some (.builtin "object.__setattr__")))
    (n0e2 : PySem.W.findIn K (.ref C2) "value" = some none)
    (ae2 : PySem.W.findIn K (.ref C2) "__init__" = some (some (.ref fe2)))
    (te2 : PySem.W.typeIn K (.ref fe2) = some (.type "function"))
    (le2 : K.lookup fe2 = some ⟨oce2, ode2, .func (PySem.W.fnOf "__init__" "BadSaying.__init__" (defArgs sE2) (defBody sE2) (defScope sE2) .none kVe2 dce2 pme2 ane2 cde2 cte2), sle2⟩)
    (ce2 : PySem.W.codeIn K cde2 "BadSaying.__init__" = true)
    (ke2 : PySem.W.keepIn K (.ref fe2) = true)
    (x3 : K.lookup C3 = some (excClassObj nm3 q3 C3 N3 bs3 [.ref CT, .type "ValueError", .type "Exception", .type "BaseException", .type "object"] true sn3 sub3 ab3 col3 dd3 m03 m13 m23 m33 m53 "ValueError.__new__"))
    (ge3 : PySem.W.findIn K (.ref C3) "__getattribute__" = some (some (.builtin "BaseException.__getattribute__")))
    (he3 : PySem.W.findIn K (.ref C3) "__getattr__" = some none)
    (kke3 : PySem.W.keepIn K (.ref C3) = true)
    (hde3 : PySem.W.hasDictIn K C3 = true)
    (cae3 : PySem.W.findIn K (.ref C3) "__class__" = some (some (.builtin "object.__class__")))
    (se3 : PySem.W.findIn K (.ref C3) "__setattr__" = some (some (.builtin "object.__setattr__")))
    (n0e3 : PySem.W.findIn K (.ref C3) "value" = some none)
    (ae3 : PySem.W.findIn K (.ref C3) "__init__" = some (some (.ref fe3)))
    (te3 : PySem.W.typeIn K (.ref fe3) = some (.type "function"))
    (le3 : K.lookup fe3 = some ⟨oce3, ode3, .func (PySem.W.fnOf "__init__" "BadPoint.__init__" (defArgs sE3) (defBody sE3) (defScope sE3) .none kVe3 dce3 pme3 ane3 cde3 cte3), sle3⟩)
    (ce3 : PySem.W.codeIn K cde3 "BadPoint.__init__" = true)
    (ke3 : PySem.W.keepIn K (.ref fe3) = true)
    (x4 : K.lookup C4 = some (excClassObj nm4 q4 C4 N4 bs4 [.ref CT, .type "ValueError", .type "Exception", .type "BaseException", .type "object"] true sn4 sub4 ab4 col4 dd4 m04 m14 m24 m34 m54 "ValueError.__new__"))
    (ge4 : PySem.W.findIn K (.ref C4) "__getattribute__" = some (some (.builtin "BaseException.__getattribute__")))
    (he4 : PySem.W.findIn K (.ref C4) "__getattr__" = some none)
    (kke4 : PySem.W.keepIn K (.ref C4) = true)
    (hde4 : PySem.W.hasDictIn K C4 = true)
    (cae4 : PySem.W.findIn K (.ref C4) "__class__" = some (some (.builtin "object.__class__")))
    (se4 : PySem.W.findIn K (.ref C4) "__setattr__" = some (some (.builtin "object.__setattr__")))
    (n0e4 : PySem.W.findIn K (.ref C4) "at" = some none)
    (ae4 : PySem.W.findIn K (.ref C4) "__init__" = some (some (.ref fe4)))
    (te4 : PySem.W.typeIn K (.ref fe4) = some (.type "function"))
    (le4 : K.lookup fe4 = some ⟨oce4, ode4, .func (PySem.W.fnOf "__init__" "BadRow.__init__" (defArgs sE4) (defBody sE4) (defScope sE4) .none kVe4 dce4 pme4 ane4 cde4 cte4), sle4⟩)
    (ce4 : PySem.W.codeIn K cde4 "BadRow.__init__" = true)
    (ke4 : PySem.W.keepIn K (.ref fe4) = true)
    (x5 : K.lookup C5 = some (excClassObj nm5 q5 C5 N5 bs5 [.ref CT, .type "ValueError", .type "Exception", .type "BaseException", .type "object"] true sn5 sub5 ab5 col5 dd5 m05 m15 m25 m35 m55 "ValueError.__new__"))
    (ge5 : PySem.W.findIn K (.ref C5) "__getattribute__" = some (some (.builtin "BaseException.__getattribute__")))
    (he5 : PySem.W.findIn K (.ref C5) "__getattr__" = some none)
    (kke5 : PySem.W.keepIn K (.ref C5) = true)
    (hde5 : PySem.W.hasDictIn K C5 = true)
    (cae5 : PySem.W.findIn K (.ref C5) "__class__" = some (some (.builtin "object.__class__")))
    (se5 : PySem.W.findIn K (.ref C5) "__setattr__" = some (some (.builtin "object.__setattr__")))
    (n0e5 : PySem.W.findIn K (.ref C5) "at" = some none)
    (ae5 : PySem.W.findIn K (.ref C5) "__init__" = some (some (.ref fe5)))
    (te5 : PySem.W.typeIn K (.ref fe5) = some (.type "function"))
    (le5 : K.lookup fe5 = some ⟨oce5, ode5, .func (PySem.W.fnOf "__init__" "BadTurn.__init__" (defArgs sE5) (defBody sE5) (defScope sE5) .none kVe5 dce5 pme5 ane5 cde5 cte5), sle5⟩)
    (ce5 : PySem.W.codeIn K cde5 "BadTurn.__init__" = true)
    (ke5 : PySem.W.keepIn K (.ref fe5) = true)
    (x6 : K.lookup C6 = some (excClassObj nm6 q6 C6 N6 bs6 [.ref CT, .type "ValueError", .type "Exception", .type "BaseException", .type "object"] true sn6 sub6 ab6 col6 dd6 m06 m16 m26 m36 m56 "ValueError.__new__"))
    (ge6 : PySem.W.findIn K (.ref C6) "__getattribute__" = some (some (.builtin "BaseException.__getattribute__")))
    (he6 : PySem.W.findIn K (.ref C6) "__getattr__" = some none)
    (kke6 : PySem.W.keepIn K (.ref C6) = true)
    (hde6 : PySem.W.hasDictIn K C6 = true)
    (cae6 : PySem.W.findIn K (.ref C6) "__class__" = some (some (.builtin "object.__class__")))
    (se6 : PySem.W.findIn K (.ref C6) "__setattr__" = some (some (.builtin "object.__setattr__")))
    (n0e6 : PySem.W.findIn K (.ref C6) "at" = some none)
    (ae6 : PySem.W.findIn K (.ref C6) "__init__" = some (some (.ref fe6)))
    (te6 : PySem.W.typeIn K (.ref fe6) = some (.type "function"))
    (le6 : K.lookup fe6 = some ⟨oce6, ode6, .func (PySem.W.fnOf "__init__" "BadTurns.__init__" (defArgs sE6) (defBody sE6) (defScope sE6) .none kVe6 dce6 pme6 ane6 cde6 cte6), sle6⟩)
    (ce6 : PySem.W.codeIn K cde6 "BadTurns.__init__" = true)
    (ke6 : PySem.W.keepIn K (.ref fe6) = true)
    (x7 : K.lookup C7 = some (excClassObj nm7 q7 C7 N7 bs7 [.ref CT, .type "ValueError", .type "Exception", .type "BaseException", .type "object"] true sn7 sub7 ab7 col7 dd7 m07 m17 m27 m37 m57 "ValueError.__new__"))
    (ge7 : PySem.W.findIn K (.ref C7) "__getattribute__" = some (some (.builtin "BaseException.__getattribute__")))
    (he7 : PySem.W.findIn K (.ref C7) "__getattr__" = some none)
    (kke7 : PySem.W.keepIn K (.ref C7) = true)
    (hde7 : PySem.W.hasDictIn K C7 = true)
    (cae7 : PySem.W.findIn K (.ref C7) "__class__" = some (some (.builtin "object.__class__")))
    (se7 : PySem.W.findIn K (.ref C7) "__setattr__" = some (some (.builtin "object.__setattr__")))
    (n0e7 : PySem.W.findIn K (.ref C7) "tool" = some none)
    (ae7 : PySem.W.findIn K (.ref C7) "__init__" = some (some (.ref fe7)))
    (te7 : PySem.W.typeIn K (.ref fe7) = some (.type "function"))
    (le7 : K.lookup fe7 = some ⟨oce7, ode7, .func (PySem.W.fnOf "__init__" "NoTool.__init__" (defArgs sE7) (defBody sE7) (defScope sE7) .none kVe7 dce7 pme7 ane7 cde7 cte7), sle7⟩)
    (ce7 : PySem.W.codeIn K cde7 "NoTool.__init__" = true)
    (ke7 : PySem.W.keepIn K (.ref fe7) = true)
    (x8 : K.lookup C8 = some (excClassObj nm8 q8 C8 N8 bs8 [.ref CT, .type "ValueError", .type "Exception", .type "BaseException", .type "object"] true sn8 sub8 ab8 col8 dd8 m08 m18 m28 m38 m58 "ValueError.__new__"))
    (ge8 : PySem.W.findIn K (.ref C8) "__getattribute__" = some (some (.builtin "BaseException.__getattribute__")))
    (he8 : PySem.W.findIn K (.ref C8) "__getattr__" = some none)
    (kke8 : PySem.W.keepIn K (.ref C8) = true)
    (hde8 : PySem.W.hasDictIn K C8 = true)
    (cae8 : PySem.W.findIn K (.ref C8) "__class__" = some (some (.builtin "object.__class__")))
    (se8 : PySem.W.findIn K (.ref C8) "__setattr__" = some (some (.builtin "object.__setattr__")))
    (n0e8 : PySem.W.findIn K (.ref C8) "number" = some none)
    (ae8 : PySem.W.findIn K (.ref C8) "__init__" = some (some (.ref fe8)))
    (te8 : PySem.W.typeIn K (.ref fe8) = some (.type "function"))
    (le8 : K.lookup fe8 = some ⟨oce8, ode8, .func (PySem.W.fnOf "__init__" "NoRow.__init__" (defArgs sE8) (defBody sE8) (defScope sE8) .none kVe8 dce8 pme8 ane8 cde8 cte8), sle8⟩)
    (ce8 : PySem.W.codeIn K cde8 "NoRow.__init__" = true)
    (ke8 : PySem.W.keepIn K (.ref fe8) = true)
    (x9 : K.lookup C9 = some (excClassObj nm9 q9 C9 N9 bs9 [.ref CT, .type "ValueError", .type "Exception", .type "BaseException", .type "object"] true sn9 sub9 ab9 col9 dd9 m09 m19 m29 m39 m59 "ValueError.__new__"))
    (ge9 : PySem.W.findIn K (.ref C9) "__getattribute__" = some (some (.builtin "BaseException.__getattribute__")))
    (he9 : PySem.W.findIn K (.ref C9) "__getattr__" = some none)
    (kke9 : PySem.W.keepIn K (.ref C9) = true)
    (hde9 : PySem.W.hasDictIn K C9 = true)
    (cae9 : PySem.W.findIn K (.ref C9) "__class__" = some (some (.builtin "object.__class__")))
    (se9 : PySem.W.findIn K (.ref C9) "__setattr__" = some (some (.builtin "object.__setattr__")))
    (n0e9 : PySem.W.findIn K (.ref C9) "number" = some none)
    (ae9 : PySem.W.findIn K (.ref C9) "__init__" = some (some (.ref fe9)))
    (te9 : PySem.W.typeIn K (.ref fe9) = some (.type "function"))
    (le9 : K.lookup fe9 = some ⟨oce9, ode9, .func (PySem.W.fnOf "__init__" "NoDeed.__init__" (defArgs sE9) (defBody sE9) (defScope sE9) .none kVe9 dce9 pme9 ane9 cde9 cte9), sle9⟩)
    (ce9 : PySem.W.codeIn K cde9 "NoDeed.__init__" = true)
    (ke9 : PySem.W.keepIn K (.ref fe9) = true)
    (x10 : K.lookup C10 = some (excClassObj nm10 q10 C10 N10 bs10 [.ref CT, .type "ValueError", .type "Exception", .type "BaseException", .type "object"] true sn10 sub10 ab10 col10 dd10 m010 m110 m210 m310 m510 "ValueError.__new__"))
    (ge10 : PySem.W.findIn K (.ref C10) "__getattribute__" = some (some (.builtin "BaseException.__getattribute__")))
    (he10 : PySem.W.findIn K (.ref C10) "__getattr__" = some none)
    (kke10 : PySem.W.keepIn K (.ref C10) = true)
    (hde10 : PySem.W.hasDictIn K C10 = true)
    (cae10 : PySem.W.findIn K (.ref C10) "__class__" = some (some (.builtin "object.__class__")))
    (se10 : PySem.W.findIn K (.ref C10) "__setattr__" = some (some (.builtin "object.__setattr__")))
    (n0e10 : PySem.W.findIn K (.ref C10) "name" = some none)
    (ae10 : PySem.W.findIn K (.ref C10) "__init__" = some (some (.ref fe10)))
    (te10 : PySem.W.typeIn K (.ref fe10) = some (.type "function"))
    (le10 : K.lookup fe10 = some ⟨oce10, ode10, .func (PySem.W.fnOf "__init__" "NoRecord.__init__" (defArgs sE10) (defBody sE10) (defScope sE10) .none kVe10 dce10 pme10 ane10 cde10 cte10), sle10⟩)
    (ce10 : PySem.W.codeIn K cde10 "NoRecord.__init__" = true)
    (ke10 : PySem.W.keepIn K (.ref fe10) = true)
    (x11 : K.lookup C11 = some (excClassObj nm11 q11 C11 N11 bs11 [.ref CT, .type "ValueError", .type "Exception", .type "BaseException", .type "object"] true sn11 sub11 ab11 col11 dd11 m011 m111 m211 m311 m511 "ValueError.__new__"))
    (ge11 : PySem.W.findIn K (.ref C11) "__getattribute__" = some (some (.builtin "BaseException.__getattribute__")))
    (he11 : PySem.W.findIn K (.ref C11) "__getattr__" = some none)
    (kke11 : PySem.W.keepIn K (.ref C11) = true)
    (hde11 : PySem.W.hasDictIn K C11 = true)
    (cae11 : PySem.W.findIn K (.ref C11) "__class__" = some (some (.builtin "object.__class__")))
    (se11 : PySem.W.findIn K (.ref C11) "__setattr__" = some (some (.builtin "object.__setattr__")))
    (n0e11 : PySem.W.findIn K (.ref C11) "name" = some none)
    (ae11 : PySem.W.findIn K (.ref C11) "__init__" = some (some (.ref fe11)))
    (te11 : PySem.W.typeIn K (.ref fe11) = some (.type "function"))
    (le11 : K.lookup fe11 = some ⟨oce11, ode11, .func (PySem.W.fnOf "__init__" "NoLot.__init__" (defArgs sE11) (defBody sE11) (defScope sE11) .none kVe11 dce11 pme11 ane11 cde11 cte11), sle11⟩)
    (ce11 : PySem.W.codeIn K cde11 "NoLot.__init__" = true)
    (ke11 : PySem.W.keepIn K (.ref fe11) = true)
    (x12 : K.lookup C12 = some (excClassObj nm12 q12 C12 N12 bs12 [.ref CT, .type "ValueError", .type "Exception", .type "BaseException", .type "object"] true sn12 sub12 ab12 col12 dd12 m012 m112 m212 m312 m512 "ValueError.__new__"))
    (ge12 : PySem.W.findIn K (.ref C12) "__getattribute__" = some (some (.builtin "BaseException.__getattribute__")))
    (he12 : PySem.W.findIn K (.ref C12) "__getattr__" = some none)
    (kke12 : PySem.W.keepIn K (.ref C12) = true)
    (hde12 : PySem.W.hasDictIn K C12 = true)
    (cae12 : PySem.W.findIn K (.ref C12) "__class__" = some (some (.builtin "object.__class__")))
    (se12 : PySem.W.findIn K (.ref C12) "__setattr__" = some (some (.builtin "object.__setattr__")))
    (n0e12 : PySem.W.findIn K (.ref C12) "value" = some none)
    (ae12 : PySem.W.findIn K (.ref C12) "__init__" = some (some (.ref fe12)))
    (te12 : PySem.W.typeIn K (.ref fe12) = some (.type "function"))
    (le12 : K.lookup fe12 = some ⟨oce12, ode12, .func (PySem.W.fnOf "__init__" "NoLife.__init__" (defArgs sE12) (defBody sE12) (defScope sE12) .none kVe12 dce12 pme12 ane12 cde12 cte12), sle12⟩)
    (ce12 : PySem.W.codeIn K cde12 "NoLife.__init__" = true)
    (ke12 : PySem.W.keepIn K (.ref fe12) = true)
    (x13 : K.lookup C13 = some (excClassObj nm13 q13 C13 N13 bs13 [.ref CT, .type "ValueError", .type "Exception", .type "BaseException", .type "object"] true sn13 sub13 ab13 col13 dd13 m013 m113 m213 m313 m513 "ValueError.__new__"))
    (ge13 : PySem.W.findIn K (.ref C13) "__getattribute__" = some (some (.builtin "BaseException.__getattribute__")))
    (he13 : PySem.W.findIn K (.ref C13) "__getattr__" = some none)
    (kke13 : PySem.W.keepIn K (.ref C13) = true)
    (hde13 : PySem.W.hasDictIn K C13 = true)
    (cae13 : PySem.W.findIn K (.ref C13) "__class__" = some (some (.builtin "object.__class__")))
    (se13 : PySem.W.findIn K (.ref C13) "__setattr__" = some (some (.builtin "object.__setattr__")))
    (n0e13 : PySem.W.findIn K (.ref C13) "word" = some none)
    (ae13 : PySem.W.findIn K (.ref C13) "__init__" = some (some (.ref fe13)))
    (te13 : PySem.W.typeIn K (.ref fe13) = some (.type "function"))
    (le13 : K.lookup fe13 = some ⟨oce13, ode13, .func (PySem.W.fnOf "__init__" "NoEvidence.__init__" (defArgs sE13) (defBody sE13) (defScope sE13) .none kVe13 dce13 pme13 ane13 cde13 cte13), sle13⟩)
    (ce13 : PySem.W.codeIn K cde13 "NoEvidence.__init__" = true)
    (ke13 : PySem.W.keepIn K (.ref fe13) = true)
    (x14 : K.lookup C14 = some (excClassObj nm14 q14 C14 N14 bs14 [.ref CT, .type "ValueError", .type "Exception", .type "BaseException", .type "object"] true sn14 sub14 ab14 col14 dd14 m014 m114 m214 m314 m514 "ValueError.__new__"))
    (ge14 : PySem.W.findIn K (.ref C14) "__getattribute__" = some (some (.builtin "BaseException.__getattribute__")))
    (he14 : PySem.W.findIn K (.ref C14) "__getattr__" = some none)
    (kke14 : PySem.W.keepIn K (.ref C14) = true)
    (hde14 : PySem.W.hasDictIn K C14 = true)
    (cae14 : PySem.W.findIn K (.ref C14) "__class__" = some (some (.builtin "object.__class__")))
    (se14 : PySem.W.findIn K (.ref C14) "__setattr__" = some (some (.builtin "object.__setattr__")))
    (n0e14 : PySem.W.findIn K (.ref C14) "what" = some none)
    (n1e14 : PySem.W.findIn K (.ref C14) "most" = some none)
    (ae14 : PySem.W.findIn K (.ref C14) "__init__" = some (some (.ref fe14)))
    (te14 : PySem.W.typeIn K (.ref fe14) = some (.type "function"))
    (le14 : K.lookup fe14 = some ⟨oce14, ode14, .func (PySem.W.fnOf "__init__" "TooMany.__init__" (defArgs sE14) (defBody sE14) (defScope sE14) .none kVe14 dce14 pme14 ane14 cde14 cte14), sle14⟩)
    (ce14 : PySem.W.codeIn K cde14 "TooMany.__init__" = true)
    (ke14 : PySem.W.keepIn K (.ref fe14) = true)
    (x15 : K.lookup C15 = some (excClassObj nm15 q15 C15 N15 bs15 [.ref CT, .type "ValueError", .type "Exception", .type "BaseException", .type "object"] true sn15 sub15 ab15 col15 dd15 m015 m115 m215 m315 m515 "ValueError.__new__"))
    (ge15 : PySem.W.findIn K (.ref C15) "__getattribute__" = some (some (.builtin "BaseException.__getattribute__")))
    (he15 : PySem.W.findIn K (.ref C15) "__getattr__" = some none)
    (kke15 : PySem.W.keepIn K (.ref C15) = true)
    (hde15 : PySem.W.hasDictIn K C15 = true)
    (cae15 : PySem.W.findIn K (.ref C15) "__class__" = some (some (.builtin "object.__class__")))
    (se15 : PySem.W.findIn K (.ref C15) "__setattr__" = some (some (.builtin "object.__setattr__")))
    (n0e15 : PySem.W.findIn K (.ref C15) "moment" = some none)
    (ae15 : PySem.W.findIn K (.ref C15) "__init__" = some (some (.ref fe15)))
    (te15 : PySem.W.typeIn K (.ref fe15) = some (.type "function"))
    (le15 : K.lookup fe15 = some ⟨oce15, ode15, .func (PySem.W.fnOf "__init__" "Later.__init__" (defArgs sE15) (defBody sE15) (defScope sE15) .none kVe15 dce15 pme15 ane15 cde15 cte15), sle15⟩)
    (ce15 : PySem.W.codeIn K cde15 "Later.__init__" = true)
    (ke15 : PySem.W.keepIn K (.ref fe15) = true)
    (x16 : K.lookup C16 = some (excClassObj nm16 q16 C16 N16 bs16 [.ref CT, .type "ValueError", .type "Exception", .type "BaseException", .type "object"] true sn16 sub16 ab16 col16 dd16 m016 m116 m216 m316 m516 "ValueError.__new__"))
    (ge16 : PySem.W.findIn K (.ref C16) "__getattribute__" = some (some (.builtin "BaseException.__getattribute__")))
    (he16 : PySem.W.findIn K (.ref C16) "__getattr__" = some none)
    (kke16 : PySem.W.keepIn K (.ref C16) = true)
    (hde16 : PySem.W.hasDictIn K C16 = true)
    (cae16 : PySem.W.findIn K (.ref C16) "__class__" = some (some (.builtin "object.__class__")))
    (se16 : PySem.W.findIn K (.ref C16) "__setattr__" = some (some (.builtin "object.__setattr__")))
    (n0e16 : PySem.W.findIn K (.ref C16) "name" = some none)
    (ae16 : PySem.W.findIn K (.ref C16) "__init__" = some (some (.ref fe16)))
    (te16 : PySem.W.typeIn K (.ref fe16) = some (.type "function"))
    (le16 : K.lookup fe16 = some ⟨oce16, ode16, .func (PySem.W.fnOf "__init__" "Clash.__init__" (defArgs sE16) (defBody sE16) (defScope sE16) .none kVe16 dce16 pme16 ane16 cde16 cte16), sle16⟩)
    (ce16 : PySem.W.codeIn K cde16 "Clash.__init__" = true)
    (ke16 : PySem.W.keepIn K (.ref fe16) = true)
    (x17 : K.lookup C17 = some (excClassObj nm17 q17 C17 N17 bs17 [.ref CT, .type "ValueError", .type "Exception", .type "BaseException", .type "object"] true sn17 sub17 ab17 col17 dd17 m017 m117 m217 m317 m517 "ValueError.__new__"))
    (ge17 : PySem.W.findIn K (.ref C17) "__getattribute__" = some (some (.builtin "BaseException.__getattribute__")))
    (he17 : PySem.W.findIn K (.ref C17) "__getattr__" = some none)
    (kke17 : PySem.W.keepIn K (.ref C17) = true)
    (hde17 : PySem.W.hasDictIn K C17 = true)
    (cae17 : PySem.W.findIn K (.ref C17) "__class__" = some (some (.builtin "object.__class__")))
    (se17 : PySem.W.findIn K (.ref C17) "__setattr__" = some (some (.builtin "object.__setattr__")))
    (n0e17 : PySem.W.findIn K (.ref C17) "tool" = some none)
    (ae17 : PySem.W.findIn K (.ref C17) "__init__" = some (some (.ref fe17)))
    (te17 : PySem.W.typeIn K (.ref fe17) = some (.type "function"))
    (le17 : K.lookup fe17 = some ⟨oce17, ode17, .func (PySem.W.fnOf "__init__" "Unlike.__init__" (defArgs sE17) (defBody sE17) (defScope sE17) .none kVe17 dce17 pme17 ane17 cde17 cte17), sle17⟩)
    (ce17 : PySem.W.codeIn K cde17 "Unlike.__init__" = true)
    (ke17 : PySem.W.keepIn K (.ref fe17) = true)
    (x18 : K.lookup C18 = some (excClassObj nm18 q18 C18 N18 bs18 [.ref CT, .type "ValueError", .type "Exception", .type "BaseException", .type "object"] true sn18 sub18 ab18 col18 dd18 m018 m118 m218 m318 m518 "ValueError.__new__"))
    (ge18 : PySem.W.findIn K (.ref C18) "__getattribute__" = some (some (.builtin "BaseException.__getattribute__")))
    (he18 : PySem.W.findIn K (.ref C18) "__getattr__" = some none)
    (kke18 : PySem.W.keepIn K (.ref C18) = true)
    (hde18 : PySem.W.hasDictIn K C18 = true)
    (cae18 : PySem.W.findIn K (.ref C18) "__class__" = some (some (.builtin "object.__class__")))
    (se18 : PySem.W.findIn K (.ref C18) "__setattr__" = some (some (.builtin "object.__setattr__")))
    (n0e18 : PySem.W.findIn K (.ref C18) "number" = some none)
    (ae18 : PySem.W.findIn K (.ref C18) "__init__" = some (some (.ref fe18)))
    (te18 : PySem.W.typeIn K (.ref fe18) = some (.type "function"))
    (le18 : K.lookup fe18 = some ⟨oce18, ode18, .func (PySem.W.fnOf "__init__" "Contradicted.__init__" (defArgs sE18) (defBody sE18) (defScope sE18) .none kVe18 dce18 pme18 ane18 cde18 cte18), sle18⟩)
    (ce18 : PySem.W.codeIn K cde18 "Contradicted.__init__" = true)
    (ke18 : PySem.W.keepIn K (.ref fe18) = true)
    (x19 : K.lookup C19 = some (excClassObj nm19 q19 C19 N19 bs19 [.ref CT, .type "ValueError", .type "Exception", .type "BaseException", .type "object"] true sn19 sub19 ab19 col19 dd19 m019 m119 m219 m319 m519 "ValueError.__new__"))
    (ge19 : PySem.W.findIn K (.ref C19) "__getattribute__" = some (some (.builtin "BaseException.__getattribute__")))
    (he19 : PySem.W.findIn K (.ref C19) "__getattr__" = some none)
    (kke19 : PySem.W.keepIn K (.ref C19) = true)
    (hde19 : PySem.W.hasDictIn K C19 = true)
    (cae19 : PySem.W.findIn K (.ref C19) "__class__" = some (some (.builtin "object.__class__")))
    (se19 : PySem.W.findIn K (.ref C19) "__setattr__" = some (some (.builtin "object.__setattr__")))
    (n0e19 : PySem.W.findIn K (.ref C19) "at" = some none)
    (ae19 : PySem.W.findIn K (.ref C19) "__init__" = some (some (.ref fe19)))
    (te19 : PySem.W.typeIn K (.ref fe19) = some (.type "function"))
    (le19 : K.lookup fe19 = some ⟨oce19, ode19, .func (PySem.W.fnOf "__init__" "BadChain.__init__" (defArgs sE19) (defBody sE19) (defScope sE19) .none kVe19 dce19 pme19 ane19 cde19 cte19), sle19⟩)
    (ce19 : PySem.W.codeIn K cde19 "BadChain.__init__" = true)
    (ke19 : PySem.W.keepIn K (.ref fe19) = true)
    (x20 : K.lookup C20 = some (excClassObj nm20 q20 C20 N20 bs20 [.ref CT, .type "ValueError", .type "Exception", .type "BaseException", .type "object"] true sn20 sub20 ab20 col20 dd20 m020 m120 m220 m320 m520 "ValueError.__new__"))
    (ge20 : PySem.W.findIn K (.ref C20) "__getattribute__" = some (some (.builtin "BaseException.__getattribute__")))
    (he20 : PySem.W.findIn K (.ref C20) "__getattr__" = some none)
    (kke20 : PySem.W.keepIn K (.ref C20) = true)
    (hde20 : PySem.W.hasDictIn K C20 = true)
    (cae20 : PySem.W.findIn K (.ref C20) "__class__" = some (some (.builtin "object.__class__")))
    (se20 : PySem.W.findIn K (.ref C20) "__setattr__" = some (some (.builtin "object.__setattr__")))
    (n0e20 : PySem.W.findIn K (.ref C20) "at" = some none)
    (ae20 : PySem.W.findIn K (.ref C20) "__init__" = some (some (.ref fe20)))
    (te20 : PySem.W.typeIn K (.ref fe20) = some (.type "function"))
    (le20 : K.lookup fe20 = some ⟨oce20, ode20, .func (PySem.W.fnOf "__init__" "BadEntry.__init__" (defArgs sE20) (defBody sE20) (defScope sE20) .none kVe20 dce20 pme20 ane20 cde20 cte20), sle20⟩)
    (ce20 : PySem.W.codeIn K cde20 "BadEntry.__init__" = true)
    (ke20 : PySem.W.keepIn K (.ref fe20) = true)
    (x21 : K.lookup C21 = some (excClassObj nm21 q21 C21 N21 bs21 [.ref CT, .type "ValueError", .type "Exception", .type "BaseException", .type "object"] true sn21 sub21 ab21 col21 dd21 m021 m121 m221 m321 m521 "ValueError.__new__"))
    (ge21 : PySem.W.findIn K (.ref C21) "__getattribute__" = some (some (.builtin "BaseException.__getattribute__")))
    (he21 : PySem.W.findIn K (.ref C21) "__getattr__" = some none)
    (kke21 : PySem.W.keepIn K (.ref C21) = true)
    (hde21 : PySem.W.hasDictIn K C21 = true)
    (cae21 : PySem.W.findIn K (.ref C21) "__class__" = some (some (.builtin "object.__class__")))
    (se21 : PySem.W.findIn K (.ref C21) "__setattr__" = some (some (.builtin "object.__setattr__")))
    (n0e21 : PySem.W.findIn K (.ref C21) "line" = some none)
    (n1e21 : PySem.W.findIn K (.ref C21) "word" = some none)
    (ae21 : PySem.W.findIn K (.ref C21) "__init__" = some (some (.ref fe21)))
    (te21 : PySem.W.typeIn K (.ref fe21) = some (.type "function"))
    (le21 : K.lookup fe21 = some ⟨oce21, ode21, .func (PySem.W.fnOf "__init__" "BadText.__init__" (defArgs sE21) (defBody sE21) (defScope sE21) .none kVe21 dce21 pme21 ane21 cde21 cte21), sle21⟩)
    (ce21 : PySem.W.codeIn K cde21 "BadText.__init__" = true)
    (ke21 : PySem.W.keepIn K (.ref fe21) = true)
    (x22 : K.lookup C22 = some (excClassObj nm22 q22 C22 N22 bs22 [.ref CT, .type "ValueError", .type "Exception", .type "BaseException", .type "object"] hx22 sn22 sub22 ab22 col22 dd22 m022 m122 m222 m322 m522 "ValueError.__new__"))
    (ge22 : PySem.W.findIn K (.ref C22) "__getattribute__" = some (some (.builtin "BaseException.__getattribute__")))
    (he22 : PySem.W.findIn K (.ref C22) "__getattr__" = some none)
    (kke22 : PySem.W.keepIn K (.ref C22) = true)
    (hde22 : PySem.W.hasDictIn K C22 = true)
    (cae22 : PySem.W.findIn K (.ref C22) "__class__" = some (some (.builtin "object.__class__")))
    (q22 : PySem.W.excIn K C22 [.type "ValueError", .type "Exception", .type "BaseException", .type "object"] "ValueError.__new__" = true)
    (nd : [CT, C0, C1, C2, C3, C4, C5, C6, C7, C8, C9, C10, C11, C12, C13, C14, C15, C16, C17, C18, C19, C20, C21, C22].Nodup)
    : ∃ (fd : FuncData), (∀ (s : Shared) (v : Value), BindsTo s fd ⟨[v], []⟩ [("_law_script", v)]) ∧ ∀ base : Heap, K.In base → base.Ns mainGlobals mg → FnG l.prog w K mg base CX0 4 fa fd ["_law_script"] (spLaw K) := by
  have e := hfa.symm.trans (PySem.W.mg_of X G alaw)
  cases e
  have g1 := fun {n : Str} {v : Value} (e : PySem.W.nsIn K mainGlobals n = some (some v)) => PySem.W.mg_of X G e
  have g0 := fun {n : Str} (e : PySem.W.nsIn K mainGlobals n = some none) => PySem.W.mg_none_of X G e
  have F_pen := fun_mk (st := sPen) lpen cpen kpen
  have F_draw := fun_mk (st := sDraw) ldraw cdraw kdraw
  have F_pick := fun_mk (st := sPick) lpick cpick kpick
  have F_place := fun_mk (st := sPlace) lplace cplace kplace
  have F_byname := fun_mk (st := sByName) lbyname cbyname kbyname
  have F_fields := fun_mk (st := sFields) lfields cfields kfields
  have F_kept := fun_mk (st := sKept) lkept ckept kkept
  have F_marks := fun_mk (st := sMarks) lmarks cmarks kmarks
  have F_value := fun_mk (st := sValue) lvalue cvalue kvalue
  have F_law := fun_mk (st := sLaw) llaw claw klaw
  have b_pen_ := F_pen.binds (ps := ["_law_script"]) fun _ _ _ _ _ _ us hl => match us, hl with | [_], _ => rfl
  have b_draw_ := F_draw.binds (ps := ["_law_pen_here", "_law_many"]) fun _ _ _ _ _ _ us hl => match us, hl with | [_, _], _ => rfl
  have b_pick_ := F_pick.binds (ps := ["_law_pen_here", "_law_some"]) fun _ _ _ _ _ _ us hl => match us, hl with | [_, _], _ => rfl
  have b_place_ := F_place.binds (ps := ["_law_a", "_law_b"]) fun _ _ _ _ _ _ us hl => match us, hl with | [_, _], _ => rfl
  have b_byname_ := F_byname.binds (ps := ["_law_a", "_law_b"]) fun _ _ _ _ _ _ us hl => match us, hl with | [_, _], _ => rfl
  have b_fields_ := F_fields.binds (ps := []) fun _ _ _ _ _ _ us hl => match us, hl with | [], _ => rfl
  have b_kept_ := F_kept.binds (ps := ["_law_caught", "_law_sign"]) fun _ _ _ _ _ _ us hl => match us, hl with | [_, _], _ => rfl
  have b_marks_ := F_marks.binds (ps := ["_law_caught"]) fun _ _ _ _ _ _ us hl => match us, hl with | [_], _ => rfl
  have b_value_ := F_value.binds (ps := ["_law_pen_here"]) fun _ _ _ _ _ _ us hl => match us, hl with | [_], _ => rfl
  have b_law_ := F_law.binds (ps := ["_law_script"]) fun _ _ _ _ _ _ us hl => match us, hl with | [_], _ => rfl
  obtain ⟨cl, hcl⟩ : ∃ cl : Nat → Addr, cl = fun i => ([C0, C1, C2, C3, C4, C5, C6, C7, C8, C9, C10, C11, C12, C13, C14, C15, C16, C17, C18, C19, C20, C21, C22] : List Addr).getD i CT := ⟨_, rfl⟩
  have d0 : cl 0 = C0 := by rw [hcl]; rfl
  have d1 : cl 1 = C1 := by rw [hcl]; rfl
  have d2 : cl 2 = C2 := by rw [hcl]; rfl
  have d3 : cl 3 = C3 := by rw [hcl]; rfl
  have d4 : cl 4 = C4 := by rw [hcl]; rfl
  have d5 : cl 5 = C5 := by rw [hcl]; rfl
  have d6 : cl 6 = C6 := by rw [hcl]; rfl
  have d7 : cl 7 = C7 := by rw [hcl]; rfl
  have d8 : cl 8 = C8 := by rw [hcl]; rfl
  have d9 : cl 9 = C9 := by rw [hcl]; rfl
  have d10 : cl 10 = C10 := by rw [hcl]; rfl
  have d11 : cl 11 = C11 := by rw [hcl]; rfl
  have d12 : cl 12 = C12 := by rw [hcl]; rfl
  have d13 : cl 13 = C13 := by rw [hcl]; rfl
  have d14 : cl 14 = C14 := by rw [hcl]; rfl
  have d15 : cl 15 = C15 := by rw [hcl]; rfl
  have d16 : cl 16 = C16 := by rw [hcl]; rfl
  have d17 : cl 17 = C17 := by rw [hcl]; rfl
  have d18 : cl 18 = C18 := by rw [hcl]; rfl
  have d19 : cl 19 = C19 := by rw [hcl]; rfl
  have d20 : cl 20 = C20 := by rw [hcl]; rfl
  have d21 : cl 21 = C21 := by rw [hcl]; rfl
  have d22 : cl 22 = C22 := by rw [hcl]; rfl
  obtain ⟨ty0, ic0⟩ := type_exc x0
  have er0 : Err K C0 := ⟨ge0, he0, (mro_exc x0 _).trans (by rw [sub_be]), hde0, cae0, thn, tht, (mro_exc x0 _).trans (by rw [sub_ob])⟩
  have sb0 : ∀ C, PySem.W.subIn K (.ref C0) (.ref C) = some (decide (C = C0) || decide (C = CT)) := fun C => (mro_exc x0 _).trans (by rw [sub_ref])
  obtain ⟨ty1, ic1⟩ := type_exc x1
  have er1 : Err K C1 := ⟨ge1, he1, (mro_exc x1 _).trans (by rw [sub_be]), hde1, cae1, thn, tht, (mro_exc x1 _).trans (by rw [sub_ob])⟩
  have sb1 : ∀ C, PySem.W.subIn K (.ref C1) (.ref C) = some (decide (C = C1) || decide (C = CT)) := fun C => (mro_exc x1 _).trans (by rw [sub_ref])
  obtain ⟨ty2, ic2⟩ := type_exc x2
  have er2 : Err K C2 := ⟨ge2, he2, (mro_exc x2 _).trans (by rw [sub_be]), hde2, cae2, thn, tht, (mro_exc x2 _).trans (by rw [sub_ob])⟩
  have sb2 : ∀ C, PySem.W.subIn K (.ref C2) (.ref C) = some (decide (C = C2) || decide (C = CT)) := fun C => (mro_exc x2 _).trans (by rw [sub_ref])
  obtain ⟨ty3, ic3⟩ := type_exc x3
  have er3 : Err K C3 := ⟨ge3, he3, (mro_exc x3 _).trans (by rw [sub_be]), hde3, cae3, thn, tht, (mro_exc x3 _).trans (by rw [sub_ob])⟩
  have sb3 : ∀ C, PySem.W.subIn K (.ref C3) (.ref C) = some (decide (C = C3) || decide (C = CT)) := fun C => (mro_exc x3 _).trans (by rw [sub_ref])
  obtain ⟨ty4, ic4⟩ := type_exc x4
  have er4 : Err K C4 := ⟨ge4, he4, (mro_exc x4 _).trans (by rw [sub_be]), hde4, cae4, thn, tht, (mro_exc x4 _).trans (by rw [sub_ob])⟩
  have sb4 : ∀ C, PySem.W.subIn K (.ref C4) (.ref C) = some (decide (C = C4) || decide (C = CT)) := fun C => (mro_exc x4 _).trans (by rw [sub_ref])
  obtain ⟨ty5, ic5⟩ := type_exc x5
  have er5 : Err K C5 := ⟨ge5, he5, (mro_exc x5 _).trans (by rw [sub_be]), hde5, cae5, thn, tht, (mro_exc x5 _).trans (by rw [sub_ob])⟩
  have sb5 : ∀ C, PySem.W.subIn K (.ref C5) (.ref C) = some (decide (C = C5) || decide (C = CT)) := fun C => (mro_exc x5 _).trans (by rw [sub_ref])
  obtain ⟨ty6, ic6⟩ := type_exc x6
  have er6 : Err K C6 := ⟨ge6, he6, (mro_exc x6 _).trans (by rw [sub_be]), hde6, cae6, thn, tht, (mro_exc x6 _).trans (by rw [sub_ob])⟩
  have sb6 : ∀ C, PySem.W.subIn K (.ref C6) (.ref C) = some (decide (C = C6) || decide (C = CT)) := fun C => (mro_exc x6 _).trans (by rw [sub_ref])
  obtain ⟨ty7, ic7⟩ := type_exc x7
  have er7 : Err K C7 := ⟨ge7, he7, (mro_exc x7 _).trans (by rw [sub_be]), hde7, cae7, thn, tht, (mro_exc x7 _).trans (by rw [sub_ob])⟩
  have sb7 : ∀ C, PySem.W.subIn K (.ref C7) (.ref C) = some (decide (C = C7) || decide (C = CT)) := fun C => (mro_exc x7 _).trans (by rw [sub_ref])
  obtain ⟨ty8, ic8⟩ := type_exc x8
  have er8 : Err K C8 := ⟨ge8, he8, (mro_exc x8 _).trans (by rw [sub_be]), hde8, cae8, thn, tht, (mro_exc x8 _).trans (by rw [sub_ob])⟩
  have sb8 : ∀ C, PySem.W.subIn K (.ref C8) (.ref C) = some (decide (C = C8) || decide (C = CT)) := fun C => (mro_exc x8 _).trans (by rw [sub_ref])
  obtain ⟨ty9, ic9⟩ := type_exc x9
  have er9 : Err K C9 := ⟨ge9, he9, (mro_exc x9 _).trans (by rw [sub_be]), hde9, cae9, thn, tht, (mro_exc x9 _).trans (by rw [sub_ob])⟩
  have sb9 : ∀ C, PySem.W.subIn K (.ref C9) (.ref C) = some (decide (C = C9) || decide (C = CT)) := fun C => (mro_exc x9 _).trans (by rw [sub_ref])
  obtain ⟨ty10, ic10⟩ := type_exc x10
  have er10 : Err K C10 := ⟨ge10, he10, (mro_exc x10 _).trans (by rw [sub_be]), hde10, cae10, thn, tht, (mro_exc x10 _).trans (by rw [sub_ob])⟩
  have sb10 : ∀ C, PySem.W.subIn K (.ref C10) (.ref C) = some (decide (C = C10) || decide (C = CT)) := fun C => (mro_exc x10 _).trans (by rw [sub_ref])
  obtain ⟨ty11, ic11⟩ := type_exc x11
  have er11 : Err K C11 := ⟨ge11, he11, (mro_exc x11 _).trans (by rw [sub_be]), hde11, cae11, thn, tht, (mro_exc x11 _).trans (by rw [sub_ob])⟩
  have sb11 : ∀ C, PySem.W.subIn K (.ref C11) (.ref C) = some (decide (C = C11) || decide (C = CT)) := fun C => (mro_exc x11 _).trans (by rw [sub_ref])
  obtain ⟨ty12, ic12⟩ := type_exc x12
  have er12 : Err K C12 := ⟨ge12, he12, (mro_exc x12 _).trans (by rw [sub_be]), hde12, cae12, thn, tht, (mro_exc x12 _).trans (by rw [sub_ob])⟩
  have sb12 : ∀ C, PySem.W.subIn K (.ref C12) (.ref C) = some (decide (C = C12) || decide (C = CT)) := fun C => (mro_exc x12 _).trans (by rw [sub_ref])
  obtain ⟨ty13, ic13⟩ := type_exc x13
  have er13 : Err K C13 := ⟨ge13, he13, (mro_exc x13 _).trans (by rw [sub_be]), hde13, cae13, thn, tht, (mro_exc x13 _).trans (by rw [sub_ob])⟩
  have sb13 : ∀ C, PySem.W.subIn K (.ref C13) (.ref C) = some (decide (C = C13) || decide (C = CT)) := fun C => (mro_exc x13 _).trans (by rw [sub_ref])
  obtain ⟨ty14, ic14⟩ := type_exc x14
  have er14 : Err K C14 := ⟨ge14, he14, (mro_exc x14 _).trans (by rw [sub_be]), hde14, cae14, thn, tht, (mro_exc x14 _).trans (by rw [sub_ob])⟩
  have sb14 : ∀ C, PySem.W.subIn K (.ref C14) (.ref C) = some (decide (C = C14) || decide (C = CT)) := fun C => (mro_exc x14 _).trans (by rw [sub_ref])
  obtain ⟨ty15, ic15⟩ := type_exc x15
  have er15 : Err K C15 := ⟨ge15, he15, (mro_exc x15 _).trans (by rw [sub_be]), hde15, cae15, thn, tht, (mro_exc x15 _).trans (by rw [sub_ob])⟩
  have sb15 : ∀ C, PySem.W.subIn K (.ref C15) (.ref C) = some (decide (C = C15) || decide (C = CT)) := fun C => (mro_exc x15 _).trans (by rw [sub_ref])
  obtain ⟨ty16, ic16⟩ := type_exc x16
  have er16 : Err K C16 := ⟨ge16, he16, (mro_exc x16 _).trans (by rw [sub_be]), hde16, cae16, thn, tht, (mro_exc x16 _).trans (by rw [sub_ob])⟩
  have sb16 : ∀ C, PySem.W.subIn K (.ref C16) (.ref C) = some (decide (C = C16) || decide (C = CT)) := fun C => (mro_exc x16 _).trans (by rw [sub_ref])
  obtain ⟨ty17, ic17⟩ := type_exc x17
  have er17 : Err K C17 := ⟨ge17, he17, (mro_exc x17 _).trans (by rw [sub_be]), hde17, cae17, thn, tht, (mro_exc x17 _).trans (by rw [sub_ob])⟩
  have sb17 : ∀ C, PySem.W.subIn K (.ref C17) (.ref C) = some (decide (C = C17) || decide (C = CT)) := fun C => (mro_exc x17 _).trans (by rw [sub_ref])
  obtain ⟨ty18, ic18⟩ := type_exc x18
  have er18 : Err K C18 := ⟨ge18, he18, (mro_exc x18 _).trans (by rw [sub_be]), hde18, cae18, thn, tht, (mro_exc x18 _).trans (by rw [sub_ob])⟩
  have sb18 : ∀ C, PySem.W.subIn K (.ref C18) (.ref C) = some (decide (C = C18) || decide (C = CT)) := fun C => (mro_exc x18 _).trans (by rw [sub_ref])
  obtain ⟨ty19, ic19⟩ := type_exc x19
  have er19 : Err K C19 := ⟨ge19, he19, (mro_exc x19 _).trans (by rw [sub_be]), hde19, cae19, thn, tht, (mro_exc x19 _).trans (by rw [sub_ob])⟩
  have sb19 : ∀ C, PySem.W.subIn K (.ref C19) (.ref C) = some (decide (C = C19) || decide (C = CT)) := fun C => (mro_exc x19 _).trans (by rw [sub_ref])
  obtain ⟨ty20, ic20⟩ := type_exc x20
  have er20 : Err K C20 := ⟨ge20, he20, (mro_exc x20 _).trans (by rw [sub_be]), hde20, cae20, thn, tht, (mro_exc x20 _).trans (by rw [sub_ob])⟩
  have sb20 : ∀ C, PySem.W.subIn K (.ref C20) (.ref C) = some (decide (C = C20) || decide (C = CT)) := fun C => (mro_exc x20 _).trans (by rw [sub_ref])
  obtain ⟨ty21, ic21⟩ := type_exc x21
  have er21 : Err K C21 := ⟨ge21, he21, (mro_exc x21 _).trans (by rw [sub_be]), hde21, cae21, thn, tht, (mro_exc x21 _).trans (by rw [sub_ob])⟩
  have sb21 : ∀ C, PySem.W.subIn K (.ref C21) (.ref C) = some (decide (C = C21) || decide (C = CT)) := fun C => (mro_exc x21 _).trans (by rw [sub_ref])
  obtain ⟨ty22, ic22⟩ := type_exc x22
  have er22 : Err K C22 := ⟨ge22, he22, (mro_exc x22 _).trans (by rw [sub_be]), hde22, cae22, thn, tht, (mro_exc x22 _).trans (by rw [sub_ob])⟩
  have sb22 : ∀ C, PySem.W.subIn K (.ref C22) (.ref C) = some (decide (C = C22) || decide (C = CT)) := fun C => (mro_exc x22 _).trans (by rw [sub_ref])
  have er : ∀ i, i < 23 → Err K (cl i) := by
    intro i hi
    match i, hi with
    | 0, _ =>
      rw [d0]
      exact er0
    | 1, _ =>
      rw [d1]
      exact er1
    | 2, _ =>
      rw [d2]
      exact er2
    | 3, _ =>
      rw [d3]
      exact er3
    | 4, _ =>
      rw [d4]
      exact er4
    | 5, _ =>
      rw [d5]
      exact er5
    | 6, _ =>
      rw [d6]
      exact er6
    | 7, _ =>
      rw [d7]
      exact er7
    | 8, _ =>
      rw [d8]
      exact er8
    | 9, _ =>
      rw [d9]
      exact er9
    | 10, _ =>
      rw [d10]
      exact er10
    | 11, _ =>
      rw [d11]
      exact er11
    | 12, _ =>
      rw [d12]
      exact er12
    | 13, _ =>
      rw [d13]
      exact er13
    | 14, _ =>
      rw [d14]
      exact er14
    | 15, _ =>
      rw [d15]
      exact er15
    | 16, _ =>
      rw [d16]
      exact er16
    | 17, _ =>
      rw [d17]
      exact er17
    | 18, _ =>
      rw [d18]
      exact er18
    | 19, _ =>
      rw [d19]
      exact er19
    | 20, _ =>
      rw [d20]
      exact er20
    | 21, _ =>
      rw [d21]
      exact er21
    | 22, _ =>
      rw [d22]
      exact er22
    | i + 23, h => exact absurd h (by omega)
  have sb : ∀ i, i < 23 → ∀ C, PySem.W.subIn K (.ref (cl i)) (.ref C) = some (decide (C = cl i) || decide (C = CT)) := by
    intro i hi
    match i, hi with
    | 0, _ =>
      rw [d0]
      exact sb0
    | 1, _ =>
      rw [d1]
      exact sb1
    | 2, _ =>
      rw [d2]
      exact sb2
    | 3, _ =>
      rw [d3]
      exact sb3
    | 4, _ =>
      rw [d4]
      exact sb4
    | 5, _ =>
      rw [d5]
      exact sb5
    | 6, _ =>
      rw [d6]
      exact sb6
    | 7, _ =>
      rw [d7]
      exact sb7
    | 8, _ =>
      rw [d8]
      exact sb8
    | 9, _ =>
      rw [d9]
      exact sb9
    | 10, _ =>
      rw [d10]
      exact sb10
    | 11, _ =>
      rw [d11]
      exact sb11
    | 12, _ =>
      rw [d12]
      exact sb12
    | 13, _ =>
      rw [d13]
      exact sb13
    | 14, _ =>
      rw [d14]
      exact sb14
    | 15, _ =>
      rw [d15]
      exact sb15
    | 16, _ =>
      rw [d16]
      exact sb16
    | 17, _ =>
      rw [d17]
      exact sb17
    | 18, _ =>
      rw [d18]
      exact sb18
    | 19, _ =>
      rw [d19]
      exact sb19
    | 20, _ =>
      rw [d20]
      exact sb20
    | 21, _ =>
      rw [d21]
      exact sb21
    | 22, _ =>
      rw [d22]
      exact sb22
    | i + 23, h => exact absurd h (by omega)
  have tyc : ∀ i, i < 23 → PySem.W.typeIn K (.ref (cl i)) = some (.type "type") ∧ PySem.W.isClsIn K (cl i) = true := by
    intro i hi
    match i, hi with
    | 0, _ =>
      rw [d0]
      exact ⟨ty0, ic0⟩
    | 1, _ =>
      rw [d1]
      exact ⟨ty1, ic1⟩
    | 2, _ =>
      rw [d2]
      exact ⟨ty2, ic2⟩
    | 3, _ =>
      rw [d3]
      exact ⟨ty3, ic3⟩
    | 4, _ =>
      rw [d4]
      exact ⟨ty4, ic4⟩
    | 5, _ =>
      rw [d5]
      exact ⟨ty5, ic5⟩
    | 6, _ =>
      rw [d6]
      exact ⟨ty6, ic6⟩
    | 7, _ =>
      rw [d7]
      exact ⟨ty7, ic7⟩
    | 8, _ =>
      rw [d8]
      exact ⟨ty8, ic8⟩
    | 9, _ =>
      rw [d9]
      exact ⟨ty9, ic9⟩
    | 10, _ =>
      rw [d10]
      exact ⟨ty10, ic10⟩
    | 11, _ =>
      rw [d11]
      exact ⟨ty11, ic11⟩
    | 12, _ =>
      rw [d12]
      exact ⟨ty12, ic12⟩
    | 13, _ =>
      rw [d13]
      exact ⟨ty13, ic13⟩
    | 14, _ =>
      rw [d14]
      exact ⟨ty14, ic14⟩
    | 15, _ =>
      rw [d15]
      exact ⟨ty15, ic15⟩
    | 16, _ =>
      rw [d16]
      exact ⟨ty16, ic16⟩
    | 17, _ =>
      rw [d17]
      exact ⟨ty17, ic17⟩
    | 18, _ =>
      rw [d18]
      exact ⟨ty18, ic18⟩
    | 19, _ =>
      rw [d19]
      exact ⟨ty19, ic19⟩
    | 20, _ =>
      rw [d20]
      exact ⟨ty20, ic20⟩
    | 21, _ =>
      rw [d21]
      exact ⟨ty21, ic21⟩
    | 22, _ =>
      rw [d22]
      exact ⟨ty22, ic22⟩
    | i + 23, h => exact absurd h (by omega)
  have sv : ∀ i, i < 23 → PySem.W.subIn K (.ref (cl i)) (.type "ValueError") = some true := by
    intro i hi
    match i, hi with
    | 0, _ =>
      rw [d0]
      exact (mro_exc x0 _).trans (by rw [sub_ve])
    | 1, _ =>
      rw [d1]
      exact (mro_exc x1 _).trans (by rw [sub_ve])
    | 2, _ =>
      rw [d2]
      exact (mro_exc x2 _).trans (by rw [sub_ve])
    | 3, _ =>
      rw [d3]
      exact (mro_exc x3 _).trans (by rw [sub_ve])
    | 4, _ =>
      rw [d4]
      exact (mro_exc x4 _).trans (by rw [sub_ve])
    | 5, _ =>
      rw [d5]
      exact (mro_exc x5 _).trans (by rw [sub_ve])
    | 6, _ =>
      rw [d6]
      exact (mro_exc x6 _).trans (by rw [sub_ve])
    | 7, _ =>
      rw [d7]
      exact (mro_exc x7 _).trans (by rw [sub_ve])
    | 8, _ =>
      rw [d8]
      exact (mro_exc x8 _).trans (by rw [sub_ve])
    | 9, _ =>
      rw [d9]
      exact (mro_exc x9 _).trans (by rw [sub_ve])
    | 10, _ =>
      rw [d10]
      exact (mro_exc x10 _).trans (by rw [sub_ve])
    | 11, _ =>
      rw [d11]
      exact (mro_exc x11 _).trans (by rw [sub_ve])
    | 12, _ =>
      rw [d12]
      exact (mro_exc x12 _).trans (by rw [sub_ve])
    | 13, _ =>
      rw [d13]
      exact (mro_exc x13 _).trans (by rw [sub_ve])
    | 14, _ =>
      rw [d14]
      exact (mro_exc x14 _).trans (by rw [sub_ve])
    | 15, _ =>
      rw [d15]
      exact (mro_exc x15 _).trans (by rw [sub_ve])
    | 16, _ =>
      rw [d16]
      exact (mro_exc x16 _).trans (by rw [sub_ve])
    | 17, _ =>
      rw [d17]
      exact (mro_exc x17 _).trans (by rw [sub_ve])
    | 18, _ =>
      rw [d18]
      exact (mro_exc x18 _).trans (by rw [sub_ve])
    | 19, _ =>
      rw [d19]
      exact (mro_exc x19 _).trans (by rw [sub_ve])
    | 20, _ =>
      rw [d20]
      exact (mro_exc x20 _).trans (by rw [sub_ve])
    | 21, _ =>
      rw [d21]
      exact (mro_exc x21 _).trans (by rw [sub_ve])
    | 22, _ =>
      rw [d22]
      exact (mro_exc x22 _).trans (by rw [sub_ve])
    | i + 23, h => exact absurd h (by omega)
  have inj : ∀ i j, i < 23 → j < 23 → decide (cl j = cl i) = decide (i = j) := by
    intro i j hi hj
    have nd2 := (List.nodup_cons.mp nd).2
    by_cases z : i = j
    · subst z
      simp
    · rw [decide_eq_false z]
      refine decide_eq_false fun e => ?_
      rw [hcl] at e
      have hl : ([C0, C1, C2, C3, C4, C5, C6, C7, C8, C9, C10, C11, C12, C13, C14, C15, C16, C17, C18, C19, C20, C21, C22] : List Addr).length = 23 := rfl
      have ei : ([C0, C1, C2, C3, C4, C5, C6, C7, C8, C9, C10, C11, C12, C13, C14, C15, C16, C17, C18, C19, C20, C21, C22] : List Addr).getD i CT = ([C0, C1, C2, C3, C4, C5, C6, C7, C8, C9, C10, C11, C12, C13, C14, C15, C16, C17, C18, C19, C20, C21, C22] : List Addr)[i]'(by rw [hl]; exact hi) := by rw [List.getD_eq_getElem?_getD, List.getElem?_eq_getElem (by rw [hl]; exact hi)]; rfl
      have ej : ([C0, C1, C2, C3, C4, C5, C6, C7, C8, C9, C10, C11, C12, C13, C14, C15, C16, C17, C18, C19, C20, C21, C22] : List Addr).getD j CT = ([C0, C1, C2, C3, C4, C5, C6, C7, C8, C9, C10, C11, C12, C13, C14, C15, C16, C17, C18, C19, C20, C21, C22] : List Addr)[j]'(by rw [hl]; exact hj) := by rw [List.getD_eq_getElem?_getD, List.getElem?_eq_getElem (by rw [hl]; exact hj)]; rfl
      have e2 := (ei.symm.trans e.symm).trans ej
      have pw := List.pairwise_iff_getElem.mp nd2
      rcases Nat.lt_or_gt_of_ne z with lt | lt
      · exact absurd e2 (pw i j (by rw [hl]; exact hi) (by rw [hl]; exact hj) lt)
      · exact absurd e2.symm (pw j i (by rw [hl]; exact hj) (by rw [hl]; exact hi) lt)
  have nCT : ∀ j, j < 23 → ¬ cl j = CT := by
    intro j hj e
    have nd1 := (List.nodup_cons.mp nd).1
    refine nd1 ?_
    rw [← e, hcl]
    have hl : ([C0, C1, C2, C3, C4, C5, C6, C7, C8, C9, C10, C11, C12, C13, C14, C15, C16, C17, C18, C19, C20, C21, C22] : List Addr).length = 23 := rfl
    show ([C0, C1, C2, C3, C4, C5, C6, C7, C8, C9, C10, C11, C12, C13, C14, C15, C16, C17, C18, C19, C20, C21, C22] : List Addr).getD j CT ∈ _
    rw [List.getD_eq_getElem?_getD, List.getElem?_eq_getElem (by rw [hl]; exact hj)]
    exact List.getElem_mem _
  have T : Cls K mg cl := {
    isi := g0 b_isinstance
    g0 := by rw [d0]; exact g1 a0
    g1 := by rw [d1]; exact g1 a1
    g2 := by rw [d2]; exact g1 a2
    g3 := by rw [d3]; exact g1 a3
    g4 := by rw [d4]; exact g1 a4
    g5 := by rw [d5]; exact g1 a5
    g6 := by rw [d6]; exact g1 a6
    g7 := by rw [d7]; exact g1 a7
    g8 := by rw [d8]; exact g1 a8
    g9 := by rw [d9]; exact g1 a9
    g10 := by rw [d10]; exact g1 a10
    g11 := by rw [d11]; exact g1 a11
    g12 := by rw [d12]; exact g1 a12
    g13 := by rw [d13]; exact g1 a13
    g14 := by rw [d14]; exact g1 a14
    g15 := by rw [d15]; exact g1 a15
    g16 := by rw [d16]; exact g1 a16
    g17 := by rw [d17]; exact g1 a17
    g18 := by rw [d18]; exact g1 a18
    g19 := by rw [d19]; exact g1 a19
    g20 := by rw [d20]; exact g1 a20
    g21 := by rw [d21]; exact g1 a21
    g22 := by rw [d22]; exact g1 a22
    er := er
    kit := fun i j hi hj => kit_own (tyc j hj).2 (tyc j hj).1 ((sb i hi (cl j)).trans (by rw [inj i j hi hj, decide_eq_false (nCT j hj), Bool.or_false])) ((sb j hj (cl j)).trans (by simp))
    n0_0 := by rw [d0]; exact n0e0
    n1_0 := by rw [d1]; exact n0e1
    n2_0 := by rw [d2]; exact n0e2
    n3_0 := by rw [d3]; exact n0e3
    n4_0 := by rw [d4]; exact n0e4
    n5_0 := by rw [d5]; exact n0e5
    n6_0 := by rw [d6]; exact n0e6
    n7_0 := by rw [d7]; exact n0e7
    n8_0 := by rw [d8]; exact n0e8
    n9_0 := by rw [d9]; exact n0e9
    n10_0 := by rw [d10]; exact n0e10
    n11_0 := by rw [d11]; exact n0e11
    n12_0 := by rw [d12]; exact n0e12
    n13_0 := by rw [d13]; exact n0e13
    n14_0 := by rw [d14]; exact n0e14
    n14_1 := by rw [d14]; exact n1e14
    n15_0 := by rw [d15]; exact n0e15
    n16_0 := by rw [d16]; exact n0e16
    n17_0 := by rw [d17]; exact n0e17
    n18_0 := by rw [d18]; exact n0e18
    n19_0 := by rw [d19]; exact n0e19
    n20_0 := by rw [d20]; exact n0e20
    n21_0 := by rw [d21]; exact n0e21
    n21_1 := by rw [d21]; exact n1e21
    }
  have F_e0 := fun_mk (st := sE0) le0 ce0 ke0
  have b_e0_ := F_e0.binds (ps := ["self", "name"]) fun _ _ _ _ _ _ us hl => match us, hl with | [_, _], _ => rfl
  have F_e1 := fun_mk (st := sE1) le1 ce1 ke1
  have b_e1_ := F_e1.binds (ps := ["self", "moment"]) fun _ _ _ _ _ _ us hl => match us, hl with | [_, _], _ => rfl
  have F_e2 := fun_mk (st := sE2) le2 ce2 ke2
  have b_e2_ := F_e2.binds (ps := ["self", "value"]) fun _ _ _ _ _ _ us hl => match us, hl with | [_, _], _ => rfl
  have F_e3 := fun_mk (st := sE3) le3 ce3 ke3
  have b_e3_ := F_e3.binds (ps := ["self", "value"]) fun _ _ _ _ _ _ us hl => match us, hl with | [_, _], _ => rfl
  have F_e4 := fun_mk (st := sE4) le4 ce4 ke4
  have b_e4_ := F_e4.binds (ps := ["self", "at"]) fun _ _ _ _ _ _ us hl => match us, hl with | [_, _], _ => rfl
  have F_e5 := fun_mk (st := sE5) le5 ce5 ke5
  have b_e5_ := F_e5.binds (ps := ["self", "at"]) fun _ _ _ _ _ _ us hl => match us, hl with | [_, _], _ => rfl
  have F_e6 := fun_mk (st := sE6) le6 ce6 ke6
  have b_e6_ := F_e6.binds (ps := ["self", "at"]) fun _ _ _ _ _ _ us hl => match us, hl with | [_, _], _ => rfl
  have F_e7 := fun_mk (st := sE7) le7 ce7 ke7
  have b_e7_ := F_e7.binds (ps := ["self", "tool"]) fun _ _ _ _ _ _ us hl => match us, hl with | [_, _], _ => rfl
  have F_e8 := fun_mk (st := sE8) le8 ce8 ke8
  have b_e8_ := F_e8.binds (ps := ["self", "number"]) fun _ _ _ _ _ _ us hl => match us, hl with | [_, _], _ => rfl
  have F_e9 := fun_mk (st := sE9) le9 ce9 ke9
  have b_e9_ := F_e9.binds (ps := ["self", "number"]) fun _ _ _ _ _ _ us hl => match us, hl with | [_, _], _ => rfl
  have F_e10 := fun_mk (st := sE10) le10 ce10 ke10
  have b_e10_ := F_e10.binds (ps := ["self", "name"]) fun _ _ _ _ _ _ us hl => match us, hl with | [_, _], _ => rfl
  have F_e11 := fun_mk (st := sE11) le11 ce11 ke11
  have b_e11_ := F_e11.binds (ps := ["self", "name"]) fun _ _ _ _ _ _ us hl => match us, hl with | [_, _], _ => rfl
  have F_e12 := fun_mk (st := sE12) le12 ce12 ke12
  have b_e12_ := F_e12.binds (ps := ["self", "value"]) fun _ _ _ _ _ _ us hl => match us, hl with | [_, _], _ => rfl
  have F_e13 := fun_mk (st := sE13) le13 ce13 ke13
  have b_e13_ := F_e13.binds (ps := ["self", "word"]) fun _ _ _ _ _ _ us hl => match us, hl with | [_, _], _ => rfl
  have F_e14 := fun_mk (st := sE14) le14 ce14 ke14
  have b_e14_ := F_e14.binds (ps := ["self", "what", "most"]) fun _ _ _ _ _ _ us hl => match us, hl with | [_, _, _], _ => rfl
  have F_e15 := fun_mk (st := sE15) le15 ce15 ke15
  have b_e15_ := F_e15.binds (ps := ["self", "moment"]) fun _ _ _ _ _ _ us hl => match us, hl with | [_, _], _ => rfl
  have F_e16 := fun_mk (st := sE16) le16 ce16 ke16
  have b_e16_ := F_e16.binds (ps := ["self", "name"]) fun _ _ _ _ _ _ us hl => match us, hl with | [_, _], _ => rfl
  have F_e17 := fun_mk (st := sE17) le17 ce17 ke17
  have b_e17_ := F_e17.binds (ps := ["self", "tool"]) fun _ _ _ _ _ _ us hl => match us, hl with | [_, _], _ => rfl
  have F_e18 := fun_mk (st := sE18) le18 ce18 ke18
  have b_e18_ := F_e18.binds (ps := ["self", "number"]) fun _ _ _ _ _ _ us hl => match us, hl with | [_, _], _ => rfl
  have F_e19 := fun_mk (st := sE19) le19 ce19 ke19
  have b_e19_ := F_e19.binds (ps := ["self", "at"]) fun _ _ _ _ _ _ us hl => match us, hl with | [_, _], _ => rfl
  have F_e20 := fun_mk (st := sE20) le20 ce20 ke20
  have b_e20_ := F_e20.binds (ps := ["self", "at"]) fun _ _ _ _ _ _ us hl => match us, hl with | [_, _], _ => rfl
  have F_e21 := fun_mk (st := sE21) le21 ce21 ke21
  have b_e21_ := F_e21.binds (ps := ["self", "line", "word"]) fun _ _ _ _ _ _ us hl => match us, hl with | [_, _, _], _ => rfl
  have M : Made K mg cl := {
    e0 := by
      rw [d0]
      exact ⟨_, _, ⟨⟨⟨_, _, _, _, _, _, _, _, _, _, _, _, _, _, _, x0, by rfl⟩, se0, er0.3, ty0, kke0⟩, ae0, te0, g1 a0, n0e0, er0, b_e0_⟩, F_e0, kbn2 fun s u z => .of_eq rfl⟩
    e1 := by
      rw [d1]
      exact ⟨_, _, ⟨⟨⟨_, _, _, _, _, _, _, _, _, _, _, _, _, _, _, x1, by rfl⟩, se1, er1.3, ty1, kke1⟩, ae1, te1, g1 a1, n0e1, er1, b_e1_⟩, F_e1, kbn2 fun s u z => .of_eq rfl⟩
    e2 := by
      rw [d2]
      exact ⟨_, _, ⟨⟨⟨_, _, _, _, _, _, _, _, _, _, _, _, _, _, _, x2, by rfl⟩, se2, er2.3, ty2, kke2⟩, ae2, te2, g1 a2, n0e2, er2, b_e2_⟩, F_e2, kbn2 fun s u z => .of_eq rfl⟩
    e3 := by
      rw [d3]
      exact ⟨_, _, ⟨⟨⟨_, _, _, _, _, _, _, _, _, _, _, _, _, _, _, x3, by rfl⟩, se3, er3.3, ty3, kke3⟩, ae3, te3, g1 a3, n0e3, er3, b_e3_⟩, F_e3, kbn2 fun s u z => .of_eq rfl⟩
    e4 := by
      rw [d4]
      exact ⟨_, _, ⟨⟨⟨_, _, _, _, _, _, _, _, _, _, _, _, _, _, _, x4, by rfl⟩, se4, er4.3, ty4, kke4⟩, ae4, te4, g1 a4, n0e4, er4, b_e4_⟩, F_e4, kbn2 fun s u z => .of_eq rfl⟩
    e5 := by
      rw [d5]
      exact ⟨_, _, ⟨⟨⟨_, _, _, _, _, _, _, _, _, _, _, _, _, _, _, x5, by rfl⟩, se5, er5.3, ty5, kke5⟩, ae5, te5, g1 a5, n0e5, er5, b_e5_⟩, F_e5, kbn2 fun s u z => .of_eq rfl⟩
    e6 := by
      rw [d6]
      exact ⟨_, _, ⟨⟨⟨_, _, _, _, _, _, _, _, _, _, _, _, _, _, _, x6, by rfl⟩, se6, er6.3, ty6, kke6⟩, ae6, te6, g1 a6, n0e6, er6, b_e6_⟩, F_e6, kbn2 fun s u z => .of_eq rfl⟩
    e7 := by
      rw [d7]
      exact ⟨_, _, ⟨⟨⟨_, _, _, _, _, _, _, _, _, _, _, _, _, _, _, x7, by rfl⟩, se7, er7.3, ty7, kke7⟩, ae7, te7, g1 a7, n0e7, er7, b_e7_⟩, F_e7, kbn2 fun s u z => .of_eq rfl⟩
    e8 := by
      rw [d8]
      exact ⟨_, _, ⟨⟨⟨_, _, _, _, _, _, _, _, _, _, _, _, _, _, _, x8, by rfl⟩, se8, er8.3, ty8, kke8⟩, ae8, te8, g1 a8, n0e8, er8, b_e8_⟩, F_e8, kbn2 fun s u z => .of_eq rfl⟩
    e9 := by
      rw [d9]
      exact ⟨_, _, ⟨⟨⟨_, _, _, _, _, _, _, _, _, _, _, _, _, _, _, x9, by rfl⟩, se9, er9.3, ty9, kke9⟩, ae9, te9, g1 a9, n0e9, er9, b_e9_⟩, F_e9, kbn2 fun s u z => .of_eq rfl⟩
    e10 := by
      rw [d10]
      exact ⟨_, _, ⟨⟨⟨_, _, _, _, _, _, _, _, _, _, _, _, _, _, _, x10, by rfl⟩, se10, er10.3, ty10, kke10⟩, ae10, te10, g1 a10, n0e10, er10, b_e10_⟩, F_e10, kbn2 fun s u z => .of_eq rfl⟩
    e11 := by
      rw [d11]
      exact ⟨_, _, ⟨⟨⟨_, _, _, _, _, _, _, _, _, _, _, _, _, _, _, x11, by rfl⟩, se11, er11.3, ty11, kke11⟩, ae11, te11, g1 a11, n0e11, er11, b_e11_⟩, F_e11, kbn2 fun s u z => .of_eq rfl⟩
    e12 := by
      rw [d12]
      exact ⟨_, _, ⟨⟨⟨_, _, _, _, _, _, _, _, _, _, _, _, _, _, _, x12, by rfl⟩, se12, er12.3, ty12, kke12⟩, ae12, te12, g1 a12, n0e12, er12, b_e12_⟩, F_e12, kbn2 fun s u z => .of_eq rfl⟩
    e13 := by
      rw [d13]
      exact ⟨_, _, ⟨⟨⟨_, _, _, _, _, _, _, _, _, _, _, _, _, _, _, x13, by rfl⟩, se13, er13.3, ty13, kke13⟩, ae13, te13, g1 a13, n0e13, er13, b_e13_⟩, F_e13, kbn2 fun s u z => .of_eq rfl⟩
    e14 := by
      rw [d14]
      exact ⟨_, _, ⟨⟨⟨_, _, _, _, _, _, _, _, _, _, _, _, _, _, _, x14, by rfl⟩, se14, er14.3, ty14, kke14⟩, ae14, te14, g1 a14, n0e14, n1e14, er14, b_e14_⟩, F_e14, kbn3 fun s u y z => .of_eq rfl⟩
    e15 := by
      rw [d15]
      exact ⟨_, _, ⟨⟨⟨_, _, _, _, _, _, _, _, _, _, _, _, _, _, _, x15, by rfl⟩, se15, er15.3, ty15, kke15⟩, ae15, te15, g1 a15, n0e15, er15, b_e15_⟩, F_e15, kbn2 fun s u z => .of_eq rfl⟩
    e16 := by
      rw [d16]
      exact ⟨_, _, ⟨⟨⟨_, _, _, _, _, _, _, _, _, _, _, _, _, _, _, x16, by rfl⟩, se16, er16.3, ty16, kke16⟩, ae16, te16, g1 a16, n0e16, er16, b_e16_⟩, F_e16, kbn2 fun s u z => .of_eq rfl⟩
    e17 := by
      rw [d17]
      exact ⟨_, _, ⟨⟨⟨_, _, _, _, _, _, _, _, _, _, _, _, _, _, _, x17, by rfl⟩, se17, er17.3, ty17, kke17⟩, ae17, te17, g1 a17, n0e17, er17, b_e17_⟩, F_e17, kbn2 fun s u z => .of_eq rfl⟩
    e18 := by
      rw [d18]
      exact ⟨_, _, ⟨⟨⟨_, _, _, _, _, _, _, _, _, _, _, _, _, _, _, x18, by rfl⟩, se18, er18.3, ty18, kke18⟩, ae18, te18, g1 a18, n0e18, er18, b_e18_⟩, F_e18, kbn2 fun s u z => .of_eq rfl⟩
    e19 := by
      rw [d19]
      exact ⟨_, _, ⟨⟨⟨_, _, _, _, _, _, _, _, _, _, _, _, _, _, _, x19, by rfl⟩, se19, er19.3, ty19, kke19⟩, ae19, te19, g1 a19, n0e19, er19, b_e19_⟩, F_e19, kbn2 fun s u z => .of_eq rfl⟩
    e20 := by
      rw [d20]
      exact ⟨_, _, ⟨⟨⟨_, _, _, _, _, _, _, _, _, _, _, _, _, _, _, x20, by rfl⟩, se20, er20.3, ty20, kke20⟩, ae20, te20, g1 a20, n0e20, er20, b_e20_⟩, F_e20, kbn2 fun s u z => .of_eq rfl⟩
    e21 := by
      rw [d21]
      exact ⟨_, _, ⟨⟨⟨_, _, _, _, _, _, _, _, _, _, _, _, _, _, _, x21, by rfl⟩, se21, er21.3, ty21, kke21⟩, ae21, te21, g1 a21, n0e21, n1e21, er21, b_e21_⟩, F_e21, kbn3 fun s u y z => .of_eq rfl⟩
    q22 := by rw [d22]; exact q22
    g22 := by rw [d22]; exact g1 a22
    k22 := by rw [d22]; exact kke22
    b22 := by rw [d22]; exact er22.3
    t22 := by rw [d22]; exact ty22
    }
  have N0 : Env K mg cl CT := ⟨T, g0 b_range, g0 b_repr, g0 b_len, g0 b_ValueError, g1 aT, fun i hi => kit_own iT tT ((sb i hi CT).trans (by simp)) sT, fun i hi => kit_VE (sv i hi)⟩
  refine ⟨PySem.W.fnOf "law" "law" (defArgs sLaw) (defBody sLaw) (defScope sLaw) .none kVlaw dclaw pmlaw anlaw cdlaw ctlaw, fun s v => .of_eq rfl, fun base _ _ => ?_⟩
  have GD := ok_draw (P := l.prog) (w := w) (base := base) F_draw (g0 b_len) (g0 b_int) (g0 b_abs)
  have GPk := ok_pick (P := l.prog) (w := w) (base := base) F_pick (g0 b_len) F_draw b_draw_ (g1 adraw) GD
  have GPen := ok_pen (P := l.prog) (w := w) (base := base) F_pen (g0 b_list)
  have GV := ok_value (P := l.prog) (w := w) (base := base) F_value F_pick b_pick_ (g1 apick) GPk F_draw b_draw_ (g1 adraw) GD
  have GF := ok_fields (P := l.prog) (w := w) (mg := mg) (base := base) F_fields
  have GB := ok_by_place (P := l.prog) (w := w) (base := base) F_place M
  have GN := ok_by_name (P := l.prog) (w := w) (base := base) F_byname M
  have GK := ok_kept (P := l.prog) (w := w) (mg := mg) (base := base) F_kept
  have GM := ok_marks (P := l.prog) (w := w) (base := base) F_marks T
  exact ok_law F_law N0 F_pen b_pen_ (g1 apen) GPen F_value b_value_ (g1 avalue) GV F_fields b_fields_ (g1 afields) GF F_place b_place_ (g1 aplace) GB F_byname b_byname_ (g1 abyname) GN F_kept b_kept_ (g1 akept) GK F_marks b_marks_ (g1 amarks) GM
theorem walk {l : PySem.W.OpenLaw} {q : Program} {loose : List Str} {XP : (Str → Option Value) → Heap → Prop} {YP : World → Heap → Prop} {d : DefRec} {K : Params → PySem.W.Frag} (hn : l.most = some 63) (hdf : d.params.defaults = [])
    (hY : ∀ (w : World) (h : Heap), YP w h → (K w.params).In h)
    (F : ∀ (w : World) (mg : Str → Option Value) (fa : Addr) (h : Heap), (K w.params).In h → h.Ns mainGlobals mg → mg d.name = some (.ref fa) →
      ∃ fd : FuncData, (∀ (s : Shared) (u : Value), BindsTo s fd ⟨[u], []⟩ [("_law_script", u)]) ∧ ∀ base : Heap, (K w.params).In base → base.Ns mainGlobals mg → FnG l.prog w (K w.params) mg base CX0 4 fa fd ["_law_script"] (spLaw (K w.params))) :
    PySem.W.WalkO q loose XP YP l.row.toRowW d [] (fun f vs => PySem.call f vs) :=
  walk_ofG (n := 63) (k := 4) (x := "_law_script") (CX := fun _ => CX0) (sp := fun w => spLaw (K w.params)) hn (by decide) hdf ⟨rfl, by decide, by decide⟩ hY F (fun _ _ a ns hl _ _ hS => ⟨a, ns, rfl, hS, fun _ => rfl⟩) fun _ _ _ _ _ z => z
end K07

open PySem PySem.W PyProof.Rows in
set_option maxRecDepth 100000 in
set_option maxHeartbeats 0 in
theorem PySem.Challenge.cw_soundtill_k07_errors_kept_holds : PySem.Challenge.rw_soundtill_k07_errors_kept.Holds := by
  w_on; o_law; k_head; (case hw => w_witness2)
  k_fill
  refine K07.walk (l := PySem.Challenge.rw_soundtill_k07_errors_kept) rfl rfl (fun w h Y => PySem.W.kIn_of Y) ?F
  case F =>
    intro w mg fa h KX G hmg
    refine' K07.all_mk KX G hmg ?apen ?lpen ?cpen ?kpen ?adraw ?ldraw ?cdraw ?kdraw ?apick ?lpick ?cpick ?kpick ?aplace ?lplace ?cplace ?kplace ?abyname ?lbyname ?cbyname ?kbyname ?afields ?lfields ?cfields ?kfields ?akept ?lkept ?ckept ?kkept ?amarks ?lmarks ?cmarks ?kmarks ?avalue ?lvalue ?cvalue ?kvalue ?alaw ?llaw ?claw ?klaw ?b_isinstance ?b_int ?b_len ?b_abs ?b_range ?b_repr ?b_list ?b_ValueError ?aT ?iT ?tT ?sT ?thn ?tht ?a0 ?a1 ?a2 ?a3 ?a4 ?a5 ?a6 ?a7 ?a8 ?a9 ?a10 ?a11 ?a12 ?a13 ?a14 ?a15 ?a16 ?a17 ?a18 ?a19 ?a20 ?a21 ?a22 ?x0 ?ge0 ?he0 ?kke0 ?hde0 ?cae0 ?se0 ?n0e0 ?ae0 ?te0 ?le0 ?ce0 ?ke0 ?x1 ?ge1 ?he1 ?kke1 ?hde1 ?cae1 ?se1 ?n0e1 ?ae1 ?te1 ?le1 ?ce1 ?ke1 ?x2 ?ge2 ?he2 ?kke2 ?hde2 ?cae2 ?se2 ?n0e2 ?ae2 ?te2 ?le2 ?ce2 ?ke2 ?x3 ?ge3 ?he3 ?kke3 ?hde3 ?cae3 ?se3 ?n0e3 ?ae3 ?te3 ?le3 ?ce3 ?ke3 ?x4 ?ge4 ?he4 ?kke4 ?hde4 ?cae4 ?se4 ?n0e4 ?ae4 ?te4 ?le4 ?ce4 ?ke4 ?x5 ?ge5 ?he5 ?kke5 ?hde5 ?cae5 ?se5 ?n0e5 ?ae5 ?te5 ?le5 ?ce5 ?ke5 ?x6 ?ge6 ?he6 ?kke6 ?hde6 ?cae6 ?se6 ?n0e6 ?ae6 ?te6 ?le6 ?ce6 ?ke6 ?x7 ?ge7 ?he7 ?kke7 ?hde7 ?cae7 ?se7 ?n0e7 ?ae7 ?te7 ?le7 ?ce7 ?ke7 ?x8 ?ge8 ?he8 ?kke8 ?hde8 ?cae8 ?se8 ?n0e8 ?ae8 ?te8 ?le8 ?ce8 ?ke8 ?x9 ?ge9 ?he9 ?kke9 ?hde9 ?cae9 ?se9 ?n0e9 ?ae9 ?te9 ?le9 ?ce9 ?ke9 ?x10 ?ge10 ?he10 ?kke10 ?hde10 ?cae10 ?se10 ?n0e10 ?ae10 ?te10 ?le10 ?ce10 ?ke10 ?x11 ?ge11 ?he11 ?kke11 ?hde11 ?cae11 ?se11 ?n0e11 ?ae11 ?te11 ?le11 ?ce11 ?ke11 ?x12 ?ge12 ?he12 ?kke12 ?hde12 ?cae12 ?se12 ?n0e12 ?ae12 ?te12 ?le12 ?ce12 ?ke12 ?x13 ?ge13 ?he13 ?kke13 ?hde13 ?cae13 ?se13 ?n0e13 ?ae13 ?te13 ?le13 ?ce13 ?ke13 ?x14 ?ge14 ?he14 ?kke14 ?hde14 ?cae14 ?se14 ?n0e14 ?n1e14 ?ae14 ?te14 ?le14 ?ce14 ?ke14 ?x15 ?ge15 ?he15 ?kke15 ?hde15 ?cae15 ?se15 ?n0e15 ?ae15 ?te15 ?le15 ?ce15 ?ke15 ?x16 ?ge16 ?he16 ?kke16 ?hde16 ?cae16 ?se16 ?n0e16 ?ae16 ?te16 ?le16 ?ce16 ?ke16 ?x17 ?ge17 ?he17 ?kke17 ?hde17 ?cae17 ?se17 ?n0e17 ?ae17 ?te17 ?le17 ?ce17 ?ke17 ?x18 ?ge18 ?he18 ?kke18 ?hde18 ?cae18 ?se18 ?n0e18 ?ae18 ?te18 ?le18 ?ce18 ?ke18 ?x19 ?ge19 ?he19 ?kke19 ?hde19 ?cae19 ?se19 ?n0e19 ?ae19 ?te19 ?le19 ?ce19 ?ke19 ?x20 ?ge20 ?he20 ?kke20 ?hde20 ?cae20 ?se20 ?n0e20 ?ae20 ?te20 ?le20 ?ce20 ?ke20 ?x21 ?ge21 ?he21 ?kke21 ?hde21 ?cae21 ?se21 ?n0e21 ?n1e21 ?ae21 ?te21 ?le21 ?ce21 ?ke21 ?x22 ?ge22 ?he22 ?kke22 ?hde22 ?cae22 ?q22 ?nd
    (case apen => k_is)
    (case lpen => k_is)
    (case cpen => k_is)
    (case kpen => k_is)
    (case adraw => k_is)
    (case ldraw => k_is)
    (case cdraw => k_is)
    (case kdraw => k_is)
    (case apick => k_is)
    (case lpick => k_is)
    (case cpick => k_is)
    (case kpick => k_is)
    (case aplace => k_is)
    (case lplace => k_is)
    (case cplace => k_is)
    (case kplace => k_is)
    (case abyname => k_is)
    (case lbyname => k_is)
    (case cbyname => k_is)
    (case kbyname => k_is)
    (case afields => k_is)
    (case lfields => k_is)
    (case cfields => k_is)
    (case kfields => k_is)
    (case akept => k_is)
    (case lkept => k_is)
    (case ckept => k_is)
    (case kkept => k_is)
    (case amarks => k_is)
    (case lmarks => k_is)
    (case cmarks => k_is)
    (case kmarks => k_is)
    (case avalue => k_is)
    (case lvalue => k_is)
    (case cvalue => k_is)
    (case kvalue => k_is)
    (case alaw => k_is)
    (case llaw => k_is)
    (case claw => k_is)
    (case klaw => k_is)
    (case b_isinstance => k_is)
    (case b_int => k_is)
    (case b_len => k_is)
    (case b_abs => k_is)
    (case b_range => k_is)
    (case b_repr => k_is)
    (case b_list => k_is)
    (case b_ValueError => k_is)
    (case aT => k_is)
    (case iT => k_is)
    (case tT => k_is)
    (case sT => k_is)
    (case thn => k_is)
    (case tht => k_is)
    (case a0 => k_is)
    (case a1 => k_is)
    (case a2 => k_is)
    (case a3 => k_is)
    (case a4 => k_is)
    (case a5 => k_is)
    (case a6 => k_is)
    (case a7 => k_is)
    (case a8 => k_is)
    (case a9 => k_is)
    (case a10 => k_is)
    (case a11 => k_is)
    (case a12 => k_is)
    (case a13 => k_is)
    (case a14 => k_is)
    (case a15 => k_is)
    (case a16 => k_is)
    (case a17 => k_is)
    (case a18 => k_is)
    (case a19 => k_is)
    (case a20 => k_is)
    (case a21 => k_is)
    (case a22 => k_is)
    (case x0 => k_is)
    (case ge0 => k_is)
    (case he0 => k_is)
    (case kke0 => k_is)
    (case hde0 => k_is)
    (case cae0 => k_is)
    (case se0 => k_is)
    (case n0e0 => k_is)
    (case ae0 => k_is)
    (case te0 => k_is)
    (case le0 => k_is)
    (case ce0 => k_is)
    (case ke0 => k_is)
    (case x1 => k_is)
    (case ge1 => k_is)
    (case he1 => k_is)
    (case kke1 => k_is)
    (case hde1 => k_is)
    (case cae1 => k_is)
    (case se1 => k_is)
    (case n0e1 => k_is)
    (case ae1 => k_is)
    (case te1 => k_is)
    (case le1 => k_is)
    (case ce1 => k_is)
    (case ke1 => k_is)
    (case x2 => k_is)
    (case ge2 => k_is)
    (case he2 => k_is)
    (case kke2 => k_is)
    (case hde2 => k_is)
    (case cae2 => k_is)
    (case se2 => k_is)
    (case n0e2 => k_is)
    (case ae2 => k_is)
    (case te2 => k_is)
    (case le2 => k_is)
    (case ce2 => k_is)
    (case ke2 => k_is)
    (case x3 => k_is)
    (case ge3 => k_is)
    (case he3 => k_is)
    (case kke3 => k_is)
    (case hde3 => k_is)
    (case cae3 => k_is)
    (case se3 => k_is)
    (case n0e3 => k_is)
    (case ae3 => k_is)
    (case te3 => k_is)
    (case le3 => k_is)
    (case ce3 => k_is)
    (case ke3 => k_is)
    (case x4 => k_is)
    (case ge4 => k_is)
    (case he4 => k_is)
    (case kke4 => k_is)
    (case hde4 => k_is)
    (case cae4 => k_is)
    (case se4 => k_is)
    (case n0e4 => k_is)
    (case ae4 => k_is)
    (case te4 => k_is)
    (case le4 => k_is)
    (case ce4 => k_is)
    (case ke4 => k_is)
    (case x5 => k_is)
    (case ge5 => k_is)
    (case he5 => k_is)
    (case kke5 => k_is)
    (case hde5 => k_is)
    (case cae5 => k_is)
    (case se5 => k_is)
    (case n0e5 => k_is)
    (case ae5 => k_is)
    (case te5 => k_is)
    (case le5 => k_is)
    (case ce5 => k_is)
    (case ke5 => k_is)
    (case x6 => k_is)
    (case ge6 => k_is)
    (case he6 => k_is)
    (case kke6 => k_is)
    (case hde6 => k_is)
    (case cae6 => k_is)
    (case se6 => k_is)
    (case n0e6 => k_is)
    (case ae6 => k_is)
    (case te6 => k_is)
    (case le6 => k_is)
    (case ce6 => k_is)
    (case ke6 => k_is)
    (case x7 => k_is)
    (case ge7 => k_is)
    (case he7 => k_is)
    (case kke7 => k_is)
    (case hde7 => k_is)
    (case cae7 => k_is)
    (case se7 => k_is)
    (case n0e7 => k_is)
    (case ae7 => k_is)
    (case te7 => k_is)
    (case le7 => k_is)
    (case ce7 => k_is)
    (case ke7 => k_is)
    (case x8 => k_is)
    (case ge8 => k_is)
    (case he8 => k_is)
    (case kke8 => k_is)
    (case hde8 => k_is)
    (case cae8 => k_is)
    (case se8 => k_is)
    (case n0e8 => k_is)
    (case ae8 => k_is)
    (case te8 => k_is)
    (case le8 => k_is)
    (case ce8 => k_is)
    (case ke8 => k_is)
    (case x9 => k_is)
    (case ge9 => k_is)
    (case he9 => k_is)
    (case kke9 => k_is)
    (case hde9 => k_is)
    (case cae9 => k_is)
    (case se9 => k_is)
    (case n0e9 => k_is)
    (case ae9 => k_is)
    (case te9 => k_is)
    (case le9 => k_is)
    (case ce9 => k_is)
    (case ke9 => k_is)
    (case x10 => k_is)
    (case ge10 => k_is)
    (case he10 => k_is)
    (case kke10 => k_is)
    (case hde10 => k_is)
    (case cae10 => k_is)
    (case se10 => k_is)
    (case n0e10 => k_is)
    (case ae10 => k_is)
    (case te10 => k_is)
    (case le10 => k_is)
    (case ce10 => k_is)
    (case ke10 => k_is)
    (case x11 => k_is)
    (case ge11 => k_is)
    (case he11 => k_is)
    (case kke11 => k_is)
    (case hde11 => k_is)
    (case cae11 => k_is)
    (case se11 => k_is)
    (case n0e11 => k_is)
    (case ae11 => k_is)
    (case te11 => k_is)
    (case le11 => k_is)
    (case ce11 => k_is)
    (case ke11 => k_is)
    (case x12 => k_is)
    (case ge12 => k_is)
    (case he12 => k_is)
    (case kke12 => k_is)
    (case hde12 => k_is)
    (case cae12 => k_is)
    (case se12 => k_is)
    (case n0e12 => k_is)
    (case ae12 => k_is)
    (case te12 => k_is)
    (case le12 => k_is)
    (case ce12 => k_is)
    (case ke12 => k_is)
    (case x13 => k_is)
    (case ge13 => k_is)
    (case he13 => k_is)
    (case kke13 => k_is)
    (case hde13 => k_is)
    (case cae13 => k_is)
    (case se13 => k_is)
    (case n0e13 => k_is)
    (case ae13 => k_is)
    (case te13 => k_is)
    (case le13 => k_is)
    (case ce13 => k_is)
    (case ke13 => k_is)
    (case x14 => k_is)
    (case ge14 => k_is)
    (case he14 => k_is)
    (case kke14 => k_is)
    (case hde14 => k_is)
    (case cae14 => k_is)
    (case se14 => k_is)
    (case n0e14 => k_is)
    (case n1e14 => k_is)
    (case ae14 => k_is)
    (case te14 => k_is)
    (case le14 => k_is)
    (case ce14 => k_is)
    (case ke14 => k_is)
    (case x15 => k_is)
    (case ge15 => k_is)
    (case he15 => k_is)
    (case kke15 => k_is)
    (case hde15 => k_is)
    (case cae15 => k_is)
    (case se15 => k_is)
    (case n0e15 => k_is)
    (case ae15 => k_is)
    (case te15 => k_is)
    (case le15 => k_is)
    (case ce15 => k_is)
    (case ke15 => k_is)
    (case x16 => k_is)
    (case ge16 => k_is)
    (case he16 => k_is)
    (case kke16 => k_is)
    (case hde16 => k_is)
    (case cae16 => k_is)
    (case se16 => k_is)
    (case n0e16 => k_is)
    (case ae16 => k_is)
    (case te16 => k_is)
    (case le16 => k_is)
    (case ce16 => k_is)
    (case ke16 => k_is)
    (case x17 => k_is)
    (case ge17 => k_is)
    (case he17 => k_is)
    (case kke17 => k_is)
    (case hde17 => k_is)
    (case cae17 => k_is)
    (case se17 => k_is)
    (case n0e17 => k_is)
    (case ae17 => k_is)
    (case te17 => k_is)
    (case le17 => k_is)
    (case ce17 => k_is)
    (case ke17 => k_is)
    (case x18 => k_is)
    (case ge18 => k_is)
    (case he18 => k_is)
    (case kke18 => k_is)
    (case hde18 => k_is)
    (case cae18 => k_is)
    (case se18 => k_is)
    (case n0e18 => k_is)
    (case ae18 => k_is)
    (case te18 => k_is)
    (case le18 => k_is)
    (case ce18 => k_is)
    (case ke18 => k_is)
    (case x19 => k_is)
    (case ge19 => k_is)
    (case he19 => k_is)
    (case kke19 => k_is)
    (case hde19 => k_is)
    (case cae19 => k_is)
    (case se19 => k_is)
    (case n0e19 => k_is)
    (case ae19 => k_is)
    (case te19 => k_is)
    (case le19 => k_is)
    (case ce19 => k_is)
    (case ke19 => k_is)
    (case x20 => k_is)
    (case ge20 => k_is)
    (case he20 => k_is)
    (case kke20 => k_is)
    (case hde20 => k_is)
    (case cae20 => k_is)
    (case se20 => k_is)
    (case n0e20 => k_is)
    (case ae20 => k_is)
    (case te20 => k_is)
    (case le20 => k_is)
    (case ce20 => k_is)
    (case ke20 => k_is)
    (case x21 => k_is)
    (case ge21 => k_is)
    (case he21 => k_is)
    (case kke21 => k_is)
    (case hde21 => k_is)
    (case cae21 => k_is)
    (case se21 => k_is)
    (case n0e21 => k_is)
    (case n1e21 => k_is)
    (case ae21 => k_is)
    (case te21 => k_is)
    (case le21 => k_is)
    (case ce21 => k_is)
    (case ke21 => k_is)
    (case x22 => k_is)
    (case ge22 => k_is)
    (case he22 => k_is)
    (case kke22 => k_is)
    (case hde22 => k_is)
    (case cae22 => k_is)
    (case q22 => k_exc)
    (case nd => decide +kernel)
