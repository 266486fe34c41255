import PyProof.Rows.All
import Wide.All
import OpenK.AllK
import Wide.FinOn
import HandS.ForMost
import HandS.OwnEq
import HandS.IsInst
import HandS.Wide
import HandS.EndBits
import HandS.Property
import KE.LtData
import HandS.NamedTupSort
import HandS.Exc
import HandS.ExcInit
import HandS.ExcIs
import HandS.ExcField
import HandS.TryOnly
import HandS.Lambda
import HandS.ClsMeth
import HandS.MakeKwOnly
import KE.KOpsOwn
import HandS.WordsExc
import HandS.WordsDict
import HandS.Codes
import HandS.Walk
import HandS.Iter
import KE.GoesEnum
import KE.GoesMore
import KE.KSuper
import HandS.Zip
import HandS.More
import HandS.DictEq
import PyProof.EqKinds
import HandS.FStr
import HandS.EndTab
import HandS.List
import PyProof.ReprRoads
import KE.KCallOwn
import HandS.Style
import HandS.Text
import PyProof.StrLawsRepr
import KE.OsRunLaw
import HandS.Head2
import PySem.Challenge.RW_soundtill_k63_entries_made
set_option Elab.async false
set_option linter.all false
set_option maxRecDepth 100000
set_option maxHeartbeats 8000000
/-! So: rules of our own over the hand layer. Runs whose guards are known (for repr), repr of data, == and != by an own __eq__ with both answers, < of data, a method's call with keywords. -/
namespace So
open PySem PySem.Spec PyProof.Rows L2

/-! ### repr of data -/
mutual
theorem dp_noDict {K : PySem.W.Frag} {H : Hp} : ∀ (d : PyData) (v : V), Dp K H v d → d.hasDict = false
  | .none, _, _ => rfl
  | .bool _, _, _ => rfl
  | .int _, _, _ => rfl
  | .str _, _, _ => rfl
  | .list ds, _, h => by
    cases h with
    | lst _ ha => simpa [PyData.hasDict] using dp_noDictAll ds _ ha
  | .tuple ds, _, h => by
    cases h with
    | tup _ ha => simpa [PyData.hasDict] using dp_noDictAll ds _ ha
  | .dict _, _, h => by cases h
theorem dp_noDictAll {K : PySem.W.Frag} {H : Hp} : ∀ (ds : List PyData) (vs : List V), DpAll K H vs ds → PyData.hasDictAll ds = false
  | [], _, _ => rfl
  | d :: ds, _, h => by
    cases h with
    | cons h1 h2 => simp [PyData.hasDictAll, dp_noDict d _ h1, dp_noDictAll ds _ h2]
end

/-- repr(x): what it asks -/
def rRepr (K : PySem.W.Frag) : List V → Hp → VK → Prop := fun xs H Q => ∃ v d, xs = [v] ∧ Dp K H v d ∧ d.showable = true ∧ d.depth ≤ 60 ∧ d.shown.length ≤ sizeLine ∧ Q (.str d.shown) H
section
variable {X : Cx}
theorem call_reprD (hg : X.A.guards = some []) (hu : X.A.units + 64 < cLine) : CallR X (.builtin "repr") (rRepr X.K) := by
  intro pins s σ H xs us Q I r h
  obtain ⟨v, d, rfl, hd, hs, hdep, hz, q⟩ := h
  obtain ⟨u, rfl, rv⟩ := vals1 r
  obtain ⟨as, rd⟩ := Dp.reads I d v u hd rv
  have nd : d.hasDict = false := dp_noDict d v hd
  cases v with
  | ref a =>
    cases rv
    refine repr_of_reads' rd hs (fun z => by rw [nd] at z; cases z) hg (by omega) (fun _ _ e => e) (fun h' t tk k => ?_) hz
    exact ⟨.str d.shown, H, I.kept k, ⟨t, rfl⟩, q⟩
  | non =>
    cases hd
    cases rv
    exact PySem.P.repr_of_none ⟨.str _, H, I.tok _, ⟨_, rfl⟩, q⟩
  | bl b =>
    cases hd
    cases rv
    refine PySem.P.repr_of_bool ⟨.str (PyData.shown (.bool b)), H, I.tok _, ⟨s.toks, ?_⟩, q⟩
    cases b <;> rfl
  | int i =>
    cases hd
    obtain ⟨t, rfl⟩ := rv
    exact PySem.P.repr_of_int (by simpa [PyData.showable] using hs) ⟨.str _, H, I.tok _, ⟨_, rfl⟩, q⟩
  | str x =>
    cases hd
    obtain ⟨t, rfl⟩ := rv
    exact PySem.P.repr_of_str ⟨.str _, H, I.tok _, ⟨_, rfl⟩, q⟩ hz
  | byt b => cases hd
  | flt b => cases hd
  | ty n => cases hd

/-! ### < of data -/
def rLtD (K : PySem.W.Frag) : R2 := fun x y H Q => ∃ d e, Dp K H x d ∧ Dp K H y e ∧ PySem.W.alike d e = true ∧ d ≠ .none ∧ d.depth ≤ 60 ∧ Q (.bl (PySem.W.dataLt d e)) H
theorem op_ltD (hu : X.A.units + 64 < cLine) : OpR X (compareOp .Lt) (rLtD X.K) := by
  intro pins s σ H x y v u Q I rx ry h
  obtain ⟨d, e, hd, he, al, nn, dep, q⟩ := h
  obtain ⟨as, r1⟩ := Dp.reads I d x v hd rx
  obtain ⟨bs, r2⟩ := Dp.reads I e y u he ry
  have hm : min d.depth e.depth ≤ d.depth := Nat.min_le_left _ _
  exact PySem.W.rcLt_alike d e X.A s v u as bs r1 r2 al nn (by omega) _ _ _ _ ⟨.bl _, H, I, rfl, q⟩
end
end So

namespace So
open PySem PySem.Spec PyProof.Rows L2

/-! ### == and != by an own __eq__, both answers -/
/-- x is an instance of C, y of a type that is no class below C; the own __eq__ answers b -/
def rOwn (C : Addr) (K : PySem.W.Frag) (sp : Sp) (E : XK) (g : Bool → Bool) : R2 := fun x y H Q => ∃ a dx fs t, x = .ref a ∧ H a = some (.ins C dx fs) ∧ TyX K H y t ∧ PySem.W.notFirst K C t = true ∧
  sp [.ref a, y] H (fun v H' => ∃ b, v = .bl b ∧ Q (.bl (g b)) H') E
section
variable {X : Cx} {CX : CXT} {k : Nat} {C f : Addr} {fd : FuncData} {ps : List Str} {sp : Sp} {E : XK}
/-- what is wanted of a comparison's answer -/
def BlP (X : Cx) (pins : List (Addr × Obj)) (σ : L2.St) (g : Bool → Bool) (Q : VK) (v : Value) (s' : Shared) : Prop := ∃ b H', v = .bool b ∧ Inv X pins σ H' s' ∧ Q (.bl (g b)) H'
theorem run_eq {pins : List (Addr × Obj)} {s : Shared} {σ : L2.St} {H : Hp} {a dx : Addr} {fs : List (Str × V)} {y : V} {u : Value} {Q : VK} {g : Bool → Bool} {A : Around} (F : FnOk X.prog X.w X.K X.mg X.base CX k f fd ps sp) (hb : Binds X.K fd ps [])
    (hx : Passes CX X E) (hr : Room k A) (hf : A.frames = X.A.frames) (I : Inv X pins σ H s) (ry : RelV y u) (h : sp [.ref a, y] H (fun v H' => ∃ b, v = .bl b ∧ Q (.bl (g b)) H') E) :
    wpAny (model X.prog X.w) A (call (.ref f) [.ref a, u]) (fun v s' => BlP X pins σ g Q v s') X.xe s := by
  have e0 : Env0 X.prog X.w X.K X.mg X.base A X.stack s H := by
    have e := I.env0
    exact ⟨hf.trans e.frames, e.mod, e.bs, e.bsz, e.funs, e.frf, e.hok, e.bare⟩
  have hl : ([Value.ref a, u] ++ ([] : List Value)).length = ps.length := (F.len _ _ _ _ h : [V.ref a, y].length = ps.length)
  refine wpAny_call (codeAny_mono (F.run A X.stack s H ⟨[.ref a, u], []⟩ ([.ref a, u] ++ []) [.ref a, y] _ E hr e0 (hb s [.ref a, u] I.kIn hl) (.cons rfl (.cons ry .nil)) h) fun r s' hq => ?_)
  cases r with
  | error e => exact hx pins σ H s e s' I hq
  | ok fl =>
    cases fl with
    | ret w =>
      obtain ⟨z, H', I', rz, b, ez, q⟩ := I.after hq
      subst ez
      cases rz
      exact ⟨b, H', rfl, I', q⟩
    | next => exact False.elim hq
    | brk => exact False.elim hq
    | cont => exact False.elim hq

theorem op_eqOwn (F : FnOk X.prog X.w X.K X.mg X.base CX k f fd ps sp) (hs : PySem.W.findIn X.K (.ref C) "__eq__" = some (some (.ref f))) (hf : PySem.W.isFn X.K (.ref f) = true) (hb : Binds X.K fd ps []) (hx : Passes CX X E) (hr : Room k X.A) :
    OpR X (compareOp .Eq) (rOwn C X.K sp E id) := by
  intro pins s σ H x y v u Q I rx ry h
  obtain ⟨a, dx, fs, t, rfl, ha, ty, nf, q⟩ := h
  cases rx
  obtain ⟨mA, J, _⟩ := ins_get I.hok ha
  obtain ⟨od, J, _⟩ := J.look
  obtain ⟨P, Z, p, _⟩ := kit_of I ry ty
  obtain ⟨m, hF⟩ := I.fr
  show wpAny _ _ (richCompare .Eq (.ref a) u) _ _ s
  refine PySem.W.cmp_K (op := .Eq) (tb := t) hr.units0 hF I.ok.mod.kin J (Z.ty _ _ I.kIn p) nf hs hf ?_
  refine wpAny_mono (run_eq (dx := dx) (fs := fs) F hb hx hr rfl I ry q) (fun w s' z => ?_) fun _ _ z => z
  obtain ⟨b, H', rfl, I', q'⟩ := z
  exact ⟨.bl b, H', I', rfl, q'⟩

/-- != where the class has an own __eq__ and object's __ne__ -/
theorem op_neOwn (F : FnOk X.prog X.w X.K X.mg X.base CX k f fd ps sp) (hs : PySem.W.findIn X.K (.ref C) "__eq__" = some (some (.ref f))) (hf : PySem.W.isFn X.K (.ref f) = true) (hb : Binds X.K fd ps []) (hx : Passes CX X E) (hr : Room (k + 1) X.A)
    (hn : PySem.W.findIn X.K (.ref C) "__ne__" = some (some (.builtin "object.__ne__"))) (hm : PySem.W.mroIn X.K C (.type "object") = some true) : OpR X (compareOp .NotEq) (rOwn C X.K sp E not) := by
  intro pins s σ H x y v u Q I rx ry h
  obtain ⟨a, dx, fs, t, rfl, ha, ty, nf, q⟩ := h
  cases rx
  obtain ⟨mA, J, _⟩ := ins_get I.hok ha
  obtain ⟨od, J, _⟩ := J.look
  obtain ⟨P, Z, p, _⟩ := kit_of I ry ty
  have KI := I.kIn
  have hb' := Z.ty (model X.prog X.w) _ I.kIn p
  have hu : X.A.units < cLine := hr.units0
  show wpAny _ _ (richCompare .NotEq (.ref a) u) _ _ s
  have one : wpAny (model X.prog X.w) X.A (tryCompare (.ref a) "__ne__" u) (fun r s' => ∃ v, r = some v ∧ EP X pins σ Q v s') X.xe s := by
    unfold tryCompare
    refine wpAny_bind (NtL.csib (J.type.andThen (PySem.W.looks_findIn KI hn)) (PySem.F.cmp_object.ne.bind _) (wpAny_call (codeAny_call_builtin PySem.F.cmp_object.ne.plain PySem.F.cmpEntry_ne (PySem.W.check_slot PySem.F.cmpKind_ne PySem.F.cmpSplit_ne (J.type.andThen (PySem.W.looks_mroIn KI hm)) (PySem.F.cmpArgs_ne _ _) ?_))))
    unfold Builtin.«object.__ne__»
    refine wpAny_bind (wpAny_of_eq (a := ((Value.ref a : Value), [u])) (by first | rfl | (simp only [slotArgs]; rfl)) ?_)
    refine wpAny_bind (wpAny_cRoomFor (by show X.A.units + 1 < cLine; have := hr.units; omega) ?_)
    refine wpAny_bind (PySem.W.ifBound_K KI J hs hf (wpAny_mono (run_eq (dx := dx) (fs := fs) F hb hx hr.in1 rfl I ry q) (fun w s' z => ?_) fun _ _ z => z))
    obtain ⟨b, H', rfl, I', q'⟩ := z
    refine wpAny_bind (wpAny_truthy_bool ?_)
    refine wpAny_pure ?_
    exact wpAny_pure ⟨_, rfl, .bl (!b), H', I', rfl, q'⟩
  unfold richCompare
  simp only [oneThing_ref]
  refine wpAny_holding (wpAny_bind (wpAny_cRoomFor hu ?_))
  refine wpAny_bind (J.type.here (wpAny_bind (hb'.here ?_)))
  have fin : wpAny (model X.prog X.w) X.A (tryCompare (.ref a) "__ne__" u) (fun r s' => ∃ v, r = some v ∧ EP X pins σ Q v s') X.xe s := one
  split
  · rename_i z
    have e : PySem.W.subIn X.K t (.ref C) = some false := by
      rcases Bool.or_eq_true_iff.mp nf with e | e
      · rw [beq_iff_eq.mp e] at z; simp at z
      · exact beq_iff_eq.mp e
    refine wpAny_bind ((PySem.W.looks_subIn KI e).here ?_)
    simp only [Bool.false_eq_true, if_false]
    exact wpAny_bind (wpAny_mono fin (fun r s' z => by obtain ⟨v, rfl, hq⟩ := z; exact wpAny_pure hq) fun _ _ e => e)
  · refine wpAny_bind (wpAny_pure ?_)
    simp only [Bool.false_eq_true, if_false]
    exact wpAny_bind (wpAny_mono fin (fun r s' z => by obtain ⟨v, rfl, hq⟩ := z; exact wpAny_pure hq) fun _ _ e => e)
end
end So

namespace So
open PySem PySem.Spec PyProof.Rows L2

/-! ### runs in which no repr is under way -/
/-- as FnOk, where no repr is under way at the call -/
structure FnG (P : Program) (w : World) (K : PySem.W.Frag) (mg : Str → Option Value) (base : Heap) (CX : CXT) (k : Nat) (f : Addr) (fd : FuncData) (ps : List Str) (sp : Sp) : Prop where
  lenG : ∀ (vs : List V) (H : Hp) (Q : VK) (E : XK), sp vs H Q E → vs.length = ps.length
  runG : ∀ (A : Around) (outer : List Env) (s : Shared) (H : Hp) (args : Args) (us : List Value) (vs : List V) (Q : VK) (E : XK), A.guards = some [] → Room k A → Env0 P w K mg base A outer s H →
    BindsTo s fd args (ps.zip us) → Vals vs us → sp vs H Q E → codeAny (model P w) A (.call (.ref f) args) (CR CX outer P w H s Q E) s
section
variable {P : Program} {w : World} {K : PySem.W.Frag} {mg : Str → Option Value} {base : Heap} {CX : CXT} {sp : Sp} {fd : FuncData} {ps N : List Str} {k : Nat} {f : Addr}
theorem FnG.ofOk (F : FnOk P w K mg base CX k f fd ps sp) : FnG P w K mg base CX k f fd ps sp :=
  ⟨F.len, fun A outer s H args us vs Q E _ => F.run A outer s H args us vs Q E⟩
/-- a def by its body, as the layer's rule, the guards told -/
theorem fnG_of {x qual : Str} {st : Stmt} (F : Fun K x qual st f fd) (S : FnScope N ps (defScope st)) (len : ∀ vs H Q E, sp vs H Q E → vs.length = ps.length)
    (hbody : ∀ (cdv : Value) (A : Around) (outer : List Env) (s : Shared) (H : Hp) (vs : List V) (Q : VK) (E : XK), A.guards = some [] → Room k (A.deeper (envOfC qual (defScope st) s.heap.objs.size f cdv)) → sp vs H Q E →
      ∃ t, PSs (cxOf CX P w K mg base N qual (defScope st) f cdv A outer s H E).nox (defBody st) t ∧ t { nx := fun _ H' => Q .non H', rt := Q } (start N vs) H) : FnG P w K mg base CX (k + 1) f fd ps sp := by
  obtain ⟨oc, od, kV, doc, pm, an, cdv, ct, osl, rfl, lk, hcd⟩ := F.ex
  constructor
  · exact len
  intro A outer s H args us vs Q E hg hr e0 hb r hsp
  have old : ∀ b o, base.get? b = some o → s.heap.get? b = some o := fun b o e => (e0.bs b o e).1
  have KX := e0.mod.kin.keeps old
  have lim := e0.mod.nolimit.keeps old
  refine codeAny_call_function hr.depth (KX _ _ lk) rfl S.co S.gen rfl (PySem.W.codeRec_of KX hcd) (hb _ _ _ _ ?_)
  refine wpAny_newFunctionEnv_cells S.kind (fun y hy => ?_) fun env he s1 x => ?_
  · rcases S.par y.1 (List.of_mem_zip (show (y.1, y.2) ∈ ps.zip us from hy)).1 with q | q
    · exact Or.inl q
    · exact Or.inr (And.intro q (PySem.W.cellsFrom_some _ _ _ (Or.inl q)))
  subst he
  refine And.intro (lim.keeps x.toInCall.keep) (codeAny_func ?_)
  obtain ⟨t, ht, hq⟩ := hbody cdv A outer s H vs Q E hg (hr.deeper _) hsp
  refine wpAny_mono (ht.nox.run [] s1 (start N vs) H _ (inv_start S hr.hd e0 (len _ _ _ _ hsp) r x) hq) (fun fl s' hs => ?_) fun _ _ hs => hs
  match fl, hs with
  | .ret u, ⟨v, σ', H', J, rv, q⟩ => exact ⟨v, H', J.os, J.bare, J.base, J.hok, rv, q⟩
  | .next, ⟨σ', H', J, q⟩ => exact ⟨V.non, H', J.os, J.bare, J.base, J.hok, rfl, q⟩
  | .brk, ⟨_, _, _, q⟩ => exact q.elim
  | .cont, ⟨_, _, _, q⟩ => exact q.elim
end

/-! ### calls -/
section
variable {X : Cx} {CX : CXT} {k : Nat} {f C : Addr} {fd : FuncData} {ps ks : List Str} {sp : Sp} {E : XK} {x m : Str} {p pos apos : Pos} {e o : Expr} {es : List Expr} {kws : List Keyword} {ta : TE} {t tk : TA} {dvs : List V} {ds : List Value}
theorem run_fnG {pins : List (Addr × Obj)} {σ : L2.St} {H : Hp} {s : Shared} {Q : VK} {us : List Value} {vs : List V} (F : FnG X.prog X.w X.K X.mg X.base CX k f fd ps sp) (hg : X.A.guards = some []) (hr : Room k X.A) (hb : Binds X.K fd ps ds) (hd : Vals dvs ds)
    (hx : Passes CX X E) (I : Inv X pins σ H s) (r : Vals vs us) (h : sp (vs ++ dvs) H Q E) : wpAny (model X.prog X.w) X.A (call (.ref f) us) (EP X pins σ Q) X.xe s := by
  have r2 := r.append hd
  have hl : (us ++ ds).length = ps.length := r2.length.symm.trans (F.lenG _ _ _ _ h)
  refine wpAny_call (codeAny_mono (F.runG X.A X.stack s H ⟨us, []⟩ (us ++ ds) (vs ++ dvs) Q E hg hr I.env0 (hb s us I.kIn hl) r2 h) fun r s' hq => ?_)
  match r, hq with
  | .error e, hq => exact hx pins σ H s e s' I hq
  | .ok (.ret u), hq => exact I.after hq
  | .ok .next, hq => exact hq.elim
  | .ok .brk, hq => exact hq.elim
  | .ok .cont, hq => exact hq.elim
/-- f(e, ..), f by FnG -/
theorem pe_callG (F : FnG X.prog X.w X.K X.mg X.base CX k f fd ps sp) (hg : X.A.guards = some []) (hr : Room k X.A) (hgl : Gl X x) (hm : X.mg x = some (.ref f)) (hk : PySem.W.keepIn X.K (.ref f) = true) (hb : Binds X.K fd ps ds) (hd : Vals dvs ds) (hx : Passes CX X E)
    (ha : PA X (e :: es) t) (hdb : (x == ("__debug__" : Str)) = false := by decide) (he : starEach (e :: es) X.env = (false, eval e X.env) :: starEach es X.env := by rfl) (hpl : (backTo pos (starEach es X.env)).any (·.1) = false := by rfl) :
    PE X (.Call (.Name x p) (e :: es) [] pos) (tCall sp dvs E t) := by
  constructor
  intro pins s σ H Q I h
  refine wpAny_Call_Name_kw (ld_glob I hgl hm (PySem.W.callWith_K (h₀ := X.base) I.ok.mod.kin hk (thn (ha.run pos pins s σ H _ I h) fun us s1 q => ?_) he hpl) hdb)
  obtain ⟨vs, H1, I1, r, q⟩ := q
  exact ⟨I1.kIn, run_fnG F hg hr hb hd hx I1 r q⟩
/-- o.m(k = v, ..): keywords alone -/
theorem pe_methK {g : List Value → List Value → List Value} {gV : List V → List V → List V} {pl : Sem Bool} (he : PE X o ta) (c : Cls X.K C) (hm : Meth X.K C m f) (F : FnOk X.prog X.w X.K X.mg X.base CX k f fd ps sp) (hr : Room k X.A) (hb : KBinds X.K fd ps ks g gV)
    (hx : Passes CX X E) (hkw : PK X kws tk) (hall : (backToKw pos (keywordEach kws X.env)).all (·.1.isSome) = true := by rfl) (hks : (backToKw pos (keywordEach kws X.env)).filterMap (·.1) = ks := by rfl)
    (hpl : ((backTo pos (starEach [] X.env)).any (·.1) || (backToKw pos (keywordEach kws X.env)).any (·.1.isNone)) = false := by rfl)
    (ht : eval (.Call (.Attribute o m apos) [] kws pos) X.env = (do
      let ov ← eval o X.env
      standAt apos.atName
      let fx ← holding [ov] (getMethod ov m pl)
      callWith pos fx.1 fx.2 (backTo pos (starEach [] X.env)) (backToKw pos (keywordEach kws X.env))) := by rfl) :
    PE X (.Call (.Attribute o m apos) [] kws pos) (fun σ H Q => ta σ H fun x H1 => ∃ a dx fs, x = .ref a ∧ H1 a = some (.ins C dx fs) ∧ fs.lookup m = none ∧ tk σ H1 fun zs H2 => sp (gV [x] zs) H2 Q E) := by
  constructor
  intro pins s σ H Q I h
  refine PySem.W.methodCall_KW (pl := pl) (thn (he.run pins s σ H _ I h) fun u s1 z => ?_) ht
  obtain ⟨x, H1, I1, rx, a, dx, fs, ex, ea, l, q⟩ := z
  subst ex
  cases rx
  refine getmeth_ok I1 ea c hm l ?_
  refine PySem.W.callWith_KW0 (first := [.ref a]) (h₀ := X.base) I.ok.mod.kin hm.kp hall (thn (hkw.run pos pins s1 σ H1 _ I1 q) fun ws s2 z => ?_) hpl
  obtain ⟨zs, H2, I2, rz, q2⟩ := z
  refine ⟨I2.kIn, ?_⟩
  rw [hks]
  exact run_fnk (us := [.ref a]) (vs := [.ref a]) F hr hb hx I2 (.cons rfl .nil) rz q2
end

/-! ### the end of a law -/
theorem law_callG {P : Program} {w : World} {K : PySem.W.Frag} {mg mb : Str → Option Value} {CX : CXT} {k : Nat} {fa a : Addr} {fd : FuncData} {x : Str} {sp : Sp} {s₁ : Shared} {vs : List Value} {ns : List Int}
    (KX : K.In s₁.heap) (hns : s₁.heap.Ns mainGlobals mg) (hb : s₁.heap.Ns builtinsNs mb) (hbb : ∀ x : Str, x ≠ "__name__" → mb x = bootBuiltins x) (hlim : s₁.heap.NoLimit) (hg : s₁.gens = #[])
    (ha : s₁.heap.get? a = some { cls := .type "list", data := .seq vs.toArray }) (hi : IntsAre vs ns) (hl : ns.length ≤ sizeLine) (hr : Room k callerA)
    (F : ∀ base : Heap, K.In base → base.Ns mainGlobals mg → FnG P w K mg base CX k fa fd [x] sp) (hbind : ∀ (s : Shared) (u : Value), BindsTo s fd ⟨[u], []⟩ [(x, u)])
    (hsp : ∀ H : Hp, Only H → SqL K H a (ns.map V.int) → sp [.ref a] H (fun v _ => v = .bl true) fun _ _ _ => False)
    (hCX : ∀ H e s', CX [] H s₁ (fun _ _ _ => False) e s' → False) :
    codeAny (model P w) callerA (.call (.ref fa) ⟨[.ref a], []⟩) (fun r s' => r = .ok (.ret (.bool true)) ∧ OldK s₁.heap s'.heap ∧ s'.os = s₁.os ∧ AllBare s'.gens) s₁ := by
  -- the call itself, for a heap in which the script alone may be tracked
  have go : ∀ H : Hp, Only H → SqL K H a (ns.map V.int) → HOk P w H s₁.heap → (∀ b u, H b = some u → b = a ∧ K.lookup a = none) →
      codeAny (model P w) callerA (.call (.ref fa) ⟨[.ref a], []⟩) (fun r s' => r = .ok (.ret (.bool true)) ∧ OldK s₁.heap s'.heap ∧ s'.os = s₁.os ∧ AllBare s'.gens) s₁ := by
    intro H hO hS hok hA
    have free : ∀ b : Addr, (b ≠ a ∨ K.lookup a ≠ none) → H b = none := by
      intro b z
      cases q : H b with
      | none => rfl
      | some u => exact (z.elim (fun z => z (hA b u q).1) fun z => z (hA b u q).2).elim
    have notSeq : ∀ {b : Addr} {m : Str → Option Value}, s₁.heap.Ns b m → b ≠ a := by
      rintro b m ⟨o, es, ep, e, d, _⟩ rfl
      rw [ha] at e
      cases e
      cases d
    have inH : ∀ {b : Addr} {m : Str → Option Value}, s₁.heap.Ns b m → (hidT s₁.heap H).Ns b m := by
      intro b m n
      have nb := free b (Or.inl (notSeq n))
      obtain ⟨o, es, ep, e, r⟩ := n
      exact ⟨o, es, ep, hidT_get e nb, r⟩
    have kin : K.In (hidT s₁.heap H) := by
      intro b o e
      refine hidT_get (KX b o e) ?_
      by_cases hb : b = a
      · exact free b (Or.inr (by rw [← hb, e]; exact fun z => nomatch z))
      · exact free b (Or.inl hb)
    have lim2 : (hidT s₁.heap H).NoLimit := by
      obtain ⟨mc, h1, h2⟩ := hlim
      exact ⟨mc, inH h1, h2⟩
    have e0 : Env0 P w K mg (hidT s₁.heap H) callerA [] s₁ H := by
      refine ⟨rfl, ⟨kin, inH hns, ⟨mb, inH hb, hbb⟩, lim2⟩, fun b o e => of_hidT e, Nat.le_of_eq (hidT_size _ _), True.intro, ?_, hok, .of_eq hg⟩
      intro b hb
      cases hb
    refine codeAny_mono ((F _ kin (inH hns)).runG callerA [] s₁ H ⟨[.ref a], []⟩ [.ref a] [.ref a] _ _ rfl hr e0 (hbind s₁ (.ref a)) (.cons rfl .nil) (hsp H hO hS)) fun r s' h => ?_
    match r, h with
    | .error e, h => exact (hCX H e s' h).elim
    | .ok .next, h => exact h.elim
    | .ok .brk, h => exact h.elim
    | .ok .cont, h => exact h.elim
    | .ok (.ret u), ⟨v, H', os, bare, un, hok', rv, q⟩ =>
      have q2 : v = .bl true := q
      subst q2
      cases rv
      refine ⟨rfl, OldK.of_keep (fun b o e => ?_), os, bare⟩
      rcases hO b with z | ⟨ob, xs, z⟩
      · exact un.keep b o e z (fun z => nomatch z) (fun z => nomatch z)
      · have z1 := (hok b _ z).1
        have z2 := (hok' b _ (un.frzs b ob _ z)).1
        rw [z1] at e
        rw [z2, e]
  have rv := vals_ints hi
  have hlen : (ns.map V.int).length ≤ sizeLine := by rw [List.length_map]; exact hl
  cases hk : K.lookup a with
  | some o =>
    have e := KX a o hk
    rw [ha] at e
    cases e
    exact go (fun _ => none) (fun _ => Or.inl rfl) (Or.inr ⟨_, vs.toArray, _, hk, rfl, rfl, rfl, by rw [List.size_toArray, hi.length]; exact hl, by simpa using rv⟩) (fun b u z => nomatch z) fun b u z => nomatch z
  | none =>
    have at_ : ∀ b u, (if b = a then some (HO.frz { cls := .type "list", data := .seq vs.toArray } (.lst (ns.map V.int))) else none) = some u → b = a ∧ u = .frz { cls := .type "list", data := .seq vs.toArray } (.lst (ns.map V.int)) := by
      intro b u z
      split at z
      · rename_i hb
        exact ⟨hb, (Option.some.inj z).symm⟩
      · cases z
    refine go (fun b => if b = a then some (.frz { cls := .type "list", data := .seq vs.toArray } (.lst (ns.map V.int))) else none) (fun b => ?_) (Or.inl (Or.inr ⟨_, if_pos rfl⟩)) (fun b u z => ?_) fun b u z => ⟨(at_ b u z).1, hk⟩
    · by_cases hb : b = a
      · exact Or.inr ⟨_, _, if_pos hb⟩
      · exact Or.inl (if_neg hb)
    · obtain ⟨rfl, rfl⟩ := at_ b u z
      exact ⟨ha, hlen, vs, _, rv, ha⟩

theorem walk_ofG {l : PySem.W.OpenLaw} {n k : Nat} {q : Program} {loose : List Str} {XP : (Str → Option Value) → Heap → Prop} {YP : World → Heap → Prop} {d : DefRec} {K : Params → PySem.W.Frag} {CX : World → CXT} {sp : World → Sp} {x : Str}
    (hn : l.most = some n) (hn2 : n ≤ sizeLine) (hdf : d.params.defaults = []) (hr : Room k callerA) (hY : ∀ (w : World) (h : Heap), YP w h → (K w.params).In h)
    (F : ∀ (w : World) (mg : Str → Option Value) (fa : Addr) (h : Heap), (K w.params).In h → h.Ns mainGlobals mg → mg d.name = some (.ref fa) →
      ∃ fd : FuncData, (∀ (s : Shared) (u : Value), BindsTo s fd ⟨[u], []⟩ [(x, u)]) ∧ ∀ base : Heap, (K w.params).In base → base.Ns mainGlobals mg → FnG l.prog w (K w.params) mg base (CX w) k fa fd [x] (sp w))
    (hsp : ∀ (w : World) (H : Hp) (a : Addr) (ns : List Int), ns.length ≤ n → (∀ z ∈ ns, Builtin.Int.intBits z ≤ 1048576) → Only H → SqL (K w.params) H a (ns.map V.int) → sp w [.ref a] H (fun v _ => v = .bl true) fun _ _ _ => False)
    (hCX : ∀ (w : World) (H : Hp) (s : Shared) (e : Value) (s' : Shared), CX w [] H s (fun _ _ _ => False) e s' → False) :
    PySem.W.WalkO q loose XP YP l.row.toRowW d [] (fun f vs => PySem.call f vs) := by
  apply Att.attach_callB hn hdf
  intro w s₀ s₁ mg mb fa o pm cd doc a vs ns G Y _ _ _ hmg hobj hints hlen hbits hg
  obtain ⟨fd, hb, hF⟩ := F w mg fa _ (hY w _ Y) G.T.g hmg
  exact law_callG (hY w _ Y) G.T.g G.T.b G.T.builtins G.T.nolimit hg hobj hints (Nat.le_trans hlen hn2) hr hF hb (fun H hO hS => hsp w H a ns hlen hbits hO hS) fun H e s' => hCX w H s₁ e s'
end So

namespace So
open PySem PySem.Spec PyProof.Rows L2
section
variable {K : PySem.W.Frag} {C : Addr}
theorem kit_self : PySem.W.kitOne K (.ref C) (.ref C) = some true := by
  unfold PySem.W.kitOne
  rw [if_pos]
  simp
/-- no built-in type stands below an own class -/
theorem sub_ty {T : String} (h : (fastBuiltinMro T).map (fun l => l.all fun v => match v with | .type _ => true | _ => false) = some true) : PySem.W.subIn K (.type T) (.ref C) = some false := by
  show (fastBuiltinMro T).map (·.contains (.ref C)) = some false
  cases e : fastBuiltinMro T with
  | none => rw [e] at h; cases h
  | some l =>
    rw [e] at h
    have h2 : (l.all fun v => match v with | .type _ => true | _ => false) = true := Option.some.inj h
    show some (l.contains (.ref C)) = some false
    congr 1
    cases c : l.contains (.ref C) with
    | false => rfl
    | true =>
      have m : (Value.ref C) ∈ l := by simpa using c
      have := List.all_eq_true.mp h2 _ m
      cases this
theorem notFirst_ty {T : String} (h : (fastBuiltinMro T).map (fun l => l.all fun v => match v with | .type _ => true | _ => false) = some true) : PySem.W.notFirst K C (.type T) = true := by
  unfold PySem.W.notFirst
  rw [sub_ty h]
  simp
theorem kit_no {T : String} (hc : PySem.W.isClsIn K C = true) (ht : PySem.W.typeIn K (.ref C) = some (.type "type")) (h : (fastBuiltinMro T).map (fun l => l.all fun v => match v with | .type _ => true | _ => false) = some true) : PySem.W.kitOne K (.type T) (.ref C) = some false := by
  unfold PySem.W.kitOne PySem.W.kitCls
  unfold PySem.W.isClsIn at hc
  have hb : ((PySem.W.clsIn K C).isSome && PySem.W.typeIn K (.ref C) == some (.type "type")) = true := by
    rw [hc, ht]
    simp
  have sb := sub_ty (K := K) (C := C) h
  simp [hb, sb]
end
end So

/-! So, on: exceptions that are kept as values. -/
namespace So
open PySem PySem.Spec PyProof.Rows L2
/-- an exception object of the class cls, its dict at d, that stands at a and is nobody's news -/
def Xo (cls : Value) (d : Option Addr) (a : Addr) : HO := .ext fun h => ∃ (oe : Obj) (vs : Array Value), h.get? a = some oe ∧ Zc cls d oe ∧ oe.data = .fields vs
theorem xo_ok {P : Program} {w : World} {H : Hp} {h : Heap} {a : Addr} {cls : Value} {d : Option Addr} {oe : Obj} {vs : Array Value} (e : h.get? a = some oe) (z : Zc cls d oe) (f : oe.data = .fields vs) : ObjOk P w H h a (Xo cls d a) := by
  refine ⟨⟨oe, vs, e, z, f⟩, ⟨oe, e⟩, ?_⟩
  rintro h1 h2 ⟨o, v, q, r⟩ k
  exact ⟨o, v, k o q, r⟩
theorem xo_at {P : Program} {w : World} {H : Hp} {h : Heap} {a : Addr} {cls : Value} {d : Option Addr} (hok : HOk P w H h) (e : H a = some (Xo cls d a)) : ∃ (oe : Obj) (vs : Array Value), h.get? a = some oe ∧ Zc cls d oe ∧ oe.data = .fields vs := by
  have x : ObjOk P w H h a (.ext fun h => ∃ (oe : Obj) (vs : Array Value), h.get? a = some oe ∧ Zc cls d oe ∧ oe.data = .fields vs) := hok a _ e
  exact x.1
section
variable {X : Cx} {pins : List (Addr × Obj)} {σ : L2.St} {H : Hp} {s sI : Shared} {a : Addr} {cls : Value} {d : Option Addr} {oe : Obj} {vs : Array Value}
/-- an exception that has landed is tracked from now on -/
theorem track (J : Inv X pins σ H sI) (hex : X.ex = []) (hI : sI.heap.get? a = none) (I : Inv X pins σ H s) (he : s.heap.get? a = some oe) (hz : Zc cls d oe) (hd : oe.data = .fields vs) (na : H a = none) (nL : a ≠ X.env.locals) :
    Inv X pins σ (upd H a (Xo cls d a)) s := by
  have h0 : ∀ b o, X.s_0.heap.get? b = some o → b ≠ a := by
    rintro b o e rfl
    obtain ⟨o', e'⟩ := J.base.there b o e (by rw [hex]; exact fun z => nomatch z)
    rw [hI] at e'
    cases e'
  have hs : ∀ {b : Addr} {u : HO}, H b = some u → (upd H a (Xo cls d a)) b = some u := fun e => (upd_ne (ne_of_none e na)).trans e
  refine ⟨I.ok, I.os, I.bare, ⟨I.base.keep, I.base.slot, fun b o e n hx => (upd_ne (h0 b o e)).trans (I.base.free b o e n hx), I.base.there, fun b xs q => hs (I.base.tups b xs q), fun b o u q => hs (I.base.frzs b o u q), fun b ps q => ?_⟩,
    I.loc, I.cell, (upd_ne nL.symm).trans I.free, fun x c e => ?_, fun p hp => ?_, fun b u e => ?_, I.len⟩
  · obtain ⟨m, q'⟩ := I.base.tbls b ps q
    exact ⟨m, hs q'⟩
  · refine (upd_ne ?_).trans (I.freeC x c e)
    rintro rfl
    obtain ⟨v, o, ho, hc⟩ := I.cell x c e
    rw [he] at ho
    cases ho
    rw [hd] at hc
    cases hc
  · obtain ⟨p1, p2, p3, p4, p5⟩ := I.pin p hp
    refine ⟨p1, (upd_ne ?_).trans p2, p3, p4, p5⟩
    intro z
    have := (J.pin p hp).1
    rw [z, hI] at this
    cases this
  · by_cases hb : b = a
    · subst hb
      rw [upd_same] at e
      cases e
      exact xo_ok he hz hd
    · rw [upd_ne hb] at e
      exact (I.hok b u e).stay (fun _ _ _ q => q) (fun c q => hs q) fun c xs q => hs q
end

/-! ### try: body, except x as n: suite, the exception kept as a value -/
/-- what such a clause wishes of an exception of the body -/
def wKeep (K : PySem.W.Frag) (c : Value) (i : Nat) (ts : TS) (Wout : WX) (D : Ends) : WX := fun cls d σ H =>
  ∃ b, PySem.W.exmOne K cls c = some b ∧ (b = true → ∀ a, H a = none → ts { nx := fun σ' H' => D.nx (σ'.set i none) H', rt := D.rt, bk := fun σ' H' => D.bk (σ'.set i none) H', ct := fun σ' H' => D.ct (σ'.set i none) H' } (σ.set i (some (.ref a))) (upd H a (Xo cls d a))) ∧
    (b = false → Wout cls d σ H)
section
variable {X : Cx} {x n : Str} {c : Value} {i : Nat} {body suite : List Stmt} {b₀ : Stmt} {np pos pos' : Pos} {tb : WX → TS} {ts : TS} {Wout : WX}
theorem ps_try_keep (hs : X.stack = X.env :: X.outer) (hf : X.env.frame = some X.env.locals) (hex : X.ex = []) (hN : X.N.Nodup) (hi : X.N[i]? = some n) (hln : X.env.kindOf n = some .local) (hc : Names X x c) (tk : Takes X Wout)
    (hb : ∀ (W : WX) (pn : List (Addr × Obj)) (xe : Value → Shared → Prop), Takes (X.tr pn xe) W → PassesOwn (model X.prog X.w) X.A X.env xe → PSs (X.tr pn xe) body (tb W))
    (hsu : ∀ (a : Addr) (pn : List (Addr × Obj)), PSs (X.suite a pn) (b₀ :: suite) ts) :
    PS X (.Try body [.ExceptHandler (some (.Name x np)) (some n) (b₀ :: suite) pos'] [] [] pos) (fun D σ H => tb (wKeep X.K c i ts Wout D) D σ H) := by
  constructor
  intro pins s σ H D I h
  have ok := I.ok
  have hfr : X.A.frames = some (X.env :: X.outer) := ok.frames.trans (congrArg some hs)
  refine wpAny_Try_except (wpAny_mono ((hb (wKeep X.K c i ts Wout D) (X.pn ++ pins) (fun e s₁ => wpAny (model X.prog X.w) X.A (noteFrame e X.env) (fun _ s₂ => wpAny (model X.prog X.w) X.A (setFlight e none) (fun _ s₃ =>
    wpAny (model X.prog X.w) X.A (handleBy e X.env [.ExceptHandler (some (.Name x np)) (some n) (b₀ :: suite) pos']) (SP X pins D) X.xe s₃) X.xe s₂) X.xe s₁) (fun u s' xx => ?_) PassesOwn.looking).run [] s σ H D (I.toTry _) h) (fun f s1 hsp => ?_) fun e s1 he => he)
  · obtain ⟨a, B, sI, pins', σ', H', cls, d, rfl, J', nb, up, sky, na, os, ag, b, hb1, hyes, hno⟩ := xx
    have J : Inv X pins σ' H' sI := J'.ofTry ok
    have sky' : Sky B (X.env :: X.outer) a (Zc cls d) X.env.locals s'.heap := hs ▸ sky
    refine Sky.land Zc.steady hfr hf sky' fun h3 fl3 up3 => ?_
    have J3 : Inv X pins σ' H' { s' with heap := h3 } := J.landed nb fl3.1 (up.trans up3) os ag
    obtain ⟨oe3, vs3, he3, hz3, hd3⟩ := fl3.there
    have nfr : a ∉ frs (X.env :: X.outer) := fun hm => by
      obtain ⟨_, o', e', hnf⟩ := fl3.2.2.1.mem hm
      rw [he3] at e'
      cases e'
      exact hnf _ hd3
    have nL : a ≠ X.env.locals := fun z => nfr (by
      refine List.mem_filterMap.mpr ⟨X.env, List.mem_cons_self, ?_⟩
      rw [hf, z])
    have hBa : B.get? a = none := fl3.2.1
    have hIa : sI.heap.get? a = none := by
      cases e : sI.heap.get? a with
      | none => rfl
      | some o =>
        have := nb a o e (by rw [hs]; exact nfr)
        rw [hBa] at this
        cases this
    refine wpAny_handleBy_cons (codeAny_handlers_test ?_) (by intro q; cases q)
    have LT : PySem.W.Looks (model X.prog X.w) h3 (typeOf (.ref a)) cls := by
      intro A Q E s k q
      refine wpAny_typeOf_ref (k _ _ he3) ?_
      rw [hz3.1]
      exact q
    have LM := PySem.W.exm_one (M := model X.prog X.w) (J3.kIn) LT hb1
    have S0 : ∀ {h4 : Heap}, Inv X pins σ' H' { s' with heap := h4 } → ∀ {o : Obj} {v : Array Value}, h4.get? a = some o → Zc cls d o → o.data = .fields v → Inv (X.suite a (X.pn ++ pins)) [] σ' (upd H' a (Xo cls d a)) { s' with heap := h4 } := by
      intro h4 J4 o v e z dt
      have T := track J hex hIa J4 e z dt na nL
      exact ⟨T.ok.suite _ _, T.os, T.bare, T.base, T.loc, T.cell, T.free, T.freeC, fun p hp => T.pin p (by rwa [List.append_nil] at hp), T.hok, T.len⟩
    have S3 := S0 J3 he3 hz3 hd3
    have test : ∀ {Q : Value → Shared → Prop} {E : Value → Shared → Prop}, Q c { s' with heap := h3 } → wpAny (model X.prog X.w) (X.A.mark (some (.ref a))) (eval (.Name x np) X.env) Q E { s' with heap := h3 } := by
      intro Q E q
      rcases hc with ⟨hg, hdbg, hm | ⟨hm, hv, hnn⟩⟩
      · exact ld_glob (X := X.suite a (X.pn ++ pins)) S3 hg hm q hdbg
      · exact ld_blt (X := X.suite a (X.pn ++ pins)) S3 hg hm hv q hnn hdbg
    refine test (LM.here ?_)
    cases b with
    | true =>
      refine codeAny_handlers_suite_as (HandSPX.lands_againZ fl3 fun h4 fl4 up4 => ?_)
      have J4 : Inv X pins σ' H' { s' with heap := h4 } := J.landed nb fl4.1 ((up.trans up3).trans up4) os ag
      obtain ⟨oe4, vs4, he4, hz4, hd4⟩ := fl4.there
      have S4 := S0 J4 he4 hz4 hd4
      refine store_ok (X := X.suite a (X.pn ++ pins)) (v := .ref a) S4 hN hi (.inl hln) rfl (fun s5 S5 => ?_) (.inr hln)
      refine wpAny_mono ((hsu a (X.pn ++ pins)).run [] s5 _ _ _ S5 (hyes rfl a na)) (fun f s6 hsp => ?_) (fun _ _ z => z.elim)
      have out : ∀ {σ6 : L2.St} {H6 : Hp}, Inv (X.suite a (X.pn ++ pins)) [] σ6 H6 s6 → Inv X pins σ6 H6 s6 := fun S6 =>
        ⟨ok, S6.os, S6.bare, S6.base, S6.loc, S6.cell, S6.free, S6.freeC, fun p hp => S6.pin p (List.mem_append_left _ hp), S6.hok, S6.len⟩
      match f, hsp with
      | .next, ⟨σ6, H6, S6, q6⟩ => exact gone_ok (out S6) hN hi hln fun s7 J7 => ⟨_, _, J7, q6⟩
      | .brk, ⟨σ6, H6, S6, q6⟩ => exact gone_ok (out S6) hN hi hln fun s7 J7 => ⟨_, _, J7, q6⟩
      | .cont, ⟨σ6, H6, S6, q6⟩ => exact gone_ok (out S6) hN hi hln fun s7 J7 => ⟨_, _, J7, q6⟩
      | .ret u, ⟨v6, σ6, H6, S6, r6, q6⟩ => exact gone_ok (out S6) hN hi hln fun s7 J7 => ⟨_, _, _, J7, r6, q6⟩
    | false =>
      refine wpAny_handleBy_nil ?_
      obtain ⟨_, _, _, oe, vs, T, _, _, he, _, hd, h1, _⟩ := id fl3
      unfold PySem.passOn
      refine wpAny_bind (wpAny_field he hd h1 ?_)
      have nn : ¬ ((Value.ref T == Value.none) = true) := by simp
      rw [if_neg nn]
      have fin : wpAny (model X.prog X.w) X.A (setFlight (.ref a) X.env.frame) (fun _ s4 => wpAny (model X.prog X.w) X.A (throw (.ref a) : Sem Flow) (SP X pins D) X.xe s4) X.xe { s' with heap := h3 } := by
        rw [hf]
        refine HandSPX.setFlight_upZ fl3 fun h4 hh4 up4 => wpAny_throw (tk _ _ ⟨a, B, sI, pins, σ', H', cls, d, rfl, J, nb, (up.trans up3).trans up4, ?_, na, os, ag, hno rfl⟩)
        exact Or.inr (Or.inr (hs ▸ hh4))
      first
        | exact wpAny_bind (wpAny_pure (wpAny_bind fin))
        | exact wpAny_bind fin
  · match f, hsp with
    | .next, ⟨σ', H', J', q⟩ => exact wpAny_execs_nil ⟨σ', H', J'.ofTry ok, q⟩
    | .brk, ⟨σ', H', J', q⟩ => exact ⟨σ', H', J'.ofTry ok, q⟩
    | .cont, ⟨σ', H', J', q⟩ => exact ⟨σ', H', J'.ofTry ok, q⟩
    | .ret u, ⟨v, σ', H', J', r, q⟩ => exact ⟨v, σ', H', J'.ofTry ok, r, q⟩
end
end So

namespace So
open PySem PySem.Spec PyProof.Rows L2
/-- what an error class of the program's own says of its instances -/
structure Err (K : PySem.W.Frag) (C : Addr) : Prop where
  ga : PySem.W.findIn K (.ref C) "__getattribute__" = some (some (.builtin "BaseException.__getattribute__"))
  gg : PySem.W.findIn K (.ref C) "__getattr__" = some none
  exC : PySem.W.subIn K (.ref C) (.type "BaseException") = some true
  hdC : PySem.W.hasDictIn K C = true
  ca : PySem.W.findIn K (.ref C) "__class__" = some (some (.builtin "object.__class__"))
  cn : PySem.W.specialIn K (.builtin "object.__class__") "__get__" = some (some (.builtin "getset_descriptor.__get__"))
  ct : PySem.W.takesIn K (.builtin "object.__class__") = some true
  cm : PySem.W.mroIn K C (.type "object") = some true
section
variable {X : Cx}
/-- e.n, e an exception that is kept -/
theorem pe_xo {C : Addr} {e : Expr} {te : TE} {pos : Pos} {n : Str} (T : Err X.K C) (hno : PySem.W.findIn X.K (.ref C) n = some none) (he : PE X e te) (hb : attributeBase e n X.env (eval e X.env) = eval e X.env := by rfl) :
    PE X (.Attribute e n pos) (fun σ H Q => te σ H fun x H1 => ∃ (a dd : Addr) (fs : List (Str × V)) (v : V), x = .ref a ∧ H1 a = some (Xo (.ref C) (some dd) a) ∧ H1 dd = some (.xd fs) ∧ fs.lookup n = some v ∧ Q v H1) := by
  constructor
  intro pins s σ H Q I h
  refine attr_of hb (thn (he.run pins s σ H _ I h) fun u s1 hh => ?_)
  obtain ⟨x, H1, I1, rx, a, dd, fs, v, rfl, ha, ea, l, q⟩ := hh
  cases rx
  obtain ⟨oe, vs, hg, hz, hd⟩ := xo_at I1.hok ha
  obtain ⟨mA, hns, hr⟩ := (show ObjOk X.prog X.w H1 s1.heap dd (.xd fs) from I1.hok dd _ ea)
  obtain ⟨od, ho, hl⟩ := lookIn_ns hns
  have hrn := hr n
  rw [l] at hrn
  obtain ⟨u, hu, ru⟩ := RelO.some_of hrn
  have nc : PySem.W.notCls oe = true := by
    unfold PySem.W.notCls
    rw [hd]
  have J : PySem.W.InstAt s1.heap a oe C (some od) := by
    refine ⟨hg, hz.1, nc, ?_⟩
    rw [hz.2]
    exact ho
  have fo := PySem.W.findObj_own (K := X.K) (C := C) (od := od) (name := n) (v := u) T.hdC hno rfl (by rw [hl, hu])
  exact HandSPX.exc_get I1.kIn J T.ga T.gg T.exC fo (handed_of ru) ⟨v, H1, I1.tok _, ru, q⟩
end
/-! ### isinstance of a kept exception -/
section
open PySem.W PySem.Calls
variable {prog : Program} {w : World} {A : Around} {E : Value → Shared → Prop} {K : Frag} {x D : Addr} {ox : Obj} {od : Option Obj}
theorem err_class {Q : Option Value → Shared → Prop} (T : Err K D) (hp : Heap) (g : Array GenState) (dr : Drawn) (t : Nat) (os : OsState) (X : K.In hp) (I : InstAt hp x ox D od)
    (h : Q (some (.ref D)) ⟨hp, g, dr, t + 1, os⟩) : wpAny (model prog w) A (getAttr? (.ref x) "__class__") Q E ⟨hp, g, dr, t, os⟩ := by
  have isc : (clsIn K D).isSome = true := by
    obtain ⟨cd, hc, _⟩ := any_some T.hdC
    rw [hc]
    rfl
  have hf : findObj K D od "__class__" = some (.bind (.builtin "getset_descriptor.__get__") (.builtin "object.__class__")) := by
    cases od with
    | none => exact findObj_dataN isc T.ca T.cn T.ct
    | some o => exact findObj_data isc T.ca T.cn T.ct
  have k0 := I.type (M := model prog w)
  have k1 := looks_findIn (M := model prog w) X T.ga
  have k2 := looks_findIn (M := model prog w) X T.gg
  have k3 := looks_find (M := model prog w) X I hf
  have below : Looks (model prog w) hp (isInstance (.ref x) (.type "BaseException")) true := k0.andThen (looks_subIn X T.exC)
  have ne : (Value.builtin "BaseException.__getattribute__" == Value.builtin "object.__getattribute__") = false := by decide +kernel
  have both : (onTheHeap (Value.ref D) && Value.builtin "BaseException.__getattribute__" == Value.builtin "object.__getattribute__") = false := by
    rw [ne]
    exact Bool.and_false _
  have own : onTheHeap (Value.ref D) = true := rfl
  have noheap : (false && onTheHeap (Value.builtin "BaseException.__getattribute__")) = false := rfl
  unfold getAttr? getAttrBy? getAttrBy
  apply wpAny_bind
  apply wpAny_mkText
  apply wpAny_bind
  apply wpAny_attempt
  apply wpAny_holding
  apply wpAny_bind
  apply k0.at
  apply wpAny_bind
  apply k1.at
  show wpAny _ _ (ite ((onTheHeap (Value.ref D) && Value.builtin "BaseException.__getattribute__" == Value.builtin "object.__getattribute__") = true) _ _) _ _ _
  rw [both, if_neg (by decide)]
  unfold getAttrByItsOwn hookBefore
  apply wpAny_bind
  rw [if_pos own]
  apply k2.at
  apply wpAny_bind
  apply wpAny_attempt
  apply wpAny_holding
  unfold callGetattribute
  rw [noheap, if_neg (by decide)]
  unfold boundAndCalled
  rw [F.excAttr_ValueError.ga.bind (.ref x)]
  apply wpAny_bind
  apply wpAny_pure
  show wpAny _ _ (call (.builtin "BaseException.__getattribute__") [.ref x, .str "__class__" t]) _ _ _
  apply wpAny_call
  refine codeAny_call_builtin F.excAttr_ValueError.ga.plain F.entry_bexc_ga (@check_slot (model prog w) _ _ ⟨hp, g, dr, t + 1, os⟩ "BaseException.__getattribute__" "BaseException" "__getattribute__" (.ref x) [.str "__class__" t] [] _ (by decide +kernel) (by decide +kernel) below (F.args_bexc_ga (.ref x) (.str "__class__" t)) ?_)
  unfold Builtin.«object.__getattribute__»
  apply wpAny_bind
  refine wpAny_of_eq (a := ((Value.ref x : Value), [Value.str "__class__" t])) (by first | rfl | (simp only [slotArgs]; rfl)) ?_
  apply wpAny_bind
  apply wpAny_pure
  apply wpAny_bind
  apply k0.at
  apply wpAny_bind
  apply k3.at
  show wpAny _ _ (holding [Value.builtin "object.__class__"] (call (.builtin "getset_descriptor.__get__") [.builtin "object.__class__", .ref x, .ref D]) >>= ret) _ _ _
  apply wpAny_bind
  apply wpAny_holding
  apply wpAny_call
  refine class_get (s := ⟨hp, g, dr, t + 1, os⟩) (ox := ox) (od := od) X I T.cm (wpAny_pure ?_)
  show wpAny _ _ (handedOut (.ref D)) _ _ _
  rw [handedOut_of (v := .ref D) rfl]
  first
    | exact wpAny_pure (wpAny_pure h)
    | exact wpAny_pure h
    | exact wpAny_pure (wpAny_bind (wpAny_pure (wpAny_pure h)))
theorem kitx_err (T : Err K D) : KitX K (.ref x) (.ref D) (fun h => ∃ ox od, InstAt h x ox D od) where
  ty := fun _ _ _ ⟨_, _, I⟩ => I.type
  it := fun _ _ X _ => by
    obtain ⟨cd, hc, _⟩ := any_some T.hdC
    unfold clsIn at hc
    split at hc
    · rename_i ho
      intro A' Q' E' s' k q
      unfold isType loadHead
      exact wpAny_bind (wpAny_loadPart (k _ _ (X _ _ ho)) (wpAny_pure q))
    · cases hc
  ne := fun h tp dd its n sl X htp => by
    cases q : (Value.ref D == Value.ref tp) with
    | false => rfl
    | true =>
      have e : D = tp := Value.ref.inj (beq_iff_eq.mp q)
      subst e
      obtain ⟨cd, hc, _⟩ := any_some T.hdC
      unfold clsIn at hc
      split at hc
      · rename_i ho
        have z := (X _ _ ho).symm.trans htp
        cases z
      · cases hc
  ca := fun {prog w A E Q s} X I k => by
    obtain ⟨ox, od, I⟩ := I
    obtain ⟨hp, g, dr, t, os⟩ := s
    exact err_class T hp g dr t os X I k
end
section
variable {X : Cx}
/-- isinstance(e, c), e a kept exception, c one class -/
theorem call_isXo : CallR X (.builtin "isinstance") (fun xs H Q => ∃ (a D dd : Addr) (fs : List (Str × V)) (c : V) (u : Value) (b : Bool), xs = [.ref a, c] ∧ H a = some (Xo (.ref D) (some dd) a) ∧ H dd = some (.xd fs) ∧ Err X.K D ∧ ClsV c u ∧ PySem.W.kitOne X.K (.ref D) u = some b ∧ Q (.bl b) H) := by
  intro pins s σ H xs us Q I r h
  obtain ⟨a, D, dd, fs, c, u, b, rfl, ha, hd, T, cv, e, q⟩ := h
  obtain ⟨u1, u2, rfl, r1, r2⟩ := vals2 r
  cases r1
  have e2 := cv.eq r2
  subst e2
  obtain ⟨oe, vs, hg, hz, hdat⟩ := xo_at I.hok ha
  obtain ⟨mA, hns, _⟩ := (show ObjOk X.prog X.w H s.heap dd (.xd fs) from I.hok dd _ hd)
  obtain ⟨od, ho, _⟩ := lookIn_ns hns
  have nc : PySem.W.notCls oe = true := by
    unfold PySem.W.notCls
    rw [hdat]
  have J : PySem.W.InstAt s.heap a oe D (some od) := by
    refine ⟨hg, hz.1, nc, ?_⟩
    rw [hz.2]
    exact ho
  exact PySem.W.kia_one (kitx_err T) I.kIn ⟨oe, some od, J⟩ e (fun z => nomatch z) fun tk => ⟨.bl b, H, I.tok tk, rfl, q⟩
end
end So

namespace So
open PySem PySem.Spec PyProof.Rows L2
/-- C.m is a static method: its record at p, its def at g -/
structure Sta (K : PySem.W.Frag) (C : Addr) (mc : Value) (m : Str) (p g : Addr) : Prop where
  rd : PySem.W.readsIn K C mc = true
  ga : PySem.W.specialIn K (.ref C) "__getattribute__" = some (some (.builtin "type.__getattribute__"))
  at_ : PySem.W.findCls K (.ref C) mc m = some (.get (.builtin "staticmethod.__get__") (.ref p) .none (.ref C))
  rc : ∃ rest, PySem.W.recIn K p "staticmethod" = some (.ref g :: rest)
  kp : PySem.W.keepIn K (.ref g) = true
section
variable {X : Cx} {CX : CXT} {k : Nat} {C f p0 : Addr} {mc : Value} {fd : FuncData} {ps ks : List Str} {sp : Sp} {E : XK} {m : Str} {pos apos : Pos} {e o : Expr} {es : List Expr} {kws : List Keyword} {ta : TE} {t tk : TA}
theorem getsta_ok {pins : List (Addr × Obj)} {σ : L2.St} {H : Hp} {s : Shared} {pl : Sem Bool} {A : Around} {E' : Value → Shared → Prop} {Q : Value × List Value → Shared → Prop} (I : Inv X pins σ H s) (S : Sta X.K C mc m p0 f) (h : ∀ s', Inv X pins σ H s' → Q (.ref f, []) s') :
    wpAny (model X.prog X.w) A (getMethod (.ref C) m pl) Q E' s := by
  obtain ⟨rest, hp⟩ := S.rc
  refine PySem.W.method_cls I.kIn S.ga (PySem.W.cls_bind I.kIn S.rd S.at_ (wpAny_call (PySem.W.sm_get (s := { s with toks := s.toks + 1 }) I.kIn hp (PySem.W.handed_on rfl ?_))))
  exact h _ (I.tok _)
/-- C.m(e, ..), m static -/
theorem pe_sta {pl : Sem Bool} (he : PE X o ta) (S : Sta X.K C mc m p0 f) (F : FnOk X.prog X.w X.K X.mg X.base CX k f fd ps sp) (hr : Room k X.A) (hb : Binds X.K fd ps []) (hx : Passes CX X E) (ha : PA X (e :: es) t)
    (hst : starEach (e :: es) X.env = (false, eval e X.env) :: starEach es X.env := by rfl) (hpl : (backTo pos (starEach es X.env)).any (·.1) = false := by rfl)
    (ht : eval (.Call (.Attribute o m apos) (e :: es) [] pos) X.env = (do
      let ov ← eval o X.env
      standAt apos.atName
      let fx ← holding [ov] (getMethod ov m pl)
      callWith pos fx.1 fx.2 (backTo pos (starEach (e :: es) X.env)) (backToKw pos (keywordEach [] X.env))) := by rfl) :
    PE X (.Call (.Attribute o m apos) (e :: es) [] pos) (fun σ H Q => ta σ H fun x H1 => x = .ref C ∧ t σ H1 fun vs H2 => sp vs H2 Q E) := by
  constructor
  intro pins s σ H Q I h
  refine PySem.W.methodCall_KW (pl := pl) (thn (he.run pins s σ H _ I h) fun u s1 z => ?_) ht
  obtain ⟨x, H1, I1, rx, rfl, q⟩ := z
  cases rx
  refine getsta_ok I1 S fun s2 I2 => PySem.W.callWith_K (first := []) (h₀ := X.base) I2.ok.mod.kin S.kp (thn (ha.run pos pins s2 σ H1 _ I2 q) fun us s3 z => ?_) hst hpl
  obtain ⟨vs, H2, I3, r, q2⟩ := z
  refine ⟨I3.kIn, ?_⟩
  have q3 : sp (vs ++ []) H2 Q E := by
    rw [List.append_nil]
    exact q2
  exact run_fn F hr hb .nil hx I3 r q3
/-- C.m(k = v, ..), m static, keywords alone -/
theorem pe_staK {g : List Value → List Value → List Value} {gV : List V → List V → List V} {pl : Sem Bool} (he : PE X o ta) (S : Sta X.K C mc m p0 f) (F : FnOk X.prog X.w X.K X.mg X.base CX k f fd ps sp) (hr : Room k X.A) (hb : KBinds X.K fd ps ks g gV) (hx : Passes CX X E)
    (hkw : PK X kws tk) (hall : (backToKw pos (keywordEach kws X.env)).all (·.1.isSome) = true := by rfl) (hks : (backToKw pos (keywordEach kws X.env)).filterMap (·.1) = ks := by rfl)
    (hpl : ((backTo pos (starEach [] X.env)).any (·.1) || (backToKw pos (keywordEach kws X.env)).any (·.1.isNone)) = false := by rfl)
    (ht : eval (.Call (.Attribute o m apos) [] kws pos) X.env = (do
      let ov ← eval o X.env
      standAt apos.atName
      let fx ← holding [ov] (getMethod ov m pl)
      callWith pos fx.1 fx.2 (backTo pos (starEach [] X.env)) (backToKw pos (keywordEach kws X.env))) := by rfl) :
    PE X (.Call (.Attribute o m apos) [] kws pos) (fun σ H Q => ta σ H fun x H1 => x = .ref C ∧ tk σ H1 fun zs H2 => sp (gV [] zs) H2 Q E) := by
  constructor
  intro pins s σ H Q I h
  refine PySem.W.methodCall_KW (pl := pl) (thn (he.run pins s σ H _ I h) fun u s1 z => ?_) ht
  obtain ⟨x, H1, I1, rx, rfl, q⟩ := z
  cases rx
  refine getsta_ok I1 S fun s2 I2 => PySem.W.callWith_KW0 (first := []) (h₀ := X.base) I2.ok.mod.kin S.kp hall (thn (hkw.run pos pins s2 σ H1 _ I2 q) fun ws s3 z => ?_) hpl
  obtain ⟨zs, H2, I3, rz, q2⟩ := z
  refine ⟨I3.kIn, ?_⟩
  rw [hks]
  exact run_fnk (us := []) (vs := []) F hr hb hx I3 .nil rz q2
/-- ~o by an own __invert__ -/
theorem un_invOwn (F : FnOk X.prog X.w X.K X.mg X.base CX k f fd ps sp) (hs : PySem.W.findIn X.K (.ref C) "__invert__" = some (some (.ref f))) (hf : PySem.W.isFn X.K (.ref f) = true) (hb : Binds X.K fd ps []) (hx : Passes CX X E) (hr : Room k X.A) :
    UnR X (unaryOp .Invert) (fun x H Q => ∃ a dx fs, x = .ref a ∧ H a = some (.ins C dx fs) ∧ sp [.ref a] H Q E) := by
  intro pins s σ H x v Q I rx h
  obtain ⟨a, dx, fs, rfl, ha, q⟩ := h
  cases rx
  obtain ⟨mA, J, _⟩ := ins_get I.hok ha
  obtain ⟨od, J, _⟩ := J.look
  obtain ⟨m, hF⟩ := I.fr
  refine PySem.W.ksp_inv hF I.ok.mod.kin J hs hf ?_
  exact run_fn (us := [.ref a]) (vs := [.ref a]) F hr hb .nil hx I (.cons rfl .nil) q
end
end So

namespace So
open PySem PySem.Spec PyProof.Rows L2
/-! ### own errors with one field -/
/-- the __init__ of such an error: the field is what was passed -/
def spOneE (C : Addr) (n : Str) : Sp := fun vs H Q _ => ∃ (a : Addr) (v : V), vs = [.ref a, v] ∧ H a = some (exo a C none) ∧ ∀ dx, H dx = none → dx ≠ a → Q .non (upd (upd H dx (exd dx [(n, v)])) a (exo a C (some dx)))
/-- what the top says of such an error: its class at C, named x, its field n, its __init__ at f -/
structure OneE (K : PySem.W.Frag) (mg : Str → Option Value) (x n : Str) (C f : Addr) (fd : FuncData) : Prop where
  T : OexC K C
  iC : PySem.W.findIn K (.ref C) "__init__" = some (some (.ref f))
  tI : PySem.W.typeIn K (.ref f) = some (.type "function")
  mgC : mg x = some (.ref C)
  no : PySem.W.findIn K (.ref C) n = some none
  err : Err K C
  hb : Binds K fd ["self", n] []
/-- behind C(v) -/
theorem mkOne {C : Addr} {n : Str} {vs : List V} {v : V} {H1 : Hp} {Q : XK} (e : vs = [v]) (h : ∀ d H', Same H1 H' → H1 d = none → H' d = some (.xd [(n, v)]) → Q (.ref C) (some d) H') :
    vs.length ≤ 1000 ∧ ∀ a, H1 a = none → spOneE C n (.ref a :: (vs ++ [])) (upd H1 a (exo a C none))
      (fun v H2 => v = .non ∧ ∃ (d : Addr) (fs : List (Str × V)), H2 a = some (exo a C (some d)) ∧ H2 d = some (exd d fs) ∧ H1 d = none ∧ Q (.ref C) (some d) (upd (del H2 a) d (.xd fs))) (fun _ _ _ => False) := by
  subst e
  refine ⟨by show 1 ≤ 1000; decide, fun a ha => ⟨a, v, rfl, upd_same, fun dx hdx ne => ⟨rfl, dx, [(n, v)], upd_same, ?_, ?_, h dx _ (fun b o hb => ?_) ?_ upd_same⟩⟩⟩
  · rw [upd_ne ne, upd_same]
  · rw [upd_ne ne] at hdx
    exact hdx
  · rw [upd_ne ne] at hdx
    have hba : b ≠ a := ne_of_none hb ha
    have hbd : b ≠ dx := ne_of_none hb hdx
    rw [upd_ne hbd, del_ne hba, upd_ne hba, upd_ne hbd, upd_ne hba]
    exact hb
  · rw [upd_ne ne] at hdx
    exact hdx
section
variable {X : Cx} {x n : Str} {C f : Addr} {fd : FuncData} {ta : TA} {e : Expr} {p pos pos2 : Pos}
theorem pmk_one (O : OneE X.K X.mg x n C f fd) (F : FnOk X.prog X.w X.K X.mg X.base CX0 1 f fd ["self", n] (spOneE C n)) (hr : Room 2 X.A) (hg : Gl X x) (ha : PA X [e] ta)
    (hdb : (x == ("__debug__" : Str)) = false := by decide) (he : starEach [e] X.env = (false, eval e X.env) :: starEach [] X.env := by rfl) (hpl : (backTo pos (starEach [] X.env)).any (·.1) = false := by rfl) :
    PMk X (.Call (.Name x p) [e] [] pos) (tMkO C (spOneE C n) [] ta) :=
  pmk_oex O.T O.iC O.tI F hr O.hb .nil (fun _ _ _ _ _ _ _ h => h.elim) hg O.mgC ha hdb he hpl
/-- raise C(e) -/
theorem ps_raiseOne {W : WX} (O : OneE X.K X.mg x n C f fd) (F : FnOk X.prog X.w X.K X.mg X.base CX0 1 f fd ["self", n] (spOneE C n)) (hc : X.calm = true) (hr : Room 2 X.A) (tk : Takes X W) (hg : Gl X x) (ha : PA X [e] ta)
    (hdb : (x == ("__debug__" : Str)) = false := by decide) (he : starEach [e] X.env = (false, eval e X.env) :: starEach [] X.env := by rfl) (hpl : (backTo pos (starEach [] X.env)).any (·.1) = false := by rfl) :
    PS X (.Raise (some (.Call (.Name x p) [e] [] pos)) none pos2) (fun _ σ H => tMkO C (spOneE C n) [] ta σ H fun cls d H' => W cls d σ H') := ps_raise hc tk (pmk_one O F hr hg ha hdb he hpl)
end

/-! ### repr of data, of a tuple of a text and an empty dict -/
section
variable {X : Cx}
theorem call_reprT (hg : X.A.guards = some []) (hu : X.A.units + 64 < cLine) : CallR X (.builtin "repr") (fun xs H Q => ∃ (r a : Addr) (w : Str), xs = [.ref r] ∧ SqT X.K H r [.str w, .ref a] ∧ H a = some (.dK []) ∧ (PyData.tuple [.str w, .dict []]).shown.length ≤ sizeLine ∧ Q (.str (PyData.tuple [.str w, .dict []]).shown) H) := by
  intro pins s σ H xs us Q I r h
  obtain ⟨rr, a, w, rfl, ht, ha, hz, q⟩ := h
  obtain ⟨u, rfl, rv⟩ := vals1 r
  cases rv
  obtain ⟨its, rw', ⟨o, ho, hc, n, hd⟩, _⟩ := I.tuple ht
  obtain ⟨hz2, hsm, vs, hk, hD⟩ : ([] : List (Key × V)).length ≤ sizeLine ∧ (a == sysModules) = false ∧ ∃ vs, KV [] vs ∧ s.heap.DictOf (mixKind X.prog X.w) a vs := I.hok a _ ha
  obtain ⟨u1, u2, rfl, r1, r2⟩ := vals2 rw'
  obtain ⟨t1, rfl⟩ := r1
  cases r2
  obtain ⟨o2, es, ep, e1, e2, e3, _, e5, _⟩ := hD
  cases hk
  have es0 : es.toList = [] := by
    cases h : es.toList with
    | nil => rfl
    | cons y ys =>
      rw [h] at e5
      cases e5
  have rdD : Reads s.heap (.ref a) (.dict []) (a :: [] ++ []) := Reads.dict (kvs := []) e1 e2.1 e3 (by rw [es0]; exact ReadsAll.nil) (by rw [es0]; exact ReadsAll.nil)
  have rd : Reads s.heap (.ref rr) (.tuple [.str w, .dict []]) ([] ++ ((a :: [] ++ []) ++ [])) := Reads.tuple ho hc hd (ReadsAll.cons (Reads.str w t1) (ReadsAll.cons rdD ReadsAll.nil))
  refine repr_of_reads' rd rfl (fun _ z => ?_) hg (by show X.A.units + (2 + 1) < cLine; omega) (fun _ _ e => e) (fun h' t tk k => ?_) hz
  · have : sysModules = a := by simpa using z
    rw [this] at hsm
    simp at hsm
  · exact ⟨.str _, H, I.kept k, ⟨t, rfl⟩, q⟩
theorem CallR.or {b : Value} {r r' : List V → Hp → VK → Prop} (h : CallR X b r) (h' : CallR X b r') : CallR X b (fun xs H Q => r xs H Q ∨ r' xs H Q) := by
  intro pins s σ H xs us Q I rv q
  exact q.elim (h pins s σ H xs us Q I rv) (h' pins s σ H xs us Q I rv)
end
end So

namespace K63
open PySem PySem.Spec PyProof.Rows L2 So
/-! ### the text -/
def topS (i : Nat) : Stmt := PySem.Challenge.pw_soundtill_k63_entries_made.main.body.getD i (.Pass ⟨0, 0, 0, 0⟩)
abbrev sPen : Stmt := topS 52
abbrev sDraw : Stmt := topS 53
abbrev sPick : Stmt := topS 54
theorem scPen : FnScope ["_law_script"] ["_law_script"] (defScope sPen) := ⟨rfl, rfl, rfl, by decide +kernel, rfl, by decide +kernel, by decide +kernel⟩
theorem scDraw : FnScope ["_law_pen_here", "_law_many", "_law_digit", "_law_at", "_law_cell", "_law_great", "_law_mixed"] ["_law_pen_here", "_law_many"] (defScope sDraw) := ⟨rfl, rfl, rfl, by decide +kernel, rfl, by decide +kernel, by decide +kernel⟩
theorem scPick : FnScope ["_law_pen_here", "_law_some"] ["_law_pen_here", "_law_some"] (defScope sPick) := ⟨rfl, rfl, rfl, by decide +kernel, rfl, by decide +kernel, by decide +kernel⟩

/-! ### the pen -/
/-- the pen at p: the cells at l, how many were begun, what is left of a great one -/
structure Pen (H : Hp) (p l : Addr) (ns : List Int) (n : Nat) (g : Int) : Prop where
  pen : H p = some (.lst [.ref l, .int n, .int g])
  cells : H l = some (.lst (ns.map V.int))
  left : 0 ≤ g
/-- all that was tracked beside p is as it was -/
def Off (p : Addr) (H H' : Hp) : Prop := ∀ b o, b ≠ p → H b = some o → H' b = some o
theorem Off.refl {p : Addr} {H : Hp} : Off p H H := fun _ _ _ e => e
theorem Off.trans {p : Addr} {H H1 H2 : Hp} (a : Off p H H1) (b : Off p H1 H2) : Off p H H2 := fun c o n e => b c o n (a c o n e)
theorem Off.upd {p : Addr} {H H1 : Hp} {o : HO} (a : Off p H H1) : Off p H (upd H1 p o) := fun c u n e => by
  rw [upd_ne n]
  exact a c u n e
theorem Off.new {p q : Addr} {H H1 : Hp} {o : HO} (a : Off p H H1) (h : H1 q = none) : Off p H (L2.upd H1 q o) := fun c u n e => by
  have e1 := a c u n e
  rw [upd_ne (ne_of_none e1 h)]
  exact e1
theorem dp_ints {K : PySem.W.Frag} {H : Hp} : ∀ ns : List Int, DpAll K H (ns.map V.int) (ns.map PyData.int)
  | [] => .nil
  | n :: r => .cons (.int n) (dp_ints r)
theorem depth_ints : ∀ ns : List Int, PyData.depthAll (ns.map PyData.int) ≤ 1
  | [] => by simp [PyData.depthAll]
  | n :: r => by
    have h := depth_ints r
    simp only [List.map_cons, PyData.depthAll, PyData.depth]
    omega
theorem shaped_ints (ns : List Int) : SeqAt.shaped (.list (ns.map PyData.int)) = true := by
  unfold SeqAt.shaped
  rw [Bool.and_eq_true]
  have hd := depth_ints ns
  refine ⟨?_, decide_eq_true ?_⟩
  · show PyData.canLay0 _ = true
    simp only [PyData.canLay0]
    induction ns with
    | nil => rfl
    | cons a r ih => simpa [PyData.canLayAll0, PyData.canLay0] using ih (depth_ints r)
  · simp only [PyData.depth]
    omega
theorem Pen.apart {H : Hp} {p l : Addr} {ns : List Int} {n : Nat} {g : Int} (h : Pen H p l ns n g) : l ≠ p := by
  refine ne_of h.cells h.pen (fun z => ?_)
  injection z with z
  cases ns with
  | nil => cases z
  | cons a r => cases z
theorem eqv_nil (ds : List PyData) : PyData.eqv (.list ds) (.list []) = ds.isEmpty := by
  cases ds <;> simp [PyData.eqv, PyData.eqvAll]
section
variable {P : Program} {w : World} {K : PySem.W.Frag} {mg : Str → Option Value} {base : Heap}
def spDraw : Sp := fun vs H Q _ => ∃ (p l : Addr) (ns : List Int) (n : Nat) (g many : Int), vs = [.ref p, .int many] ∧ Pen H p l ns n g ∧ n < 1000000 ∧ 0 < many ∧ many.natAbs < 2 ^ 200 ∧
  ∀ (d : Int) (n' : Nat) (g' : Int) (H' : Hp), 0 ≤ d → d < many → n' ≤ n + 1 → Off p H H' → Pen H' p l ns n' g' → Q (.int d) H'
theorem ok_draw {f : Addr} {fd : FuncData} (F : Fun K "_law_draw" "_law_draw" sDraw f fd) (ml : mg "len" = none) (mi : mg "int" = none) (ma : mg "abs" = none) : FnOk P w K mg base CX0 1 f fd ["_law_pen_here", "_law_many"] spDraw := by
  refine F.ok scDraw (fun vs H Q E h => ?_) (fun cdv A outer s H vs Q E hr h => ?_)
  · obtain ⟨p, l, ns, n, g, many, rfl, _⟩ := h
    rfl
  · obtain ⟨p, l, ns, n, g, many, rfl, hp, hn, hm, hm2, q⟩ := h
    refine ⟨_, pss_cons (ps_if (pt_cmpR op_gt (pe_ix ix_list (pv 0) pe_int (fun _ _ => rfl)) pe_int (nomark _))
        (pss_cons (ps_set (i := 2) scDraw.nd rfl (.inl rfl) (pe_op op_mod (pe_callTy call_int1 (by rfl) mi (by decide +kernel) (pa_cons (pe_ix ix_list (pv 0) pe_int (fun _ _ => rfl)) pa_nil)) (pv 1)))
        (pss_cons (ps_asg (pe_op op_fdivW (pe_callTy call_int1 (by rfl) mi (by decide +kernel) (pa_cons (pe_ix ix_list (pv 0) pe_int (fun _ _ => rfl)) pa_nil)) (pv 1)) (pg_sub (pv 0) pe_int set_list))
        (pss_one (ps_ret (pv 2))))) pss_nil)
      (pss_cons (ps_set (i := 3) scDraw.nd rfl (.inl rfl) (pe_ix ix_list (pv 0) pe_int (fun _ _ => rfl)))
      (pss_cons (ps_asg (pe_op op_add (pv 3) pe_int) (pg_sub (pv 0) pe_int set_list))
      (pss_cons (ps_set (i := 4) scDraw.nd rfl (.inl rfl) (pe_op op_add (pe_op op_mul pe_int (pv 3)) pe_int))
      (C8.pss_cut (ps_if (pt_cmpR (op_neD (by have := hr.units; exact this)) (pe_ix ix_list (pv 0) pe_int (fun _ _ => rfl)) (pe_lst pa_nil) (nomark _))
        (pss_one (ps_set (i := 4) scDraw.nd rfl (.inl rfl) (pe_ix ix_list (pe_ix ix_list (pv 0) pe_int (fun _ _ => rfl)) (pe_op op_mod (pe_callTy call_int1 (by rfl) mi (by decide +kernel) (pa_cons (pv 3) pa_nil)) (pe_callB call_len_seq (by rfl) ml PySem.boot_len (pa_cons (pe_ix ix_list (pv 0) pe_int (fun _ _ => rfl)) pa_nil))) (fun _ _ => rfl)))) pss_nil)
      (pss_cons (ps_if (PW.pt (pw_and (pt_cmpR op_lt (pv 3) (pe_callB call_len_seq (by rfl) ml PySem.boot_len (pa_cons (pe_ix ix_list (pv 0) pe_int (fun _ _ => rfl)) pa_nil)) (nomark _))
            (pw_and1 (pt_cmpR op_ge (pe_callB call_abs (by rfl) ma (by decide +kernel) (pa_cons (pv 4) pa_nil)) (pe_op op_pow pe_int pe_int) (nomark _)))))
        (pss_cons (ps_set (i := 5) scDraw.nd rfl (.inl rfl) (pe_op op_add (pe_op op_mul pe_int (pe_op op_sub (pe_callB call_abs (by rfl) ma (by decide +kernel) (pa_cons (pv 4) pa_nil)) (pe_op op_pow pe_int pe_int)))
            (pe_callTy call_int1 (by rfl) mi (by decide +kernel) (pa_cons (pe_cmpR op_lt (pv 4) pe_int (nomark _)) pa_nil))))
        (pss_cons (ps_asg (pe_op op_fdivW (pe_callTy call_int1 (by rfl) mi (by decide +kernel) (pa_cons (pv 5) pa_nil)) (pv 1)) (pg_sub (pv 0) pe_int set_list))
        (pss_one (ps_ret (pe_op op_mod (pe_callTy call_int1 (by rfl) mi (by decide +kernel) (pa_cons (pv 5) pa_nil)) (pv 1)))))) pss_nil)
      (pss_cons (ps_set (i := 6) scDraw.nd rfl (.inl rfl) (pe_op op_mod (pe_callTy call_int1 (by rfl) mi (by decide +kernel) (pa_cons
          (pe_op op_pow (pe_op op_add (pe_op op_add (pe_op op_mod (pe_callTy call_int1 (by rfl) mi (by decide +kernel) (pa_cons (pv 4) pa_nil)) pe_int) (pe_op op_mul pe_int (pv 3))) pe_int) pe_int) pa_nil)) pe_int))
      (pss_cons (ps_set (i := 6) scDraw.nd rfl (.inl rfl) (pe_op op_mod (pe_callTy call_int1 (by rfl) mi (by decide +kernel) (pa_cons
          (pe_op op_pow (pe_op op_add (pe_op op_add (pe_op op_mul (pv 6) (pe_op op_add (pe_op op_mul pe_int (pv 3)) pe_int)) (pe_op op_mul (pe_op op_mul pe_int (pv 3)) (pv 3))) pe_int) pe_int) pa_nil)) pe_int))
      (pss_one (ps_ret (pe_op op_mod (pe_callTy call_int1 (by rfl) mi (by decide +kernel) (pa_cons (pe_op op_fdiv (pv 6) pe_int) pa_nil)) (pv 1))))))))))), ?_⟩
    have hP : SqL K H p [.ref l, .int n, .int g] := SqL.of hp.pen
    refine ⟨_, rfl, p, _, 2, _, rfl, rfl, hP, atI_nat (j := 2) rfl, _, _, rfl, rfl, _, rfl, ite2 (fun e => ?_) (fun e => ?_)⟩
    · refine ⟨_, rfl, p, _, 2, _, rfl, rfl, hP, atI_nat (j := 2) rfl, .inl ⟨_, rfl, _, rfl, _, _, rfl, rfl, hm, ?_⟩⟩
      refine ⟨_, rfl, p, _, 2, _, rfl, rfl, hP, atI_nat (j := 2) rfl, .inl ⟨_, rfl, _, rfl, _, _, rfl, rfl, wide_div hm hm2 (by decide) (by decide), _, rfl, p, _, 2, 2, rfl, rfl, hp.pen, rfl, ?_⟩⟩
      refine ⟨_, rfl, q _ n (g / many) _ (Int.emod_nonneg _ (Int.ne_of_gt hm)) (Int.emod_lt_of_pos _ hm) (by omega) Off.refl.upd ⟨upd_same, (upd_ne hp.apart).trans hp.cells, Int.ediv_nonneg hp.left (Int.le_of_lt hm)⟩⟩
    · refine ⟨_, rfl, p, _, 1, _, rfl, rfl, hP, atI_nat (j := 1) rfl, ?_⟩
      refine ⟨_, rfl, _, _, rfl, rfl, _, rfl, p, _, 1, 1, rfl, rfl, hp.pen, rfl, ?_⟩
      have hP1 : (upd H p (.lst [.ref l, .int (n + 1), .int g])) p = some (.lst [.ref l, .int (n + 1), .int g]) := upd_same
      have hL1 : (upd H p (.lst [.ref l, .int (n + 1), .int g])) l = some (.lst (ns.map V.int)) := (upd_ne hp.apart).trans hp.cells
      have hO1 : Off p H (upd H p (.lst [.ref l, .int (n + 1), .int g])) := Off.refl.upd
      refine ⟨_, rfl, _, _, rfl, rfl, .inl ⟨by decide, by decide⟩, _, _, rfl, rfl, ?_⟩
      refine ⟨fun σ' H2 => ∃ c : Int, σ' = [some (.ref p), some (.int many), none, some (.int n), some (.int c), none, none] ∧ H2 p = some (.lst [.ref l, .int (n + 1), .int g]) ∧ H2 l = some (.lst (ns.map V.int)) ∧ Off p H H2, ?_, ?_⟩
      · refine ⟨_, rfl, p, _, 0, _, rfl, rfl, SqL.of hP1, atI_nat (j := 0) rfl, Nat.zero_le _, fun z hz => ?_⟩
        have hP2 := (upd_ne (o := .lst []) (ne_of_none hP1 hz)).trans hP1
        have hL2 := (upd_ne (o := .lst []) (ne_of_none hL1 hz)).trans hL1
        refine ⟨.list (ns.map PyData.int), .list [], .lst (SqL.of hL2) (dp_ints ns), .lst (SqL.of upd_same) .nil, shaped_ints ns, by decide, _, rfl, ite2 (fun e1 => ?_) (fun e1 => ?_)⟩
        · rw [eqv_nil] at e1
          have hlen : 0 < ns.length := by
            cases ns with
            | nil => cases e1
            | cons a r => exact Nat.succ_pos _
          have hlt : n % ns.length < ns.length := Nat.mod_lt _ hlen
          refine ⟨_, rfl, p, _, 0, _, rfl, rfl, SqL.of hP2, atI_nat (j := 0) rfl, _, rfl, .inl ⟨_, rfl, _, rfl, p, _, 0, _, rfl, rfl, SqL.of hP2, atI_nat (j := 0) rfl, l, _, rfl, .inl (SqL.of hL2), _, _, rfl, rfl, (by rw [List.length_map]; omega), l, _, _, .int ns[n % ns.length], rfl, rfl, SqL.of hL2, ?_, ?_⟩⟩
          · have e2 : ((n : Int) % (((ns.map V.int).length : Nat) : Int)) = ((n % ns.length : Nat) : Int) := by
              rw [List.length_map]
              exact (Int.natCast_emod n ns.length).symm
            rw [e2]
            refine atI_nat ?_
            rw [List.getElem?_map, List.getElem?_eq_getElem hlt]
            rfl
          · exact ⟨_, rfl, hP2, hL2, hO1.new hz⟩
        · exact ⟨_, rfl, hP2, hL2, hO1.new hz⟩
      · rintro σ' H2 ⟨c, rfl, hP2, hL2, hO2⟩
        have hmix : ∀ t : Int, 0 ≤ t % many ∧ t % many < many := fun t => ⟨Int.emod_nonneg _ (Int.ne_of_gt hm), Int.emod_lt_of_pos _ hm⟩
        have bm : ∀ Y : Int, 0 ≤ Y % 2147483629 ∧ Y % 2147483629 < 2147483629 := fun Y => ⟨Int.emod_nonneg _ (by decide), Int.emod_lt_of_pos _ (by decide)⟩
        have bd : ∀ Y : Int, -(2 ^ 64) < Y % 2147483629 ∧ Y % 2147483629 < 2 ^ 64 := fun Y => by
          have := bm Y
          omega
        have key : ∀ Y : Int, ((Y % 2147483629) * (2 * (n : Int) + 7) + 54001 * (n : Int) * (n : Int) + 41).natAbs < 2 ^ 64 := by
          intro Y
          have b2 := bm Y
          revert b2
          generalize Y % 2147483629 = m1
          intro b2
          have b3 : 0 ≤ m1 * (2 * (n : Int) + 7) ∧ m1 * (2 * (n : Int) + 7) ≤ 2147483629 * 2000007 := ⟨Int.mul_nonneg b2.1 (by omega), Int.mul_le_mul (by omega) (by omega) (by omega) (by decide)⟩
          have b4 : 0 ≤ 54001 * (n : Int) * (n : Int) ∧ 54001 * (n : Int) * (n : Int) ≤ (54001 * 1000000) * 1000000 := ⟨Int.mul_nonneg (by omega) (by omega), Int.mul_le_mul (by omega) (by omega) (by omega) (by decide)⟩
          omega
        refine ⟨_, rfl, _, rfl, p, _, 0, _, rfl, rfl, SqL.of hP2, atI_nat (j := 0) rfl, l, _, rfl, .inl (SqL.of hL2), _, _, rfl, rfl, _, rfl, ite2 (fun e1 => ⟨_, rfl, _, rfl, _, _, rfl, rfl, ⟨by decide, by decide, by decide⟩, _, _, rfl, rfl, _, rfl, ite2 (fun e2 => ?great) (fun e2 => ?late)⟩) (fun e1 => ?small)⟩
        case great =>
          have e3 : (10 : Int) ^ (18 : Int).toNat ≤ (if c < 0 then -c else c) := of_decide_eq_true e2
          refine ⟨_, rfl, _, rfl, _, _, rfl, rfl, ⟨by decide, by decide, by decide⟩, _, _, rfl, rfl, _, _, rfl, rfl, .inl ⟨by decide, by decide⟩, _, rfl, _, _, rfl, rfl, .inr ⟨_, rfl, _, _, rfl, rfl, ?_⟩⟩
          have hG : ∀ k : Bool, 0 ≤ 2 * ((if c < 0 then -c else c) - (10 : Int) ^ (18 : Int).toNat) + (if k = true then (1 : Int) else 0) := by
            intro k
            have : (0 : Int) ≤ (if k = true then (1 : Int) else 0) := by cases k <;> decide
            omega
          have hG1 := hG (decide (c < 0))
          refine ⟨_, rfl, .inl ⟨_, rfl, _, rfl, _, _, rfl, rfl, wide_div hm hm2 (by decide) (by decide), _, rfl, p, _, 2, 2, rfl, rfl, hP2, rfl, ?_⟩⟩
          exact ⟨_, rfl, .inl ⟨_, rfl, _, rfl, _, _, rfl, rfl, hm, q _ (n + 1) _ _ (hmix _).1 (hmix _).2 (Nat.le_refl _) hO2.upd ⟨upd_same, (upd_ne (Pen.apart ⟨hP2, hL2, hp.left⟩)).trans hL2, Int.ediv_nonneg hG1 (Int.le_of_lt hm)⟩⟩⟩
        all_goals
          have b1 : 0 ≤ c % 2147483549 ∧ c % 2147483549 < 2147483549 := ⟨Int.emod_nonneg _ (by decide), Int.emod_lt_of_pos _ (by decide)⟩
          refine ⟨_, rfl, .inl ⟨_, rfl, _, _, rfl, rfl, (by decide : (0 : Int) < 2147483549), _, rfl, _, _, rfl, rfl, .inl ⟨by decide, by decide⟩, _, _, rfl, rfl, _, _, rfl, rfl, _, _, rfl, rfl, ⟨by decide, by decide, ?_⟩, .inl ⟨_, rfl, _, _, rfl, rfl, (by decide : (0 : Int) < 2147483629), ?_⟩⟩⟩
          · omega
          refine ⟨_, rfl, _, rfl, _, _, rfl, rfl, .inl ⟨by decide, by decide⟩, _, _, rfl, rfl, _, _, rfl, rfl, .inl (bd _), _, rfl, _, _, rfl, rfl, .inl ⟨by decide, by decide⟩, _, rfl, _, _, rfl, rfl, .inr ⟨?_, ?_⟩, _, _, rfl, rfl, _, _, rfl, rfl, _, _, rfl, rfl, ⟨by decide, by decide, key _⟩, .inl ⟨_, rfl, _, _, rfl, rfl, (by decide : (0 : Int) < 2147483587), ?_⟩⟩
          · omega
          · omega
          exact ⟨_, rfl, _, _, rfl, rfl, ⟨by decide, by decide⟩, .inl ⟨_, rfl, _, rfl, _, _, rfl, rfl, hm, q _ (n + 1) g H2 (hmix _).1 (hmix _).2 (Nat.le_refl _) hO2 ⟨hP2, hL2, hp.left⟩⟩⟩


/-- one of a list's things, one of a text's signs -/
def spPick (K : PySem.W.Frag) : Sp := fun vs H Q _ => ∃ (p l : Addr) (ns : List Int) (n : Nat) (g : Int) (y : V), vs = [.ref p, y] ∧ Pen H p l ns n g ∧ n < 1000000 ∧
  ((∃ (q : Addr) (xs : List V), y = .ref q ∧ q ≠ p ∧ H q = some (.lst xs) ∧ 0 < xs.length ∧ xs.length ≤ 1000 ∧
    ∀ (v : V) (n' : Nat) (g' : Int) (H' : Hp), v ∈ xs → n' ≤ n + 1 → Off p H H' → Pen H' p l ns n' g' → Q v H') ∨
   (∃ z : Str, y = .str z ∧ 0 < z.length ∧ z.length ≤ 1000 ∧
    ∀ (c : Nat) (n' : Nat) (g' : Int) (H' : Hp), c ∈ z.cps.toList → n' ≤ n + 1 → Off p H H' → Pen H' p l ns n' g' → Q (.str (⟨#[c]⟩)) H'))
theorem ok_pick {f fD : Addr} {fd fdD : FuncData} (F : Fun K "_law_pick" "_law_pick" sPick f fd) (ml : mg "len" = none) (FD : Fun K "_law_draw" "_law_draw" sDraw fD fdD) (bD : Binds K fdD ["_law_pen_here", "_law_many"] []) (gD : mg "_law_draw" = some (.ref fD))
    (GD : FnOk P w K mg base CX0 1 fD fdD ["_law_pen_here", "_law_many"] spDraw) : FnOk P w K mg base CX0 2 f fd ["_law_pen_here", "_law_some"] (spPick K) := by
  refine F.ok scPick (fun vs H Q E h => ?_) (fun cdv A outer s H vs Q E hr h => ?_)
  · obtain ⟨p, l, ns, n, g, y, rfl, _⟩ := h
    rfl
  · obtain ⟨p, l, ns, n, g, y, rfl, hp, hn, k⟩ := h
    refine ⟨_, pss_one (ps_ret (pe_ix (ix_list.or ix_str) (pv 1) (pe_call GD hr (by rfl) gD FD.kp bD .nil pass0 (pa_cons (pv 0) (pa_cons (pe_callB (So.CallR.or call_len_seq call_len_str) (by rfl) ml PySem.boot_len (pa_cons (pv 1) pa_nil)) pa_nil))) (fun _ _ => rfl))), ?_⟩
    rcases k with ⟨q, xs, rfl, hne, hq, h0, h1, k⟩ | ⟨z, rfl, h0, h1, k⟩
    · refine ⟨_, rfl, _, rfl, _, rfl, .inl ⟨q, _, rfl, .inl (SqL.of hq), p, l, ns, n, g, _, rfl, hp, hn, by omega, ?_, ?_⟩⟩
      · have : ((xs.length : Nat) : Int).natAbs = xs.length := Int.natAbs_natCast _
        rw [this]
        exact Nat.lt_of_le_of_lt h1 (by decide)
      · intro d n' g' H' d0 d1 hn' off pen
        obtain ⟨j, rfl⟩ : ∃ j : Nat, d = j := ⟨d.toNat, by omega⟩
        have hlt : j < xs.length := by omega
        exact .inl ⟨q, xs, j, xs[j], rfl, rfl, SqL.of (off q _ hne hq), atI_nat (List.getElem?_eq_getElem hlt), k _ n' g' H' (List.getElem_mem hlt) hn' off pen⟩
    · refine ⟨_, rfl, _, rfl, _, rfl, .inr ⟨z, rfl, Nat.le_trans h1 (by decide), p, l, ns, n, g, _, rfl, hp, hn, by omega, ?_, ?_⟩⟩
      · have : ((z.length : Nat) : Int).natAbs = z.length := Int.natAbs_natCast _
        rw [this]
        exact Nat.lt_of_le_of_lt h1 (by decide)
      · intro d n' g' H' d0 d1 hn' off pen
        obtain ⟨j, rfl⟩ : ∃ j : Nat, d = j := ⟨d.toNat, by omega⟩
        have hz : z.length = z.cps.toList.length := Array.length_toList.symm
        have hlt : j < z.cps.toList.length := by omega
        exact .inr ⟨z, j, z.cps.toList[j], rfl, rfl, Nat.le_trans h1 (by decide), atI_nat (List.getElem?_eq_getElem hlt), k _ n' g' H' (List.getElem_mem hlt) hn' off pen⟩
theorem Pen.new {H : Hp} {p l q : Addr} {ns : List Int} {n : Nat} {g : Int} {o : HO} (h : Pen H p l ns n g) (hq : H q = none) : Pen (upd H q o) p l ns n g :=
  ⟨(upd_ne (ne_of_none h.pen hq)).trans h.pen, (upd_ne (ne_of_none h.cells hq)).trans h.cells, h.left⟩
end
end K63

namespace K63
open PySem PySem.Spec PyProof.Rows L2 So
abbrev sWhole : Stmt := topS 15
abbrev sMoment : Stmt := topS 16
abbrev sName : Stmt := topS 17
abbrev sCheck : Stmt := topS 18
abbrev sWordOf : Stmt := topS 25
theorem scWhole : FnScope ["value"] ["value"] (defScope sWhole) := ⟨rfl, rfl, rfl, by decide +kernel, rfl, by decide +kernel, by decide +kernel⟩
theorem scMoment : FnScope ["value"] ["value"] (defScope sMoment) := ⟨rfl, rfl, rfl, by decide +kernel, rfl, by decide +kernel, by decide +kernel⟩
theorem scName : FnScope ["value", "sign"] ["value"] (defScope sName) := ⟨rfl, rfl, rfl, by decide +kernel, rfl, by decide +kernel, by decide +kernel⟩
theorem scCheck : FnScope ["value", "form"] ["value", "form"] (defScope sCheck) := ⟨rfl, rfl, rfl, by decide +kernel, rfl, by decide +kernel, by decide +kernel⟩
theorem scWordOf : FnScope ["value"] ["value"] (defScope sWordOf) := ⟨rfl, rfl, rfl, by decide +kernel, rfl, by decide +kernel, by decide +kernel⟩
/-! ### what a name is -/
def letters : Str := "abcdefghijklmnopqrstuvwxyz"
def digits : Str := "0123456789"
def noNames : List Str := ["begun", "setby", "found", "trusted", "passed", "failed", "agreed", "differed", "served", "backed", "sound", "unsound", "sure", "never", "open", "none", "record", "lot", "menu", "wanted"]
def isAln (c : Nat) : Bool := decide (c ∈ (letters ++ digits).cps.toList)
def isName (z : Str) : Bool := decide (1 ≤ z.length) && decide (z.length ≤ 8) && !(noNames.contains z) && decide (z.cps.toList.headD 0 ∈ letters.cps.toList) && z.cps.toList.all isAln
/-- the module's names that the words of the package read -/
structure Words (K : PySem.W.Frag) (mg : Str → Option Value) : Prop where
  greatest : ∃ t, mg "GREATEST" = some (.int 1000000000000000000000000000000 t)
  longest : ∃ t, mg "LONGEST_NAME" = some (.int 8 t)
  letters : ∃ t, mg "LETTERS" = some (.str letters t)
  digits : ∃ t, mg "DIGITS" = some (.str digits t)
  noNames : ∃ a, mg "NO_NAMES" = some (.ref a) ∧ ∀ H : Hp, SqT K H a (noNames.map V.str)
  isi : mg "isinstance" = none
  int : mg "int" = none
  bool : mg "bool" = none
  str : mg "str" = none
  len : mg "len" = none
  all : mg "all" = none
section
variable {P : Program} {w : World} {K : PySem.W.Frag} {mg : Str → Option Value} {base : Heap}
theorem kit_int_int : PySem.W.kitOne K (.type "int") (.type "int") = some true := kit_ty (by decide +kernel)
theorem kit_int_bool : PySem.W.kitOne K (.type "int") (.type "bool") = some false := kit_ty (by decide +kernel)
theorem kit_str_str : PySem.W.kitOne K (.type "str") (.type "str") = some true := kit_ty (by decide +kernel)
theorem kit_bool_bool : PySem.W.kitOne K (.type "bool") (.type "bool") = some true := kit_ty (by decide +kernel)

/-- the values that the law draws: what each is, by its type's name -/
inductive Gv (H : Hp) : V → String → Prop where
  | non : Gv H .non "NoneType"
  | bl (b : Bool) : Gv H (.bl b) "bool"
  | int (i : Int) : Gv H (.int i) "int"
  | str (z : Str) (h : z.length ≤ 2000) : Gv H (.str z) "str"
  | lst {a : Addr} {xs : List V} (e : H a = some (.lst xs)) : Gv H (.ref a) "list"
  | tup {a : Addr} {xs : List V} (e : H a = some (.tup xs)) : Gv H (.ref a) "tuple"
  | dK {a : Addr} {kvs : List (Key × V)} (e : H a = some (.dK kvs)) : Gv H (.ref a) "dict"
theorem Gv.ty {H : Hp} {v : V} {T : String} (h : Gv H v T) : TyX K H v (.type T) := by
  cases h with
  | non => exact .base .non
  | bl b => exact .base (.bl b)
  | int i => exact .base (.int i)
  | str z h => exact .base (.str z)
  | lst e => exact .base (.lst e)
  | tup e => exact .base (.tup e)
  | dK e => exact .base (.dK e)
theorem Gv.same {H H' : Hp} {v : V} {T : String} (h : Gv H v T) (s : Same H H') : Gv H' v T := by
  cases h with
  | non => exact .non
  | bl b => exact .bl b
  | int i => exact .int i
  | str z h => exact .str z h
  | lst e => exact .lst (s _ _ e)
  | tup e => exact .tup (s _ _ e)
  | dK e => exact .dK (s _ _ e)
theorem Gv.off {H H' : Hp} {v : V} {T : String} {p : Addr} (h : Gv H v T) (n : v ≠ .ref p) (s : Off p H H') : Gv H' v T := by
  cases h with
  | non => exact .non
  | bl b => exact .bl b
  | int i => exact .int i
  | str z h => exact .str z h
  | lst e => exact .lst (s _ _ (fun z => n (by rw [z])) e)
  | tup e => exact .tup (s _ _ (fun z => n (by rw [z])) e)
  | dK e => exact .dK (s _ _ (fun z => n (by rw [z])) e)
def gInt : V → Bool
  | .int _ => true
  | _ => false
def gMom : V → Bool
  | .int i => decide (0 ≤ i ∧ i ≤ 1000000000000000000000000000000)
  | _ => false
def gNam : V → Bool
  | .str z => isName z
  | _ => false
def gTru : V → Bool
  | .bl _ => true
  | _ => false
/-- what isinstance says of such a value and a built-in type -/
theorem Gv.kit {H : Hp} {v : V} {T : String} (h : Gv H v T) (c : String) (hc : c = "int" ∨ c = "bool" ∨ c = "str") : PySem.W.kitOne K (.type T) (.type c) = some (decide (T = c ∨ (T = "bool" ∧ c = "int"))) := by
  rcases hc with rfl | rfl | rfl <;> cases h <;> exact kit_ty (by decide +kernel)
/-- is_whole -/
def spWhole : Sp := fun vs H Q _ => ∃ (v : V) (T : String), vs = [v] ∧ Gv H v T ∧ Q (.bl (gInt v)) H
theorem ok_whole {f : Addr} {fd : FuncData} (F : Fun K "is_whole" "is_whole" sWhole f fd) (W : Words K mg) : FnOk P w K mg base CX0 1 f fd ["value"] spWhole := by
  refine F.ok scWhole (fun vs H Q E h => ?_) (fun cdv A outer s H vs Q E hr h => ?_)
  · obtain ⟨v, T, rfl, _⟩ := h
    rfl
  · obtain ⟨v, T, rfl, hv, q⟩ := h
    refine ⟨_, pss_one (ps_ret (pe_and (pe_callB call_isi (by rfl) W.isi (by decide +kernel) (pa_cons (pv 0) (pa_cons (pe_bltn (v := .ty "int") (by rfl) W.int (by decide +kernel) rfl) pa_nil)))
      (pe_one (pe_not (pe_callB call_isi (by rfl) W.isi (by decide +kernel) (pa_cons (pv 0) (pa_cons (pe_bltn (v := .ty "bool") (by rfl) W.bool (by decide +kernel) rfl) pa_nil))))))), ?_⟩
    refine ⟨_, rfl, _, _, _, _, _, rfl, .ty "int", hv.ty, hv.kit "int" (.inl rfl), _, rfl, ?_⟩
    cases hv with
    | int i =>
      refine iteT ?_
      exact ⟨_, rfl, _, _, _, _, false, rfl, .ty "bool", .base (.int i), kit_int_bool, _, rfl, q⟩
    | bl b =>
      refine iteT ?_
      exact ⟨_, rfl, _, _, _, _, true, rfl, .ty "bool", .base (.bl b), kit_bool_bool, _, rfl, q⟩
    | non => exact iteF q
    | str z h => exact iteF q
    | lst e => exact iteF q
    | tup e => exact iteF q
    | dK e => exact iteF q
/-- is_moment -/
def spMoment : Sp := fun vs H Q _ => ∃ (v : V) (T : String), vs = [v] ∧ Gv H v T ∧ Q (.bl (gMom v)) H
theorem ok_moment {f fW : Addr} {fd fdW : FuncData} (F : Fun K "is_moment" "is_moment" sMoment f fd) (W : Words K mg) (FW : Fun K "is_whole" "is_whole" sWhole fW fdW) (bW : Binds K fdW ["value"] []) (gW : mg "is_whole" = some (.ref fW)) :
    FnOk P w K mg base CX0 2 f fd ["value"] spMoment := by
  have GW : FnOk P w K mg base CX0 1 fW fdW ["value"] spWhole := ok_whole FW W
  refine F.ok scMoment (fun vs H Q E h => ?_) (fun cdv A outer s H vs Q E hr h => ?_)
  · obtain ⟨v, T, rfl, _⟩ := h
    rfl
  · obtain ⟨v, T, rfl, hv, q⟩ := h
    obtain ⟨tG, hG⟩ := W.greatest
    refine ⟨_, pss_one (ps_ret (pe_and (pe_call GW hr (by rfl) gW FW.kp bW .nil pass0 (pa_cons (pv 0) pa_nil)) (pe_one (pe_chain op_le op_le pe_int (pv 0) (pe_glob (v := .int 1000000000000000000000000000000) rfl hG ⟨_, rfl⟩))))), ?_⟩
    refine ⟨_, rfl, v, T, rfl, hv, gInt v, rfl, ?_⟩
    cases hv with
    | int i =>
      refine iteT ?_
      refine ⟨_, rfl, _, _, rfl, rfl, _, rfl, ite2 (fun e => ?_) (fun e => ?_)⟩
      · have e' : 0 ≤ i := of_decide_eq_true e
        refine ⟨_, _, rfl, rfl, ?_⟩
        have : gMom (.int i) = decide (i ≤ 1000000000000000000000000000000) := by simp [gMom, e']
        rw [this] at q
        exact q
      · have e' : ¬ 0 ≤ i := fun z => e (decide_eq_true z)
        have : gMom (.int i) = false := by simp [gMom, e']
        rw [this] at q
        exact q
    | bl b => exact iteF q
    | non => exact iteF q
    | str z h => exact iteF q
    | lst e => exact iteF q
    | tup e => exact iteF q
    | dK e => exact iteF q

theorem inV_strs (z : Str) : ∀ l : List Str, inV (.str z) (l.map V.str) = l.contains z
  | [] => rfl
  | x :: r => by
    have h := inV_strs z r
    have e : eqV (.str x) (.str z) = (z == x) := Bool.beq_comm (a := x) (b := z)
    show (eqV (.str x) (.str z) || inV (.str z) (r.map V.str)) = _
    rw [h, e, List.contains_cons]
theorem flat_strs (l : List Str) : (l.map V.str).all flatV = true := by
  rw [List.all_map]
  exact List.all_eq_true.mpr fun _ _ => rfl
theorem Same.over {H H1 : Hp} {D : Addr} {o : HO} (s : Same H H1) (h : H D = none) : Same H (upd H1 D o) := fun b u e => by
  rw [upd_ne (ne_of_none e h)]
  exact s b u e
/-- is_name -/
def spName : Sp := fun vs H Q _ => ∃ (v : V) (T : String), vs = [v] ∧ Gv H v T ∧ ∀ H', Same H H' → Q (.bl (gNam v)) H'
theorem ok_name {f : Addr} {fd : FuncData} (F : Fun K "is_name" "is_name" sName f fd) (W : Words K mg) : FnOk P w K mg base CX0 1 f fd ["value"] spName := by
  refine F.ok scName (fun vs H Q E h => ?_) (fun cdv A outer s H vs Q E hr h => ?_)
  · obtain ⟨v, T, rfl, _⟩ := h
    rfl
  · obtain ⟨v, T, rfl, hv, q⟩ := h
    obtain ⟨tL, hL⟩ := W.longest
    obtain ⟨tA, hA⟩ := W.letters
    obtain ⟨tD, hD⟩ := W.digits
    obtain ⟨aN, gN, hN⟩ := W.noNames
    have gA : ∀ {X : Cx}, X.mg = mg → True := fun _ => trivial
    refine ⟨_, pss_cons (ps_if (PW.pt (pw_or (pt_not (pt_val (pe_callB call_isi (by rfl) W.isi (by decide +kernel) (pa_cons (pv 0) (pa_cons (pe_bltn (v := .ty "str") (by rfl) W.str (by decide +kernel) rfl) pa_nil)))))
        (pw_or (pt_not (pt_chain op_le op_le pe_int (pe_callB call_len_str (by rfl) W.len PySem.boot_len (pa_cons (pv 0) pa_nil)) (pe_glob (v := .int 8) rfl hL ⟨_, rfl⟩)))
          (pw_or1 (pt_cmpR op_in_seq (pv 0) (pe_glob (v := .ref aN) rfl gN rfl) (by rfl))))))
        (pss_one (ps_ret pe_bl)) pss_nil)
      (pss_one (ps_ret (pe_and (pe_cmpR op_in_sign (pe_ix ix_str (pv 0) pe_int (fun _ _ => rfl)) (pe_glob (v := .str letters) rfl hA ⟨_, rfl⟩) (by rfl))
        (pe_one (pe_callB (cr_all rfl) (by rfl) W.all (by decide +kernel) (pa_cons (pe_lc (own := [("sign", 1)]) (g := gName 1) (tt := tYes) rfl scName.nd (pi_str (pv 0)) (blkOk_by (N := ["value", "sign"]) (sc := defScope sName) (by decide +kernel))
          (fun _ _ _ _ _ => pg_name (i := 1) scName.nd rfl (Or.inl rfl)) (fun _ _ _ _ _ => pts_nil)
          (fun _ _ _ _ _ => pe_cmpR op_in_sign (pv 1) (pe_op op_add_str (pe_glob (v := .str letters) rfl hA ⟨_, rfl⟩) (pe_glob (v := .str digits) rfl hD ⟨_, rfl⟩)) (by rfl))) pa_nil)))))), ?_⟩
    refine ⟨_, rfl, _, _, _, _, _, rfl, .ty "str", hv.ty, hv.kit "str" (.inr (.inr rfl)), _, rfl, ?_⟩
    cases hv with
    | non => exact iteT (q H (Same.refl H))
    | bl b => exact iteT (q H (Same.refl H))
    | int i => exact iteT (q H (Same.refl H))
    | lst e => exact iteT (q H (Same.refl H))
    | tup e => exact iteT (q H (Same.refl H))
    | dK e => exact iteT (q H (Same.refl H))
    | str z hz => ?_
    have q : ∀ H', Same H H' → Q (.bl (isName z)) H' := q
    have hzl : z.length ≤ sizeLine := Nat.le_trans hz (by decide)
    refine iteF ?_
    have no : isName z = false → Q (.bl false) H := fun e => by
      have := q H (Same.refl H)
      rw [e] at this
      exact this
    refine ⟨_, rfl, _, rfl, hzl, _, _, rfl, rfl, _, rfl, ite2 (fun c1 => ?_) (fun c1 => ⟨_, rfl, iteT (no ?_)⟩)⟩
    case refine_2 =>
      have c1' : ¬ (1 : Int) ≤ ((z.length : Nat) : Int) := fun e => c1 (decide_eq_true e)
      unfold isName
      rw [show decide (1 ≤ z.length) = false from decide_eq_false (by omega)]
      rfl
    have c1' : (1 : Int) ≤ ((z.length : Nat) : Int) := of_decide_eq_true c1
    refine ⟨_, _, rfl, rfl, _, rfl, ?_⟩
    by_cases c2 : ((z.length : Nat) : Int) ≤ 8
    case neg =>
      rw [decide_eq_false c2]
      refine iteT (no ?_)
      unfold isName
      rw [show decide (z.length ≤ 8) = false from decide_eq_false (by omega), Bool.and_false]
      rfl
    rw [decide_eq_true c2]
    refine iteF ⟨_, rfl, aN, _, rfl, .inr (hN H), rfl, flat_strs _, ?_⟩
    refine ⟨_, rfl, ?_⟩
    rw [show inV (.str z) (noNames.map V.str) = noNames.contains z from inV_strs z noNames]
    cases c3 : noNames.contains z with
    | true =>
      refine iteT (no ?_)
      unfold isName
      rw [c3, Bool.not_true, Bool.and_false]
      rfl
    | false =>
      refine iteF ?_
      have hz0 : 0 < z.cps.toList.length := by
        have : z.length = z.cps.toList.length := Array.length_toList.symm
        omega
      obtain ⟨c0, cr, hc⟩ : ∃ c0 cr, z.cps.toList = c0 :: cr := by
        cases e : z.cps.toList with
        | nil => rw [e] at hz0; cases hz0
        | cons a r => exact ⟨a, r, rfl⟩
      have e1 : decide (1 ≤ z.length) = true := decide_eq_true (by omega)
      have e2 : decide (z.length ≤ 8) = true := decide_eq_true (by omega)
      have e3 : isName z = (decide (c0 ∈ letters.cps.toList) && z.cps.toList.all isAln) := by
        unfold isName
        rw [e1, e2, c3, hc]
        rfl
      refine ⟨_, rfl, _, _, c0, rfl, rfl, hzl, ?_, _, _, rfl, rfl, _, rfl, ite2 (fun c4 => ?_) (fun c4 => ?_)⟩
      · rw [hc]
        exact atI_nat (j := 0) rfl
      · refine ⟨_, rfl, _, rfl, fun D hD => lc_it walk_str (fun i H' => H' D = some (.lst ((z.cps.toList.take i).map fun c => V.bl (isAln c))) ∧ Same H H') ⟨?_, ?_⟩ (fun _ _ _ _ => trivial) ?_ ?_⟩
        · exact upd_same
        · exact Same.over (Same.refl H) hD
        · rintro i x H1 H2 hi ⟨h1, s1⟩ ⟨rfl, c, hc1, rfl⟩
          have hc2 : z.cps.toList[i]? = some c := by
            rw [Array.getElem?_toList]
            exact hc1
          refine ⟨rfl, _, rfl, _, _, rfl, rfl, by decide, c, _, rfl, rfl, _, h1, ?_, ?_, Same.over s1 hD⟩
          · rw [List.length_map, List.length_take]
            have : z.cps.toList.length = z.length := Array.length_toList
            exact Nat.lt_of_le_of_lt (Nat.le_trans (Nat.min_le_right _ _) (by omega)) (by decide : 2000 < sizeLine)
          · rw [upd_same, List.take_add_one, hc2, List.map_append]
            rfl
        · rintro H1 ⟨h1, s1⟩
          refine ⟨D, z.cps.toList.map isAln, rfl, SqL.of ?_, ?_⟩
          · rw [h1, List.take_of_length_le (by rw [Array.length_toList]; exact Nat.le_refl _), List.map_map]
            rfl
          · have := q H1 s1
            rw [e3, show decide (c0 ∈ letters.cps.toList) = true from c4, Bool.true_and] at this
            rw [List.all_map]
            exact this
      · refine no ?_
        rw [e3]
        have : decide (c0 ∈ letters.cps.toList) = false := by
          cases h : decide (c0 ∈ letters.cps.toList) with
          | true => exact absurd h c4
          | false => rfl
        rw [this]
        rfl
end
end K63

namespace K63
open PySem PySem.Spec PyProof.Rows L2 So
abbrev sEN : Stmt := inClass (topS 3) 0
abbrev sEM : Stmt := inClass (topS 4) 0
abbrev sES : Stmt := inClass (topS 5) 0
theorem scEN : FnScope ["self", "name"] ["self", "name"] (defScope sEN) := ⟨rfl, rfl, rfl, by decide +kernel, rfl, by decide +kernel, by decide +kernel⟩
theorem scEM : FnScope ["self", "moment"] ["self", "moment"] (defScope sEM) := ⟨rfl, rfl, rfl, by decide +kernel, rfl, by decide +kernel, by decide +kernel⟩
theorem scES : FnScope ["self", "value"] ["self", "value"] (defScope sES) := ⟨rfl, rfl, rfl, by decide +kernel, rfl, by decide +kernel, by decide +kernel⟩
section
variable {P : Program} {w : World} {K : PySem.W.Frag} {mg : Str → Option Value} {base : Heap}
theorem ok_eN {C f : Addr} {fd : FuncData} (F : Fun K "__init__" "BadName.__init__" sEN f fd) (O : OneE K mg "BadName" "name" C f fd) : FnOk P w K mg base CX0 1 f fd ["self", "name"] (spOneE C "name") := by
  refine F.ok scEN (fun vs H Q E h => ?_) (fun cdv A outer s H vs Q E hr h => ?_)
  · obtain ⟨a, v, rfl, _⟩ := h
    rfl
  · obtain ⟨a, v, rfl, ha, q⟩ := h
    exact ⟨_, pss_one (ps_ost (pv 0) (pv 1)), _, rfl, _, rfl, a, C, rfl, O.T, O.no, .inl ⟨ha, fun dx h n => q dx h n⟩⟩
theorem ok_eM {C f : Addr} {fd : FuncData} (F : Fun K "__init__" "BadMoment.__init__" sEM f fd) (O : OneE K mg "BadMoment" "moment" C f fd) : FnOk P w K mg base CX0 1 f fd ["self", "moment"] (spOneE C "moment") := by
  refine F.ok scEM (fun vs H Q E h => ?_) (fun cdv A outer s H vs Q E hr h => ?_)
  · obtain ⟨a, v, rfl, _⟩ := h
    rfl
  · obtain ⟨a, v, rfl, ha, q⟩ := h
    exact ⟨_, pss_one (ps_ost (pv 0) (pv 1)), _, rfl, _, rfl, a, C, rfl, O.T, O.no, .inl ⟨ha, fun dx h n => q dx h n⟩⟩
theorem ok_eS {C f : Addr} {fd : FuncData} (F : Fun K "__init__" "BadSaying.__init__" sES f fd) (O : OneE K mg "BadSaying" "value" C f fd) : FnOk P w K mg base CX0 1 f fd ["self", "value"] (spOneE C "value") := by
  refine F.ok scES (fun vs H Q E h => ?_) (fun cdv A outer s H vs Q E hr h => ?_)
  · obtain ⟨a, v, rfl, _⟩ := h
    rfl
  · obtain ⟨a, v, rfl, ha, q⟩ := h
    exact ⟨_, pss_one (ps_ost (pv 0) (pv 1)), _, rfl, _, rfl, a, C, rfl, O.T, O.no, .inl ⟨ha, fun dx h n => q dx h n⟩⟩
/-- the three errors of arguments -/
structure Errs (K : PySem.W.Frag) (mg : Str → Option Value) (CN CM CS : Addr) : Prop where
  n : ∃ (f : Addr) (fd : FuncData), OneE K mg "BadName" "name" CN f fd ∧ Fun K "__init__" "BadName.__init__" sEN f fd
  m : ∃ (f : Addr) (fd : FuncData), OneE K mg "BadMoment" "moment" CM f fd ∧ Fun K "__init__" "BadMoment.__init__" sEM f fd
  s : ∃ (f : Addr) (fd : FuncData), OneE K mg "BadSaying" "value" CS f fd ∧ Fun K "__init__" "BadSaying.__init__" sES f fd
def gBeg : V → Bool
  | .int i => decide (1 ≤ i ∧ i ≤ 1000000000000000000000000000000)
  | _ => false
/-- the forms: whether a value has it, the class and the field of the error where not -/
def Form (CN CM CS : Addr) (form : Str) (v : V) (ok : Bool) (C : Addr) (fl : Str) : Prop :=
  (form = "name" ∧ ok = gNam v ∧ C = CN ∧ fl = "name") ∨ (form = "moment" ∧ ok = gMom v ∧ C = CM ∧ fl = "moment") ∨ (form = "beginning" ∧ ok = gBeg v ∧ C = CM ∧ fl = "moment") ∨ (form = "truth" ∧ ok = gTru v ∧ C = CS ∧ fl = "value")
theorem notS {a b : Str} (h : a ≠ b) : ¬ (decide (V.str a = V.str b) = true) := fun e => h (V.str.inj (of_decide_eq_true e))
def spCheck (CN CM CS : Addr) : Sp := fun vs H Q E => ∃ (v : V) (T : String) (form : Str) (ok : Bool) (C : Addr) (fl : Str), vs = [v, .str form] ∧ Gv H v T ∧ Form CN CM CS form v ok C fl ∧
  (ok = true → ∀ H', Same H H' → Q .non H') ∧ (ok = false → ∀ d H', Same H H' → H' d = some (.xd [(fl, v)]) → E (.ref C) (some d) H')
theorem ok_check {CN CM CS f fM fN : Addr} {fd fdM fdN : FuncData} (F : Fun K "check_form" "check_form" sCheck f fd) (W : Words K mg) (R : Errs K mg CN CM CS) (FM : Fun K "is_moment" "is_moment" sMoment fM fdM) (bM : Binds K fdM ["value"] []) (gM : mg "is_moment" = some (.ref fM))
    (GM : FnOk P w K mg base CX0 2 fM fdM ["value"] spMoment) (FN : Fun K "is_name" "is_name" sName fN fdN) (bN : Binds K fdN ["value"] []) (gN : mg "is_name" = some (.ref fN)) (GN : FnOk P w K mg base CX0 1 fN fdN ["value"] spName) :
    FnOk P w K mg base (L2.CX P w) 3 f fd ["value", "form"] (spCheck CN CM CS) := by
  obtain ⟨f1, fd1, O1, F1⟩ := R.n
  obtain ⟨f2, fd2, O2, F2⟩ := R.m
  obtain ⟨f3, fd3, O3, F3⟩ := R.s
  have G1 : FnOk P w K mg base CX0 1 f1 fd1 ["self", "name"] (spOneE CN "name") := ok_eN F1 O1
  have G2 : FnOk P w K mg base CX0 1 f2 fd2 ["self", "moment"] (spOneE CM "moment") := ok_eM F2 O2
  have G3 : FnOk P w K mg base CX0 1 f3 fd3 ["self", "value"] (spOneE CS "value") := ok_eS F3 O3
  refine F.okX scCheck (fun vs H Q E h => ?_) (fun cdv A outer s H vs Q E hr h => ?_)
  · obtain ⟨v, T, form, ok, C, fl, rfl, _⟩ := h
    rfl
  · obtain ⟨v, T, form, ok, C, fl, rfl, hv, hf, qy, qn⟩ := h
    have hr1 : Room 1 _ := hr.mono (by decide)
    refine ⟨_, pss_cons (ps_if (PW.pt (pw_and (pt_cmpR op_eq (pv 1) pe_str (nomark _)) (pw_and1 (pt_not (pt_val (pe_call GN hr1 (by rfl) gN FN.kp bN .nil pass0 (pa_cons (pv 0) pa_nil))))))) (pss_one (ps_raiseOne O1 G1 rfl hr (takes_of rfl rfl rfl rfl) (by rfl) (pa_cons (pv 0) pa_nil))) pss_nil)
      (pss_cons (ps_if (PW.pt (pw_and (pt_cmpR op_eq (pv 1) pe_str (nomark _)) (pw_and1 (pt_not (pt_val (pe_call GM hr (by rfl) gM FM.kp bM .nil pass0 (pa_cons (pv 0) pa_nil))))))) (pss_one (ps_raiseOne O2 G2 rfl hr (takes_of rfl rfl rfl rfl) (by rfl) (pa_cons (pv 0) pa_nil))) pss_nil)
      (pss_cons (ps_if (PW.pt (pw_and (pt_cmpR op_eq (pv 1) pe_str (nomark _)) (pw_and1 (pt_not (PW.pt (pw_and (pt_val (pe_call GM hr (by rfl) gM FM.kp bM .nil pass0 (pa_cons (pv 0) pa_nil))) (pw_and1 (pt_cmpR op_gt (pv 0) pe_int (nomark _))))))))) (pss_one (ps_raiseOne O2 G2 rfl hr (takes_of rfl rfl rfl rfl) (by rfl) (pa_cons (pv 0) pa_nil))) pss_nil)
      (pss_one (ps_if (PW.pt (pw_and (pt_cmpR op_eq (pv 1) pe_str (nomark _)) (pw_and1 (pt_not (pt_val (pe_callB call_isi (by rfl) W.isi (by decide +kernel) (pa_cons (pv 0) (pa_cons (pe_bltn (v := .ty "bool") (by rfl) W.bool (by decide +kernel) rfl) pa_nil))))))))
        (pss_one (ps_raiseOne O3 G3 rfl hr (takes_of rfl rfl rfl rfl) (by rfl) (pa_cons (pv 0) pa_nil))) pss_nil)))), ?_⟩
    rcases hf with ⟨rfl, rfl, rfl, rfl⟩ | ⟨rfl, rfl, rfl, rfl⟩ | ⟨rfl, rfl, rfl, rfl⟩ | ⟨rfl, rfl, rfl, rfl⟩
    · refine ⟨_, rfl, rfl, _, rfl, ite2 (fun _ => ?_) (fun e => absurd (decide_eq_true rfl) e)⟩
      refine ⟨_, rfl, v, T, rfl, hv, fun H1 s1 => ⟨_, rfl, ?_⟩⟩
      cases hg : gNam v with
      | true =>
        refine iteF ?_
        refine ⟨_, rfl, rfl, _, rfl, ite2 (fun e => absurd e (notS (by decide +kernel))) (fun _ => ?_)⟩
        refine ⟨_, rfl, rfl, _, rfl, ite2 (fun e => absurd e (notS (by decide +kernel))) (fun _ => ?_)⟩
        refine ⟨_, rfl, rfl, _, rfl, ite2 (fun e => absurd e (notS (by decide +kernel))) (fun _ => ?_)⟩
        exact qy hg H1 s1
      | false =>
        refine iteT ?_
        exact ⟨_, rfl, mkOne rfl fun d H' s2 _ e => qn hg d H' (s1.trans s2) e⟩
    · refine ⟨_, rfl, rfl, _, rfl, ite2 (fun e => absurd e (notS (by decide +kernel))) (fun _ => ?_)⟩
      refine ⟨_, rfl, rfl, _, rfl, ite2 (fun _ => ?_) (fun e => absurd (decide_eq_true rfl) e)⟩
      refine ⟨_, rfl, v, T, rfl, hv, _, rfl, ?_⟩
      cases hg : gMom v with
      | true =>
        refine iteF ?_
        refine ⟨_, rfl, rfl, _, rfl, ite2 (fun e => absurd e (notS (by decide +kernel))) (fun _ => ?_)⟩
        refine ⟨_, rfl, rfl, _, rfl, ite2 (fun e => absurd e (notS (by decide +kernel))) (fun _ => ?_)⟩
        exact qy hg H (Same.refl H)
      | false =>
        refine iteT ?_
        exact ⟨_, rfl, mkOne rfl fun d H' s2 _ e => qn hg d H' s2 e⟩
    · refine ⟨_, rfl, rfl, _, rfl, ite2 (fun e => absurd e (notS (by decide +kernel))) (fun _ => ?_)⟩
      refine ⟨_, rfl, rfl, _, rfl, ite2 (fun e => absurd e (notS (by decide +kernel))) (fun _ => ?_)⟩
      refine ⟨_, rfl, rfl, _, rfl, ite2 (fun _ => ?_) (fun e => absurd (decide_eq_true rfl) e)⟩
      refine ⟨_, rfl, v, T, rfl, hv, _, rfl, ?_⟩
      have no : gBeg v = false → tMkO C (spOneE C "moment") [] (tCons (tVar 0) tNil) [some v, some (.str "beginning")] H fun cls d H' => E cls d H' := fun e =>
        ⟨_, rfl, mkOne rfl fun d H' s2 _ e2 => qn e d H' s2 e2⟩
      cases hg : gMom v with
      | true =>
        refine iteT ?_
        obtain ⟨i, rfl⟩ : ∃ i, v = .int i := by
          cases v with
          | int i => exact ⟨i, rfl⟩
          | _ => cases hg
        have hi : 0 ≤ i ∧ i ≤ 1000000000000000000000000000000 := of_decide_eq_true hg
        refine ⟨_, rfl, _, _, rfl, rfl, _, rfl, ?_⟩
        by_cases z : 0 < i
        · rw [show decide (i > 0) = true from decide_eq_true z]
          refine iteF ?_
          refine ⟨_, rfl, rfl, _, rfl, ite2 (fun e => absurd e (notS (by decide +kernel))) (fun _ => ?_)⟩
          exact qy (decide_eq_true ⟨by omega, hi.2⟩) H (Same.refl H)
        · rw [show decide (i > 0) = false from decide_eq_false z]
          refine iteT ?_
          exact no (decide_eq_false (by omega))
      | false =>
        refine iteF (iteT (no ?_))
        cases v with
        | int i =>
          have : ¬ (0 ≤ i ∧ i ≤ 1000000000000000000000000000000) := of_decide_eq_false hg
          exact decide_eq_false (by omega)
        | _ => rfl
    · refine ⟨_, rfl, rfl, _, rfl, ite2 (fun e => absurd e (notS (by decide +kernel))) (fun _ => ?_)⟩
      refine ⟨_, rfl, rfl, _, rfl, ite2 (fun e => absurd e (notS (by decide +kernel))) (fun _ => ?_)⟩
      refine ⟨_, rfl, rfl, _, rfl, ite2 (fun e => absurd e (notS (by decide +kernel))) (fun _ => ?_)⟩
      refine ⟨_, rfl, rfl, _, rfl, ite2 (fun _ => ?_) (fun e => absurd (decide_eq_true rfl) e)⟩
      refine ⟨_, rfl, _, _, _, _, _, rfl, .ty "bool", hv.ty, hv.kit "bool" (.inr (.inl rfl)), _, rfl, ?_⟩
      have no : gTru v = false → tMkO C (spOneE C "value") [] (tCons (tVar 0) tNil) [some v, some (.str "truth")] H fun cls d H' => E cls d H' := fun e =>
        ⟨_, rfl, mkOne rfl fun d H' s2 _ e2 => qn e d H' s2 e2⟩
      cases hv with
      | bl b => exact iteF (qy rfl H (Same.refl H))
      | non => exact iteT (no rfl)
      | int i => exact iteT (no rfl)
      | str z h => exact iteT (no rfl)
      | lst e => exact iteT (no rfl)
      | tup e => exact iteT (no rfl)
      | dK e => exact iteT (no rfl)
end
end K63

namespace K63
open PySem PySem.Spec PyProof.Rows L2 So
abbrev noNames63 : Unit := ()
theorem cut63 (xs : List V) : cutV xs none (some 63) = xs.take 63 := by
  unfold cutV
  rw [HT.sIx_none, show HT.sIx xs.length xs.length (some 63) = min 63 xs.length from HT.sIx_nat xs.length xs.length 63]
  simp
theorem same_upd0 {H : Hp} {p : Addr} {o : HO} (h : H p = none) : Same H (upd H p o) := Same.over (Same.refl H) h
theorem same3 {H : Hp} {a b c : Addr} {o1 o2 o3 : HO} (ha : H a = none) (hb : upd H a o1 b = none) (hc : upd (upd H a o1) b o2 c = none) : Same H (upd (upd (upd H a o1) b o2) c o3) ∧ H c = none :=
  have s2 := (same_upd0 (o := o1) ha).trans (same_upd0 (o := o2) hb)
  ⟨s2.trans (same_upd0 hc), s2.free hc⟩
section
variable {P : Program} {w : World} {K : PySem.W.Frag} {mg : Str → Option Value} {base : Heap}
def spPen (K : PySem.W.Frag) : Sp := fun vs H Q _ => ∃ (a : Addr) (ns : List Int), vs = [.ref a] ∧ SqL K H a (ns.map V.int) ∧ ∀ (H' : Hp) (p l : Addr) (ns' : List Int), Same H H' → Pen H' p l ns' 0 0 → Q (.ref p) H'
theorem ok_pen {f : Addr} {fd : FuncData} (F : Fun K "_law_pen" "_law_pen" sPen f fd) (ml : mg "list" = none) : FnOk P w K mg base CX0 1 f fd ["_law_script"] (spPen K) := by
  refine F.ok scPen (fun vs H Q E h => ?_) (fun cdv A outer s H vs Q E hr h => ?_)
  · obtain ⟨a, ns, rfl, _⟩ := h
    rfl
  · obtain ⟨a, ns, rfl, hS, q⟩ := h
    refine ⟨_, pss_one (ps_ret (pe_lst (pa_cons (pe_callTy call_list_of (by rfl) ml (by decide +kernel) (pa_cons (pe_slice sl_list (pv 0) po_none (po_some pe_int)) pa_nil)) (pa_cons pe_int (pa_cons pe_int pa_nil))))), ?_⟩
    refine ⟨_, rfl, 63, rfl, a, ns.map V.int, rfl, hS, fun c hc => ?_⟩
    rw [cut63, ← List.map_take]
    refine ⟨c, _, rfl, .inl (SqL.of upd_same), fun l hl => ?_⟩
    refine ⟨by show 3 ≤ sizeLine; decide, fun p hp => ?_⟩
    have s1 : Same H (upd (upd (upd H c (.lst ((ns.take 63).map V.int))) l (.lst ((ns.take 63).map V.int))) p (.lst [.ref l, .int 0, .int 0])) := by
      refine ((same_upd0 hc).trans (same_upd0 hl)).trans (same_upd0 hp)
    have nlp : l ≠ p := fun e => by
      rw [e, upd_same] at hp
      cases hp
    exact q _ p l (ns.take 63) s1 ⟨upd_same, (upd_ne nlp).trans upd_same, Int.le_refl 0⟩
end
end K63

/-! enumerate(a tuple) as what a for goes through -/
namespace So
open PySem PySem.Spec PyProof.Rows L2
/-- enumerate(v): what pyIter of v makes, in an enumerate's cell -/
theorem enum_new1 {v : Value} {o : Obj} {Hp0 : Heap → Prop} (B : Begins v o Hp0) : Meets (Builtin.«enumerate.__new__» ⟨[.type "enumerate", v], []⟩) (fun _ R s => Hp0 s.heap ∧
    R (.ok (.ret (.ref (s.heap.push o).objs.size))) { s with heap := (s.heap.push o).push { cls := .type "enumerate", data := .fields #[.none, .bool false, .ref s.heap.objs.size, rawInt 0, .none, .none] } }) :=
  .of_wp fun prog w A R s h => by
    obtain ⟨hp, g, d, tk, os⟩ := s
    obtain ⟨h1, h⟩ := h
    have hsub := sub_enumerate
    have q1 : ∀ {A' : Around} {E : Value → Shared → Prop} {Q : Value → Shared → Prop}, Q (.ref hp.objs.size) ⟨hp.push o, g, d, tk, os⟩ → wpAny (model prog w) A' (pyIter v) Q E ⟨hp, g, d, tk, os⟩ :=
      fun q => B.iter prog w _ _ ⟨hp, g, d, tk, os⟩ _ h1 q
    wp_walk using q1
    refine wpAny_stack_any fun st => wpAny_pure ?_
    split
    · rename_i c _ _ _ _ _
      cases (c == Value.type "enumerate") <;> (wp_walk using q1; exact ⟨_, rfl, h⟩)
    · wp_walk using q1
      exact ⟨_, rfl, h⟩
/-- behind the last item -/
theorem enum_endT {prog : Program} {w : World} {A : Around} {E : Value → Shared → Prop} {s : Shared} {e it a : Addr} {i : Int} {j : Nat} {items : Array Value} {old : Value} {Q : Option Value → Shared → Prop} (hh : A.handled = none) (he : IsEnum s.heap e it i old)
    (hit : s.heap.IsTupleIter it a j) (ht : s.heap.IsTuple a items) (hx : items[j]? = none) (hQ : ∀ h', Heap.ExtBut it s.heap h' → Q none { s with heap := h' }) : wpAny (model prog w) A (pyNext (.ref e)) Q E s := by
  have hT : s.TypeIs (.ref e) "enumerate" := ⟨_, he, rfl⟩
  unfold pyNext
  refine wpAny_bind (wpAny_attempt (wpAny_callSpecial?_slot (name := Str.ofString "__next__") hT PySem.F.slot_enumerate_next (wpAny_call_entry PySem.F.slot_enumerate_next hT PySem.F.entry_enumerate_next ?_ (PySem.F.args_enumerate_next_1 _))))
  show wpAny _ _ (field (.ref e) 2 >>= _) _ _ _
  refine wpAny_bind (wpAny_field he rfl (x := .ref it) rfl (wpAny_bind (wpAny_nextOf_tuple_end (A := A.in1) hh hit ht hx fun h' x he' hx' => ?_)))
  obtain ⟨o, ho, hc⟩ := hx'
  exact wpAny_bind (wpAny_isInstance (T := "StopIteration") (b := true) ⟨o, ho, hc⟩ isSubtype_stop (wpAny_pure (hQ _ he')))
/-- the tuple at a, each item in a new pair with its index -/
def IteT (K : PySem.W.Frag) (a : Addr) : It :=
  ⟨fun i H => ∃ (xs : List V) (x : V), SqT K H a xs ∧ xs[i]? = some x, fun i H v H' => ∃ T x, v = .ref T ∧ H T = none ∧ H' = upd H T (.tup [.int (i : Nat), x]) ∧ ∀ xs, SqT K H a xs → xs[i]? = some x, fun i H => ∃ xs : List V, SqT K H a xs ∧ xs.length ≤ i⟩
theorem walk_enumT {K : PySem.W.Frag} {a : Addr} {xs : List V} : Walk (IteT K a) xs.length (fun H => SqT K H a xs) (YPair (fun i => some (.int (i : Nat))) (fun i => xs[i]?)) := by
  refine ⟨fun i _ hi q => ⟨xs, xs[i], q, by simp [hi]⟩, fun _ q => ⟨xs, q, Nat.le_refl _⟩, fun i H v H' _ q y => ?_⟩
  obtain ⟨T, x, h1, h2, h3, h4⟩ := y
  exact ⟨T, .int (i : Nat), x, h1, h2, h3, rfl, h4 xs q⟩
theorem turn_enumT {P : Program} {w : World} {K : PySem.W.Frag} {elts : List Expr} {kk : Nat} {tpos : Pos} (a e it : Addr) :
    Turn P w K (.Tuple elts kk tpos) (IteT K a) [e, it] e (fun i h => (∃ old, IsEnum h e it ((i : Nat) : Int) old) ∧ h.IsTupleIter it a i ∧ e ≠ it ∧ a ≠ it ∧ a ≠ e) where
  mem := by simp
  obj := fun i h st b hb => by
    obtain ⟨⟨old, he⟩, ⟨o, ho, hc, hd⟩, _⟩ := st
    have e' : b = e ∨ b = it := by simpa using hb
    rcases e' with z | z
    · rw [z]
      exact ⟨_, he, fun v q => nomatch q⟩
    · rw [z]
      exact ⟨o, ho, fun v q => by rw [hd] at q; cases q⟩
  keep := fun i h h' st k => by
    obtain ⟨⟨old, he⟩, hi, ne⟩ := st
    exact ⟨⟨old, k e (by simp) _ he⟩, hi.at fun o q => k it (by simp) o q, ne⟩
  item := by
    intro X hP hw hK hc i pins s σ H E I hf st hg
    subst hP hw hK
    obtain ⟨⟨old, he⟩, hit, ne, nai, nae⟩ := st
    obtain ⟨xs, x, hq, hx⟩ := hg
    obtain ⟨its, rv, p, hz⟩ := I.tuple hq
    obtain ⟨u, hu, ru⟩ := rv.get hx
    have hel : e < s.heap.objs.size := Heap.lt_size he
    have hil : it < s.heap.objs.size := by
      obtain ⟨_, q, _⟩ := hit
      exact Heap.lt_size q
    have hT0 : s.heap.IsTuple a its.toArray := p
    have hi : i < its.toArray.size := by
      have := (List.getElem?_eq_some_iff.mp hu).1
      simpa using this
    refine wpAny_pyNext_enum_itemD (Draws.tuple (A := X.A.in1) (show X.A.in1.handled = none from I.ok.hd hc) it a nai its.toArray) he ⟨hit, hT0⟩ hi ne (by simp [ne, Ne.symm nae]) fun x' h' tk hp ho hst hT hsz hk => ?_
    have ex : x' = u := by
      have h1 : its.toArray[i]? = some x' := hp
      have h2 : its.toArray[i]? = some u := by simpa using hu
      exact Option.some.inj (h1.symm.trans h2)
    subst ex
    refine ⟨_, rfl, wpAny_letOwnedTupleGo_enum (s := { s with heap := h', toks := tk + 1 }) ho fun h'' he' sb => ?_⟩
    have hT2 : h''.get? s.heap.objs.size = some { cls := .type "tuple", data := .seq #[.int i tk, x'] } := (sb.2 _ (Nat.ne_of_gt hel)).trans hT
    have new : ObjOk X.prog X.w (upd H s.heap.objs.size (.tup [.int (i : Nat), x])) h'' s.heap.objs.size (.tup [.int (i : Nat), x]) :=
      ⟨by show 2 ≤ sizeLine; decide, [.int i tk, x'], .cons ⟨_, rfl⟩ (.cons ru .nil), ⟨_, hT2, rfl, _, rfl⟩⟩
    have I1 : Inv X pins σ (upd H s.heap.objs.size (.tup [.int (i : Nat), x])) { s with heap := h'', toks := tk + 1 } :=
      I.turnedNew (ch := [e, it]) (fun b ob hb q => (sb.2 b (fun z => hb (by simp [z]))).trans (hk b ob (fun z => hb (by simp [z])) (fun z => hb (by simp [z])) q)) hf (Nat.le_refl _) new
    refine ⟨.ref s.heap.objs.size, _, I1, rfl, ⟨_, x, rfl, I.hok.fresh (Nat.le_refl _), rfl, fun ys hy => by rw [I.tuple_inj hy hq]; exact hx⟩, ⟨⟨x', ?_⟩, hst.1.at fun o q => (sb.2 it (Ne.symm ne)).trans q, ne, nai, nae⟩, fun b hb => ?_⟩
    · have e1 : ((i + 1 : Nat) : Int) = (i : Int) + 1 := by omega
      rw [e1]
      exact he'
    · have hb' : b < s.heap.objs.size := by
        have e' : b = e ∨ b = it := by simpa using hb
        rcases e' with z | z
        · rw [z]
          exact hel
        · rw [z]
          exact hil
      rw [upd_ne (Nat.ne_of_lt hb')]
      exact (hf b hb).1
  done := by
    intro X hP hw hK hc i pins s σ H E I hf st hg
    subst hP hw hK
    obtain ⟨⟨old, he⟩, hit, ne, nai, nae⟩ := st
    obtain ⟨xs, hq, hx⟩ := hg
    obtain ⟨its, rv, p, hz⟩ := I.tuple hq
    obtain ⟨f0, f1, f2, f3, f4, f5⟩ := hf it (by simp)
    have hl := rv.length
    exact enum_endT (I.ok.hd hc) he hit (show s.heap.IsTuple a its.toArray from p) (by simp; omega) fun h' eb => ⟨rfl, I.turned (t' := s.toks) (fun b o hb q => eb b o hb q) f0 f1 f3 f4 f5⟩
  self := fun A i s Q E st h => by
    obtain ⟨⟨_, he⟩, _⟩ := st
    exact wpAny_pyIter_enum he h
def iEnumT (K : PySem.W.Frag) (ta : TA) : TI := fun σ H R => ta σ H fun vs H1 => ∃ a xs, vs = [.ref a] ∧ SqT K H1 a xs ∧ R (IteT K a) H1
theorem pi_enumT {X : Cx} {e : Expr} {ta : TA} {p pos tpos : Pos} {elts : List Expr} {kk : Nat} (hg : Gl X "enumerate") (hm : X.mg "enumerate" = none) (ha : PA X [e] ta) (hs : starEach [e] X.env = [(false, eval e X.env)] := by rfl) :
    PI X (.Tuple elts kk tpos) (.Call (.Name "enumerate" p) [e] [] pos) (iEnumT X.K ta) := by
  refine ⟨fun pins s σ H R I h => ?_⟩
  refine Call_ (ld_blt I hg hm boot_enumerate (PyProof.Rows.callWith_type1 (thn (ha.run pos pins s σ H _ I h) fun us s1 ⟨vs, H1, I1, r1, q1⟩ => ?_) hs rfl))
  obtain ⟨a, xs, rfl, hq, q⟩ := q1
  obtain ⟨u, rfl, ru⟩ := vals1 r1
  obtain rfl : u = Value.ref a := ru
  obtain ⟨its, rv, p', hz⟩ := I1.tuple hq
  have ht : s1.heap.IsTuple a its.toArray := p'
  have al : a < s1.heap.objs.size := by
    obtain ⟨o, ho, _⟩ := ht
    exact Heap.lt_size ho
  have sz : (s1.heap.push { cls := .type "tuple_iterator", data := .fields #[.ref a, .int 0 0] }).objs.size = s1.heap.objs.size + 1 := Heap.size_push ..
  refine callType_new PySem.F.called_enumerate (by decide) (PySem.F.typeCall_enumerate_1 _) (PySem.F.newCall_enumerate_1 _) (fun obj => PySem.F.args_object_init_2 obj _) PySem.F.entry_enumerate_new (enum_new1 (begins_tuple a its.toArray)) ⟨ht, ?_⟩
  show _ ∧ _
  rw [sz]
  have he : IsEnum ((s1.heap.push { cls := .type "tuple_iterator", data := .fields #[.ref a, .int 0 0] }).push { cls := .type "enumerate", data := .fields #[.none, .bool false, .ref s1.heap.objs.size, rawInt 0, .none, .none] }) (s1.heap.objs.size + 1) s1.heap.objs.size 0 .none := by
    have := Heap.get?_push_size (s1.heap.push { cls := .type "tuple_iterator", data := .fields #[.ref a, .int 0 0] }) (o := { cls := .type "enumerate", data := .fields #[.none, .bool false, .ref s1.heap.objs.size, rawInt 0, .none, .none] }) rfl
    rw [sz] at this
    exact this
  refine ⟨⟨_, he, rfl⟩, wpAny_pyIter_enum he ?_⟩
  have I2 : Inv X pins σ H1 { s1 with heap := (s1.heap.push { cls := .type "tuple_iterator", data := .fields #[.ref a, .int 0 0] }).push { cls := .type "enumerate", data := .fields #[.none, .bool false, .ref s1.heap.objs.size, rawInt 0, .none, .none] } } :=
    I1.kept (t' := s1.toks) fun b o x => Heap.get?_push_of_some _ (Heap.get?_push_of_some _ x)
  refine ⟨s1.heap.objs.size + 1, [s1.heap.objs.size + 1, s1.heap.objs.size], _, _, H1, rfl, I2, turn_enumT a (s1.heap.objs.size + 1) s1.heap.objs.size, ⟨⟨.none, he⟩, ⟨_, Heap.get?_push_of_some _ (Heap.get?_push_size _ rfl), rfl, rfl⟩, Nat.succ_ne_self _, Nat.ne_of_lt al, Nat.ne_of_lt (Nat.lt_succ_of_lt al)⟩, fun b hb => ?_, q⟩
  have e' : b = s1.heap.objs.size + 1 ∨ b = s1.heap.objs.size := by simpa using hb
  have hle : s1.heap.objs.size ≤ b := by
    rcases e' with z | z
    · rw [z]
      exact Nat.le_add_right _ _
    · rw [z]
      exact Nat.le_refl _
  exact I1.fpOk hle (I1.hok.fresh hle)
end So

/-! a method whose body is the one row super().m(..) -/
namespace So
open PySem PySem.Spec PyProof.Rows L2
/-- the env of a def that closes over its class's cell -/
abbrev envS (qual : Str) (scope : Scope) (L f : Addr) (cd : Value) (cc : Addr) : Env := PySem.W.ksEnv qual scope L f cd cc
def cxS (CX : CXT) (P : Program) (w : World) (K : PySem.W.Frag) (mg : Str → Option Value) (base : Heap) (N : List Str) (qual : Str) (scope : Scope) (f : Addr) (cd : Value) (cc : Addr) (A : Around) (outer : List Env) (s : Shared) (H : Hp) (E : XK) : Cx where
  prog := P
  w := w
  K := K
  mg := mg
  base := base
  A := A.deeper (envS qual scope s.heap.objs.size f cd cc)
  N := N
  s_0 := s
  H_0 := H
  env := envS qual scope s.heap.objs.size f cd cc
  outer := outer
  stack := envS qual scope s.heap.objs.size f cd cc :: outer
  ex := []
  calm := true
  fn := fun _ => false
  pn := []
  xe := fun e s' => wpAny (model P w) (A.deeper (envS qual scope s.heap.objs.size f cd cc)) (leaving (envS qual scope s.heap.objs.size f cd cc) e) (fun _ s'' => CX outer H s E e s'') (fun e' s'' => CX outer H s E e' s'') s'
/-- the names of such a def: all of them parameters, super and its class beside -/
structure SupScope (ps : List Str) (sc : Scope) : Prop where
  kind : sc.kind = .function
  co : sc.isCoroutine = false
  gen : sc.isGenerator = false
  nd : ps.Nodup
  par : ∀ x ∈ ps, sc.names.lookup x = some .local
  nocell : ∀ y ∈ sc.names, y.2 ≠ .cell
  free : ∀ y, sc.names.lookup y = some .free → y = "__class__"
  sup : sc.names.lookup ("super" : Str) = some .globalImplicit
  cls : sc.names.lookup ("__class__" : Str) = some .free
section
variable {CX : CXT} {P : Program} {w : World} {K : PySem.W.Frag} {mg : Str → Option Value} {base : Heap} {ps : List Str} {qual : Str} {scope : Scope} {f cc D : Addr} {cd : Value} {A : Around} {outer : List Env} {s : Shared} {H : Hp} {E : XK} {us : List Value} {vs : List V} {h₀ : Heap} {tk : Nat}
theorem zip_sub : ∀ (ps : List Str) (us : List Value), ((ps.zip us).map Prod.fst).Sublist ps
  | [], _ => by simp
  | p :: r, [] => by simp
  | p :: r, u :: t => by
    rw [List.zip_cons_cons, List.map_cons]
    exact (zip_sub r t).cons_cons p
theorem bindL_rev {qual : Str} {L f : Addr} {cd : Value} {x : Str} {v : Value} {us : List Value} {i : Nat} (nd : ps.Nodup) (h1 : ps[i]? = some x) (h2 : us[i]? = some v) : (ps.zip us).reverse.lookup x = some v := by
  have hm : (x, v) ∈ ps.zip us := by
    refine List.mem_of_getElem? (i := i) ?_
    rw [List.getElem?_zip_eq_some]
    exact ⟨h1, h2⟩
  have nd2 : ((ps.zip us).reverse.map Prod.fst).Nodup := by
    rw [List.map_reverse]
    have n0 : ((ps.zip us).map Prod.fst).Nodup := nd.sublist (zip_sub ps us)
    show List.Pairwise (· ≠ ·) _
    rw [List.pairwise_reverse]
    exact List.Pairwise.imp (fun h => Ne.symm h) n0
  have hm2 : (x, v) ∈ (ps.zip us).reverse := List.mem_reverse.mpr hm
  revert hm2 nd2
  generalize (ps.zip us).reverse = l
  intro nd2 hm2
  induction l with
  | nil => cases hm2
  | cons p r ih =>
    obtain ⟨y, u⟩ := p
    rw [List.map_cons, List.nodup_cons] at nd2
    rcases List.mem_cons.mp hm2 with e | e
    · cases e
      simp [List.lookup]
    · have ne : x ≠ y := fun z => nd2.1 (by
        rw [← z]
        exact List.mem_map.mpr ⟨_, e, rfl⟩)
      have : (x == y) = false := by simp [ne]
      rw [List.lookup_cons, this]
      exact ih nd2.2 e
theorem inv_sup (S : SupScope ps scope) (hd : A.handled = none) (e0 : Env0 P w K mg base A outer s H) (hl : vs.length = ps.length) (r : Vals vs us) {cl : Value} {cld : Option Addr} {csl : Array (Option Value)} (hcell : K.lookup cc = some ⟨cl, cld, .cell (some (.ref D)), csl⟩)
    (hns : h₀.Ns s.heap.objs.size (fun x => (ps.zip us).reverse.lookup x)) (hk : ∀ b o, s.heap.get? b = some o → h₀.get? b = some o) :
    Inv (cxS CX P w K mg base ps qual scope f cd cc A outer s H E) [] (L2.start ps vs) H { s with heap := h₀, toks := tk } := by
  have KX : K.In base := e0.mod.kin
  have cb := KX _ _ hcell
  have noA : ∀ b : Addr, b ∉ (cxS CX P w K mg base ps qual scope f cd cc A outer s H E).ex := fun b z => absurd (show b ∈ ([] : List Addr) from z) (by simp)
  have lk : ∀ {x : Str} {c : Addr}, List.lookup x [(("__class__" : Str), cc)] = some c → x = "__class__" ∧ c = cc := fun {x c} h => by
    by_cases e : x = "__class__"
    · subst e
      simp [List.lookup] at h
      exact ⟨rfl, h.symm⟩
    · have : (x == ("__class__" : Str)) = false := by simp [e]
      rw [List.lookup_cons, this] at h
      cases h
  refine ⟨⟨e0.mod, S.kind, rfl, rfl, Nat.le_refl _, fun y z c h1 h2 => ?_, fun y hy => ?_, fun y c h _ => (by cases h), fun _ => hd, Around.frames_deeper e0.frames, .inr ⟨rfl, rfl⟩, fun b z => absurd z (noA b), e0.bs, e0.bsz, fun b _ _ => noA b, fun b z => absurd z (noA b), e0.funs, e0.frf⟩,
    rfl, e0.bare, Un.kept hk, ⟨_, hns, fun i y v h1 h2 h3 => ?_⟩, fun y c h => ?_, e0.hok.fresh (Nat.le_refl _), fun y c h => ?_, fun p hp => absurd (show p ∈ ([] : List (Addr × Obj)) from hp) (by simp), e0.hok.kept hk, ?_⟩
  · exact (lk h1).1.trans (lk h2).1.symm
  · have hy : scope.names.lookup y = some .cell ∨ scope.names.lookup y = some .free := hy
    rcases hy with hy | hy
    · exact absurd rfl (S.nocell _ (PySem.mem_of_lookup hy))
    · rw [S.free y hy]
      exact ⟨cc, by show List.lookup _ [_] = _; simp [List.lookup]⟩
  · unfold L2.start at h2
    rw [hl, Nat.sub_self, List.replicate_zero, List.append_nil, List.getElem?_map] at h2
    obtain ⟨v', e1, e2⟩ : ∃ v', vs[i]? = some v' ∧ some v' = some v := by
      cases e : vs[i]? with
      | none => rw [e] at h2; cases h2
      | some a => rw [e] at h2; exact ⟨a, rfl, Option.some.inj h2⟩
    cases e2
    obtain ⟨u, hu, rv⟩ := r.get e1
    exact ⟨u, rv, .inl ⟨S.par y (List.mem_of_getElem? h1), bindL_rev (qual := qual) (L := 0) (f := 0) (cd := cd) S.nd h1 hu⟩⟩
  · obtain ⟨_, rfl⟩ := lk h
    exact ⟨_, ⟨_, hk _ _ (e0.bs _ _ cb).1, rfl⟩⟩
  · obtain ⟨_, rfl⟩ := lk h
    exact (e0.bs _ _ cb).2
  · unfold L2.start
    show _ = ps.length
    rw [List.length_append, List.length_map, List.length_replicate]
    omega
/-- what the written part says of such a def -/
structure SupFn (K : PySem.W.Frag) (P : Program) (name qual : Str) (params : Arguments) (body : List Stmt) (scope : Scope) (D cc f : Addr) (cd : Value) (fd : FuncData) : Prop where
  ex : ∃ (oc : Value) (od : Option Addr) (kV doc pm : Value) (an : Option Addr) (ct : Value) (osl : Array (Option Value)), fd = PySem.W.ksFn name qual params body scope .none kV doc pm an cd ct cc ∧ K.lookup f = some ⟨oc, od, .func fd, osl⟩ ∧ PySem.W.codeIn K cd qual = true
  kp : PySem.W.keepIn K (.ref f) = true
  cell : ∃ (cl : Value) (cld : Option Addr) (csl : Array (Option Value)), K.lookup cc = some ⟨cl, cld, .cell (some (.ref D)), csl⟩
  code : ∃ (cda : Addr) (ccl : Value) (cdd : Option Addr) (vs : Array Value) (ccs : Array (Option Value)) (file : Str) (tf : Tok), cd = .ref cda ∧ K.lookup cda = some ⟨ccl, cdd, .fields vs, ccs⟩ ∧ vs[2]? = some (.str file tf) ∧ ((P.main.file : Str) == file) = true
  top : (P.main.scope.names.lookup ("super" : Str)).isSome = false
  opq : PySem.W.nsIn K PySem.cStatics "thirdparty.any" = some none
  cls : ∃ cdD, PySem.W.clsIn K D = some cdD
theorem ok_super {k : Nat} {name self m : Str} {params : Arguments} {e : Expr} {es : List Expr} {p0 p1 pa pc pe : Pos} {fd fd2 : FuncData} {f2 C : Addr} {ps2 : List Str} {sp2 : Sp} {t : TA} {cd : Value}
    (F : SupFn K P name qual params [.Expr (.Call (.Attribute (.Call (.Name "super" p0) [] [] p1) m pa) (e :: es) [] pc) pe] scope D cc f cd fd) (S : SupScope ps scope) (hps : ps.head? = some self) (hpar : (params.posonlyargs ++ params.args).head?.map (·.arg) = some self)
    (hsup : mg "super" = none) (sub : PySem.W.mroIn K C (.ref D) = some true) (hcl : ∃ cdC, PySem.W.clsIn K C = some cdC) (hm : PySem.W.ks_superIn K C D m = some (some (.ref f2))) (ht : PySem.W.typeIn K (.ref f2) = some (.type "function")) (hfn : PySem.W.fnIn K f2 = true) (hmc : (m == ("__class__" : Str)) = false)
    (F2 : FnOk P w K mg base (L2.CX P w) k f2 fd2 ps2 sp2) (b2 : Binds K fd2 ps2 [])
    (ha : ∀ A outer s H E, PA (cxS (L2.CX P w) P w K mg base ps qual scope f cd cc A outer s H E) (e :: es) t)
    (hst : ∀ env, starEach (e :: es) env = (false, eval e env) :: starEach es env) (hpl : ∀ env, (backTo pc (starEach es env)).any (·.1) = false)
    (hsw : ∀ env, swapsWith (.Call (.Attribute (.Call (.Name "super" p0) [] [] p1) m pa) (e :: es) [] pc) none pe.line env = pure false)
    {pl : Env → Sem Bool} (hev : ∀ env, eval (.Call (.Attribute (.Call (.Name "super" p0) [] [] p1) m pa) (e :: es) [] pc) env = (do
      let ov ← attributeBase (.Call (.Name "super" p0) [] [] p1) m env (eval (.Call (.Name "super" p0) [] [] p1) env)
      standAt pa.atName
      let (f, first) ← holding [ov] (getMethod ov m (pl env))
      callWith pc f first (backTo pc (starEach (e :: es) env)) [])) :
    FnOk P w K mg base (L2.CX P w) (k + 1) f fd ps (fun vs H Q E => vs.length = ps.length ∧ ∃ (x dx : Addr) (fs : List (Str × V)) (rest : List V), vs = .ref x :: rest ∧ H x = some (.ins C dx fs) ∧ t (L2.start ps vs) H fun zs H' => sp2 (.ref x :: zs) H' (fun _ H'' => Q .non H'') E) := by
  refine ⟨fun _ _ _ _ h => h.1, fun A outer s H args us vs Q E hr e0 hb r hsp => ?_⟩
  obtain ⟨hl, x, dx, fs, rest, rfl, hx, hsp⟩ := hsp
  obtain ⟨oc, od, kV, doc, pm, an, ct, osl, rfl, lk, hcd⟩ := F.ex
  obtain ⟨cl, cld, csl, hcell⟩ := F.cell
  obtain ⟨cda, ccl, cdd, fv, ccs, file, tf, rfl, hcode, hvs, hfile⟩ := F.code
  obtain ⟨cdD, hD⟩ := F.cls
  have KX : K.In s.heap := e0.mod.kin.keeps fun b o e => (e0.bs b o e).1
  have lim : s.heap.NoLimit := e0.mod.nolimit.keeps fun b o e => (e0.bs b o e).1
  refine PySem.ks_codeAny_call_defAt (binds := ps.zip us) hr.depth (KX _ _ lk) rfl lim (PySem.W.codeRec_of KX hcd) rfl hb S.nocell (fun y hy => S.par y.1 (List.of_mem_zip (a := y.1) (b := y.2) hy).1) (fun h₀ hns hk => ?_) S.co S.gen S.kind
  have I := inv_sup (CX := L2.CX P w) (P := P) (w := w) (mg := mg) (qual := qual) (f := f) (cd := .ref cda) (A := A) (outer := outer) (E := E) (tk := s.toks + (ps.zip us).length) S hr.hd e0 hl r hcell hns hk
  obtain ⟨ar, har, hself⟩ : ∃ ar, (params.posonlyargs ++ params.args).head? = some ar ∧ ar.arg = self := by
    cases e1 : (params.posonlyargs ++ params.args).head? with
    | none => rw [e1] at hpar; cases hpar
    | some ar => rw [e1] at hpar; exact ⟨ar, rfl, Option.some.inj hpar⟩
  have K0 : K.In h₀ := KX.keeps hk
  obtain ⟨oD, hD1, hD2⟩ : ∃ oD, h₀.get? D = some oD ∧ oD.data = .cls cdD := by
    unfold PySem.W.clsIn at hD
    split at hD
    · rename_i c d cd' sl ho
      cases hD
      exact ⟨_, K0 _ _ ho, rfl⟩
    · cases hD
  refine PySem.ks_wpAt_execs_cons (PySem.ks_wpAt_Expr_any (PySem.ks_wpAt_MethodCall ?_ (hev _)) (hi := by show (scope.kind == .module && _) = false; rw [S.kind]; rfl) (hs := hsw _))
  refine PySem.ks_wpAt_super_base S.sup S.cls hmc rfl (K0 _ _ lk) rfl har rfl (K0 _ _ hcode) rfl hvs hfile F.top ?_
  obtain ⟨mb, hb1, hb2⟩ := I.mod.blt
  refine PySem.W.ks_loadName_global S.kind S.sup (Calls.loadGlobal_builtin (I.mod.glob.keeps I.bk) hsup (hb1.keeps I.bk) ((hb2 "super" (by decide)).trans PyProof.Rows.Boot.«super») ⟨rfl, ?_⟩)
  refine wpAny_loadName_free S.kind S.cls (c := cc) (by rfl) ⟨_, K0 _ _ hcell, rfl⟩ ?_
  obtain ⟨u0, us', rfl, r1, r2⟩ : ∃ u0 us', us = u0 :: us' ∧ RelV (.ref x) u0 ∧ Vals rest us' := by
    cases r with
    | cons r1 r2 => exact ⟨_, _, rfl, r1, r2⟩
  obtain rfl : u0 = .ref x := r1
  have hp0 : ps[0]? = some ar.arg := by
    rw [hself, ← hps]
    cases ps <;> rfl
  refine wpAny_loadName_local S.kind (S.par _ (List.mem_of_getElem? hp0)) hns (bindL_rev (qual := qual) (L := 0) (f := 0) (cd := .none) S.nd hp0 (by rfl)) ?_
  refine PySem.ks_wpAny_isType_cls hD1 hD2 ⟨rfl, ?_⟩
  obtain ⟨mA, J, _⟩ := ins_get I.hok hx
  obtain ⟨odx, J, _⟩ := J.look
  obtain ⟨cdC, hC⟩ := hcl
  refine PySem.ks_wpAny_call_super hD1 hD2 J.at_ J.cls (fun c e => ?_) (PySem.W.looks_mroIn K0 sub) (fun h1 ho1 k1 => ?_)
  · have := J.no
    unfold PySem.W.notCls at this
    rw [e] at this
    exact Bool.noConfusion this
  have I1 := I.kept (t' := s.toks + (ps.zip (Value.ref x :: us')).length) k1
  have K1 : K.In h1 := K0.keeps k1
  have J1 := (ins_get I1.hok hx)
  obtain ⟨of2, hof, hofc⟩ : ∃ of, h1.get? f2 = some of ∧ of.cls = .type "function" := by
    have ht' : (K.lookup f2).map (·.cls) = some (.type "function") := ht
    cases z : K.lookup f2 with
    | none => rw [z] at ht'; cases ht'
    | some of => rw [z] at ht'; exact ⟨of, K1 _ _ z, Option.some.inj ht'⟩
  have hm' : PySem.W.alongIn K m ((cdC.mro.dropWhile (· != .ref D)).drop 1) = some (some (.ref f2)) := by
    unfold PySem.W.ks_superIn at hm
    rw [hC] at hm
    exact hm
  refine PySem.ks_wpAny_getMethod_super ho1 (PySem.W.looks_opaque K1 F.opq) (l₀ := cdC.mro) ?_ rfl K1 hm' hof hofc (PySem.W.ks_ne K0 J hC) hmc ?_
  · exact fun A Q E s k q => wpAny_bind ((PySem.W.looks_clsIn K1 hC) A _ E s k (wpAny_pure q))
  have hf0 : H h1.objs.size = none := I1.hok.fresh (Nat.le_refl _)
  have hfp := I1.fpOk (Nat.le_refl _) hf0
  have hget : (h1.push (PySem.W.methodObj (.ref f2) (.ref x))).get? h1.objs.size = some (PySem.W.methodObj (.ref f2) (.ref x)) := Heap.get?_push_at rfl rfl
  have I2 := I1.kept (h' := h1.push (PySem.W.methodObj (.ref f2) (.ref x))) (t' := s.toks + (ps.zip (Value.ref x :: us')).length + 1) (fun b o e => Heap.get?_push_of_some _ e)
  have I3 : Inv (cxS (L2.CX P w) P w K mg base ps qual scope f (.ref cda) cc A outer s H E) [(h1.objs.size, PySem.W.methodObj (.ref f2) (.ref x))] _ H _ := I2.pins_of fun p hp => by
    rw [List.mem_singleton.mp hp]
    exact ⟨hget, hf0, hfp.2.1, hfp.2.2.1, fun v z => nomatch z⟩
  have hX : Passes (L2.CX P w) (cxS (L2.CX P w) P w K mg base ps qual scope f (.ref cda) cc A outer s H E) E := passes_call (takes_of rfl rfl rfl rfl) (fun _ _ _ _ h => h)
  have hnb : base.get? h1.objs.size = none := by
    cases z : base.get? h1.objs.size with
    | none => rfl
    | some o => exact absurd (Heap.lt_size (k1 _ _ (hk _ _ (e0.bs _ _ z).1))) (Nat.lt_irrefl _)
  refine PySem.W.callWith_M (K := K) (h₀ := base) (L := s.heap.objs.size) (news := [(h1.objs.size, PySem.W.methodObj (.ref f2) (.ref x))]) e0.mod.kin (fun p hp => by rw [List.mem_singleton.mp hp]; exact ⟨hget, hfp.2.1, hnb⟩) (List.mem_singleton.mpr rfl) hfn ?_ (hst _) (hpl _)
  refine thn ((ha A outer s H E).run pc _ _ _ H _ I3 hsp) fun us2 s2 ⟨zs, H2, I4, rz, q2⟩ => ?_
  have hq := (I4.pin _ (List.mem_append_right _ (List.mem_singleton.mpr rfl))).1
  refine ⟨⟨hq, I4.kIn⟩, ?_⟩
  have r3 : Vals (.ref x :: zs) (.ref x :: us2) := .cons rfl rz
  have hl2 : (Value.ref x :: us2).length = ps2.length := by rw [← r3.length]; exact F2.len _ _ _ _ q2
  refine wpAny_call (PySem.W.method_call hq (codeAny_mono (F2.run _ _ s2 H2 ⟨.ref x :: us2, []⟩ (.ref x :: us2) (.ref x :: zs) _ E (hr.deeper _) I4.env0 (by have := b2 s2 (.ref x :: us2) I4.kIn (by rw [List.append_nil]; exact hl2); rw [List.append_nil] at this; exact this) r3 q2) fun r s' hq' => ?_))
  cases r with
  | error e => exact hX _ _ H2 s2 e s' I4 hq'
  | ok fl =>
    cases fl with
    | ret u =>
      obtain ⟨v, H', J', rv, q3⟩ := I4.after hq'
      exact wpAt_of_wpAny (wpAny_pure ⟨.non, H', J'.os, J'.bare, J'.base, J'.hok, rfl, q3⟩)
    | next => exact False.elim hq'
    | brk => exact False.elim hq'
    | cont => exact False.elim hq'
end
end So

namespace K63
open PySem PySem.Spec PyProof.Rows L2 So
abbrev sChecked : Stmt := topS 28
abbrev checkedN : List Str := ["kind", "told", "value", "form"]
theorem scChecked : FnScope checkedN ["kind", "told"] (defScope sChecked) := ⟨rfl, rfl, rfl, by decide +kernel, rfl, by decide +kernel, by decide +kernel⟩
/-- zip of two tuples, walked -/
theorem walk_zipT {K : PySem.W.Frag} {a b : Addr} {xs ys : List V} {n : Nat} (hn : n = min xs.length ys.length) : Walk (RZ.ItzT K a b) n (fun H => SqT K H a xs ∧ SqT K H b ys) (YPair (fun i => xs[i]?) (fun i => ys[i]?)) := by
  subst hn
  refine ⟨fun i _ hi q => ?_, fun _ q => ⟨xs, ys, q.1, q.2, by omega⟩, fun i H v H' _ q y => ?_⟩
  · have h1 : i < xs.length := by omega
    have h2 : i < ys.length := by omega
    exact ⟨xs, ys, xs[i], ys[i], q.1, q.2, by simp [h1], by simp [h2]⟩
  · obtain ⟨T, x, z, h1, h2, h3, h4, h5⟩ := y
    exact ⟨T, x, z, h1, h2, h3, h4 xs q.1, h5 ys q.2⟩
/-- the forms of a kind's arguments -/
def formsOf (kind : Str) : List Str :=
  if kind = "begun" then ["name", "beginning"] else if kind = "setby" then ["name", "beginning", "name"] else if kind = "found" then ["name", "moment", "truth"] else if kind = "trusted" then ["name"]
  else if kind = "passed" ∨ kind = "failed" then ["name", "moment", "name"] else ["name", "moment", "name", "moment"]
def kinds : List Str := ["begun", "setby", "found", "trusted", "passed", "failed", "agreed", "differed", "served", "backed"]
def okF (form : Str) (v : V) : Bool := if form = "name" then gNam v else if form = "moment" then gMom v else if form = "beginning" then gBeg v else gTru v
/-- the first value that has not its form: the error's class, the field, the value -/
def badL (CN CM CS : Addr) : List (V × Str) → Option (Addr × Str × V)
  | [] => none
  | (v, f) :: r => if okF f v = true then badL CN CM CS r else some (if f = "name" then (CN, "name", v) else if f = "truth" then (CS, "value", v) else (CM, "moment", v))
theorem badL_at {CN CM CS : Addr} {v : V} {f : Str} : ∀ {l : List (V × Str)} {i : Nat}, badL CN CM CS (l.take i) = none → l[i]? = some (v, f) → (okF f v = true → badL CN CM CS (l.take (i + 1)) = none) ∧ (okF f v = false → badL CN CM CS l = some (if f = "name" then (CN, ("name" : Str), v) else if f = "truth" then (CS, ("value" : Str), v) else (CM, ("moment" : Str), v)))
  | [], _, _, e => by simp at e
  | p :: r, 0, _, e => by
    have e : p = (v, f) := by simpa using e
    subst e
    refine ⟨fun h => ?_, fun h => ?_⟩
    · show badL CN CM CS [(v, f)] = none
      unfold badL
      rw [if_pos h]
      rfl
    · unfold badL
      rw [if_neg (by rw [h]; exact Bool.false_ne_true)]
  | (v', f') :: r, i + 1, h, e => by
    have h : badL CN CM CS ((v', f') :: r.take i) = none := h
    unfold badL at h
    split at h
    · rename_i c
      obtain ⟨a, b⟩ := badL_at (l := r) (i := i) h (by simpa using e)
      refine ⟨fun z => ?_, fun z => ?_⟩
      · show badL CN CM CS ((v', f') :: r.take (i + 1)) = none
        unfold badL
        rw [if_pos c]
        exact a z
      · unfold badL
        rw [if_pos c]
        exact b z
    · cases h
theorem forms_in : ∀ kind ∈ kinds, ∀ f ∈ formsOf kind, f ∈ (["name", "moment", "beginning", "truth"] : List Str) := by decide +kernel
theorem form_of {CN CM CS : Addr} {f : Str} {v : V} (h : f ∈ (["name", "moment", "beginning", "truth"] : List Str)) : ∃ C fl, Form CN CM CS f v (okF f v) C fl ∧ (if f = "name" then (CN, ("name" : Str), v) else if f = "truth" then (CS, "value", v) else (CM, "moment", v)) = (C, fl, v) := by
  simp only [List.mem_cons, List.not_mem_nil, or_false] at h
  rcases h with h | h | h | h <;> subst h
  · exact ⟨CN, "name", .inl ⟨rfl, rfl, rfl, rfl⟩, rfl⟩
  · exact ⟨CM, "moment", .inr (.inl ⟨rfl, rfl, rfl, rfl⟩), rfl⟩
  · exact ⟨CM, "moment", .inr (.inr (.inl ⟨rfl, rfl, rfl, rfl⟩)), rfl⟩
  · exact ⟨CS, "value", .inr (.inr (.inr ⟨rfl, rfl, rfl, rfl⟩)), rfl⟩
section
variable {P : Program} {w : World} {K : PySem.W.Frag} {mg : Str → Option Value} {base : Heap}
/-- what the top says of the table of forms, at aF -/
structure Forms (K : PySem.W.Frag) (w : World) (mg : Str → Option Value) (aF : Addr) : Prop where
  mgF : mg "FORMS" = some (.ref aF)
  tab : ∀ kind ∈ kinds, ∃ ft, KDct K w aF kind (.ref ft) ∧ ∀ H, SqT K H ft ((formsOf kind).map V.str)
  zip : mg "zip" = none
/-- both ways out of what looks at these values -/
def WaysL (CN CM CS : Addr) (l : List (V × Str)) (H : Hp) (E : XK) (q : Prop) : Prop :=
  (badL CN CM CS l = none → q) ∧ ∀ C fl v, badL CN CM CS l = some (C, fl, v) → ∀ d H', Same H H' → H' d = some (.xd [(fl, v)]) → E (.ref C) (some d) H'
def spChecked (CN CM CS : Addr) : Sp := fun vs H Q E => ∃ (kind : Str) (tt : Addr) (xs : List V), vs = [.str kind, .ref tt] ∧ kind ∈ kinds ∧ H tt = some (.tup xs) ∧ xs.length = (formsOf kind).length ∧ (∀ x ∈ xs, ∃ T, Gv H x T) ∧
  WaysL CN CM CS (xs.zip (formsOf kind)) H E (∀ H', Same H H' → Q (.ref tt) H')
theorem ok_checked {CN CM CS f fC aF : Addr} {fd fdC : FuncData} (F : Fun K "checked" "checked" sChecked f fd) (T : Forms K w mg aF) (FC : Fun K "check_form" "check_form" sCheck fC fdC) (bC : Binds K fdC ["value", "form"] []) (gC : mg "check_form" = some (.ref fC))
    (GC : FnOk P w K mg base (L2.CX P w) 3 fC fdC ["value", "form"] (spCheck CN CM CS)) : FnOk P w K mg base (L2.CX P w) 4 f fd ["kind", "told"] (spChecked CN CM CS) := by
  refine F.okX scChecked (fun vs H Q E h => ?_) (fun cdv A outer s H vs Q E hr h => ?_)
  · obtain ⟨_, _, _, rfl, _⟩ := h
    rfl
  · obtain ⟨kind, tt, xs, rfl, hk, ht, hl, hg, qy, qn⟩ := h
    obtain ⟨ft, hd, hft⟩ := T.tab kind hk
    have hfo := forms_in kind hk
    refine ⟨_, pss_cons (ps_for PassesOwn.leaving rfl (RZ.pi_zipA (by rfl) T.zip (pa_cons (pv 1) (pa_cons (pe_ix ix_kdict (pe_glob (v := .ref aF) rfl T.mgF rfl) (pv 0) (fun _ _ => rfl)) pa_nil))) (pg_tup rfl (pgs_cons (pg_name (i := 2) scChecked.nd rfl (Or.inl rfl)) (pgs_cons (pg_name (i := 3) scChecked.nd rfl (Or.inl rfl)) pgs_nil)))
        (pss_one (ps_expr (pe_call GC hr (by rfl) gC FC.kp bC .nil (passes_call (takes_of rfl rfl rfl rfl) (fun _ _ _ _ h => h)) (pa_cons (pv 2) (pa_cons (pv 3) pa_nil))))))
      (pss_one (ps_ret (pv 1))), ?_⟩
    generalize formsOf kind = fo at hl hft hfo qy qn
    refine ⟨_, rfl, _, rfl, aF, kind, .ref ft, rfl, rfl, hd, tt, ft, xs, fo.map V.str, rfl, .inr ⟨SqT.of ht, hft _, ?_⟩⟩
    refine for_it (walk_zipT rfl) (fun i σ H' => (∃ x2 x3, σ = [some (.str kind), some (.ref tt), x2, x3]) ∧ Same H H' ∧ badL CN CM CS ((xs.zip fo).take i) = none) ⟨⟨none, none, rfl⟩, Same.refl _, rfl⟩ (fun _ _ _ _ y => ⟨SqT.of (y.2.1 _ _ ht), hft _⟩) ?_ ?_
    · rintro i x σ H2 H3 hi ⟨⟨x2, x3, rfl⟩, s2, hb⟩ ⟨T0, u, y, rfl, hT0, rfl, hu, hy⟩
      have s3 := s2.trans (same_upd0 (o := .tup [u, y]) hT0)
      replace hy : (fo.map V.str)[i]? = some y := hy
      rw [List.getElem?_map] at hy
      obtain ⟨fm, hfm, rfl⟩ : ∃ fm, fo[i]? = some fm ∧ y = .str fm := by
        cases e : fo[i]? with
        | none => rw [e] at hy; cases hy
        | some m => rw [e] at hy; exact ⟨m, rfl, (Option.some.inj hy).symm⟩
      replace hu : xs[i]? = some u := hu
      obtain ⟨Tu, hgu⟩ := hg u (List.mem_of_getElem? hu)
      have hz : (xs.zip fo)[i]? = some (u, fm) := by
        rw [List.getElem?_zip_eq_some]
        exact ⟨hu, hfm⟩
      obtain ⟨C, fl, hF, he⟩ := form_of (CN := CN) (CM := CM) (CS := CS) (v := u) (hfo fm (List.mem_of_getElem? hfm))
      obtain ⟨b1, b2⟩ := badL_at hb hz
      refine ⟨T0, _, rfl, SqT.of upd_same, rfl, _, _, rfl, _, _, rfl, rfl, ?_⟩
      refine ⟨_, rfl, _, rfl, u, Tu, fm, _, C, fl, rfl, hgu.same s3, hF, fun g H4 s4 => ⟨⟨_, _, rfl⟩, s3.trans s4, b1 g⟩, fun g d H4 s4 e => ?_⟩
      exact qn C fl u (by rw [b2 g, he]) d H4 (s3.trans s4) e
    · rintro σ H2 ⟨⟨x2, x3, rfl⟩, s2, hb⟩
      refine ⟨_, rfl, qy ?_ H2 s2⟩
      rw [List.take_of_length_le (by rw [List.length_zip, List.length_map]; exact Nat.le_refl _)] at hb
      exact hb
end
end K63

namespace K63
open PySem PySem.Spec PyProof.Rows L2 So
theorem lenC {n : Str} {v : V} {fs : List (Str × V)} {k : Nat} (h : fs.length ≤ k) : (putF n v fs).length ≤ k + 1 := Nat.le_trans (length_putF _ _ _) (Nat.succ_le_succ h)
section
variable {P : Program} {w : World} {K : PySem.W.Frag} {mg : Str → Option Value} {base : Heap}
/-- what the top says of a row's class -/
structure RowC (K : PySem.W.Frag) (C : Addr) (l : List Str) : Prop where
  cl : Cls K C
  no : ∀ n ∈ l, NoAttr K C n
/-- the names of a row's arguments -/
def attrsOf (kind : Str) : List Str := if kind = "begun" then ["tool", "moment"] else if kind = "found" then ["tool", "moment", "is_sound"] else if kind = "trusted" then ["tool"] else if kind = "setby" ∨ kind = "passed" ∨ kind = "failed" then ["tool", "moment", "by"] else ["one", "moment", "other", "later"]
/-- what a row keeps -/
def Told (kind : Str) (xs : List V) (H : Hp) (fs : List (Str × V)) : Prop := fs.lookup ("kind" : Str) = some (V.str kind) ∧ (∃ tp, fs.lookup ("_told" : Str) = some (.ref tp) ∧ H tp = some (.tup xs)) ∧ ∀ q ∈ (attrsOf kind).zip xs, fs.lookup q.1 = some q.2
theorem attrs_begun : attrsOf "begun" = (["tool", "moment"] : List Str) := by decide +kernel
theorem attrs_setby : attrsOf "setby" = (["tool", "moment", "by"] : List Str) := by decide +kernel
theorem attrs_found : attrsOf "found" = (["tool", "moment", "is_sound"] : List Str) := by decide +kernel
theorem attrs_trusted : attrsOf "trusted" = (["tool"] : List Str) := by decide +kernel
theorem attrs_passed : attrsOf "passed" = (["tool", "moment", "by"] : List Str) := by decide +kernel
theorem attrs_failed : attrsOf "failed" = (["tool", "moment", "by"] : List Str) := by decide +kernel
theorem attrs_meet : ∀ kind ∈ (["agreed", "differed", "served", "backed"] : List Str), attrsOf kind = (["one", "moment", "other", "later"] : List Str) := by decide +kernel
def spRow (CN CM CS C : Addr) (kind : Str) : Sp := fun vs H Q E => ∃ (x dx : Addr) (xs : List V), vs = .ref x :: xs ∧ H x = some (.ins C dx []) ∧ xs.length = (formsOf kind).length ∧ (∀ y ∈ xs, ∃ T, Gv H y T) ∧
  WaysL CN CM CS (xs.zip (formsOf kind)) H E (∀ H' fs, Off x H H' → H' x = some (.ins C dx fs) → Told kind xs H' fs → Q .non H')
abbrev sPassed : Stmt := inClass (topS 37) 0
theorem scPassed : FnScope ["self", "tool", "moment", "by"] ["self", "tool", "moment", "by"] (defScope sPassed) := ⟨rfl, rfl, rfl, by decide +kernel, rfl, by decide +kernel, by decide +kernel⟩
theorem ok_Passed {CN CM CS C f fK : Addr} {fd fdK : FuncData} (F : Fun K "__init__" "Passed.__init__" sPassed f fd) (T : RowC K C ["_told", "kind", "tool", "moment", "by"]) (FK : Fun K "checked" "checked" sChecked fK fdK) (bK : Binds K fdK ["kind", "told"] []) (gK : mg "checked" = some (.ref fK))
    (GK : FnOk P w K mg base (L2.CX P w) 4 fK fdK ["kind", "told"] (spChecked CN CM CS)) : FnOk P w K mg base (L2.CX P w) 5 f fd ["self", "tool", "moment", "by"] (spRow CN CM CS C "passed") := by
  refine F.okX scPassed (fun vs H Q E h => ?_) (fun cdv A outer s H vs Q E hr h => ?_)
  · obtain ⟨x, dx, xs, rfl, _, hl, _⟩ := h
    show xs.length + 1 = 4
    have : (formsOf "passed").length = 3 := by decide +kernel
    omega
  · obtain ⟨x, dx, xs, rfl, hx, hl, hg, qy, qn⟩ := h
    have hkin : ("passed" : Str) ∈ kinds := by decide +kernel
    have hl4 : (formsOf "passed").length = 3 := by decide +kernel
    obtain ⟨v0, v1, v2, rfl⟩ : ∃ v0 v1 v2, xs = [v0, v1, v2] := by
      rw [hl4] at hl
      match xs, hl with
      | [v0, v1, v2], _ => exact ⟨_, _, _, rfl⟩
    have no := T.no
    simp only [List.forall_mem_cons] at no
    obtain ⟨n0, n1, n2, n3, n4, _⟩ := no
    refine ⟨_, pss_cons (ps_fld (pv 0) (pe_call GK hr (by rfl) gK FK.kp bK .nil (passes_call (takes_of rfl rfl rfl rfl) (fun _ _ _ _ h => h)) (pa_cons pe_str (pa_cons (pe_tup (pa_cons (pv 1) (pa_cons (pv 2) (pa_cons (pv 3) pa_nil)))) pa_nil))) rfl)
      (pss_cons (ps_fld (pv 0) pe_str rfl)
      (pss_cons (ps_fld (pv 0) (pv 1) rfl) (pss_cons (ps_fld (pv 0) (pv 2) rfl) (pss_one (ps_fld (pv 0) (pv 3) rfl))))), ?_⟩
    refine ⟨_, rfl, _, rfl, _, rfl, by show 3 ≤ sizeLine; decide, fun tp htp => ?_⟩
    have s1 := same_upd0 (o := .tup [v0, v1, v2]) htp
    refine ⟨"passed", tp, [v0, v1, v2], rfl, hkin, upd_same, hl, (fun y hy => (hg y hy).elim fun T h => ⟨T, h.same s1⟩), fun gd H2 s2 => ?_, fun C' fl v g d H' s e => qn C' fl v g d H' (s1.trans s) e⟩
    have hx2 := s2 _ _ (s1 _ _ hx)
    have s12 := s1.trans s2
    refine ⟨_, rfl, x, C, dx, [], rfl, hx2, T.cl, n0, by show 0 < 1000; decide, ?_⟩
    refine ⟨_, rfl, x, C, dx, _, rfl, upd_same, T.cl, n1, Nat.lt_of_le_of_lt (lenC (Nat.le_refl 0)) (by decide), ?_⟩
    refine ⟨_, rfl, _, rfl, x, C, dx, _, rfl, upd_same, T.cl, n2, Nat.lt_of_le_of_lt (lenC (lenC (Nat.le_refl 0))) (by decide), ?_⟩
    refine ⟨_, rfl, _, rfl, x, C, dx, _, rfl, upd_same, T.cl, n3, Nat.lt_of_le_of_lt (lenC (lenC (lenC (Nat.le_refl 0)))) (by decide), ?_⟩
    refine ⟨_, rfl, _, rfl, x, C, dx, _, rfl, upd_same, T.cl, n4, Nat.lt_of_le_of_lt (lenC (lenC (lenC (lenC (Nat.le_refl 0))))) (by decide), ?_⟩
    refine qy gd _ _ (fun c o nc e => ?_) upd_same ?_
    · rw [upd_ne nc, upd_ne nc, upd_ne nc, upd_ne nc, upd_ne nc]
      exact s12 c o e
    · have ntp : tp ≠ x := fun z => by rw [z, hx] at htp; cases htp
      have etp := s2 _ _ (show (upd H tp (.tup _)) tp = _ from upd_same)
      refine ⟨?_, ⟨tp, ?_, ?_⟩, ?_⟩
      · simp only [lookup_putF, show ¬ (("kind" : Str) = "_told") by decide +kernel, show ¬ (("kind" : Str) = "tool") by decide +kernel, show ¬ (("kind" : Str) = "moment") by decide +kernel, show ¬ (("kind" : Str) = "by") by decide +kernel, show ¬ (("kind" : Str) = "is_sound") by decide +kernel, show ¬ (("kind" : Str) = "one") by decide +kernel, show ¬ (("kind" : Str) = "other") by decide +kernel, show ¬ (("kind" : Str) = "later") by decide +kernel, show ¬ (("_told" : Str) = "kind") by decide +kernel, show ¬ (("_told" : Str) = "tool") by decide +kernel, show ¬ (("_told" : Str) = "moment") by decide +kernel, show ¬ (("_told" : Str) = "by") by decide +kernel, show ¬ (("_told" : Str) = "is_sound") by decide +kernel, show ¬ (("_told" : Str) = "one") by decide +kernel, show ¬ (("_told" : Str) = "other") by decide +kernel, show ¬ (("_told" : Str) = "later") by decide +kernel, show ¬ (("tool" : Str) = "kind") by decide +kernel, show ¬ (("tool" : Str) = "_told") by decide +kernel, show ¬ (("tool" : Str) = "moment") by decide +kernel, show ¬ (("tool" : Str) = "by") by decide +kernel, show ¬ (("tool" : Str) = "is_sound") by decide +kernel, show ¬ (("tool" : Str) = "one") by decide +kernel, show ¬ (("tool" : Str) = "other") by decide +kernel, show ¬ (("tool" : Str) = "later") by decide +kernel, show ¬ (("moment" : Str) = "kind") by decide +kernel, show ¬ (("moment" : Str) = "_told") by decide +kernel, show ¬ (("moment" : Str) = "tool") by decide +kernel, show ¬ (("moment" : Str) = "by") by decide +kernel, show ¬ (("moment" : Str) = "is_sound") by decide +kernel, show ¬ (("moment" : Str) = "one") by decide +kernel, show ¬ (("moment" : Str) = "other") by decide +kernel, show ¬ (("moment" : Str) = "later") by decide +kernel, show ¬ (("by" : Str) = "kind") by decide +kernel, show ¬ (("by" : Str) = "_told") by decide +kernel, show ¬ (("by" : Str) = "tool") by decide +kernel, show ¬ (("by" : Str) = "moment") by decide +kernel, show ¬ (("by" : Str) = "is_sound") by decide +kernel, show ¬ (("by" : Str) = "one") by decide +kernel, show ¬ (("by" : Str) = "other") by decide +kernel, show ¬ (("by" : Str) = "later") by decide +kernel, show ¬ (("is_sound" : Str) = "kind") by decide +kernel, show ¬ (("is_sound" : Str) = "_told") by decide +kernel, show ¬ (("is_sound" : Str) = "tool") by decide +kernel, show ¬ (("is_sound" : Str) = "moment") by decide +kernel, show ¬ (("is_sound" : Str) = "by") by decide +kernel, show ¬ (("is_sound" : Str) = "one") by decide +kernel, show ¬ (("is_sound" : Str) = "other") by decide +kernel, show ¬ (("is_sound" : Str) = "later") by decide +kernel, show ¬ (("one" : Str) = "kind") by decide +kernel, show ¬ (("one" : Str) = "_told") by decide +kernel, show ¬ (("one" : Str) = "tool") by decide +kernel, show ¬ (("one" : Str) = "moment") by decide +kernel, show ¬ (("one" : Str) = "by") by decide +kernel, show ¬ (("one" : Str) = "is_sound") by decide +kernel, show ¬ (("one" : Str) = "other") by decide +kernel, show ¬ (("one" : Str) = "later") by decide +kernel, show ¬ (("other" : Str) = "kind") by decide +kernel, show ¬ (("other" : Str) = "_told") by decide +kernel, show ¬ (("other" : Str) = "tool") by decide +kernel, show ¬ (("other" : Str) = "moment") by decide +kernel, show ¬ (("other" : Str) = "by") by decide +kernel, show ¬ (("other" : Str) = "is_sound") by decide +kernel, show ¬ (("other" : Str) = "one") by decide +kernel, show ¬ (("other" : Str) = "later") by decide +kernel, show ¬ (("later" : Str) = "kind") by decide +kernel, show ¬ (("later" : Str) = "_told") by decide +kernel, show ¬ (("later" : Str) = "tool") by decide +kernel, show ¬ (("later" : Str) = "moment") by decide +kernel, show ¬ (("later" : Str) = "by") by decide +kernel, show ¬ (("later" : Str) = "is_sound") by decide +kernel, show ¬ (("later" : Str) = "one") by decide +kernel, show ¬ (("later" : Str) = "other") by decide +kernel, if_true, if_false]
      · simp only [lookup_putF, show ¬ (("kind" : Str) = "_told") by decide +kernel, show ¬ (("kind" : Str) = "tool") by decide +kernel, show ¬ (("kind" : Str) = "moment") by decide +kernel, show ¬ (("kind" : Str) = "by") by decide +kernel, show ¬ (("kind" : Str) = "is_sound") by decide +kernel, show ¬ (("kind" : Str) = "one") by decide +kernel, show ¬ (("kind" : Str) = "other") by decide +kernel, show ¬ (("kind" : Str) = "later") by decide +kernel, show ¬ (("_told" : Str) = "kind") by decide +kernel, show ¬ (("_told" : Str) = "tool") by decide +kernel, show ¬ (("_told" : Str) = "moment") by decide +kernel, show ¬ (("_told" : Str) = "by") by decide +kernel, show ¬ (("_told" : Str) = "is_sound") by decide +kernel, show ¬ (("_told" : Str) = "one") by decide +kernel, show ¬ (("_told" : Str) = "other") by decide +kernel, show ¬ (("_told" : Str) = "later") by decide +kernel, show ¬ (("tool" : Str) = "kind") by decide +kernel, show ¬ (("tool" : Str) = "_told") by decide +kernel, show ¬ (("tool" : Str) = "moment") by decide +kernel, show ¬ (("tool" : Str) = "by") by decide +kernel, show ¬ (("tool" : Str) = "is_sound") by decide +kernel, show ¬ (("tool" : Str) = "one") by decide +kernel, show ¬ (("tool" : Str) = "other") by decide +kernel, show ¬ (("tool" : Str) = "later") by decide +kernel, show ¬ (("moment" : Str) = "kind") by decide +kernel, show ¬ (("moment" : Str) = "_told") by decide +kernel, show ¬ (("moment" : Str) = "tool") by decide +kernel, show ¬ (("moment" : Str) = "by") by decide +kernel, show ¬ (("moment" : Str) = "is_sound") by decide +kernel, show ¬ (("moment" : Str) = "one") by decide +kernel, show ¬ (("moment" : Str) = "other") by decide +kernel, show ¬ (("moment" : Str) = "later") by decide +kernel, show ¬ (("by" : Str) = "kind") by decide +kernel, show ¬ (("by" : Str) = "_told") by decide +kernel, show ¬ (("by" : Str) = "tool") by decide +kernel, show ¬ (("by" : Str) = "moment") by decide +kernel, show ¬ (("by" : Str) = "is_sound") by decide +kernel, show ¬ (("by" : Str) = "one") by decide +kernel, show ¬ (("by" : Str) = "other") by decide +kernel, show ¬ (("by" : Str) = "later") by decide +kernel, show ¬ (("is_sound" : Str) = "kind") by decide +kernel, show ¬ (("is_sound" : Str) = "_told") by decide +kernel, show ¬ (("is_sound" : Str) = "tool") by decide +kernel, show ¬ (("is_sound" : Str) = "moment") by decide +kernel, show ¬ (("is_sound" : Str) = "by") by decide +kernel, show ¬ (("is_sound" : Str) = "one") by decide +kernel, show ¬ (("is_sound" : Str) = "other") by decide +kernel, show ¬ (("is_sound" : Str) = "later") by decide +kernel, show ¬ (("one" : Str) = "kind") by decide +kernel, show ¬ (("one" : Str) = "_told") by decide +kernel, show ¬ (("one" : Str) = "tool") by decide +kernel, show ¬ (("one" : Str) = "moment") by decide +kernel, show ¬ (("one" : Str) = "by") by decide +kernel, show ¬ (("one" : Str) = "is_sound") by decide +kernel, show ¬ (("one" : Str) = "other") by decide +kernel, show ¬ (("one" : Str) = "later") by decide +kernel, show ¬ (("other" : Str) = "kind") by decide +kernel, show ¬ (("other" : Str) = "_told") by decide +kernel, show ¬ (("other" : Str) = "tool") by decide +kernel, show ¬ (("other" : Str) = "moment") by decide +kernel, show ¬ (("other" : Str) = "by") by decide +kernel, show ¬ (("other" : Str) = "is_sound") by decide +kernel, show ¬ (("other" : Str) = "one") by decide +kernel, show ¬ (("other" : Str) = "later") by decide +kernel, show ¬ (("later" : Str) = "kind") by decide +kernel, show ¬ (("later" : Str) = "_told") by decide +kernel, show ¬ (("later" : Str) = "tool") by decide +kernel, show ¬ (("later" : Str) = "moment") by decide +kernel, show ¬ (("later" : Str) = "by") by decide +kernel, show ¬ (("later" : Str) = "is_sound") by decide +kernel, show ¬ (("later" : Str) = "one") by decide +kernel, show ¬ (("later" : Str) = "other") by decide +kernel, if_true, if_false]
      · repeat rw [upd_ne ntp]
        exact etp
      · rw [attrs_passed]
        simp only [List.zip_cons_cons, List.zip_nil_right, List.forall_mem_cons]
        refine ⟨(by simp only [lookup_putF, show ¬ (("kind" : Str) = "_told") by decide +kernel, show ¬ (("kind" : Str) = "tool") by decide +kernel, show ¬ (("kind" : Str) = "moment") by decide +kernel, show ¬ (("kind" : Str) = "by") by decide +kernel, show ¬ (("kind" : Str) = "is_sound") by decide +kernel, show ¬ (("kind" : Str) = "one") by decide +kernel, show ¬ (("kind" : Str) = "other") by decide +kernel, show ¬ (("kind" : Str) = "later") by decide +kernel, show ¬ (("_told" : Str) = "kind") by decide +kernel, show ¬ (("_told" : Str) = "tool") by decide +kernel, show ¬ (("_told" : Str) = "moment") by decide +kernel, show ¬ (("_told" : Str) = "by") by decide +kernel, show ¬ (("_told" : Str) = "is_sound") by decide +kernel, show ¬ (("_told" : Str) = "one") by decide +kernel, show ¬ (("_told" : Str) = "other") by decide +kernel, show ¬ (("_told" : Str) = "later") by decide +kernel, show ¬ (("tool" : Str) = "kind") by decide +kernel, show ¬ (("tool" : Str) = "_told") by decide +kernel, show ¬ (("tool" : Str) = "moment") by decide +kernel, show ¬ (("tool" : Str) = "by") by decide +kernel, show ¬ (("tool" : Str) = "is_sound") by decide +kernel, show ¬ (("tool" : Str) = "one") by decide +kernel, show ¬ (("tool" : Str) = "other") by decide +kernel, show ¬ (("tool" : Str) = "later") by decide +kernel, show ¬ (("moment" : Str) = "kind") by decide +kernel, show ¬ (("moment" : Str) = "_told") by decide +kernel, show ¬ (("moment" : Str) = "tool") by decide +kernel, show ¬ (("moment" : Str) = "by") by decide +kernel, show ¬ (("moment" : Str) = "is_sound") by decide +kernel, show ¬ (("moment" : Str) = "one") by decide +kernel, show ¬ (("moment" : Str) = "other") by decide +kernel, show ¬ (("moment" : Str) = "later") by decide +kernel, show ¬ (("by" : Str) = "kind") by decide +kernel, show ¬ (("by" : Str) = "_told") by decide +kernel, show ¬ (("by" : Str) = "tool") by decide +kernel, show ¬ (("by" : Str) = "moment") by decide +kernel, show ¬ (("by" : Str) = "is_sound") by decide +kernel, show ¬ (("by" : Str) = "one") by decide +kernel, show ¬ (("by" : Str) = "other") by decide +kernel, show ¬ (("by" : Str) = "later") by decide +kernel, show ¬ (("is_sound" : Str) = "kind") by decide +kernel, show ¬ (("is_sound" : Str) = "_told") by decide +kernel, show ¬ (("is_sound" : Str) = "tool") by decide +kernel, show ¬ (("is_sound" : Str) = "moment") by decide +kernel, show ¬ (("is_sound" : Str) = "by") by decide +kernel, show ¬ (("is_sound" : Str) = "one") by decide +kernel, show ¬ (("is_sound" : Str) = "other") by decide +kernel, show ¬ (("is_sound" : Str) = "later") by decide +kernel, show ¬ (("one" : Str) = "kind") by decide +kernel, show ¬ (("one" : Str) = "_told") by decide +kernel, show ¬ (("one" : Str) = "tool") by decide +kernel, show ¬ (("one" : Str) = "moment") by decide +kernel, show ¬ (("one" : Str) = "by") by decide +kernel, show ¬ (("one" : Str) = "is_sound") by decide +kernel, show ¬ (("one" : Str) = "other") by decide +kernel, show ¬ (("one" : Str) = "later") by decide +kernel, show ¬ (("other" : Str) = "kind") by decide +kernel, show ¬ (("other" : Str) = "_told") by decide +kernel, show ¬ (("other" : Str) = "tool") by decide +kernel, show ¬ (("other" : Str) = "moment") by decide +kernel, show ¬ (("other" : Str) = "by") by decide +kernel, show ¬ (("other" : Str) = "is_sound") by decide +kernel, show ¬ (("other" : Str) = "one") by decide +kernel, show ¬ (("other" : Str) = "later") by decide +kernel, show ¬ (("later" : Str) = "kind") by decide +kernel, show ¬ (("later" : Str) = "_told") by decide +kernel, show ¬ (("later" : Str) = "tool") by decide +kernel, show ¬ (("later" : Str) = "moment") by decide +kernel, show ¬ (("later" : Str) = "by") by decide +kernel, show ¬ (("later" : Str) = "is_sound") by decide +kernel, show ¬ (("later" : Str) = "one") by decide +kernel, show ¬ (("later" : Str) = "other") by decide +kernel, if_true, if_false]), (by simp only [lookup_putF, show ¬ (("kind" : Str) = "_told") by decide +kernel, show ¬ (("kind" : Str) = "tool") by decide +kernel, show ¬ (("kind" : Str) = "moment") by decide +kernel, show ¬ (("kind" : Str) = "by") by decide +kernel, show ¬ (("kind" : Str) = "is_sound") by decide +kernel, show ¬ (("kind" : Str) = "one") by decide +kernel, show ¬ (("kind" : Str) = "other") by decide +kernel, show ¬ (("kind" : Str) = "later") by decide +kernel, show ¬ (("_told" : Str) = "kind") by decide +kernel, show ¬ (("_told" : Str) = "tool") by decide +kernel, show ¬ (("_told" : Str) = "moment") by decide +kernel, show ¬ (("_told" : Str) = "by") by decide +kernel, show ¬ (("_told" : Str) = "is_sound") by decide +kernel, show ¬ (("_told" : Str) = "one") by decide +kernel, show ¬ (("_told" : Str) = "other") by decide +kernel, show ¬ (("_told" : Str) = "later") by decide +kernel, show ¬ (("tool" : Str) = "kind") by decide +kernel, show ¬ (("tool" : Str) = "_told") by decide +kernel, show ¬ (("tool" : Str) = "moment") by decide +kernel, show ¬ (("tool" : Str) = "by") by decide +kernel, show ¬ (("tool" : Str) = "is_sound") by decide +kernel, show ¬ (("tool" : Str) = "one") by decide +kernel, show ¬ (("tool" : Str) = "other") by decide +kernel, show ¬ (("tool" : Str) = "later") by decide +kernel, show ¬ (("moment" : Str) = "kind") by decide +kernel, show ¬ (("moment" : Str) = "_told") by decide +kernel, show ¬ (("moment" : Str) = "tool") by decide +kernel, show ¬ (("moment" : Str) = "by") by decide +kernel, show ¬ (("moment" : Str) = "is_sound") by decide +kernel, show ¬ (("moment" : Str) = "one") by decide +kernel, show ¬ (("moment" : Str) = "other") by decide +kernel, show ¬ (("moment" : Str) = "later") by decide +kernel, show ¬ (("by" : Str) = "kind") by decide +kernel, show ¬ (("by" : Str) = "_told") by decide +kernel, show ¬ (("by" : Str) = "tool") by decide +kernel, show ¬ (("by" : Str) = "moment") by decide +kernel, show ¬ (("by" : Str) = "is_sound") by decide +kernel, show ¬ (("by" : Str) = "one") by decide +kernel, show ¬ (("by" : Str) = "other") by decide +kernel, show ¬ (("by" : Str) = "later") by decide +kernel, show ¬ (("is_sound" : Str) = "kind") by decide +kernel, show ¬ (("is_sound" : Str) = "_told") by decide +kernel, show ¬ (("is_sound" : Str) = "tool") by decide +kernel, show ¬ (("is_sound" : Str) = "moment") by decide +kernel, show ¬ (("is_sound" : Str) = "by") by decide +kernel, show ¬ (("is_sound" : Str) = "one") by decide +kernel, show ¬ (("is_sound" : Str) = "other") by decide +kernel, show ¬ (("is_sound" : Str) = "later") by decide +kernel, show ¬ (("one" : Str) = "kind") by decide +kernel, show ¬ (("one" : Str) = "_told") by decide +kernel, show ¬ (("one" : Str) = "tool") by decide +kernel, show ¬ (("one" : Str) = "moment") by decide +kernel, show ¬ (("one" : Str) = "by") by decide +kernel, show ¬ (("one" : Str) = "is_sound") by decide +kernel, show ¬ (("one" : Str) = "other") by decide +kernel, show ¬ (("one" : Str) = "later") by decide +kernel, show ¬ (("other" : Str) = "kind") by decide +kernel, show ¬ (("other" : Str) = "_told") by decide +kernel, show ¬ (("other" : Str) = "tool") by decide +kernel, show ¬ (("other" : Str) = "moment") by decide +kernel, show ¬ (("other" : Str) = "by") by decide +kernel, show ¬ (("other" : Str) = "is_sound") by decide +kernel, show ¬ (("other" : Str) = "one") by decide +kernel, show ¬ (("other" : Str) = "later") by decide +kernel, show ¬ (("later" : Str) = "kind") by decide +kernel, show ¬ (("later" : Str) = "_told") by decide +kernel, show ¬ (("later" : Str) = "tool") by decide +kernel, show ¬ (("later" : Str) = "moment") by decide +kernel, show ¬ (("later" : Str) = "by") by decide +kernel, show ¬ (("later" : Str) = "is_sound") by decide +kernel, show ¬ (("later" : Str) = "one") by decide +kernel, show ¬ (("later" : Str) = "other") by decide +kernel, if_true, if_false]), (by simp only [lookup_putF, show ¬ (("kind" : Str) = "_told") by decide +kernel, show ¬ (("kind" : Str) = "tool") by decide +kernel, show ¬ (("kind" : Str) = "moment") by decide +kernel, show ¬ (("kind" : Str) = "by") by decide +kernel, show ¬ (("kind" : Str) = "is_sound") by decide +kernel, show ¬ (("kind" : Str) = "one") by decide +kernel, show ¬ (("kind" : Str) = "other") by decide +kernel, show ¬ (("kind" : Str) = "later") by decide +kernel, show ¬ (("_told" : Str) = "kind") by decide +kernel, show ¬ (("_told" : Str) = "tool") by decide +kernel, show ¬ (("_told" : Str) = "moment") by decide +kernel, show ¬ (("_told" : Str) = "by") by decide +kernel, show ¬ (("_told" : Str) = "is_sound") by decide +kernel, show ¬ (("_told" : Str) = "one") by decide +kernel, show ¬ (("_told" : Str) = "other") by decide +kernel, show ¬ (("_told" : Str) = "later") by decide +kernel, show ¬ (("tool" : Str) = "kind") by decide +kernel, show ¬ (("tool" : Str) = "_told") by decide +kernel, show ¬ (("tool" : Str) = "moment") by decide +kernel, show ¬ (("tool" : Str) = "by") by decide +kernel, show ¬ (("tool" : Str) = "is_sound") by decide +kernel, show ¬ (("tool" : Str) = "one") by decide +kernel, show ¬ (("tool" : Str) = "other") by decide +kernel, show ¬ (("tool" : Str) = "later") by decide +kernel, show ¬ (("moment" : Str) = "kind") by decide +kernel, show ¬ (("moment" : Str) = "_told") by decide +kernel, show ¬ (("moment" : Str) = "tool") by decide +kernel, show ¬ (("moment" : Str) = "by") by decide +kernel, show ¬ (("moment" : Str) = "is_sound") by decide +kernel, show ¬ (("moment" : Str) = "one") by decide +kernel, show ¬ (("moment" : Str) = "other") by decide +kernel, show ¬ (("moment" : Str) = "later") by decide +kernel, show ¬ (("by" : Str) = "kind") by decide +kernel, show ¬ (("by" : Str) = "_told") by decide +kernel, show ¬ (("by" : Str) = "tool") by decide +kernel, show ¬ (("by" : Str) = "moment") by decide +kernel, show ¬ (("by" : Str) = "is_sound") by decide +kernel, show ¬ (("by" : Str) = "one") by decide +kernel, show ¬ (("by" : Str) = "other") by decide +kernel, show ¬ (("by" : Str) = "later") by decide +kernel, show ¬ (("is_sound" : Str) = "kind") by decide +kernel, show ¬ (("is_sound" : Str) = "_told") by decide +kernel, show ¬ (("is_sound" : Str) = "tool") by decide +kernel, show ¬ (("is_sound" : Str) = "moment") by decide +kernel, show ¬ (("is_sound" : Str) = "by") by decide +kernel, show ¬ (("is_sound" : Str) = "one") by decide +kernel, show ¬ (("is_sound" : Str) = "other") by decide +kernel, show ¬ (("is_sound" : Str) = "later") by decide +kernel, show ¬ (("one" : Str) = "kind") by decide +kernel, show ¬ (("one" : Str) = "_told") by decide +kernel, show ¬ (("one" : Str) = "tool") by decide +kernel, show ¬ (("one" : Str) = "moment") by decide +kernel, show ¬ (("one" : Str) = "by") by decide +kernel, show ¬ (("one" : Str) = "is_sound") by decide +kernel, show ¬ (("one" : Str) = "other") by decide +kernel, show ¬ (("one" : Str) = "later") by decide +kernel, show ¬ (("other" : Str) = "kind") by decide +kernel, show ¬ (("other" : Str) = "_told") by decide +kernel, show ¬ (("other" : Str) = "tool") by decide +kernel, show ¬ (("other" : Str) = "moment") by decide +kernel, show ¬ (("other" : Str) = "by") by decide +kernel, show ¬ (("other" : Str) = "is_sound") by decide +kernel, show ¬ (("other" : Str) = "one") by decide +kernel, show ¬ (("other" : Str) = "later") by decide +kernel, show ¬ (("later" : Str) = "kind") by decide +kernel, show ¬ (("later" : Str) = "_told") by decide +kernel, show ¬ (("later" : Str) = "tool") by decide +kernel, show ¬ (("later" : Str) = "moment") by decide +kernel, show ¬ (("later" : Str) = "by") by decide +kernel, show ¬ (("later" : Str) = "is_sound") by decide +kernel, show ¬ (("later" : Str) = "one") by decide +kernel, show ¬ (("later" : Str) = "other") by decide +kernel, if_true, if_false]), fun _ h => nomatch h⟩
abbrev sFailed : Stmt := inClass (topS 38) 0
theorem scFailed : FnScope ["self", "tool", "moment", "by"] ["self", "tool", "moment", "by"] (defScope sFailed) := ⟨rfl, rfl, rfl, by decide +kernel, rfl, by decide +kernel, by decide +kernel⟩
theorem ok_Failed {CN CM CS C f fK : Addr} {fd fdK : FuncData} (F : Fun K "__init__" "Failed.__init__" sFailed f fd) (T : RowC K C ["_told", "kind", "tool", "moment", "by"]) (FK : Fun K "checked" "checked" sChecked fK fdK) (bK : Binds K fdK ["kind", "told"] []) (gK : mg "checked" = some (.ref fK))
    (GK : FnOk P w K mg base (L2.CX P w) 4 fK fdK ["kind", "told"] (spChecked CN CM CS)) : FnOk P w K mg base (L2.CX P w) 5 f fd ["self", "tool", "moment", "by"] (spRow CN CM CS C "failed") := by
  refine F.okX scFailed (fun vs H Q E h => ?_) (fun cdv A outer s H vs Q E hr h => ?_)
  · obtain ⟨x, dx, xs, rfl, _, hl, _⟩ := h
    show xs.length + 1 = 4
    have : (formsOf "failed").length = 3 := by decide +kernel
    omega
  · obtain ⟨x, dx, xs, rfl, hx, hl, hg, qy, qn⟩ := h
    have hkin : ("failed" : Str) ∈ kinds := by decide +kernel
    have hl4 : (formsOf "failed").length = 3 := by decide +kernel
    obtain ⟨v0, v1, v2, rfl⟩ : ∃ v0 v1 v2, xs = [v0, v1, v2] := by
      rw [hl4] at hl
      match xs, hl with
      | [v0, v1, v2], _ => exact ⟨_, _, _, rfl⟩
    have no := T.no
    simp only [List.forall_mem_cons] at no
    obtain ⟨n0, n1, n2, n3, n4, _⟩ := no
    refine ⟨_, pss_cons (ps_fld (pv 0) (pe_call GK hr (by rfl) gK FK.kp bK .nil (passes_call (takes_of rfl rfl rfl rfl) (fun _ _ _ _ h => h)) (pa_cons pe_str (pa_cons (pe_tup (pa_cons (pv 1) (pa_cons (pv 2) (pa_cons (pv 3) pa_nil)))) pa_nil))) rfl)
      (pss_cons (ps_fld (pv 0) pe_str rfl)
      (pss_cons (ps_fld (pv 0) (pv 1) rfl) (pss_cons (ps_fld (pv 0) (pv 2) rfl) (pss_one (ps_fld (pv 0) (pv 3) rfl))))), ?_⟩
    refine ⟨_, rfl, _, rfl, _, rfl, by show 3 ≤ sizeLine; decide, fun tp htp => ?_⟩
    have s1 := same_upd0 (o := .tup [v0, v1, v2]) htp
    refine ⟨"failed", tp, [v0, v1, v2], rfl, hkin, upd_same, hl, (fun y hy => (hg y hy).elim fun T h => ⟨T, h.same s1⟩), fun gd H2 s2 => ?_, fun C' fl v g d H' s e => qn C' fl v g d H' (s1.trans s) e⟩
    have hx2 := s2 _ _ (s1 _ _ hx)
    have s12 := s1.trans s2
    refine ⟨_, rfl, x, C, dx, [], rfl, hx2, T.cl, n0, by show 0 < 1000; decide, ?_⟩
    refine ⟨_, rfl, x, C, dx, _, rfl, upd_same, T.cl, n1, Nat.lt_of_le_of_lt (lenC (Nat.le_refl 0)) (by decide), ?_⟩
    refine ⟨_, rfl, _, rfl, x, C, dx, _, rfl, upd_same, T.cl, n2, Nat.lt_of_le_of_lt (lenC (lenC (Nat.le_refl 0))) (by decide), ?_⟩
    refine ⟨_, rfl, _, rfl, x, C, dx, _, rfl, upd_same, T.cl, n3, Nat.lt_of_le_of_lt (lenC (lenC (lenC (Nat.le_refl 0)))) (by decide), ?_⟩
    refine ⟨_, rfl, _, rfl, x, C, dx, _, rfl, upd_same, T.cl, n4, Nat.lt_of_le_of_lt (lenC (lenC (lenC (lenC (Nat.le_refl 0))))) (by decide), ?_⟩
    refine qy gd _ _ (fun c o nc e => ?_) upd_same ?_
    · rw [upd_ne nc, upd_ne nc, upd_ne nc, upd_ne nc, upd_ne nc]
      exact s12 c o e
    · have ntp : tp ≠ x := fun z => by rw [z, hx] at htp; cases htp
      have etp := s2 _ _ (show (upd H tp (.tup _)) tp = _ from upd_same)
      refine ⟨?_, ⟨tp, ?_, ?_⟩, ?_⟩
      · simp only [lookup_putF, show ¬ (("kind" : Str) = "_told") by decide +kernel, show ¬ (("kind" : Str) = "tool") by decide +kernel, show ¬ (("kind" : Str) = "moment") by decide +kernel, show ¬ (("kind" : Str) = "by") by decide +kernel, show ¬ (("kind" : Str) = "is_sound") by decide +kernel, show ¬ (("kind" : Str) = "one") by decide +kernel, show ¬ (("kind" : Str) = "other") by decide +kernel, show ¬ (("kind" : Str) = "later") by decide +kernel, show ¬ (("_told" : Str) = "kind") by decide +kernel, show ¬ (("_told" : Str) = "tool") by decide +kernel, show ¬ (("_told" : Str) = "moment") by decide +kernel, show ¬ (("_told" : Str) = "by") by decide +kernel, show ¬ (("_told" : Str) = "is_sound") by decide +kernel, show ¬ (("_told" : Str) = "one") by decide +kernel, show ¬ (("_told" : Str) = "other") by decide +kernel, show ¬ (("_told" : Str) = "later") by decide +kernel, show ¬ (("tool" : Str) = "kind") by decide +kernel, show ¬ (("tool" : Str) = "_told") by decide +kernel, show ¬ (("tool" : Str) = "moment") by decide +kernel, show ¬ (("tool" : Str) = "by") by decide +kernel, show ¬ (("tool" : Str) = "is_sound") by decide +kernel, show ¬ (("tool" : Str) = "one") by decide +kernel, show ¬ (("tool" : Str) = "other") by decide +kernel, show ¬ (("tool" : Str) = "later") by decide +kernel, show ¬ (("moment" : Str) = "kind") by decide +kernel, show ¬ (("moment" : Str) = "_told") by decide +kernel, show ¬ (("moment" : Str) = "tool") by decide +kernel, show ¬ (("moment" : Str) = "by") by decide +kernel, show ¬ (("moment" : Str) = "is_sound") by decide +kernel, show ¬ (("moment" : Str) = "one") by decide +kernel, show ¬ (("moment" : Str) = "other") by decide +kernel, show ¬ (("moment" : Str) = "later") by decide +kernel, show ¬ (("by" : Str) = "kind") by decide +kernel, show ¬ (("by" : Str) = "_told") by decide +kernel, show ¬ (("by" : Str) = "tool") by decide +kernel, show ¬ (("by" : Str) = "moment") by decide +kernel, show ¬ (("by" : Str) = "is_sound") by decide +kernel, show ¬ (("by" : Str) = "one") by decide +kernel, show ¬ (("by" : Str) = "other") by decide +kernel, show ¬ (("by" : Str) = "later") by decide +kernel, show ¬ (("is_sound" : Str) = "kind") by decide +kernel, show ¬ (("is_sound" : Str) = "_told") by decide +kernel, show ¬ (("is_sound" : Str) = "tool") by decide +kernel, show ¬ (("is_sound" : Str) = "moment") by decide +kernel, show ¬ (("is_sound" : Str) = "by") by decide +kernel, show ¬ (("is_sound" : Str) = "one") by decide +kernel, show ¬ (("is_sound" : Str) = "other") by decide +kernel, show ¬ (("is_sound" : Str) = "later") by decide +kernel, show ¬ (("one" : Str) = "kind") by decide +kernel, show ¬ (("one" : Str) = "_told") by decide +kernel, show ¬ (("one" : Str) = "tool") by decide +kernel, show ¬ (("one" : Str) = "moment") by decide +kernel, show ¬ (("one" : Str) = "by") by decide +kernel, show ¬ (("one" : Str) = "is_sound") by decide +kernel, show ¬ (("one" : Str) = "other") by decide +kernel, show ¬ (("one" : Str) = "later") by decide +kernel, show ¬ (("other" : Str) = "kind") by decide +kernel, show ¬ (("other" : Str) = "_told") by decide +kernel, show ¬ (("other" : Str) = "tool") by decide +kernel, show ¬ (("other" : Str) = "moment") by decide +kernel, show ¬ (("other" : Str) = "by") by decide +kernel, show ¬ (("other" : Str) = "is_sound") by decide +kernel, show ¬ (("other" : Str) = "one") by decide +kernel, show ¬ (("other" : Str) = "later") by decide +kernel, show ¬ (("later" : Str) = "kind") by decide +kernel, show ¬ (("later" : Str) = "_told") by decide +kernel, show ¬ (("later" : Str) = "tool") by decide +kernel, show ¬ (("later" : Str) = "moment") by decide +kernel, show ¬ (("later" : Str) = "by") by decide +kernel, show ¬ (("later" : Str) = "is_sound") by decide +kernel, show ¬ (("later" : Str) = "one") by decide +kernel, show ¬ (("later" : Str) = "other") by decide +kernel, if_true, if_false]
      · simp only [lookup_putF, show ¬ (("kind" : Str) = "_told") by decide +kernel, show ¬ (("kind" : Str) = "tool") by decide +kernel, show ¬ (("kind" : Str) = "moment") by decide +kernel, show ¬ (("kind" : Str) = "by") by decide +kernel, show ¬ (("kind" : Str) = "is_sound") by decide +kernel, show ¬ (("kind" : Str) = "one") by decide +kernel, show ¬ (("kind" : Str) = "other") by decide +kernel, show ¬ (("kind" : Str) = "later") by decide +kernel, show ¬ (("_told" : Str) = "kind") by decide +kernel, show ¬ (("_told" : Str) = "tool") by decide +kernel, show ¬ (("_told" : Str) = "moment") by decide +kernel, show ¬ (("_told" : Str) = "by") by decide +kernel, show ¬ (("_told" : Str) = "is_sound") by decide +kernel, show ¬ (("_told" : Str) = "one") by decide +kernel, show ¬ (("_told" : Str) = "other") by decide +kernel, show ¬ (("_told" : Str) = "later") by decide +kernel, show ¬ (("tool" : Str) = "kind") by decide +kernel, show ¬ (("tool" : Str) = "_told") by decide +kernel, show ¬ (("tool" : Str) = "moment") by decide +kernel, show ¬ (("tool" : Str) = "by") by decide +kernel, show ¬ (("tool" : Str) = "is_sound") by decide +kernel, show ¬ (("tool" : Str) = "one") by decide +kernel, show ¬ (("tool" : Str) = "other") by decide +kernel, show ¬ (("tool" : Str) = "later") by decide +kernel, show ¬ (("moment" : Str) = "kind") by decide +kernel, show ¬ (("moment" : Str) = "_told") by decide +kernel, show ¬ (("moment" : Str) = "tool") by decide +kernel, show ¬ (("moment" : Str) = "by") by decide +kernel, show ¬ (("moment" : Str) = "is_sound") by decide +kernel, show ¬ (("moment" : Str) = "one") by decide +kernel, show ¬ (("moment" : Str) = "other") by decide +kernel, show ¬ (("moment" : Str) = "later") by decide +kernel, show ¬ (("by" : Str) = "kind") by decide +kernel, show ¬ (("by" : Str) = "_told") by decide +kernel, show ¬ (("by" : Str) = "tool") by decide +kernel, show ¬ (("by" : Str) = "moment") by decide +kernel, show ¬ (("by" : Str) = "is_sound") by decide +kernel, show ¬ (("by" : Str) = "one") by decide +kernel, show ¬ (("by" : Str) = "other") by decide +kernel, show ¬ (("by" : Str) = "later") by decide +kernel, show ¬ (("is_sound" : Str) = "kind") by decide +kernel, show ¬ (("is_sound" : Str) = "_told") by decide +kernel, show ¬ (("is_sound" : Str) = "tool") by decide +kernel, show ¬ (("is_sound" : Str) = "moment") by decide +kernel, show ¬ (("is_sound" : Str) = "by") by decide +kernel, show ¬ (("is_sound" : Str) = "one") by decide +kernel, show ¬ (("is_sound" : Str) = "other") by decide +kernel, show ¬ (("is_sound" : Str) = "later") by decide +kernel, show ¬ (("one" : Str) = "kind") by decide +kernel, show ¬ (("one" : Str) = "_told") by decide +kernel, show ¬ (("one" : Str) = "tool") by decide +kernel, show ¬ (("one" : Str) = "moment") by decide +kernel, show ¬ (("one" : Str) = "by") by decide +kernel, show ¬ (("one" : Str) = "is_sound") by decide +kernel, show ¬ (("one" : Str) = "other") by decide +kernel, show ¬ (("one" : Str) = "later") by decide +kernel, show ¬ (("other" : Str) = "kind") by decide +kernel, show ¬ (("other" : Str) = "_told") by decide +kernel, show ¬ (("other" : Str) = "tool") by decide +kernel, show ¬ (("other" : Str) = "moment") by decide +kernel, show ¬ (("other" : Str) = "by") by decide +kernel, show ¬ (("other" : Str) = "is_sound") by decide +kernel, show ¬ (("other" : Str) = "one") by decide +kernel, show ¬ (("other" : Str) = "later") by decide +kernel, show ¬ (("later" : Str) = "kind") by decide +kernel, show ¬ (("later" : Str) = "_told") by decide +kernel, show ¬ (("later" : Str) = "tool") by decide +kernel, show ¬ (("later" : Str) = "moment") by decide +kernel, show ¬ (("later" : Str) = "by") by decide +kernel, show ¬ (("later" : Str) = "is_sound") by decide +kernel, show ¬ (("later" : Str) = "one") by decide +kernel, show ¬ (("later" : Str) = "other") by decide +kernel, if_true, if_false]
      · repeat rw [upd_ne ntp]
        exact etp
      · rw [attrs_failed]
        simp only [List.zip_cons_cons, List.zip_nil_right, List.forall_mem_cons]
        refine ⟨(by simp only [lookup_putF, show ¬ (("kind" : Str) = "_told") by decide +kernel, show ¬ (("kind" : Str) = "tool") by decide +kernel, show ¬ (("kind" : Str) = "moment") by decide +kernel, show ¬ (("kind" : Str) = "by") by decide +kernel, show ¬ (("kind" : Str) = "is_sound") by decide +kernel, show ¬ (("kind" : Str) = "one") by decide +kernel, show ¬ (("kind" : Str) = "other") by decide +kernel, show ¬ (("kind" : Str) = "later") by decide +kernel, show ¬ (("_told" : Str) = "kind") by decide +kernel, show ¬ (("_told" : Str) = "tool") by decide +kernel, show ¬ (("_told" : Str) = "moment") by decide +kernel, show ¬ (("_told" : Str) = "by") by decide +kernel, show ¬ (("_told" : Str) = "is_sound") by decide +kernel, show ¬ (("_told" : Str) = "one") by decide +kernel, show ¬ (("_told" : Str) = "other") by decide +kernel, show ¬ (("_told" : Str) = "later") by decide +kernel, show ¬ (("tool" : Str) = "kind") by decide +kernel, show ¬ (("tool" : Str) = "_told") by decide +kernel, show ¬ (("tool" : Str) = "moment") by decide +kernel, show ¬ (("tool" : Str) = "by") by decide +kernel, show ¬ (("tool" : Str) = "is_sound") by decide +kernel, show ¬ (("tool" : Str) = "one") by decide +kernel, show ¬ (("tool" : Str) = "other") by decide +kernel, show ¬ (("tool" : Str) = "later") by decide +kernel, show ¬ (("moment" : Str) = "kind") by decide +kernel, show ¬ (("moment" : Str) = "_told") by decide +kernel, show ¬ (("moment" : Str) = "tool") by decide +kernel, show ¬ (("moment" : Str) = "by") by decide +kernel, show ¬ (("moment" : Str) = "is_sound") by decide +kernel, show ¬ (("moment" : Str) = "one") by decide +kernel, show ¬ (("moment" : Str) = "other") by decide +kernel, show ¬ (("moment" : Str) = "later") by decide +kernel, show ¬ (("by" : Str) = "kind") by decide +kernel, show ¬ (("by" : Str) = "_told") by decide +kernel, show ¬ (("by" : Str) = "tool") by decide +kernel, show ¬ (("by" : Str) = "moment") by decide +kernel, show ¬ (("by" : Str) = "is_sound") by decide +kernel, show ¬ (("by" : Str) = "one") by decide +kernel, show ¬ (("by" : Str) = "other") by decide +kernel, show ¬ (("by" : Str) = "later") by decide +kernel, show ¬ (("is_sound" : Str) = "kind") by decide +kernel, show ¬ (("is_sound" : Str) = "_told") by decide +kernel, show ¬ (("is_sound" : Str) = "tool") by decide +kernel, show ¬ (("is_sound" : Str) = "moment") by decide +kernel, show ¬ (("is_sound" : Str) = "by") by decide +kernel, show ¬ (("is_sound" : Str) = "one") by decide +kernel, show ¬ (("is_sound" : Str) = "other") by decide +kernel, show ¬ (("is_sound" : Str) = "later") by decide +kernel, show ¬ (("one" : Str) = "kind") by decide +kernel, show ¬ (("one" : Str) = "_told") by decide +kernel, show ¬ (("one" : Str) = "tool") by decide +kernel, show ¬ (("one" : Str) = "moment") by decide +kernel, show ¬ (("one" : Str) = "by") by decide +kernel, show ¬ (("one" : Str) = "is_sound") by decide +kernel, show ¬ (("one" : Str) = "other") by decide +kernel, show ¬ (("one" : Str) = "later") by decide +kernel, show ¬ (("other" : Str) = "kind") by decide +kernel, show ¬ (("other" : Str) = "_told") by decide +kernel, show ¬ (("other" : Str) = "tool") by decide +kernel, show ¬ (("other" : Str) = "moment") by decide +kernel, show ¬ (("other" : Str) = "by") by decide +kernel, show ¬ (("other" : Str) = "is_sound") by decide +kernel, show ¬ (("other" : Str) = "one") by decide +kernel, show ¬ (("other" : Str) = "later") by decide +kernel, show ¬ (("later" : Str) = "kind") by decide +kernel, show ¬ (("later" : Str) = "_told") by decide +kernel, show ¬ (("later" : Str) = "tool") by decide +kernel, show ¬ (("later" : Str) = "moment") by decide +kernel, show ¬ (("later" : Str) = "by") by decide +kernel, show ¬ (("later" : Str) = "is_sound") by decide +kernel, show ¬ (("later" : Str) = "one") by decide +kernel, show ¬ (("later" : Str) = "other") by decide +kernel, if_true, if_false]), (by simp only [lookup_putF, show ¬ (("kind" : Str) = "_told") by decide +kernel, show ¬ (("kind" : Str) = "tool") by decide +kernel, show ¬ (("kind" : Str) = "moment") by decide +kernel, show ¬ (("kind" : Str) = "by") by decide +kernel, show ¬ (("kind" : Str) = "is_sound") by decide +kernel, show ¬ (("kind" : Str) = "one") by decide +kernel, show ¬ (("kind" : Str) = "other") by decide +kernel, show ¬ (("kind" : Str) = "later") by decide +kernel, show ¬ (("_told" : Str) = "kind") by decide +kernel, show ¬ (("_told" : Str) = "tool") by decide +kernel, show ¬ (("_told" : Str) = "moment") by decide +kernel, show ¬ (("_told" : Str) = "by") by decide +kernel, show ¬ (("_told" : Str) = "is_sound") by decide +kernel, show ¬ (("_told" : Str) = "one") by decide +kernel, show ¬ (("_told" : Str) = "other") by decide +kernel, show ¬ (("_told" : Str) = "later") by decide +kernel, show ¬ (("tool" : Str) = "kind") by decide +kernel, show ¬ (("tool" : Str) = "_told") by decide +kernel, show ¬ (("tool" : Str) = "moment") by decide +kernel, show ¬ (("tool" : Str) = "by") by decide +kernel, show ¬ (("tool" : Str) = "is_sound") by decide +kernel, show ¬ (("tool" : Str) = "one") by decide +kernel, show ¬ (("tool" : Str) = "other") by decide +kernel, show ¬ (("tool" : Str) = "later") by decide +kernel, show ¬ (("moment" : Str) = "kind") by decide +kernel, show ¬ (("moment" : Str) = "_told") by decide +kernel, show ¬ (("moment" : Str) = "tool") by decide +kernel, show ¬ (("moment" : Str) = "by") by decide +kernel, show ¬ (("moment" : Str) = "is_sound") by decide +kernel, show ¬ (("moment" : Str) = "one") by decide +kernel, show ¬ (("moment" : Str) = "other") by decide +kernel, show ¬ (("moment" : Str) = "later") by decide +kernel, show ¬ (("by" : Str) = "kind") by decide +kernel, show ¬ (("by" : Str) = "_told") by decide +kernel, show ¬ (("by" : Str) = "tool") by decide +kernel, show ¬ (("by" : Str) = "moment") by decide +kernel, show ¬ (("by" : Str) = "is_sound") by decide +kernel, show ¬ (("by" : Str) = "one") by decide +kernel, show ¬ (("by" : Str) = "other") by decide +kernel, show ¬ (("by" : Str) = "later") by decide +kernel, show ¬ (("is_sound" : Str) = "kind") by decide +kernel, show ¬ (("is_sound" : Str) = "_told") by decide +kernel, show ¬ (("is_sound" : Str) = "tool") by decide +kernel, show ¬ (("is_sound" : Str) = "moment") by decide +kernel, show ¬ (("is_sound" : Str) = "by") by decide +kernel, show ¬ (("is_sound" : Str) = "one") by decide +kernel, show ¬ (("is_sound" : Str) = "other") by decide +kernel, show ¬ (("is_sound" : Str) = "later") by decide +kernel, show ¬ (("one" : Str) = "kind") by decide +kernel, show ¬ (("one" : Str) = "_told") by decide +kernel, show ¬ (("one" : Str) = "tool") by decide +kernel, show ¬ (("one" : Str) = "moment") by decide +kernel, show ¬ (("one" : Str) = "by") by decide +kernel, show ¬ (("one" : Str) = "is_sound") by decide +kernel, show ¬ (("one" : Str) = "other") by decide +kernel, show ¬ (("one" : Str) = "later") by decide +kernel, show ¬ (("other" : Str) = "kind") by decide +kernel, show ¬ (("other" : Str) = "_told") by decide +kernel, show ¬ (("other" : Str) = "tool") by decide +kernel, show ¬ (("other" : Str) = "moment") by decide +kernel, show ¬ (("other" : Str) = "by") by decide +kernel, show ¬ (("other" : Str) = "is_sound") by decide +kernel, show ¬ (("other" : Str) = "one") by decide +kernel, show ¬ (("other" : Str) = "later") by decide +kernel, show ¬ (("later" : Str) = "kind") by decide +kernel, show ¬ (("later" : Str) = "_told") by decide +kernel, show ¬ (("later" : Str) = "tool") by decide +kernel, show ¬ (("later" : Str) = "moment") by decide +kernel, show ¬ (("later" : Str) = "by") by decide +kernel, show ¬ (("later" : Str) = "is_sound") by decide +kernel, show ¬ (("later" : Str) = "one") by decide +kernel, show ¬ (("later" : Str) = "other") by decide +kernel, if_true, if_false]), (by simp only [lookup_putF, show ¬ (("kind" : Str) = "_told") by decide +kernel, show ¬ (("kind" : Str) = "tool") by decide +kernel, show ¬ (("kind" : Str) = "moment") by decide +kernel, show ¬ (("kind" : Str) = "by") by decide +kernel, show ¬ (("kind" : Str) = "is_sound") by decide +kernel, show ¬ (("kind" : Str) = "one") by decide +kernel, show ¬ (("kind" : Str) = "other") by decide +kernel, show ¬ (("kind" : Str) = "later") by decide +kernel, show ¬ (("_told" : Str) = "kind") by decide +kernel, show ¬ (("_told" : Str) = "tool") by decide +kernel, show ¬ (("_told" : Str) = "moment") by decide +kernel, show ¬ (("_told" : Str) = "by") by decide +kernel, show ¬ (("_told" : Str) = "is_sound") by decide +kernel, show ¬ (("_told" : Str) = "one") by decide +kernel, show ¬ (("_told" : Str) = "other") by decide +kernel, show ¬ (("_told" : Str) = "later") by decide +kernel, show ¬ (("tool" : Str) = "kind") by decide +kernel, show ¬ (("tool" : Str) = "_told") by decide +kernel, show ¬ (("tool" : Str) = "moment") by decide +kernel, show ¬ (("tool" : Str) = "by") by decide +kernel, show ¬ (("tool" : Str) = "is_sound") by decide +kernel, show ¬ (("tool" : Str) = "one") by decide +kernel, show ¬ (("tool" : Str) = "other") by decide +kernel, show ¬ (("tool" : Str) = "later") by decide +kernel, show ¬ (("moment" : Str) = "kind") by decide +kernel, show ¬ (("moment" : Str) = "_told") by decide +kernel, show ¬ (("moment" : Str) = "tool") by decide +kernel, show ¬ (("moment" : Str) = "by") by decide +kernel, show ¬ (("moment" : Str) = "is_sound") by decide +kernel, show ¬ (("moment" : Str) = "one") by decide +kernel, show ¬ (("moment" : Str) = "other") by decide +kernel, show ¬ (("moment" : Str) = "later") by decide +kernel, show ¬ (("by" : Str) = "kind") by decide +kernel, show ¬ (("by" : Str) = "_told") by decide +kernel, show ¬ (("by" : Str) = "tool") by decide +kernel, show ¬ (("by" : Str) = "moment") by decide +kernel, show ¬ (("by" : Str) = "is_sound") by decide +kernel, show ¬ (("by" : Str) = "one") by decide +kernel, show ¬ (("by" : Str) = "other") by decide +kernel, show ¬ (("by" : Str) = "later") by decide +kernel, show ¬ (("is_sound" : Str) = "kind") by decide +kernel, show ¬ (("is_sound" : Str) = "_told") by decide +kernel, show ¬ (("is_sound" : Str) = "tool") by decide +kernel, show ¬ (("is_sound" : Str) = "moment") by decide +kernel, show ¬ (("is_sound" : Str) = "by") by decide +kernel, show ¬ (("is_sound" : Str) = "one") by decide +kernel, show ¬ (("is_sound" : Str) = "other") by decide +kernel, show ¬ (("is_sound" : Str) = "later") by decide +kernel, show ¬ (("one" : Str) = "kind") by decide +kernel, show ¬ (("one" : Str) = "_told") by decide +kernel, show ¬ (("one" : Str) = "tool") by decide +kernel, show ¬ (("one" : Str) = "moment") by decide +kernel, show ¬ (("one" : Str) = "by") by decide +kernel, show ¬ (("one" : Str) = "is_sound") by decide +kernel, show ¬ (("one" : Str) = "other") by decide +kernel, show ¬ (("one" : Str) = "later") by decide +kernel, show ¬ (("other" : Str) = "kind") by decide +kernel, show ¬ (("other" : Str) = "_told") by decide +kernel, show ¬ (("other" : Str) = "tool") by decide +kernel, show ¬ (("other" : Str) = "moment") by decide +kernel, show ¬ (("other" : Str) = "by") by decide +kernel, show ¬ (("other" : Str) = "is_sound") by decide +kernel, show ¬ (("other" : Str) = "one") by decide +kernel, show ¬ (("other" : Str) = "later") by decide +kernel, show ¬ (("later" : Str) = "kind") by decide +kernel, show ¬ (("later" : Str) = "_told") by decide +kernel, show ¬ (("later" : Str) = "tool") by decide +kernel, show ¬ (("later" : Str) = "moment") by decide +kernel, show ¬ (("later" : Str) = "by") by decide +kernel, show ¬ (("later" : Str) = "is_sound") by decide +kernel, show ¬ (("later" : Str) = "one") by decide +kernel, show ¬ (("later" : Str) = "other") by decide +kernel, if_true, if_false]), fun _ h => nomatch h⟩
abbrev sMeeting : Stmt := inClass (topS 32) 0
theorem scMeeting : FnScope ["self", "kind", "one", "moment", "other", "later"] ["self", "kind", "one", "moment", "other", "later"] (defScope sMeeting) := ⟨rfl, rfl, rfl, by decide +kernel, rfl, by decide +kernel, by decide +kernel⟩
end
end K63

namespace K63
open PySem PySem.Spec PyProof.Rows L2 So
abbrev sInit : Stmt := inClass (topS 50) 0
abbrev sEq : Stmt := inClass (topS 50) 5
abbrev sStr : Stmt := inClass (topS 50) 7
theorem scInit : FnScope ["self", "tool", "moment", "by"] ["self", "tool", "moment", "by"] (defScope sInit) := ⟨rfl, rfl, rfl, by decide +kernel, rfl, by decide +kernel, by decide +kernel⟩
theorem scEq : FnScope ["self", "other"] ["self", "other"] (defScope sEq) := ⟨rfl, rfl, rfl, by decide +kernel, rfl, by decide +kernel, by decide +kernel⟩
theorem scStr : FnScope ["self"] ["self"] (defScope sStr) := ⟨rfl, rfl, rfl, by decide +kernel, rfl, by decide +kernel, by decide +kernel⟩
/-- the attributes of an entry -/
def sfV (t m b : V) : List (Str × V) := [("tool", t), ("moment", m), ("by", b)]
theorem sfV_put (t m b : V) : putF "by" b (putF "moment" m (putF "tool" t [])) = sfV t m b := by
  have e1 : ¬ (("tool" : Str) = "moment") := by decide +kernel
  have e2 : ¬ (("tool" : Str) = "by") := by decide +kernel
  have e3 : ¬ (("moment" : Str) = "by") := by decide +kernel
  simp [putF, sfV, e1, e2, e3]
theorem sf_tool (t m b : V) : (sfV t m b).lookup ("tool" : Str) = some t := by
  simp [sfV, List.lookup]
theorem sf_moment (t m b : V) : (sfV t m b).lookup ("moment" : Str) = some m := by
  have e1 : (("moment" : Str) == "tool") = false := by decide +kernel
  simp [sfV, List.lookup, e1]
theorem sf_by (t m b : V) : (sfV t m b).lookup ("by" : Str) = some b := by
  have e1 : (("by" : Str) == "tool") = false := by decide +kernel
  have e2 : (("by" : Str) == "moment") = false := by decide +kernel
  simp [sfV, List.lookup, e1, e2]
/-- what the top says of the class Entry, at C -/
structure Ent (K : PySem.W.Frag) (mg : Str → Option Value) (C : Addr) : Prop where
  cl : Cls K C
  nT : NoAttr K C "tool"
  nM : NoAttr K C "moment"
  nB : NoAttr K C "by"
  mgC : mg "Entry" = some (.ref C)
  ha : PySem.W.findIn K (.ref C) "__class__" = some (some (.builtin "object.__class__"))
  hn : PySem.W.specialIn K (.builtin "object.__class__") "__get__" = some (some (.builtin "getset_descriptor.__get__"))
  htk : PySem.W.takesIn K (.builtin "object.__class__") = some true
  hm : PySem.W.mroIn K C (.type "object") = some true
  me : PySem.W.kitOne K (.ref C) (.ref C) = some true
/-- at a stands the entry (z, m, y) -/
def At (C : Addr) (H : Hp) (a : Addr) (z : Str) (m : Int) (y : Str) : Prop := ∃ dx, H a = some (.ins C dx (sfV (.str z) (.int m) (.str y)))
section
variable {P : Program} {w : World} {K : PySem.W.Frag} {mg : Str → Option Value} {base : Heap}
/-- the first argument that is none: its error's class, the field, the value -/
def bad3 (CN CM : Addr) (t m b : V) : Option (Addr × Str × V) :=
  if gNam t = true then (if gMom m = true then (if gNam b = true then none else some (CN, "name", b)) else some (CM, "moment", m)) else some (CN, "name", t)
theorem passNo {X : Cx} {P : Program} {w : World} : Passes (L2.CX P w) X (fun _ _ _ => False) := fun _ _ _ _ _ _ _ h => by
  obtain ⟨_, _, _, _, _, _, _, _, _, _, _, _, hE⟩ := h
  exact hE.elim
/-- both ways out of what makes a saying of these arguments -/
def Ways (CN CM : Addr) (t m b : V) (H : Hp) (E : XK) (q : Prop) : Prop :=
  (bad3 CN CM t m b = none → q) ∧ ∀ C fl v, bad3 CN CM t m b = some (C, fl, v) → ∀ d H', Same H H' → H' d = some (.xd [(fl, v)]) → E (.ref C) (some d) H'

def spInit (CN CM C : Addr) : Sp := fun vs H Q E => ∃ (x dx : Addr) (t m b : V) (T1 T2 T3 : String), vs = [.ref x, t, m, b] ∧ H x = some (.ins C dx []) ∧ Gv H t T1 ∧ Gv H m T2 ∧ Gv H b T3 ∧
  Ways CN CM t m b H E (∀ H', Off x H H' → H' x = some (.ins C dx (sfV t m b)) → Q .non H')
theorem ok_init {CN CM CS f C fC : Addr} {fd fdC : FuncData} (F : Fun K "__init__" "Entry.__init__" sInit f fd) (T : Ent K mg C) (FC : Fun K "check_form" "check_form" sCheck fC fdC) (bC : Binds K fdC ["value", "form"] []) (gC : mg "check_form" = some (.ref fC))
    (GC : FnOk P w K mg base (L2.CX P w) 3 fC fdC ["value", "form"] (spCheck CN CM CS)) : FnOk P w K mg base (L2.CX P w) 4 f fd ["self", "tool", "moment", "by"] (spInit CN CM C) := by
  refine F.okX scInit (fun vs H Q E h => ?_) (fun cdv A outer s H vs Q E hr h => ?_)
  · obtain ⟨x, dx, t, m, b, T1, T2, T3, rfl, _⟩ := h
    rfl
  · obtain ⟨x, dx, t, m, b, T1, T2, T3, rfl, hx, v1, v2, v3, qy, qn⟩ := h
    have ps : ∀ σ : L2.St, True := fun _ => trivial
    refine ⟨_, pss_cons (ps_expr (pe_call GC hr (by rfl) gC FC.kp bC .nil (passes_call (takes_of rfl rfl rfl rfl) (fun _ _ _ _ h => h)) (pa_cons (pv 1) (pa_cons pe_str pa_nil))))
      (pss_cons (ps_expr (pe_call GC hr (by rfl) gC FC.kp bC .nil (passes_call (takes_of rfl rfl rfl rfl) (fun _ _ _ _ h => h)) (pa_cons (pv 2) (pa_cons pe_str pa_nil))))
      (pss_cons (ps_expr (pe_call GC hr (by rfl) gC FC.kp bC .nil (passes_call (takes_of rfl rfl rfl rfl) (fun _ _ _ _ h => h)) (pa_cons (pv 3) (pa_cons pe_str pa_nil))))
      (pss_cons (ps_fld (pv 0) (pv 1) rfl) (pss_cons (ps_fld (pv 0) (pv 2) rfl) (pss_one (ps_fld (pv 0) (pv 3) rfl)))))), ?_⟩
    refine ⟨_, rfl, t, T1, _, _, _, _, rfl, v1, .inl ⟨rfl, rfl, rfl, rfl⟩, fun g1 H1 s1 => ?_, fun g1 d H' s e => qn CN "name" t (by unfold bad3; rw [if_neg (by rw [g1]; exact Bool.false_ne_true)]) d H' s e⟩
    refine ⟨_, rfl, m, T2, _, _, _, _, rfl, v2.same s1, .inr (.inl ⟨rfl, rfl, rfl, rfl⟩), fun g2 H2 s2 => ?_, fun g2 d H' s e => qn CM "moment" m (by unfold bad3; rw [if_pos g1, if_neg (by rw [g2]; exact Bool.false_ne_true)]) d H' (s1.trans s) e⟩
    refine ⟨_, rfl, b, T3, _, _, _, _, rfl, v3.same (s1.trans s2), .inl ⟨rfl, rfl, rfl, rfl⟩, fun g3 H3 s3 => ?_, fun g3 d H' s e => qn CN "name" b (by unfold bad3; rw [if_pos g1, if_pos g2, if_neg (by rw [g3]; exact Bool.false_ne_true)]) d H' ((s1.trans s2).trans s) e⟩
    have s123 := (s1.trans s2).trans s3
    refine ⟨_, rfl, _, rfl, x, C, dx, [], rfl, s123 _ _ hx, T.cl, T.nT, (by show 0 < 1000; decide), ?_⟩
    refine ⟨_, rfl, _, rfl, x, C, dx, _, rfl, upd_same, T.cl, T.nM, (by show 1 < 1000; decide), ?_⟩
    refine ⟨_, rfl, _, rfl, x, C, dx, _, rfl, upd_same, T.cl, T.nB, ?_, ?_⟩
    · exact Nat.lt_of_le_of_lt (length_putF _ _ _) (by show 1 + 1 < 1000; decide)
    · refine qy (by unfold bad3; rw [if_pos g1, if_pos g2, if_pos g3]) _ (fun c o n e => ?_) ?_
      · rw [upd_ne n, upd_ne n, upd_ne n]
        exact s123 c o e
      · rw [upd_same, sfV_put]
/-- behind Saying(t, m, b) -/
theorem made {CN CM CS C : Addr} {t m b : V} {T1 T2 T3 : String} {H1 : Hp} {Q : VK} {E : XK} (v1 : Gv H1 t T1) (v2 : Gv H1 m T2) (v3 : Gv H1 b T3) (h : Ways CN CM t m b H1 E (∀ (H' : Hp) (a dx : Addr), Same H1 H' → H' a = some (.ins C dx (sfV t m b)) → Q (.ref a) H')) :
    ∀ x dx, H1 x = none → H1 dx = none → dx ≠ x → spInit CN CM C (.ref x :: ([t, m, b] ++ [])) (upd (upd H1 dx (.own x)) x (.ins C dx [])) (fun v H2 => v = .non ∧ Q (.ref x) H2) E := by
  intro x dx hx hd ne
  have s0 : Same H1 (upd (upd H1 dx (.own x)) x (.ins C dx [])) := fun c o e => by
    rw [upd_ne (ne_of_none e hx), upd_ne (ne_of_none e hd)]
    exact e
  refine ⟨x, dx, t, m, b, T1, T2, T3, rfl, upd_same, v1.same s0, v2.same s0, v3.same s0, fun g H' o e => ⟨rfl, h.1 g H' x dx (fun c u z => ?_) e⟩, fun C' fl v g d H' s e => h.2 C' fl v g d H' (s0.trans s) e⟩
  exact o c u (ne_of_none z hx) (s0 c u z)
theorem bad3_ok {CN CM : Addr} {z y : Str} {m : Int} (h1 : isName z = true) (h2 : 0 ≤ m ∧ m ≤ 1000000000000000000000000000000) (h3 : isName y = true) : bad3 CN CM (.str z) (.int m) (.str y) = none := by
  unfold bad3
  rw [if_pos (show gNam (.str z) = true from h1), if_pos (show gMom (.int m) = true from decide_eq_true h2), if_pos (show gNam (.str y) = true from h3)]
theorem Ways.ok {CN CM : Addr} {z y : Str} {m : Int} {H : Hp} {E : XK} {q : Prop} (h1 : isName z = true) (h2 : 0 ≤ m ∧ m ≤ 1000000000000000000000000000000) (h3 : isName y = true) (h : q) : Ways CN CM (.str z) (.int m) (.str y) H E q :=
  ⟨fun _ => h, fun C fl v e => by
    rw [bad3_ok h1 h2 h3] at e
    cases e⟩
theorem name_len {z : Str} (h : isName z = true) : z.length ≤ 8 := by
  unfold isName at h
  simp only [Bool.and_eq_true] at h
  exact of_decide_eq_true h.1.1.1.2
theorem made1 {CN CM C x dx : Addr} {t m b : V} {T1 T2 T3 : String} {H1 : Hp} {R : Hp → Prop} {E : XK} (hx : H1 x = none) (hd : H1 dx = none) (ne : dx ≠ x) (v1 : Gv H1 t T1) (v2 : Gv H1 m T2) (v3 : Gv H1 b T3)
    (h : Ways CN CM t m b H1 E (∀ H' : Hp, Same H1 H' → H' x = some (.ins C dx (sfV t m b)) → R H')) :
    spInit CN CM C [.ref x, t, m, b] (upd (upd H1 dx (.own x)) x (.ins C dx [])) (fun v H2 => v = .non ∧ R H2) E := by
  have s0 : Same H1 (upd (upd H1 dx (.own x)) x (.ins C dx [])) := fun c o e => by
    rw [upd_ne (ne_of_none e hx), upd_ne (ne_of_none e hd)]
    exact e
  refine ⟨x, dx, t, m, b, T1, T2, T3, rfl, upd_same, v1.same s0, v2.same s0, v3.same s0, fun g H' o e => ⟨rfl, h.1 g H' (fun c u z => ?_) e⟩, fun C' fl v g d H' s e => h.2 C' fl v g d H' (s0.trans s) e⟩
  exact o c u (ne_of_none z hx) (s0 c u z)
def spEq (K : PySem.W.Frag) (C : Addr) : Sp := fun vs H Q _ => ∃ (a : Addr) (y : V) (z w : Str) (m : Int), vs = [.ref a, y] ∧ At C H a z m w ∧
  ((∃ (a' : Addr) (z' w' : Str) (m' : Int), y = .ref a' ∧ At C H a' z' m' w' ∧ Q (.bl (decide (z = z') && decide (m = m') && decide (w = w'))) H) ∨ (∃ t, TyX K H y t ∧ PySem.W.kitOne K t (.ref C) = some false ∧ Q (.bl false) H))
theorem eqStr (a b : Str) : decide (V.str a = V.str b) = decide (a = b) := by
  by_cases h : a = b
  · rw [decide_eq_true h, decide_eq_true (by rw [h])]
  · rw [decide_eq_false h, decide_eq_false (fun y => h (V.str.inj y))]
theorem eqInt (a b : Int) : decide (V.int a = V.int b) = decide (a = b) := by
  by_cases h : a = b
  · rw [decide_eq_true h, decide_eq_true (by rw [h])]
  · rw [decide_eq_false h, decide_eq_false (fun y => h (V.int.inj y))]
theorem ok_eq {f C : Addr} {fd : FuncData} (F : Fun K "__eq__" "Entry.__eq__" sEq f fd) (W : Words K mg) (T : Ent K mg C) : FnOk P w K mg base CX0 1 f fd ["self", "other"] (spEq K C) := by
  refine F.ok scEq (fun vs H Q E h => ?_) (fun cdv A outer s H vs Q E hr h => ?_)
  · obtain ⟨a, y, z, m, b, rfl, _⟩ := h
    rfl
  · obtain ⟨a, y, z, v, m, rfl, ⟨dx, ha⟩, h⟩ := h
    refine ⟨_, pss_cons (ps_if (pt_not (pt_val (pe_callB call_isi (by rfl) W.isi (by decide +kernel) (pa_cons (pv 1) (pa_cons (pe_glob (v := .ref C) rfl T.mgC rfl) pa_nil))))) (pss_one (ps_ret pe_bl)) pss_nil)
      (pss_one (ps_ret (pe_and (pe_cmpR op_eq (pe_fld (pv 0) rfl) (pe_fld (pv 1) rfl) (nomark _)) (pe_and (pe_cmpR op_eq (pe_fld (pv 0) rfl) (pe_fld (pv 1) rfl) (nomark _)) (pe_one (pe_cmpR op_eq (pe_fld (pv 0) rfl) (pe_fld (pv 1) rfl) (nomark _))))))), ?_⟩
    rcases h with ⟨a', z', v', m', rfl, ⟨dx', ha'⟩, q⟩ | ⟨t, ty, hk, q⟩
    · refine ⟨_, rfl, _, _, _, _, true, rfl, .own C, .base (.ins ha' T.cl T.ha T.hn T.htk T.hm), T.me, true, rfl, iteF ?_⟩
      refine ⟨_, rfl, a, C, dx, _, _, rfl, ha, T.cl, T.nT, sf_tool _ _ _, _, rfl, a', C, dx', _, _, rfl, ha', T.cl, T.nT, sf_tool _ _ _, rfl, _, rfl, ?_⟩
      rw [eqStr]
      cases e1 : decide (z = z') with
      | false =>
        rw [e1, Bool.false_and, Bool.false_and] at q
        exact iteF q
      | true =>
        rw [e1, Bool.true_and] at q
        refine iteT ⟨_, rfl, a, C, dx, _, _, rfl, ha, T.cl, T.nM, sf_moment _ _ _, _, rfl, a', C, dx', _, _, rfl, ha', T.cl, T.nM, sf_moment _ _ _, rfl, _, rfl, ?_⟩
        rw [eqInt]
        cases e2 : decide (m = m') with
        | false =>
          rw [e2, Bool.false_and] at q
          exact iteF q
        | true =>
          rw [e2, Bool.true_and] at q
          refine iteT ⟨_, rfl, a, C, dx, _, _, rfl, ha, T.cl, T.nB, sf_by _ _ _, _, rfl, a', C, dx', _, _, rfl, ha', T.cl, T.nB, sf_by _ _ _, rfl, ?_⟩
          rw [eqStr]
          exact q
    · refine ⟨_, rfl, _, _, _, _, false, rfl, .own C, ty, hk, false, rfl, iteT ?_⟩
      exact q
end
end K63

namespace K63
open PySem PySem.Spec PyProof.Rows L2 So
abbrev sRowEq : Stmt := inClass (topS 29) 9
abbrev sPassedP : Stmt := inClass (topS 50) 2
abbrev sFailedP : Stmt := inClass (topS 50) 3
abbrev sRowOf : Stmt := inClass (topS 50) 4
abbrev sAhead : Stmt := inClass (topS 50) 6
abbrev sEE : Stmt := inClass (topS 6) 0
theorem scRowEq : FnScope ["self", "other"] ["self", "other"] (defScope sRowEq) := ⟨rfl, rfl, rfl, by decide +kernel, rfl, by decide +kernel, by decide +kernel⟩
theorem scPassedP : FnScope ["self"] ["self"] (defScope sPassedP) := ⟨rfl, rfl, rfl, by decide +kernel, rfl, by decide +kernel, by decide +kernel⟩
theorem scFailedP : FnScope ["self"] ["self"] (defScope sFailedP) := ⟨rfl, rfl, rfl, by decide +kernel, rfl, by decide +kernel, by decide +kernel⟩
theorem scRowOf : FnScope ["self", "word"] ["self", "word"] (defScope sRowOf) := ⟨rfl, rfl, rfl, by decide +kernel, rfl, by decide +kernel, by decide +kernel⟩
theorem scAhead : FnScope ["self", "other"] ["self", "other"] (defScope sAhead) := ⟨rfl, rfl, rfl, by decide +kernel, rfl, by decide +kernel, by decide +kernel⟩
theorem scEE : FnScope ["self", "at"] ["self", "at"] (defScope sEE) := ⟨rfl, rfl, rfl, by decide +kernel, rfl, by decide +kernel, by decide +kernel⟩
/-- made_row: behind the making of a row -/
theorem made_row {CN CM CS C : Addr} {kind : Str} {xs : List V} {H : Hp} {R : Addr → Hp → Prop} {E : XK} (hl : xs.length = (formsOf kind).length) (hg : ∀ y ∈ xs, ∃ T, Gv H y T)
    (h : WaysL CN CM CS (xs.zip (formsOf kind)) H E (∀ (H' : Hp) (a dx : Addr) fs, Same H H' → H' a = some (.ins C dx fs) → Told kind xs H' fs → R a H')) :
    ∀ x dx, H x = none → H dx = none → dx ≠ x → spRow CN CM CS C kind (.ref x :: (xs ++ [])) (upd (upd H dx (.own x)) x (.ins C dx [])) (fun v H2 => v = .non ∧ R x H2) E := by
  intro x dx hx hd ne
  have s0 : Same H (upd (upd H dx (.own x)) x (.ins C dx [])) := fun c o e => by
    rw [upd_ne (ne_of_none e hx), upd_ne (ne_of_none e hd)]
    exact e
  refine ⟨x, dx, xs, by rw [List.append_nil], upd_same, hl, (fun y hy => (hg y hy).elim fun T h => ⟨T, h.same s0⟩), fun gd H' fs o e lk => ⟨rfl, h.1 gd H' x dx fs (fun c u z => o c u (ne_of_none z hx) (s0 c u z)) e lk⟩, fun C' fl v g d H' s e => h.2 C' fl v g d H' (s0.trans s) e⟩
/-- what an entry must be -/
structure Ok3 (z : Str) (m : Int) (y : Str) : Prop where
  z : isName z = true
  m : 0 ≤ m ∧ m ≤ 1000000000000000000000000000000
  y : isName y = true
abbrev x3 (z : Str) (m : Int) (y : Str) : List V := [.str z, .int m, .str y]
/-- at a stands a row of the class C, of this kind, with these arguments -/
def RAt (C : Addr) (kind : Str) (H : Hp) (a : Addr) (xs : List V) : Prop := ∃ dx fs, H a = some (.ins C dx fs) ∧ Told kind xs H fs
theorem forms_passed : formsOf "passed" = (["name", "moment", "name"] : List Str) := by decide +kernel
theorem forms_failed : formsOf "failed" = (["name", "moment", "name"] : List Str) := by decide +kernel
theorem ok3_bad {CN CM CS : Addr} {z y : Str} {m : Int} (h : Ok3 z m y) : badL CN CM CS ((x3 z m y).zip ["name", "moment", "name"]) = none := by
  have h1 : okF "name" (.str z) = true := h.z
  have h2 : okF "moment" (.int m) = true := by
    show decide _ = true
    exact decide_eq_true h.m
  have h3 : okF "name" (.str y) = true := h.y
  show badL CN CM CS [(V.str z, ("name" : Str)), (.int m, "moment"), (.str y, "name")] = none
  unfold badL
  rw [if_pos h1]
  unfold badL
  rw [if_pos h2]
  unfold badL
  rw [if_pos h3]
  rfl
theorem gv3 {z y : Str} {m : Int} (h : Ok3 z m y) (H : Hp) : ∀ v ∈ x3 z m y, ∃ T, Gv H v T := by
  intro v hv
  simp only [List.mem_cons, List.not_mem_nil, or_false] at hv
  rcases hv with e | e | e <;> subst e
  · exact ⟨_, .str z (Nat.le_trans (name_len h.z) (by decide))⟩
  · exact ⟨_, .int m⟩
  · exact ⟨_, .str y (Nat.le_trans (name_len h.y) (by decide))⟩
end K63

/-! a dict == a tuple: never -/
namespace So
open PySem PySem.Spec PyProof.Rows L2
theorem sub_dt : isSubtype (.type "dict") (.type "tuple") = pure false := by rw [isSubtype_type]; kernel_rfl
theorem sub_td : isSubtype (.type "tuple") (.type "dict") = pure false := by rw [isSubtype_type]; kernel_rfl
section
variable {P : Program} {w : World} {A : Around} {E : Value → Shared → Prop} {s : Shared}
theorem rc_dict_tuple {a b : Addr} {its : Array Value} {Q : Value → Shared → Prop} (ha : s.TypeIs (.ref a) "dict") (hb : s.heap.IsTuple b its) (hu : A.units < cLine) (h : Q (.bool false) s) : wpAny (model P w) A (richCompare .Eq (.ref a) (.ref b)) Q E s := by
  have tb : s.TypeIs (.ref b) "tuple" := by
    obtain ⟨o, ho, hc, _⟩ := hb
    exact ⟨o, ho, hc⟩
  have ne : a ≠ b := fun z => by
    subst z
    obtain ⟨o, e, c⟩ := ha
    obtain ⟨o', e', c'⟩ := tb
    rw [e] at e'
    cases e'
    rw [c] at c'
    exact absurd (Value.type.inj c') (by decide)
  refine PySem.SeqAt.rc_eq_decline_or (k := false) ha tb (by decide) sub_td PySem.F.slot_dict_eq PySem.F.slot_tuple_eq_refl (fun Q' hq => ?_) (fun Q' hq => ?_) (fun Q' hq => ?_) (.inr hu) h
  · refine wpAny_call_entry PySem.F.slot_dict_eq ha PySem.F.entry_dict_eq ?_ (PySem.F.args_dict_eq_2 _ _)
    show wpAny _ _ (Builtin.Dict.dictSlotArgs "__eq__" ⟨[.ref a, .ref b], []⟩ >>= _) _ _ s
    refine wpAny_bind ?_
    unfold Builtin.Dict.dictSlotArgs
    refine wpAny_bind (wpAny_notOrdered_dict ha (wpAny_pure ?_))
    refine wpAny_bind (wpAny_isInstance (T := "tuple") (b := false) tb sub_td ?_)
    simp only [Bool.not_false, if_true]
    exact wpAny_bind (wpAny_rule (wpAny_bind (wpAny_pure (wpAny_pure ⟨_, rfl, hq⟩))))
  · obtain ⟨⟨cls, dd, data, sl⟩, ho, hc, n, hd⟩ := id hb
    simp only at hc hd
    subst hc hd
    have hi : ∀ {A' : Around} {E' : Value → Shared → Prop} {Q2 : Bool → Shared → Prop}, Q2 false s → wpAny (model P w) A' (isInstance (.ref a) (.type "tuple")) Q2 E' s := fun q => wpAny_isInstance (T := "dict") (b := false) ha sub_dt q
    refine wpAny_call_entry PySem.F.slot_tuple_eq_refl tb PySem.F.entry_tuple_eq ?_ (PySem.F.args_tuple_eq_2 _ _)
    obtain ⟨hp, g, d, tk, os⟩ := s
    wp_walk using PySem.AutoSeq1.wpAny_loadPart' ho, hi
    exact ⟨_, rfl, hq⟩
  · obtain ⟨oa, ea, ca⟩ := ha
    obtain ⟨ob, eb, cb⟩ := tb
    show wpAny (model P w) A (if (a == b) = true then pure true else _) Q' E s
    rw [if_neg (by simpa using ne)]
    refine wpAny_bind (wpAny_load ea (wpAny_bind (wpAny_load eb ?_)))
    split
    · rename_i h1 _ _ _
      rw [ca] at h1
      exact absurd (Value.type.inj h1) (by decide)
    · exact wpAny_pure hq
end
section
variable {X : Cx}
/-- by one of two rules -/
theorem op_or {f : Value → Value → Sem Value} {r1 r2 : R2} (h1 : OpR X f r1) (h2 : OpR X f r2) : OpR X f (fun x y H Q => r1 x y H Q ∨ r2 x y H Q) := fun pins s σ H x y v u Q I rx ry h => h.elim (h1 pins s σ H x y v u Q I rx ry) (h2 pins s σ H x y v u Q I rx ry)
def rEqDT (K : PySem.W.Frag) : R2 := fun x y H Q => ∃ (a b : Addr) (kvs : List (Key × V)) (xs : List V), x = .ref a ∧ y = .ref b ∧ H a = some (.dK kvs) ∧ SqT K H b xs ∧ Q (.bl false) H
theorem op_eqDT (hu : X.A.units < cLine) : OpR X (compareOp .Eq) (rEqDT X.K) := by
  intro pins s σ H x y v u Q I rx ry h
  obtain ⟨a, b, kvs, xs, rfl, rfl, ha, hb, q⟩ := h
  cases rx
  cases ry
  obtain ⟨_, _, vs, _, hd⟩ : kvs.length ≤ sizeLine ∧ (a == sysModules) = false ∧ ∃ vs, KV kvs vs ∧ s.heap.DictOf (mixKind X.prog X.w) a vs := I.hok a _ ha
  obtain ⟨its, _, pl, _⟩ := I.tuple hb
  exact rc_dict_tuple hd.typeIs (show s.heap.IsTuple b its.toArray from pl) hu ⟨.bl false, H, I, rfl, q⟩
end
end So

/-! a dict == a text: never -/
namespace So
open PySem PySem.Spec PyProof.Rows L2
theorem sub_ds : isSubtype (.type "dict") (.type "str") = pure false := by rw [isSubtype_type]; kernel_rfl
theorem sub_sd : isSubtype (.type "str") (.type "dict") = pure false := by rw [isSubtype_type]; kernel_rfl
section
variable {P : Program} {w : World} {A : Around} {E : Value → Shared → Prop} {s : Shared}
theorem rc_dict_str {a : Addr} {z : Str} {t : Tok} {Q : Value → Shared → Prop} (ha : s.TypeIs (.ref a) "dict") (hd : ∃ o e ep, s.heap.get? a = some o ∧ o.data = .dict e ep) (hu : A.units < cLine) (h : Q (.bool false) s) : wpAny (model P w) A (richCompare .Eq (.ref a) (.str z t)) Q E s := by
  have tb : s.TypeIs (.str z t) "str" := typeIs_str s z t
  refine PySem.SeqAt.rc_eq_decline_or (k := false) ha tb (by decide) sub_sd PySem.F.slot_dict_eq PySem.F.slot_str_eq_refl (fun Q' hq => ?_) (fun Q' hq => ?_) (fun Q' hq => ?_) (.inr hu) h
  · refine wpAny_call_entry PySem.F.slot_dict_eq ha PySem.F.entry_dict_eq ?_ (PySem.F.args_dict_eq_2 _ _)
    show wpAny _ _ (Builtin.Dict.dictSlotArgs "__eq__" ⟨[.ref a, .str z t], []⟩ >>= _) _ _ s
    refine wpAny_bind ?_
    unfold Builtin.Dict.dictSlotArgs
    refine wpAny_bind (wpAny_notOrdered_dict ha (wpAny_pure ?_))
    refine wpAny_bind (wpAny_isInstance (T := "str") (b := false) tb sub_sd ?_)
    simp only [Bool.not_false, if_true]
    exact wpAny_bind (wpAny_rule (wpAny_bind (wpAny_pure (wpAny_pure ⟨_, rfl, hq⟩))))
  · have hi : ∀ {A' : Around} {E' : Value → Shared → Prop} {Q2 : Bool → Shared → Prop}, Q2 false s → wpAny (model P w) A' (isInstance (.ref a) (.type "str")) Q2 E' s := fun q => wpAny_isInstance (T := "dict") (b := false) ha sub_ds q
    refine wpAny_call_entry PySem.F.slot_str_eq_refl tb PySem.F.entry_str_eq ?_ (PySem.F.args_str_eq_2 _ _)
    obtain ⟨⟨cls, dd, data, sl⟩, e, ep, ho, ed⟩ := hd
    simp only at ed
    subst ed
    obtain ⟨hp, g, d, tk, os⟩ := s
    wp_walk using PySem.AutoSeq1.wpAny_loadPart' ho, wpAny_load' ho
    exact ⟨_, rfl, hq⟩
  · exact wpAny_isSame_plain rfl hq
end
section
variable {X : Cx}
def rEqDS : R2 := fun x y H Q => ∃ (a : Addr) (kvs : List (Key × V)) (z : Str), x = .ref a ∧ y = .str z ∧ H a = some (.dK kvs) ∧ Q (.bl false) H
theorem op_eqDS (hu : X.A.units < cLine) : OpR X (compareOp .Eq) rEqDS := by
  intro pins s σ H x y v u Q I rx ry h
  obtain ⟨a, kvs, z, rfl, rfl, ha, q⟩ := h
  cases rx
  obtain ⟨t, rfl⟩ := ry
  obtain ⟨_, _, vs, _, hd⟩ : kvs.length ≤ sizeLine ∧ (a == sysModules) = false ∧ ∃ vs, KV kvs vs ∧ s.heap.DictOf (mixKind X.prog X.w) a vs := I.hok a _ ha
  obtain ⟨o, es, ep, ho, _, hdd, _⟩ := id hd
  exact rc_dict_str hd.typeIs ⟨o, es, ep, ho, hdd⟩ hu ⟨.bl false, H, I, rfl, q⟩
end
end So

namespace K63
open PySem PySem.Spec PyProof.Rows L2 So
def entText (z : Str) (m : Int) (y : Str) : Str := (((((Str.empty ++ ("check " : Str)) ++ z) ++ (" " : Str)) ++ Str.ofString (toString m)) ++ (" by " : Str)) ++ y
/-- three values as data -/
def d3 (z : Str) (m : Int) (y : Str) : PyData := .tuple [.str z, .int m, .str y]
theorem dp_3 {K : PySem.W.Frag} {H : Hp} {p : Addr} {z y : Str} {m : Int} (h : H p = some (.tup (x3 z m y))) : Dp K H (.ref p) (d3 z m y) := .tup (SqT.of h) (.cons (.str z) (.cons (.int m) (.cons (.str y) .nil)))
theorem name_small {z : Str} (h : isName z = true) : ∀ c ∈ z.cps.toList, c < 128 := by
  have aln : ∀ c ∈ (letters ++ digits).cps.toList, c < 128 := by decide +kernel
  unfold isName at h
  simp only [Bool.and_eq_true] at h
  intro c hc
  exact aln c (of_decide_eq_true (List.all_eq_true.mp h.2 c hc))
theorem name_strOk {z : Str} (h : isName z = true) : PyData.strOk z = true := by
  unfold PyData.strOk
  rw [← Array.all_toList]
  exact List.all_eq_true.mpr fun c hc => decide_eq_true (Nat.lt_trans (name_small h c hc) (by decide))
theorem shaped_3 {z y : Str} {m : Int} (h : Ok3 z m y) : SeqAt.shaped (d3 z m y) = true := by
  unfold SeqAt.shaped d3
  simp [PyData.canLay0, PyData.canLayAll0, PyData.depth, PyData.depthAll, name_strOk h.z, name_strOk h.y]
theorem eqv_3 (z y z' y' : Str) (m m' : Int) : PyData.eqv (d3 z m y) (d3 z' m' y') = decide (z = z' ∧ m = m' ∧ y = y') := by
  unfold d3
  simp only [PyData.eqv, PyData.eqvAll, Bool.and_true]
  by_cases h1 : z = z' <;> by_cases h2 : m = m' <;> by_cases h3 : y = y' <;> simp [h1, h2, h3]
section
variable {P : Program} {w : World} {K : PySem.W.Frag} {mg : Str → Option Value} {base : Heap}
def spStr (C : Addr) : Sp := fun vs H Q _ => ∃ (a : Addr) (z : Str) (m : Int) (y : Str), vs = [.ref a] ∧ At C H a z m y ∧ z.length ≤ 8 ∧ y.length ≤ 8 ∧ m.natAbs.log2 < 1920 ∧ Q (.str (entText z m y)) H
theorem ok_str {f C : Addr} {fd : FuncData} (F : Fun K "__str__" "Entry.__str__" sStr f fd) (T : Ent K mg C) : FnOk P w K mg base CX0 1 f fd ["self"] (spStr C) := by
  refine F.ok scStr (fun vs H Q E h => ?_) (fun cdv A outer s H vs Q E hr h => ?_)
  · obtain ⟨a, z, m, y, rfl, _⟩ := h
    rfl
  · obtain ⟨a, z, m, y, rfl, ⟨dx, ha⟩, hz, hy, hm, q⟩ := h
    refine ⟨_, pss_one (ps_ret (pe_joined (.cons pe_str (.cons (pe_fmt (pe_fld (pv 0) rfl)) (.cons pe_str (.cons (pe_fmt (pe_fld (pv 0) rfl)) (.cons pe_str (.cons (pe_fmt (pe_fld (pv 0) rfl)) .nil)))))))), ?_⟩
    have sl := sizeLine_eq
    have lm : (Str.ofString (toString m)).length ≤ 1921 := by
      rw [PyProof.Rows.ofString_length]
      exact int_text_length_le (k := 1920) (by decide) hm
    have l1 : (Str.empty ++ ("check " : Str)).length = 6 := by decide +kernel
    have l2 : ((Str.empty ++ ("check " : Str)) ++ z).length = 6 + z.length := by rw [Str.length_append, l1]
    have l3 : (((Str.empty ++ ("check " : Str)) ++ z) ++ (" " : Str)).length = 6 + z.length + 1 := by
      rw [Str.length_append, l2]
      rfl
    have l4 : ((((Str.empty ++ ("check " : Str)) ++ z) ++ (" " : Str)) ++ Str.ofString (toString m)).length = 6 + z.length + 1 + (Str.ofString (toString m)).length := by rw [Str.length_append, l3]
    have l5 : (((((Str.empty ++ ("check " : Str)) ++ z) ++ (" " : Str)) ++ Str.ofString (toString m)) ++ (" by " : Str)).length = 6 + z.length + 1 + (Str.ofString (toString m)).length + 4 := by
      rw [Str.length_append, l4]
      rfl
    have l6 : ((((((Str.empty ++ ("check " : Str)) ++ z) ++ (" " : Str)) ++ Str.ofString (toString m)) ++ (" by " : Str)) ++ y).length = 6 + z.length + 1 + (Str.ofString (toString m)).length + 4 + y.length := by rw [Str.length_append, l5]
    refine ⟨_, rfl, by rw [l1]; omega, ?_⟩
    refine ⟨_, rfl, a, C, dx, _, _, rfl, ha, T.cl, T.nT, sf_tool _ _ _, .inl ⟨z, rfl, by omega, z, rfl, by rw [l2]; omega, ?_⟩⟩
    refine ⟨_, rfl, by rw [l3]; omega, ?_⟩
    refine ⟨_, rfl, a, C, dx, _, _, rfl, ha, T.cl, T.nM, sf_moment _ _ _, .inr ⟨m, rfl, hm, _, rfl, by show ((((Str.empty ++ ("check " : Str)) ++ z) ++ (" " : Str)) ++ Str.ofString (toString m)).length ≤ _; rw [l4]; omega, ?_⟩⟩
    refine ⟨_, rfl, by show (((((Str.empty ++ ("check " : Str)) ++ z) ++ (" " : Str)) ++ Str.ofString (toString m)) ++ (" by " : Str)).length ≤ _; rw [l5]; omega, ?_⟩
    refine ⟨_, rfl, a, C, dx, _, _, rfl, ha, T.cl, T.nB, sf_by _ _ _, .inl ⟨y, rfl, by omega, y, rfl, by show ((((((Str.empty ++ ("check " : Str)) ++ z) ++ (" " : Str)) ++ Str.ofString (toString m)) ++ (" by " : Str)) ++ y).length ≤ _; rw [l6]; omega, ?_⟩⟩
    exact q
/-- what the top says of a class of rows -/
structure RowK (K : PySem.W.Frag) (mg : Str → Option Value) (C CR : Addr) (nm : Str) : Prop where
  cl : Cls K C
  no : RowC K C ["_told", "kind", "tool", "moment", "by"]
  g : mg nm = some (.ref C)
  gR : mg "Row" = some (.ref CR)
  kR : PySem.W.kitOne K (.ref C) (.ref CR) = some true
  ha : PySem.W.findIn K (.ref C) "__class__" = some (some (.builtin "object.__class__"))
  hn : PySem.W.specialIn K (.builtin "object.__class__") "__get__" = some (some (.builtin "getset_descriptor.__get__"))
  htk : PySem.W.takesIn K (.builtin "object.__class__") = some true
  hm : PySem.W.mroIn K C (.type "object") = some true
/-- Row.__eq__ of two rows of one kind with the same arguments -/
def spRowEq (C : Addr) (kind : Str) : Sp := fun vs H Q _ => ∃ (a b : Addr) (z : Str) (m : Int) (y : Str), vs = [.ref a, .ref b] ∧ RAt C kind H a (x3 z m y) ∧ RAt C kind H b (x3 z m y) ∧ Ok3 z m y ∧ Q (.bl true) H
theorem ok_rowEq {C CR f : Addr} {fd : FuncData} {nm kind : Str} (F : Fun K "__eq__" "Row.__eq__" sRowEq f fd) (W : Words K mg) (T : RowK K mg C CR nm) : FnOk P w K mg base CX0 1 f fd ["self", "other"] (spRowEq C kind) := by
  refine F.ok scRowEq (fun vs H Q E h => ?_) (fun cdv A outer s H vs Q E hr h => ?_)
  · obtain ⟨_, _, _, _, _, rfl, _⟩ := h
    rfl
  · obtain ⟨a, b, z, m, y, rfl, ⟨dx, fs, ha, tA⟩, ⟨dx', fs', hb, tB⟩, ok, q⟩ := h
    have n0 := T.no.no "_told" (by simp)
    have n1 := T.no.no "kind" (by simp)
    obtain ⟨k1, ⟨p1, e1, t1⟩, _⟩ := tA
    obtain ⟨k2, ⟨p2, e2, t2⟩, _⟩ := tB
    refine ⟨_, pss_one (ps_ret (pe_and (pe_callB call_isi (by rfl) W.isi (by decide +kernel) (pa_cons (pv 1) (pa_cons (pe_glob (v := .ref CR) rfl T.gR rfl) pa_nil))) (pe_and (pe_cmpR op_eq (pe_fld (pv 0) rfl) (pe_fld (pv 1) rfl) (nomark _)) (pe_one (pe_cmpR (op_eqD hr.units) (pe_fld (pv 0) rfl) (pe_fld (pv 1) rfl) (nomark _)))))), ?_⟩
    refine ⟨_, rfl, _, _, _, _, true, rfl, .own CR, .base (.ins hb T.cl T.ha T.hn T.htk T.hm), T.kR, true, rfl, iteT ?_⟩
    refine ⟨_, rfl, a, C, dx, _, _, rfl, ha, T.cl, n1, k1, _, rfl, b, C, dx', _, _, rfl, hb, T.cl, n1, k2, rfl, true, by simp, iteT ?_⟩
    refine ⟨_, rfl, a, C, dx, _, _, rfl, ha, T.cl, n0, e1, _, rfl, b, C, dx', _, _, rfl, hb, T.cl, n0, e2, d3 z m y, d3 z m y, dp_3 t1, dp_3 t2, shaped_3 ok, shaped_3 ok, ?_⟩
    rw [eqv_3, decide_eq_true ⟨rfl, rfl, rfl⟩]
    exact q
/-- Entry.passed, Entry.failed -/
def spRowP (C CX : Addr) (kind : Str) : Sp := fun vs H Q _ => ∃ (a : Addr) (z : Str) (m : Int) (y : Str), vs = [.ref a] ∧ At C H a z m y ∧ Ok3 z m y ∧ ∀ (H' : Hp) (r : Addr), Same H H' → RAt CX kind H' r (x3 z m y) → Q (.ref r) H'
end
end K63

namespace K63
open PySem PySem.Spec PyProof.Rows L2 So
section
variable {P : Program} {w : World} {K : PySem.W.Frag} {mg : Str → Option Value} {base : Heap}
theorem rows3 {CN CM CS C : Addr} {kind : Str} {z y : Str} {m : Int} {H : Hp} {R : Addr → Hp → Prop} {E : XK} (hf : formsOf kind = (["name", "moment", "name"] : List Str)) (ok : Ok3 z m y) (h : ∀ (H' : Hp) (r : Addr), Same H H' → RAt C kind H' r (x3 z m y) → R r H') :
    ∀ x dx, H x = none → H dx = none → dx ≠ x → spRow CN CM CS C kind (.ref x :: (x3 z m y ++ [])) (upd (upd H dx (.own x)) x (.ins C dx [])) (fun v H2 => v = .non ∧ R x H2) E :=
  made_row (by rw [hf]; rfl) (gv3 ok H) (by
    rw [hf]
    exact ⟨fun _ H' a dx fs s e t => h H' a s ⟨dx, fs, e, t⟩, fun C' fl v g => by
      rw [ok3_bad ok] at g
      cases g⟩)
theorem ok_passedP {C CX CR CN CM CS f fI : Addr} {fd fdI : FuncData} (F : Fun K "passed" "Entry.passed" sPassedP f fd) (T : Ent K mg C) (R : RowK K mg CX CR "Passed") (M : Mk K CX fI) (bI : Binds K fdI ["self", "tool", "moment", "by"] []) (GI : FnOk P w K mg base (L2.CX P w) 5 fI fdI ["self", "tool", "moment", "by"] (spRow CN CM CS CX "passed")) :
    FnOk P w K mg base CX0 7 f fd ["self"] (spRowP C CX "passed") := by
  refine F.ok scPassedP (fun vs H Q E h => ?_) (fun cdv A outer s H vs Q E hr h => ?_)
  · obtain ⟨_, _, _, _, rfl, _⟩ := h
    rfl
  · obtain ⟨a, z, m, y, rfl, ⟨dx, ha⟩, ok, q⟩ := h
    refine ⟨_, pss_one (ps_ret (pe_make M GI hr (by rfl) R.g bI .nil passNo (pa_cons (pe_fld (pv 0) rfl) (pa_cons (pe_fld (pv 0) rfl) (pa_cons (pe_fld (pv 0) rfl) pa_nil))))), ?_⟩
    refine ⟨_, rfl, a, C, dx, _, _, rfl, ha, T.cl, T.nT, sf_tool _ _ _, _, rfl, a, C, dx, _, _, rfl, ha, T.cl, T.nM, sf_moment _ _ _, _, rfl, a, C, dx, _, _, rfl, ha, T.cl, T.nB, sf_by _ _ _, ?_⟩
    exact rows3 forms_passed ok q
theorem ok_failedP {C CX CR CN CM CS f fI : Addr} {fd fdI : FuncData} (F : Fun K "failed" "Entry.failed" sFailedP f fd) (T : Ent K mg C) (R : RowK K mg CX CR "Failed") (M : Mk K CX fI) (bI : Binds K fdI ["self", "tool", "moment", "by"] []) (GI : FnOk P w K mg base (L2.CX P w) 5 fI fdI ["self", "tool", "moment", "by"] (spRow CN CM CS CX "failed")) :
    FnOk P w K mg base CX0 7 f fd ["self"] (spRowP C CX "failed") := by
  refine F.ok scFailedP (fun vs H Q E h => ?_) (fun cdv A outer s H vs Q E hr h => ?_)
  · obtain ⟨_, _, _, _, rfl, _⟩ := h
    rfl
  · obtain ⟨a, z, m, y, rfl, ⟨dx, ha⟩, ok, q⟩ := h
    refine ⟨_, pss_one (ps_ret (pe_make M GI hr (by rfl) R.g bI .nil passNo (pa_cons (pe_fld (pv 0) rfl) (pa_cons (pe_fld (pv 0) rfl) (pa_cons (pe_fld (pv 0) rfl) pa_nil))))), ?_⟩
    refine ⟨_, rfl, a, C, dx, _, _, rfl, ha, T.cl, T.nT, sf_tool _ _ _, _, rfl, a, C, dx, _, _, rfl, ha, T.cl, T.nM, sf_moment _ _ _, _, rfl, a, C, dx, _, _, rfl, ha, T.cl, T.nB, sf_by _ _ _, ?_⟩
    exact rows3 forms_failed ok q
theorem ok_eE {C f : Addr} {fd : FuncData} (F : Fun K "__init__" "BadEntry.__init__" sEE f fd) (O : OneE K mg "BadEntry" "at" C f fd) : FnOk P w K mg base CX0 1 f fd ["self", "at"] (spOneE C "at") := by
  refine F.ok scEE (fun vs H Q E h => ?_) (fun cdv A outer s H vs Q E hr h => ?_)
  · obtain ⟨a, v, rfl, _⟩ := h
    rfl
  · obtain ⟨a, v, rfl, ha, q⟩ := h
    exact ⟨_, pss_one (ps_ost (pv 0) (pv 1)), _, rfl, _, rfl, a, C, rfl, O.T, O.no, .inl ⟨ha, fun dx h n => q dx h n⟩⟩
/-- whether a value is this word -/
def EqW (K : PySem.W.Frag) (H : Hp) (v : V) (c : Str) (b : Bool) : Prop := (scal v (.str c) = true ∧ decide (v = .str c) = b) ∨ (∃ d, Dp K H v d ∧ SeqAt.shaped d = true ∧ PyData.eqv d (.str c) = b) ∨ (∃ a kvs, v = .ref a ∧ H a = some (.dK kvs) ∧ b = false)
theorem op_eqW {X : Cx} (hu : X.A.units + 64 < cLine) : OpR X (compareOp .Eq) (fun x y H Q => ∃ c b, y = .str c ∧ SeqAt.shaped (.str c) = true ∧ EqW X.K H x c b ∧ Q (.bl b) H) := by
  intro pins s σ H x y v u Q I rx ry h
  obtain ⟨c, b, rfl, hc, h | h | h, q⟩ := h
  · obtain ⟨h1, rfl⟩ := h
    exact op_eq pins s σ H x (.str c) v u Q I rx ry ⟨h1, q⟩
  · obtain ⟨d, h1, h2, rfl⟩ := h
    exact op_eqD hu pins s σ H x (.str c) v u Q I rx ry ⟨d, .str c, h1, .str c, h2, hc, q⟩
  · obtain ⟨a, kvs, rfl, h2, rfl⟩ := h
    exact op_eqDS (by omega) pins s σ H _ (.str c) v u Q I rx ry ⟨a, kvs, c, rfl, rfl, h2, q⟩
theorem shaped_pf : SeqAt.shaped (.str ("pass" : Str)) = true ∧ SeqAt.shaped (.str ("fail" : Str)) = true := by decide +kernel
/-- Entry.row_of -/
def spRowOf (K : PySem.W.Frag) (C CP CF CE : Addr) : Sp := fun vs H Q E => ∃ (a : Addr) (z : Str) (m : Int) (y : Str) (v : V), vs = [.ref a, v] ∧ At C H a z m y ∧ Ok3 z m y ∧
  ((EqW K H v "pass" true ∧ ∀ (H' : Hp) (r : Addr), Same H H' → RAt CP "passed" H' r (x3 z m y) → Q (.ref r) H') ∨
   (EqW K H v "pass" false ∧ EqW K H v "fail" true ∧ ∀ (H' : Hp) (r : Addr), Same H H' → RAt CF "failed" H' r (x3 z m y) → Q (.ref r) H') ∨
   (EqW K H v "pass" false ∧ EqW K H v "fail" false ∧ ∀ d H', Same H H' → H' d = some (.xd [("at", v)]) → E (.ref CE) (some d) H'))
theorem ok_rowOf {C CP CF CE f pP gP pF gF fE : Addr} {fd fdP fdF fdE : FuncData} (F : Fun K "row_of" "Entry.row_of" sRowOf f fd) (T : Ent K mg C) (O : OneE K mg "BadEntry" "at" CE fE fdE) (GE : FnOk P w K mg base CX0 1 fE fdE ["self", "at"] (spOneE CE "at"))
    (hP : PropOf K C "passed" pP gP) (bP : Binds K fdP ["self"] []) (GP : FnOk P w K mg base CX0 7 gP fdP ["self"] (spRowP C CP "passed")) (hF : PropOf K C "failed" pF gF) (bF : Binds K fdF ["self"] []) (GF : FnOk P w K mg base CX0 7 gF fdF ["self"] (spRowP C CF "failed")) :
    FnOk P w K mg base (L2.CX P w) 9 f fd ["self", "word"] (spRowOf K C CP CF CE) := by
  refine F.okX scRowOf (fun vs H Q E h => ?_) (fun cdv A outer s H vs Q E hr h => ?_)
  · obtain ⟨_, _, _, _, _, rfl, _⟩ := h
    rfl
  · obtain ⟨a, z, m, y, v, rfl, hA, ok, h⟩ := h
    obtain ⟨dx, ha⟩ := id hA
    have hr2 : Room 2 _ := hr.mono (by decide)
    have hu := hr.units
    refine ⟨_, pss_cons (ps_if (pt_cmpR (op_eqW hu) (pv 1) pe_str (nomark _)) (pss_one (ps_ret (pe_prop (pv 0) T.cl hP GP hr bP .nil pass0 rfl))) pss_nil)
      (pss_cons (ps_if (pt_cmpR (op_eqW hu) (pv 1) pe_str (nomark _)) (pss_one (ps_ret (pe_prop (pv 0) T.cl hF GF hr bF .nil pass0 rfl))) pss_nil)
      (pss_one (ps_raiseOne O GE rfl hr2 (takes_of rfl rfl rfl rfl) (by rfl) (pa_cons (pv 1) pa_nil)))), ?_⟩
    rcases h with ⟨e1, q⟩ | ⟨e1, e2, q⟩ | ⟨e1, e2, q⟩
    · refine ⟨_, rfl, _, true, rfl, shaped_pf.1, e1, _, rfl, iteT ?_⟩
      exact ⟨_, rfl, a, dx, _, rfl, ha, a, z, m, y, rfl, hA, ok, q⟩
    · refine ⟨_, rfl, _, false, rfl, shaped_pf.1, e1, _, rfl, iteF ?_⟩
      refine ⟨_, rfl, _, true, rfl, shaped_pf.2, e2, _, rfl, iteT ?_⟩
      exact ⟨_, rfl, a, dx, _, rfl, ha, a, z, m, y, rfl, hA, ok, q⟩
    · refine ⟨_, rfl, _, false, rfl, shaped_pf.1, e1, _, rfl, iteF ?_⟩
      refine ⟨_, rfl, _, false, rfl, shaped_pf.2, e2, _, rfl, iteF ?_⟩
      exact ⟨_, rfl, mkOne rfl fun d H' s2 _ e => q d H' s2 e⟩
/-- Entry.is_ahead -/
def spAhead (C : Addr) : Sp := fun vs H Q _ => ∃ (a b : Addr) (z y z' y' : Str) (m m' : Int), vs = [.ref a, .ref b] ∧ At C H a z m y ∧ At C H b z' m' y' ∧ ∀ H', Same H H' → Q (.bl (PySem.W.dataLt (d3 z m y) (d3 z' m' y'))) H'
theorem ok_ahead {C f : Addr} {fd : FuncData} (F : Fun K "is_ahead" "Entry.is_ahead" sAhead f fd) (T : Ent K mg C) : FnOk P w K mg base CX0 1 f fd ["self", "other"] (spAhead C) := by
  refine F.ok scAhead (fun vs H Q E h => ?_) (fun cdv A outer s H vs Q E hr h => ?_)
  · obtain ⟨_, _, _, _, _, _, _, _, rfl, _⟩ := h
    rfl
  · obtain ⟨a, b, z, y, z', y', m, m', rfl, ⟨dx, ha⟩, ⟨dx', hb⟩, q⟩ := h
    refine ⟨_, pss_one (ps_ret (pe_cmpR (op_ltD hr.units) (pe_tup (pa_cons (pe_fld (pv 0) rfl) (pa_cons (pe_fld (pv 0) rfl) (pa_cons (pe_fld (pv 0) rfl) pa_nil)))) (pe_tup (pa_cons (pe_fld (pv 1) rfl) (pa_cons (pe_fld (pv 1) rfl) (pa_cons (pe_fld (pv 1) rfl) pa_nil)))) (nomark _))), ?_⟩
    refine ⟨_, rfl, a, C, dx, _, _, rfl, ha, T.cl, T.nT, sf_tool _ _ _, _, rfl, a, C, dx, _, _, rfl, ha, T.cl, T.nM, sf_moment _ _ _, _, rfl, a, C, dx, _, _, rfl, ha, T.cl, T.nB, sf_by _ _ _, by show 3 ≤ sizeLine; decide, fun p1 h1 => ?_⟩
    have s1 := same_upd0 (o := .tup (x3 z m y)) h1
    refine ⟨_, rfl, b, C, dx', _, _, rfl, s1 _ _ hb, T.cl, T.nT, sf_tool _ _ _, _, rfl, b, C, dx', _, _, rfl, s1 _ _ hb, T.cl, T.nM, sf_moment _ _ _, _, rfl, b, C, dx', _, _, rfl, s1 _ _ hb, T.cl, T.nB, sf_by _ _ _, by show 3 ≤ sizeLine; decide, fun p2 h2 => ?_⟩
    have s2 := same_upd0 (o := .tup (x3 z' m' y')) h2
    exact ⟨d3 z m y, d3 z' m' y', dp_3 (s2 _ _ upd_same), dp_3 upd_same, rfl, (fun z => nomatch z), (by show 1 ≤ 60; decide), q _ (s1.trans s2)⟩
end
end K63

namespace So
open PySem PySem.Spec PyProof.Rows L2
section
variable {P : Program} {w : World} {K : PySem.W.Frag} {mg : Str → Option Value} {base : Heap} {CX : CXT} {sp : Sp} {fd : FuncData} {ps N : List Str} {k : Nat} {f c : Addr}
/-- a def by its body, the guards and the code object told -/
theorem fnG_ofC {x qual : Str} {st : Stmt} (F : Fun K x qual st f fd) (hcode : fd.code = .ref c) (S : FnScope N ps (defScope st)) (len : ∀ vs H Q E, sp vs H Q E → vs.length = ps.length)
    (hbody : ∀ (A : Around) (outer : List Env) (s : Shared) (H : Hp) (vs : List V) (Q : VK) (E : XK), A.guards = some [] → Room k (A.deeper (envOfC qual (defScope st) s.heap.objs.size f (.ref c))) → sp vs H Q E →
      ∃ t, PSs (cxOf CX P w K mg base N qual (defScope st) f (.ref c) A outer s H E).nox (defBody st) t ∧ t { nx := fun _ H' => Q .non H', rt := Q } (start N vs) H) : FnG P w K mg base CX (k + 1) f fd ps sp := by
  obtain ⟨oc, od, kV, doc, pm, an, cdv, ct, osl, rfl, lk, hcd⟩ := F.ex
  obtain rfl : cdv = .ref c := hcode
  constructor
  · exact len
  intro A outer s H args us vs Q E hg hr e0 hb r hsp
  have old : ∀ b o, base.get? b = some o → s.heap.get? b = some o := fun b o e => (e0.bs b o e).1
  have KX := e0.mod.kin.keeps old
  have lim := e0.mod.nolimit.keeps old
  refine codeAny_call_function hr.depth (KX _ _ lk) rfl S.co S.gen rfl (PySem.W.codeRec_of KX hcd) (hb _ _ _ _ ?_)
  refine wpAny_newFunctionEnv_cells S.kind (fun y hy => ?_) fun env he s1 x => ?_
  · rcases S.par y.1 (List.of_mem_zip (show (y.1, y.2) ∈ ps.zip us from hy)).1 with q | q
    · exact Or.inl q
    · exact Or.inr (And.intro q (PySem.W.cellsFrom_some _ _ _ (Or.inl q)))
  subst he
  refine And.intro (lim.keeps x.toInCall.keep) (codeAny_func ?_)
  obtain ⟨t, ht, hq⟩ := hbody A outer s H vs Q E hg (hr.deeper _) hsp
  refine wpAny_mono (ht.nox.run [] s1 (start N vs) H _ (inv_start S hr.hd e0 (len _ _ _ _ hsp) r x) hq) (fun fl s' hs => ?_) fun _ _ hs => hs
  match fl, hs with
  | .ret u, ⟨v, σ', H', J, rv, q⟩ => exact ⟨v, H', J.os, J.bare, J.base, J.hok, rv, q⟩
  | .next, ⟨σ', H', J, q⟩ => exact ⟨V.non, H', J.os, J.bare, J.base, J.hok, rfl, q⟩
  | .brk, ⟨_, _, _, q⟩ => exact q.elim
  | .cont, ⟨_, _, _, q⟩ => exact q.elim
end
end So

namespace So
open PySem PySem.Spec PyProof.Rows L2 LamX
/-- the law's call, its one table of code objects and the guards told -/
theorem law_callTG {P : Program} {w : World} {K : PySem.W.Frag} {mg mb : Str → Option Value} {CX : CXT} {k : Nat} {fa a c T : Addr} {fd : FuncData} {x : Str} {sp : Sp} {s₁ : Shared} {vs : List Value} {ns : List Int}
    (KX : K.In s₁.heap) (hns : s₁.heap.Ns mainGlobals mg) (hb : s₁.heap.Ns builtinsNs mb) (hbb : ∀ x : Str, x ≠ "__name__" → mb x = bootBuiltins x) (hlim : s₁.heap.NoLimit) (hg : s₁.gens = #[])
    (tab : s₁.heap.get? T = some { cls := .none, data := .fields #[] }) (noT : K.lookup T = none) (cd : PySem.W.CodeHd s₁.heap c T)
    (mod : ∃ (bm : Addr) (ob : Obj), mg "__builtins__" = some (.ref bm) ∧ bm ≠ builtinsNs ∧ s₁.heap.get? bm = some ob ∧ ob.cls = .type "module" ∧ ob.dict = some builtinsNs ∧ ob.data = .plain)
    (ha : s₁.heap.get? a = some { cls := .type "list", data := .seq vs.toArray }) (hi : IntsAre vs ns) (hl : ns.length ≤ sizeLine) (hr : Room k callerA)
    (F : ∀ base : Heap, K.In base → base.Ns mainGlobals mg → TabB base mg c T → FnG P w K mg base CX k fa fd [x] sp) (hbind : ∀ (s : Shared) (u : Value), BindsTo s fd ⟨[u], []⟩ [(x, u)])
    (hsp : ∀ H : Hp, H T = some (.tbl #[]) → SqL K H a (ns.map V.int) → sp [.ref a] H (fun v _ => v = .bl true) fun _ _ _ => False)
    (hCX : ∀ H e s', CX [] H s₁ (fun _ _ _ => False) e s' → False) :
    codeAny (model P w) callerA (.call (.ref fa) ⟨[.ref a], []⟩) (fun r s' => r = .ok (.ret (.bool true)) ∧ OldK s₁.heap s'.heap ∧ s'.os = s₁.os ∧ AllBare s'.gens) s₁ := by
  have aT : a ≠ T := fun z => by
    rw [z, tab] at ha
    have := congrArg Obj.data (Option.some.inj ha)
    cases this
  -- what may be tracked at the start: the table, and the script where the written part does not hold it
  have go : ∀ H : Hp, H T = some (.tbl #[]) → (∀ b u, H b = some u → b = T ∨ (b = a ∧ K.lookup a = none ∧ ∃ o xs, u = .frz o (.lst xs))) → SqL K H a (ns.map V.int) → HOk P w H s₁.heap →
      codeAny (model P w) callerA (.call (.ref fa) ⟨[.ref a], []⟩) (fun r s' => r = .ok (.ret (.bool true)) ∧ OldK s₁.heap s'.heap ∧ s'.os = s₁.os ∧ AllBare s'.gens) s₁ := by
    intro H hT hA hS hok
    -- an object that is neither the script's list nor the table stands in the base
    have free : ∀ {b : Addr} {o : Obj}, s₁.heap.get? b = some o → (∀ vs n, o.data ≠ .seq vs n) → o.data ≠ .fields #[] → H b = none := by
      intro b o e h1 h2
      cases q : H b with
      | none => rfl
      | some u =>
        rcases hA b u q with rfl | ⟨rfl, _⟩
        · rw [tab] at e
          cases e
          exact absurd rfl h2
        · rw [ha] at e
          cases e
          exact absurd rfl (h1 _ _)
    have toBase : ∀ {b : Addr} {o : Obj}, s₁.heap.get? b = some o → H b = none → (hidT s₁.heap H).get? b = some o := fun e n => hidT_get e n
    have nsB : ∀ {b : Addr} {m : Str → Option Value}, s₁.heap.Ns b m → (hidT s₁.heap H).Ns b m := by
      rintro b m ⟨o, es, ep, e, d, r⟩
      have n : H b = none := by
        refine free e ?_ ?_
        · intro vs n z
          rw [d] at z
          cases z
        · intro z
          rw [d] at z
          cases z
      exact ⟨o, es, ep, toBase e n, d, r⟩
    have kin : K.In (hidT s₁.heap H) := by
      intro b o e
      refine toBase (KX b o e) ?_
      cases q : H b with
      | none => rfl
      | some u =>
        rcases hA b u q with rfl | ⟨rfl, z, _⟩
        · rw [noT] at e
          cases e
        · rw [z] at e
          cases e
    have lim2 : (hidT s₁.heap H).NoLimit := by
      obtain ⟨mc, h1, h2⟩ := hlim
      exact ⟨mc, nsB h1, h2⟩
    have gT : mainGlobals ≠ T := fun z => by
      obtain ⟨o, es, ep, e, d, _⟩ := hns
      rw [z, tab] at e
      cases e
      cases d
    have cd2 : PySem.W.CodeHd (hidT s₁.heap H) c T := by
      obtain ⟨o, us, fl, tf, fg, tg, inF, tx, tt, e1, r1, r2, r3, r⟩ := cd
      refine ⟨o, us, fl, tf, fg, tg, inF, tx, tt, toBase e1 (free e1 ?_ ?_), r1, r2, r3, r⟩
      · intro vs n z
        rw [r2] at z
        cases z
      · intro z
        rw [r2] at z
        cases z
        simp at r3
    have bm2 : (hidT s₁.heap H).BuiltinsAt mg T := by
      obtain ⟨bm, ob, b1, b2, b3, b4, b5, b6⟩ := mod
      have n1 : bm ≠ mainGlobals := fun z => by
        obtain ⟨o, es, ep, e, d, _⟩ := hns
        rw [z, e] at b3
        cases b3
        rw [d] at b6
        cases b6
      have n2 : bm ≠ T := fun z => by
        rw [z, tab] at b3
        cases b3
        cases b6
      refine ⟨bm, ob, b1, b2, n1, n2, toBase b3 (free b3 ?_ ?_), b4, b5, b6⟩
      · intro vs n z
        rw [b6] at z
        cases z
      · intro z
        rw [b6] at z
        cases z
    have e0 : Env0 P w K mg (hidT s₁.heap H) callerA [] s₁ H := by
      refine ⟨rfl, ⟨kin, nsB hns, ⟨mb, nsB hb, hbb⟩, lim2⟩, fun b o e => of_hidT e, Nat.le_of_eq (hidT_size _ _), True.intro, ?_, hok, .of_eq hg⟩
      intro b hb
      cases hb
    refine codeAny_mono ((F _ kin (nsB hns) ⟨cd2, bm2, gT⟩).runG callerA [] s₁ H ⟨[.ref a], []⟩ [.ref a] [.ref a] _ _ rfl hr e0 (hbind s₁ (.ref a)) (.cons rfl .nil) (hsp H hT hS)) fun r s' h => ?_
    match r, h with
    | .error e, h => exact (hCX H e s' h).elim
    | .ok .next, h => exact h.elim
    | .ok .brk, h => exact h.elim
    | .ok .cont, h => exact h.elim
    | .ok (.ret u), ⟨v, H', os, bare, un, hok', rv, q⟩ =>
      have q2 : v = .bl true := q
      subst q2
      cases rv
      obtain ⟨more, hm⟩ := un.tbls T #[] hT
      have grown : s'.heap.get? T = some { cls := .none, data := .fields (#[] ++ more) } := hok' T _ hm
      have stay : ∀ b o, b ≠ T → s₁.heap.get? b = some o → s'.heap.get? b = some o := by
        intro b o n e
        cases q : H b with
        | none => exact un.keep b o e q (fun z => nomatch z) (fun z => nomatch z)
        | some u =>
          rcases hA b u q with z | ⟨_, _, ob, xs, rfl⟩
          · exact absurd z n
          · have z1 := (hok b _ q).1
            have z2 := (hok' b _ (un.frzs b ob _ q)).1
            rw [z1] at e
            rw [z2, e]
      refine ⟨rfl, ⟨fun b o e => ?_, fun b o e => ?_⟩, os, bare⟩
      · by_cases n : b = T
        · subst n
          rw [tab] at e
          cases e
          refine .inr (.inl ⟨(cd.tab tab).isCodeTable, rfl, #[], more, rfl, grown⟩)
        · exact .inl (stay b o n e)
      · by_cases n : b = T
        · subst n
          exact ⟨_, grown⟩
        · exact ⟨o, stay b o n e⟩
  have rv := vals_ints hi
  have hlen : (ns.map V.int).length ≤ sizeLine := by rw [List.length_map]; exact hl
  cases hk : K.lookup a with
  | some o =>
    have e := KX a o hk
    rw [ha] at e
    cases e
    refine go (fun b => if b = T then some (.tbl #[]) else none) (if_pos rfl) (fun b u z => ?_) (Or.inr ⟨_, vs.toArray, _, hk, rfl, rfl, rfl, by rw [List.size_toArray, hi.length]; exact hl, by simpa using rv⟩) fun b u z => ?_
    · try dsimp only at z
      by_cases n : b = T
      · exact Or.inl n
      · rw [if_neg n] at z
        cases z
    · try dsimp only at z
      by_cases n : b = T
      · rw [if_pos n] at z
        cases z
        rw [n]
        exact tab
      · rw [if_neg n] at z
        cases z
  | none =>
    refine go (fun b => if b = T then some (.tbl #[]) else if b = a then some (.frz { cls := .type "list", data := .seq vs.toArray } (.lst (ns.map V.int))) else none) (if_pos rfl) (fun b u z => ?_) (Or.inl (Or.inr ⟨_, (if_neg aT).trans (if_pos rfl)⟩)) fun b u z => ?_
    · try dsimp only at z
      by_cases n : b = T
      · exact Or.inl n
      · rw [if_neg n] at z
        by_cases n2 : b = a
        · rw [if_pos n2] at z
          cases z
          exact Or.inr ⟨n2, hk, _, _, rfl⟩
        · rw [if_neg n2] at z
          cases z
    · try dsimp only at z
      by_cases n : b = T
      · rw [if_pos n] at z
        cases z
        rw [n]
        exact tab
      · rw [if_neg n] at z
        by_cases n2 : b = a
        · rw [if_pos n2] at z
          cases z
          rw [n2]
          exact ⟨ha, hlen, vs, _, rv, ha⟩
        · rw [if_neg n2] at z
          cases z
end So

namespace K63
open PySem PySem.Spec PyProof.Rows L2 So LamX
abbrev sHeard : Stmt := topS 55
abbrev heardN : List Str := ["_law_ask", "_law_caught", "error", "_law_found"]
theorem scHeard : FnScope heardN ["_law_ask"] (defScope sHeard) := ⟨rfl, rfl, rfl, by decide +kernel, rfl, by decide +kernel, by decide +kernel⟩
theorem pe_imp {X : Cx} {e : Expr} {t : TE} (h : PE X e t) : PE X e (fun σ H Q => ∃ Q0 : VK, t σ H Q0 ∧ ∀ v H', Q0 v H' → Q v H') :=
  ⟨fun pins s σ H Q I ⟨Q0, h1, h2⟩ => thn (h.run pins s σ H Q0 I h1) fun u s' ⟨v, H', I', r, q⟩ => ⟨v, H', I', r, h2 v H' q⟩⟩
theorem takes_len {X : Cx} {W : WX} (tk : Takes X W) : Takes X (fun c d σ H => σ.length = X.N.length → W c d σ H) := fun u s' ⟨a, B, sI, pins, σ, H, cls, d, e, I, nb, up, sky, na, os, ag, w⟩ =>
  tk u s' ⟨a, B, sI, pins, σ, H, cls, d, e, I, nb, up, sky, na, os, ag, w I.len⟩
/-- the three errors by the law's words -/
def Kind3 (CN CM CS : Addr) (wd : Str) (C : Addr) (fl : Str) : Prop := (wd = "name" ∧ C = CN ∧ fl = "name") ∨ (wd = "moment" ∧ C = CM ∧ fl = "moment") ∨ (wd = "entry" ∧ C = CS ∧ fl = "at")
def EchS (CN CM CS : Addr) (Q : VK) : XK := fun cls d H' => ∃ (wd : Str) (C : Addr) (fl : Str) (v : V) (dd : Addr), Kind3 CN CM CS wd C fl ∧ cls = .ref C ∧ d = some dd ∧ H' dd = some (.xd [(fl, v)]) ∧ ∀ (H'' : Hp) (r : Addr), Same H' H'' → H'' r = some (.tup [.str wd, v]) → Q (.ref r) H''
def QnS (Q : VK) : VK := fun _ H' => ∀ H'', Same H' H'' → Q .non H''
def TTh (CN CM CS : Addr) : (XK → Hp → VK → Prop) → Hp → VK → Prop := fun tl H Q => tl (EchS CN CM CS Q) H (QnS Q)
/-- what the top says of the errors, to the law's heard -/
structure Hrd (K : PySem.W.Frag) (mg : Str → Option Value) (CT CN CM CS : Addr) : Prop where
  gT : mg "TillError" = some (.ref CT)
  gN : mg "BadName" = some (.ref CN)
  gM : mg "BadMoment" = some (.ref CM)
  gS : mg "BadEntry" = some (.ref CS)
  gV : mg "ValueError" = none
  isi : mg "isinstance" = none
  len : mg "len" = none
  te : ∀ C ∈ [CN, CM, CS], PySem.W.exmOne K (.ref C) (.ref CT) = some true ∧ PySem.W.kitOne K (.ref C) (.type "ValueError") = some true ∧ PySem.W.kitOne K (.type "NoneType") (.ref C) = some false ∧ Err K C
  nn : PySem.W.kitOne K (.ref CN) (.ref CN) = some true
  nm : PySem.W.kitOne K (.ref CN) (.ref CM) = some false
  ns : PySem.W.kitOne K (.ref CN) (.ref CS) = some false
  mn : PySem.W.kitOne K (.ref CM) (.ref CN) = some false
  mm : PySem.W.kitOne K (.ref CM) (.ref CM) = some true
  ms : PySem.W.kitOne K (.ref CM) (.ref CS) = some false
  sn : PySem.W.kitOne K (.ref CS) (.ref CN) = some false
  sm : PySem.W.kitOne K (.ref CS) (.ref CM) = some false
  ss : PySem.W.kitOne K (.ref CS) (.ref CS) = some true
  fN : PySem.W.findIn K (.ref CN) "name" = some none
  fM : PySem.W.findIn K (.ref CM) "moment" = some none
  fS : PySem.W.findIn K (.ref CS) "at" = some none
section
variable {X : Cx}
theorem heard_gives {q : Str} {g CT CN CM CS : Addr} {cdg : Value} (R : Hrd X.K X.mg CT CN CM CS) : GivesTo X heardN "_law_heard" (defScope sHeard) g cdg (defBody sHeard) "_law_ask" q (TTh CN CM CS) := by
  intro f c' s H Q tl act hc h
  have TN := (R.te CN (by simp)).2.2.2
  have TM := (R.te CM (by simp)).2.2.2
  have TS := (R.te CS (by simp)).2.2.2
  have APP : True := trivial
  refine ⟨_, (pss_cons (ps_set (i := 1) scHeard.nd rfl (.inl rfl) pe_non)
      (pss_cons (ps_try_keep (X := (cxOf C8.CX0 X.prog X.w X.K X.mg X.base heardN "_law_heard" (defScope sHeard) g cdg X.A X.stack s H C8.E0).nox) (i := 2) (n := "error") (c := .ref CT)
        (tb := fun W D σ H => ∃ Ech : XK, (∀ cls d σ' H', Ech cls d H' → σ'.length = 4 → W cls d σ' H') ∧ σ[0]? = some (some (.ref f)) ∧ H c' = some (CodeO c' q) ∧ ∃ Q0 : VK, tl Ech H Q0 ∧ ∀ v H', Q0 v H' → D.nx σ H')
        rfl rfl rfl scHeard.nd rfl rfl ⟨rfl, by decide, .inl R.gT⟩ LamX.takes0 (fun W pn xe tk _ => ?_) (fun a pn => pss_one (ps_set (i := 1) scHeard.nd rfl (.inl rfl) (pv 2))))
      (pss_cons (ps_set (i := 3) scHeard.nd rfl (.inl rfl) (pe_lst pa_nil))
      (pss_cons (ps_if (pt_val (pe_callB (So.CallR.or call_isi call_isXo) (by rfl) R.isi (by decide +kernel) (pa_cons (pv 1) (pa_cons (pe_glob (v := .ref CN) rfl R.gN rfl) pa_nil)))) (pss_one (ps_expr (pe_bm PySem.F.plainAttrs_list PySem.F.slot_list_append PySem.F.type_list_append mt_append (pv 3) (pa_cons (pe_tup (pa_cons pe_str (pa_cons (pe_xo TN R.fN (pv 1)) pa_nil))) pa_nil)))) pss_nil)
      (pss_cons (ps_if (pt_val (pe_callB (So.CallR.or call_isi call_isXo) (by rfl) R.isi (by decide +kernel) (pa_cons (pv 1) (pa_cons (pe_glob (v := .ref CM) rfl R.gM rfl) pa_nil)))) (pss_one (ps_expr (pe_bm PySem.F.plainAttrs_list PySem.F.slot_list_append PySem.F.type_list_append mt_append (pv 3) (pa_cons (pe_tup (pa_cons pe_str (pa_cons (pe_xo TM R.fM (pv 1)) pa_nil))) pa_nil)))) pss_nil)
      (pss_cons (ps_if (pt_val (pe_callB (So.CallR.or call_isi call_isXo) (by rfl) R.isi (by decide +kernel) (pa_cons (pv 1) (pa_cons (pe_glob (v := .ref CS) rfl R.gS rfl) pa_nil)))) (pss_one (ps_expr (pe_bm PySem.F.plainAttrs_list PySem.F.slot_list_append PySem.F.type_list_append mt_append (pv 3) (pa_cons (pe_tup (pa_cons pe_str (pa_cons (pe_xo TS R.fS (pv 1)) pa_nil))) pa_nil)))) pss_nil)
      (pss_cons (ps_if (pt_cmpR op_isN (pv 1) pe_non (nomark _)) (pss_one (ps_ret pe_non)) pss_nil)
      (pss_one (ps_ret (pe_ifExp (PW.pt (pw_and (pt_cmpR op_eq (pe_callB call_len_seq (by rfl) R.len PySem.boot_len (pa_cons (pv 3) pa_nil)) pe_int (nomark _))
        (pw_and1 (pt_val (pe_callB call_isXo (by rfl) R.isi (by decide +kernel) (pa_cons (pv 1) (pa_cons (pe_bltn (v := .ty "ValueError") (by rfl) R.gV (by decide +kernel) rfl) pa_nil)))))))
      (pe_ix ix_list (pv 3) pe_int (fun _ _ => rfl)) (pe_tup (pa_cons pe_str pa_nil)))))))))))), ?_⟩
  · refine ⟨fun pins s' σ H' D I h' => ?_⟩
    obtain ⟨Ech, hW, h1, h2, Q0, h3, h4⟩ := h'
    exact (pss_one (ps_expr (pe_imp (act (fun c d σ H => σ.length = 4 → W c d σ H) pn xe Ech _ _ (takes_len tk) hW)))).run pins s' σ H' D I ⟨Q0, ⟨h1, h2, h3⟩, fun v H'' z => h4 v H'' z⟩
  · refine ⟨EchS CN CM CS Q, fun cls d σ' H' ⟨wd, C, fl, v, dd, k3, e1, e2, e3, q3⟩ hl => ?_, rfl, hc, QnS Q, h, fun v H' z => ?_⟩
    · obtain ⟨x0, x1, x2, x3, rfl⟩ : ∃ x0 x1 x2 x3, σ' = [x0, x1, x2, x3] := by
        match σ', hl with
        | [x0, x1, x2, x3], _ => exact ⟨x0, x1, x2, x3, rfl⟩
      subst e1 e2
      have hC : C ∈ [CN, CM, CS] := by
        rcases k3 with ⟨_, rfl, _⟩ | ⟨_, rfl, _⟩ | ⟨_, rfl, _⟩ <;> simp
      obtain ⟨tE, tV, tNo, tEr⟩ := R.te C hC
      refine ⟨true, tE, fun _ a ha => ?_, fun y => nomatch y⟩
      refine ⟨_, rfl, by show 0 ≤ sizeLine; decide, fun p hp => ?_⟩
      have s0 : Same H' (upd H' a (Xo (.ref C) (some dd) a)) := same_upd0 ha
      have s1 := s0.trans (same_upd0 (o := .lst []) hp)
      have HA : (upd (upd H' a (Xo (.ref C) (some dd) a)) p (.lst [])) a = some (Xo (.ref C) (some dd) a) := same_upd0 hp _ _ upd_same
      have HD : (upd (upd H' a (Xo (.ref C) (some dd) a)) p (.lst [])) dd = some (.xd [(fl, v)]) := s1 _ _ e3
      have HP : (upd (upd H' a (Xo (.ref C) (some dd) a)) p (.lst [])) p = some (.lst []) := upd_same
      have hpn : H' p = none := s0.free hp
      revert s1 HA HD HP
      generalize upd (upd H' a (Xo (.ref C) (some dd) a)) p (.lst []) = H1
      intro s1 HA HD HP
      rcases k3 with ⟨rfl, rfl, rfl⟩ | ⟨rfl, rfl, rfl⟩ | ⟨rfl, rfl, rfl⟩
      · refine ⟨_, rfl, .inr ⟨a, _, dd, _, _, _, true, rfl, HA, HD, tEr, .own _, R.nn, _, rfl, iteT ?_⟩⟩
        refine ⟨_, rfl, .inl ⟨rfl, _, SqL.of HP⟩, _, rfl, a, dd, _, v, rfl, HA, HD, by simp [List.lookup], by show 2 ≤ sizeLine; decide, fun r hr => ?_⟩
        have s2 := same_upd0 (o := .tup [.str "name", v]) hr
        refine ⟨p, _, _, rfl, rfl, s2 _ _ HP, by show 0 < sizeLine; decide, ?_⟩
        have nrp : r ≠ p := fun y => by rw [y, HP] at hr; cases hr
        have nap : a ≠ p := fun y => by rw [y, HP] at HA; cases HA
        have ndp : dd ≠ p := ne_of HD HP (fun y => nomatch y)
        have HA3 := (upd_ne (o := HO.lst [.ref r]) nap).trans (s2 _ _ HA)
        have HD3 := (upd_ne (o := HO.lst [.ref r]) ndp).trans (s2 _ _ HD)
        refine ⟨_, rfl, .inr ⟨a, _, dd, _, _, _, false, rfl, HA3, HD3, tEr, .own CM, R.nm, _, rfl, iteF ?_⟩⟩
        refine ⟨_, rfl, .inr ⟨a, _, dd, _, _, _, false, rfl, HA3, HD3, tEr, .own CS, R.ns, _, rfl, iteF ?_⟩⟩
        refine ⟨_, rfl, rfl, _, rfl, ite2 (fun y => nomatch (of_decide_eq_true y)) (fun _ => ?_)⟩
        refine ⟨_, rfl, p, _, rfl, .inl (SqL.of upd_same), rfl, _, rfl, ite2 (fun _ => ?_) (fun y => absurd (decide_eq_true rfl) y)⟩
        refine ⟨_, rfl, a, _, dd, _, _, _, true, rfl, HA3, HD3, tEr, .ty "ValueError", tV, _, rfl, iteT ?_⟩
        refine ⟨_, rfl, p, _, 0, _, rfl, rfl, SqL.of upd_same, atI_nat (j := 0) rfl, q3 _ r (fun b o y => ?_) ((upd_ne nrp).trans upd_same)⟩
        exact (upd_ne (ne_of_none y hpn)).trans (s2 _ _ (s1 _ _ y))
      · refine ⟨_, rfl, .inr ⟨a, _, dd, _, _, _, false, rfl, HA, HD, tEr, .own CN, R.mn, _, rfl, iteF ?_⟩⟩
        refine ⟨_, rfl, .inr ⟨a, _, dd, _, _, _, true, rfl, HA, HD, tEr, .own _, R.mm, _, rfl, iteT ?_⟩⟩
        refine ⟨_, rfl, .inl ⟨rfl, _, SqL.of HP⟩, _, rfl, a, dd, _, v, rfl, HA, HD, by simp [List.lookup], by show 2 ≤ sizeLine; decide, fun r hr => ?_⟩
        have s2 := same_upd0 (o := .tup [.str "moment", v]) hr
        refine ⟨p, _, _, rfl, rfl, s2 _ _ HP, by show 0 < sizeLine; decide, ?_⟩
        have nrp : r ≠ p := fun y => by rw [y, HP] at hr; cases hr
        have nap : a ≠ p := fun y => by rw [y, HP] at HA; cases HA
        have ndp : dd ≠ p := ne_of HD HP (fun y => nomatch y)
        have HA3 := (upd_ne (o := HO.lst [.ref r]) nap).trans (s2 _ _ HA)
        have HD3 := (upd_ne (o := HO.lst [.ref r]) ndp).trans (s2 _ _ HD)
        refine ⟨_, rfl, .inr ⟨a, _, dd, _, _, _, false, rfl, HA3, HD3, tEr, .own CS, R.ms, _, rfl, iteF ?_⟩⟩
        refine ⟨_, rfl, rfl, _, rfl, ite2 (fun y => nomatch (of_decide_eq_true y)) (fun _ => ?_)⟩
        refine ⟨_, rfl, p, _, rfl, .inl (SqL.of upd_same), rfl, _, rfl, ite2 (fun _ => ?_) (fun y => absurd (decide_eq_true rfl) y)⟩
        refine ⟨_, rfl, a, _, dd, _, _, _, true, rfl, HA3, HD3, tEr, .ty "ValueError", tV, _, rfl, iteT ?_⟩
        refine ⟨_, rfl, p, _, 0, _, rfl, rfl, SqL.of upd_same, atI_nat (j := 0) rfl, q3 _ r (fun b o y => ?_) ((upd_ne nrp).trans upd_same)⟩
        exact (upd_ne (ne_of_none y hpn)).trans (s2 _ _ (s1 _ _ y))
      · refine ⟨_, rfl, .inr ⟨a, _, dd, _, _, _, false, rfl, HA, HD, tEr, .own CN, R.sn, _, rfl, iteF ?_⟩⟩
        refine ⟨_, rfl, .inr ⟨a, _, dd, _, _, _, false, rfl, HA, HD, tEr, .own CM, R.sm, _, rfl, iteF ?_⟩⟩
        refine ⟨_, rfl, .inr ⟨a, _, dd, _, _, _, true, rfl, HA, HD, tEr, .own _, R.ss, _, rfl, iteT ?_⟩⟩
        refine ⟨_, rfl, .inl ⟨rfl, _, SqL.of HP⟩, _, rfl, a, dd, _, v, rfl, HA, HD, by simp [List.lookup], by show 2 ≤ sizeLine; decide, fun r hr => ?_⟩
        have s2 := same_upd0 (o := .tup [.str "entry", v]) hr
        refine ⟨p, _, _, rfl, rfl, s2 _ _ HP, by show 0 < sizeLine; decide, ?_⟩
        have nrp : r ≠ p := fun y => by rw [y, HP] at hr; cases hr
        have nap : a ≠ p := fun y => by rw [y, HP] at HA; cases HA
        have ndp : dd ≠ p := ne_of HD HP (fun y => nomatch y)
        have HA3 := (upd_ne (o := HO.lst [.ref r]) nap).trans (s2 _ _ HA)
        have HD3 := (upd_ne (o := HO.lst [.ref r]) ndp).trans (s2 _ _ HD)
        refine ⟨_, rfl, rfl, _, rfl, ite2 (fun y => nomatch (of_decide_eq_true y)) (fun _ => ?_)⟩
        refine ⟨_, rfl, p, _, rfl, .inl (SqL.of upd_same), rfl, _, rfl, ite2 (fun _ => ?_) (fun y => absurd (decide_eq_true rfl) y)⟩
        refine ⟨_, rfl, a, _, dd, _, _, _, true, rfl, HA3, HD3, tEr, .ty "ValueError", tV, _, rfl, iteT ?_⟩
        refine ⟨_, rfl, p, _, 0, _, rfl, rfl, SqL.of upd_same, atI_nat (j := 0) rfl, q3 _ r (fun b o y => ?_) ((upd_ne nrp).trans upd_same)⟩
        exact (upd_ne (ne_of_none y hpn)).trans (s2 _ _ (s1 _ _ y))
    · refine ⟨by show 0 ≤ sizeLine; decide, fun p hp => ?_⟩
      refine ⟨_, rfl, .inl ⟨_, _, _, _, false, rfl, .own CN, .base .non, (R.te CN (by simp)).2.2.1, _, rfl, iteF ?_⟩⟩
      refine ⟨_, rfl, .inl ⟨_, _, _, _, false, rfl, .own CM, .base .non, (R.te CM (by simp)).2.2.1, _, rfl, iteF ?_⟩⟩
      refine ⟨_, rfl, .inl ⟨_, _, _, _, false, rfl, .own CS, .base .non, (R.te CS (by simp)).2.2.1, _, rfl, iteF ?_⟩⟩
      exact ⟨_, rfl, rfl, _, rfl, ite2 (fun _ => z _ (Same.over (Same.refl H') hp)) (fun e => absurd (decide_eq_true rfl) e)⟩
end
end K63

namespace K63
open PySem PySem.Spec PyProof.Rows L2 So
abbrev sParts : Stmt := topS 56
theorem scParts : FnScope ["_law_pen_here", "_law_pool", "_law_ticks"] ["_law_pen_here"] (defScope sParts) := ⟨rfl, rfl, rfl, by decide +kernel, rfl, by decide +kernel, by decide +kernel⟩
theorem pen_same {H H' : Hp} {p l : Addr} {ns : List Int} {n : Nat} {g : Int} (h : Pen H p l ns n g) (s : Same H H') : Pen H' p l ns n g := ⟨s _ _ h.pen, s _ _ h.cells, h.left⟩
def pool : List Str := ["a", "b", "ab", "b0", "z", "std", "abcdefgh", "a1234567"]
theorem pool_ok : ∀ z ∈ pool, isName z = true := by decide +kernel
section
variable {P : Program} {w : World} {K : PySem.W.Frag} {mg : Str → Option Value} {base : Heap}
def spParts : Sp := fun vs H Q _ => ∃ (p l : Addr) (ns : List Int) (n : Nat) (g : Int), vs = [.ref p] ∧ Pen H p l ns n g ∧ n < 900000 ∧
  ∀ (z : Str) (m : Int) (y : Str) (n' : Nat) (g' : Int) (H' : Hp) (t : Addr), Ok3 z m y → n' ≤ n + 5 → Off p H H' → Pen H' p l ns n' g' → t ≠ p → H' t = some (.tup (x3 z m y)) → Q (.ref t) H'
theorem ok_parts {f fD fP : Addr} {fd fdD fdP : FuncData} (F : Fun K "_law_parts" "_law_parts" sParts f fd)
    (FD : Fun K "_law_draw" "_law_draw" sDraw fD fdD) (bD : Binds K fdD ["_law_pen_here", "_law_many"] []) (gD : mg "_law_draw" = some (.ref fD)) (GD : FnOk P w K mg base CX0 1 fD fdD ["_law_pen_here", "_law_many"] spDraw)
    (FP : Fun K "_law_pick" "_law_pick" sPick fP fdP) (bP : Binds K fdP ["_law_pen_here", "_law_some"] []) (gP : mg "_law_pick" = some (.ref fP)) (GP : FnOk P w K mg base CX0 2 fP fdP ["_law_pen_here", "_law_some"] (spPick K)) :
    FnOk P w K mg base CX0 3 f fd ["_law_pen_here"] spParts := by
  refine F.ok scParts (fun vs H Q E h => ?_) (fun cdv A outer s H vs Q E hr h => ?_)
  · obtain ⟨_, _, _, _, _, rfl, _⟩ := h
    rfl
  · obtain ⟨p, l, ns, n, g, rfl, hp, hn, q⟩ := h
    have hr1 : Room 1 _ := hr.mono (by decide)
    have pow30 : (10 : Int) ^ (Int.toNat 30) = 1000000000000000000000000000000 := by decide
    refine ⟨_, pss_cons (ps_set (i := 1) scParts.nd rfl (.inl rfl) (pe_lst (pa_cons pe_str (pa_cons pe_str (pa_cons pe_str (pa_cons pe_str (pa_cons pe_str (pa_cons pe_str (pa_cons pe_str (pa_cons pe_str pa_nil))))))))))
      (pss_cons (ps_set (i := 2) scParts.nd rfl (.inl rfl) (pe_lst (pa_cons pe_int (pa_cons pe_int (pa_cons pe_int (pa_cons (pe_call GD hr1 (by rfl) gD FD.kp bD .nil pass0 (pa_cons (pv 0) (pa_cons pe_int pa_nil))) (pa_cons (pe_op op_pow pe_int pe_int) (pa_cons (pe_op op_sub (pe_op op_pow pe_int pe_int) pe_int) (pa_cons (pe_call GD hr1 (by rfl) gD FD.kp bD .nil pass0 (pa_cons (pv 0) (pa_cons (pe_op op_pow pe_int pe_int) pa_nil))) pa_nil)))))))))
      (pss_one (ps_ret (pe_tup (pa_cons (pe_call GP hr (by rfl) gP FP.kp bP .nil pass0 (pa_cons (pv 0) (pa_cons (pv 1) pa_nil))) (pa_cons (pe_call GP hr (by rfl) gP FP.kp bP .nil pass0 (pa_cons (pv 0) (pa_cons (pv 2) pa_nil))) (pa_cons (pe_call GP hr (by rfl) gP FP.kp bP .nil pass0 (pa_cons (pv 0) (pa_cons (pv 1) pa_nil))) pa_nil))))))), ?_⟩
    refine ⟨by show 8 ≤ sizeLine; decide, fun q1 h1 => ?_⟩
    have s1 := same_upd0 (o := .lst (pool.map V.str)) h1
    have n1 : q1 ≠ p := (ne_of_none hp.pen h1).symm
    have e1 : (L2.upd H q1 (.lst (pool.map V.str))) q1 = some (.lst (pool.map V.str)) := upd_same
    have pen1 := pen_same hp s1
    show tSeq _ _ _ _ (L2.upd H q1 (.lst (pool.map V.str)))
    revert s1 e1 pen1
    generalize L2.upd H q1 (.lst (pool.map V.str)) = H1
    intro s1 e1 pen1
    refine ⟨_, rfl, p, l, ns, n, g, 9, rfl, pen1, by omega, by decide, by decide, fun d n2 g2 H2 d0 d1 hn2 off2 pen2 => ?_⟩
    refine ⟨_, _, rfl, rfl, ⟨by decide, by decide, by decide⟩, _, _, rfl, rfl, ⟨by decide, by decide, by decide⟩, _, _, rfl, rfl, ?_⟩
    refine ⟨_, rfl, _, _, rfl, rfl, ⟨by decide, by decide, by decide⟩, p, l, ns, n2, g2, _, rfl, pen2, by omega, by decide, by decide, fun d' n3 g3 H3 d0' d1' hn3 off3 pen3 => ?_⟩
    refine ⟨by show 7 ≤ sizeLine; decide, fun q2 h2 => ?_⟩
    rw [pow30] at d1'
    obtain ⟨tk, etk, hl, htk⟩ : ∃ tk : List V, tk = [V.int 0, V.int 1, V.int 2, V.int d, V.int ((10 : Int) ^ (Int.toNat 30)), V.int ((10 : Int) ^ (Int.toNat 30) - 1), V.int d'] ∧ tk.length = 7 ∧ ∀ v ∈ tk, ∃ m : Int, (0 ≤ m ∧ m ≤ 1000000000000000000000000000000) ∧ v = .int m := by
      refine ⟨_, rfl, rfl, fun v hv => ?_⟩
      rw [pow30] at hv
      simp only [List.mem_cons, List.not_mem_nil, or_false] at hv
      rcases hv with h | h | h | h | h | h | h <;> subst h
      · exact ⟨_, ⟨by decide, by decide⟩, rfl⟩
      · exact ⟨_, ⟨by decide, by decide⟩, rfl⟩
      · exact ⟨_, ⟨by decide, by decide⟩, rfl⟩
      · exact ⟨_, ⟨d0, by omega⟩, rfl⟩
      · exact ⟨_, ⟨by decide, by decide⟩, rfl⟩
      · exact ⟨_, ⟨by decide, by decide⟩, rfl⟩
      · exact ⟨_, ⟨d0', by omega⟩, rfl⟩
    have s3 := same_upd0 (o := .lst tk) h2
    have n2' : q2 ≠ p := (ne_of_none pen3.pen h2).symm
    have e2 : (L2.upd H3 q2 (.lst tk)) q2 = some (.lst tk) := upd_same
    have e1' := s3 _ _ (off3 _ _ n1 (off2 _ _ n1 e1))
    have pen4 := pen_same pen3 s3
    have off4 : Off p H (L2.upd H3 q2 (.lst tk)) := fun b o nb e => s3 _ _ (off3 _ _ nb (off2 _ _ nb (s1 _ _ e)))
    show gName 2 (V.ref q2) _ (L2.upd H3 q2 (.lst [V.int 0, V.int 1, V.int 2, V.int d, V.int ((10 : Int) ^ (Int.toNat 30)), V.int ((10 : Int) ^ (Int.toNat 30) - 1), V.int d'])) _
    rw [← etk]
    revert e2 e1' pen4 off4
    generalize L2.upd H3 q2 (.lst tk) = H4
    intro e2 e1' pen4 off4
    clear s3 h2 etk d0 d1 d0' d1' off2 off3 pen2 pen3 e1 s1
    refine ⟨_, rfl, _, rfl, p, l, ns, n3, g3, _, rfl, pen4, by omega, .inl ⟨q1, _, rfl, n1, e1', by decide, by decide, fun v n5 g5 H5 hv hn5 off5 pen5 => ?_⟩⟩
    obtain ⟨z, hz, rfl⟩ := List.mem_map.mp hv
    refine ⟨_, rfl, _, rfl, p, l, ns, n5, g5, _, rfl, pen5, by omega, .inl ⟨q2, _, rfl, n2', off5 _ _ n2' e2, by omega, by omega, fun v' n6 g6 H6 hv' hn6 off6 pen6 => ?_⟩⟩
    obtain ⟨m, hm, rfl⟩ := htk _ hv'
    refine ⟨_, rfl, _, rfl, p, l, ns, n6, g6, _, rfl, pen6, by omega, .inl ⟨q1, _, rfl, n1, off6 _ _ n1 (off5 _ _ n1 e1'), by decide, by decide, fun v'' n7 g7 H7 hv'' hn7 off7 pen7 => ?_⟩⟩
    obtain ⟨y, hy, rfl⟩ := List.mem_map.mp hv''
    refine ⟨by show 3 ≤ sizeLine; decide, fun t ht => ?_⟩
    have s8 := same_upd0 (o := .tup (x3 z m y)) ht
    exact q z m y n7 g7 _ t ⟨pool_ok z hz, hm, pool_ok y hy⟩ (by omega) (fun b o nb e => s8 _ _ (off7 _ _ nb (off6 _ _ nb (off5 _ _ nb (off4 _ _ nb e))))) (pen_same pen7 s8) (ne_of_none pen7.pen ht).symm upd_same
end
end K63

namespace So
open PySem PySem.Spec PyProof.Rows L2 LamX
/-- the law's call, its tables of code objects and the guards told -/
theorem law_callTGs {P : Program} {w : World} {K : PySem.W.Frag} {mg mb : Str → Option Value} {CX : CXT} {k : Nat} {fa a : Addr} {cs : List (Addr × Addr)} {fd : FuncData} {x : Str} {sp : Sp} {s₁ : Shared} {vs : List Value} {ns : List Int}
    (KX : K.In s₁.heap) (hns : s₁.heap.Ns mainGlobals mg) (hb : s₁.heap.Ns builtinsNs mb) (hbb : ∀ x : Str, x ≠ "__name__" → mb x = bootBuiltins x) (hlim : s₁.heap.NoLimit) (hg : s₁.gens = #[])
    (tabs : ∀ q ∈ cs, s₁.heap.get? q.2 = some { cls := .none, data := .fields #[] } ∧ K.lookup q.2 = none ∧ PySem.W.CodeHd s₁.heap q.1 q.2)
    (mod : ∃ (bm : Addr) (ob : Obj), mg "__builtins__" = some (.ref bm) ∧ bm ≠ builtinsNs ∧ s₁.heap.get? bm = some ob ∧ ob.cls = .type "module" ∧ ob.dict = some builtinsNs ∧ ob.data = .plain)
    (ha : s₁.heap.get? a = some { cls := .type "list", data := .seq vs.toArray }) (hi : IntsAre vs ns) (hl : ns.length ≤ sizeLine) (hr : Room k callerA)
    (F : ∀ base : Heap, K.In base → base.Ns mainGlobals mg → (∀ q ∈ cs, TabB base mg q.1 q.2) → FnG P w K mg base CX k fa fd [x] sp) (hbind : ∀ (s : Shared) (u : Value), BindsTo s fd ⟨[u], []⟩ [(x, u)])
    (hsp : ∀ H : Hp, (∀ q ∈ cs, H q.2 = some (.tbl #[])) → SqL K H a (ns.map V.int) → sp [.ref a] H (fun v _ => v = .bl true) fun _ _ _ => False)
    (hCX : ∀ H e s', CX [] H s₁ (fun _ _ _ => False) e s' → False) :
    codeAny (model P w) callerA (.call (.ref fa) ⟨[.ref a], []⟩) (fun r s' => r = .ok (.ret (.bool true)) ∧ OldK s₁.heap s'.heap ∧ s'.os = s₁.os ∧ AllBare s'.gens) s₁ := by
  have tab : ∀ {T : Addr}, (∃ q ∈ cs, q.2 = T) → s₁.heap.get? T = some { cls := .none, data := .fields #[] } := fun ⟨q, hq, e⟩ => e ▸ (tabs q hq).1
  have noT : ∀ {T : Addr}, (∃ q ∈ cs, q.2 = T) → K.lookup T = none := fun ⟨q, hq, e⟩ => e ▸ (tabs q hq).2.1
  have aT : ¬ ∃ q ∈ cs, q.2 = a := fun z => by
    rw [tab z] at ha
    have := congrArg Obj.data (Option.some.inj ha)
    cases this
  -- what may be tracked at the start: the table, and the script where the written part does not hold it
  have go : ∀ H : Hp, (∀ q ∈ cs, H q.2 = some (.tbl #[])) → (∀ b u, H b = some u → (∃ q ∈ cs, q.2 = b) ∨ (b = a ∧ K.lookup a = none ∧ ∃ o xs, u = .frz o (.lst xs))) → SqL K H a (ns.map V.int) → HOk P w H s₁.heap →
      codeAny (model P w) callerA (.call (.ref fa) ⟨[.ref a], []⟩) (fun r s' => r = .ok (.ret (.bool true)) ∧ OldK s₁.heap s'.heap ∧ s'.os = s₁.os ∧ AllBare s'.gens) s₁ := by
    intro H hT hA hS hok
    -- an object that is neither the script's list nor the table stands in the base
    have free : ∀ {b : Addr} {o : Obj}, s₁.heap.get? b = some o → (∀ vs n, o.data ≠ .seq vs n) → o.data ≠ .fields #[] → H b = none := by
      intro b o e h1 h2
      cases q : H b with
      | none => rfl
      | some u =>
        rcases hA b u q with hb | ⟨rfl, _⟩
        · rw [tab hb] at e
          cases e
          exact absurd rfl h2
        · rw [ha] at e
          cases e
          exact absurd rfl (h1 _ _)
    have toBase : ∀ {b : Addr} {o : Obj}, s₁.heap.get? b = some o → H b = none → (hidT s₁.heap H).get? b = some o := fun e n => hidT_get e n
    have nsB : ∀ {b : Addr} {m : Str → Option Value}, s₁.heap.Ns b m → (hidT s₁.heap H).Ns b m := by
      rintro b m ⟨o, es, ep, e, d, r⟩
      have n : H b = none := by
        refine free e ?_ ?_
        · intro vs n z
          rw [d] at z
          cases z
        · intro z
          rw [d] at z
          cases z
      exact ⟨o, es, ep, toBase e n, d, r⟩
    have kin : K.In (hidT s₁.heap H) := by
      intro b o e
      refine toBase (KX b o e) ?_
      cases q : H b with
      | none => rfl
      | some u =>
        rcases hA b u q with hb | ⟨rfl, z, _⟩
        · rw [noT hb] at e
          cases e
        · rw [z] at e
          cases e
    have lim2 : (hidT s₁.heap H).NoLimit := by
      obtain ⟨mc, h1, h2⟩ := hlim
      exact ⟨mc, nsB h1, h2⟩
    have TB : ∀ q ∈ cs, TabB (hidT s₁.heap H) mg q.1 q.2 := by
      rintro ⟨c, T⟩ hq
      have tab' : s₁.heap.get? T = some { cls := .none, data := .fields #[] } := tab ⟨_, hq, rfl⟩
      have cd : PySem.W.CodeHd s₁.heap c T := (tabs _ hq).2.2
      have gT : mainGlobals ≠ T := fun z => by
        obtain ⟨o, es, ep, e, d, _⟩ := hns
        rw [z, tab'] at e
        cases e
        cases d
      have cd2 : PySem.W.CodeHd (hidT s₁.heap H) c T := by
        obtain ⟨o, us, fl, tf, fg, tg, inF, tx, tt, e1, r1, r2, r3, r⟩ := cd
        refine ⟨o, us, fl, tf, fg, tg, inF, tx, tt, toBase e1 (free e1 ?_ ?_), r1, r2, r3, r⟩
        · intro vs n z
          rw [r2] at z
          cases z
        · intro z
          rw [r2] at z
          cases z
          simp at r3
      have bm2 : (hidT s₁.heap H).BuiltinsAt mg T := by
        obtain ⟨bm, ob, b1, b2, b3, b4, b5, b6⟩ := mod
        have n1 : bm ≠ mainGlobals := fun z => by
          obtain ⟨o, es, ep, e, d, _⟩ := hns
          rw [z, e] at b3
          cases b3
          rw [d] at b6
          cases b6
        have n2 : bm ≠ T := fun z => by
          rw [z, tab'] at b3
          cases b3
          cases b6
        refine ⟨bm, ob, b1, b2, n1, n2, toBase b3 (free b3 ?_ ?_), b4, b5, b6⟩
        · intro vs n z
          rw [b6] at z
          cases z
        · intro z
          rw [b6] at z
          cases z
      exact ⟨cd2, bm2, gT⟩
    have e0 : Env0 P w K mg (hidT s₁.heap H) callerA [] s₁ H := by
      refine ⟨rfl, ⟨kin, nsB hns, ⟨mb, nsB hb, hbb⟩, lim2⟩, fun b o e => of_hidT e, Nat.le_of_eq (hidT_size _ _), True.intro, ?_, hok, .of_eq hg⟩
      intro b hb
      cases hb
    refine codeAny_mono ((F _ kin (nsB hns) TB).runG callerA [] s₁ H ⟨[.ref a], []⟩ [.ref a] [.ref a] _ _ rfl hr e0 (hbind s₁ (.ref a)) (.cons rfl .nil) (hsp H hT hS)) fun r s' h => ?_
    match r, h with
    | .error e, h => exact (hCX H e s' h).elim
    | .ok .next, h => exact h.elim
    | .ok .brk, h => exact h.elim
    | .ok .cont, h => exact h.elim
    | .ok (.ret u), ⟨v, H', os, bare, un, hok', rv, q⟩ =>
      have q2 : v = .bl true := q
      subst q2
      cases rv
      have grown : ∀ {T : Addr}, (∃ q ∈ cs, q.2 = T) → ∃ more : Array Value, s'.heap.get? T = some { cls := .none, data := .fields (#[] ++ more) } := by
        rintro T ⟨q, hq, rfl⟩
        obtain ⟨more, hm⟩ := un.tbls q.2 #[] (hT q hq)
        exact ⟨more, hok' q.2 _ hm⟩
      have stay : ∀ b o, (¬ ∃ q ∈ cs, q.2 = b) → s₁.heap.get? b = some o → s'.heap.get? b = some o := by
        intro b o n e
        cases q : H b with
        | none => exact un.keep b o e q (fun z => nomatch z) (fun z => nomatch z)
        | some u =>
          rcases hA b u q with z | ⟨_, _, ob, xs, rfl⟩
          · exact absurd z n
          · have z1 := (hok b _ q).1
            have z2 := (hok' b _ (un.frzs b ob _ q)).1
            rw [z1] at e
            rw [z2, e]
      refine ⟨rfl, ⟨fun b o e => ?_, fun b o e => ?_⟩, os, bare⟩
      · by_cases n : ∃ q ∈ cs, q.2 = b
        · obtain ⟨more, hg⟩ := grown n
          have tb := tab n
          obtain ⟨q, hq, rfl⟩ := n
          rw [tb] at e
          cases e
          exact .inr (.inl ⟨((tabs q hq).2.2.tab tb).isCodeTable, rfl, #[], more, rfl, hg⟩)
        · exact .inl (stay b o n e)
      · by_cases n : ∃ q ∈ cs, q.2 = b
        · obtain ⟨more, hg⟩ := grown n
          exact ⟨_, hg⟩
        · exact ⟨o, stay b o n e⟩
  have rv := vals_ints hi
  have hlen : (ns.map V.int).length ≤ sizeLine := by rw [List.length_map]; exact hl
  cases hk : K.lookup a with
  | some o =>
    have e := KX a o hk
    rw [ha] at e
    cases e
    refine go (fun b => open Classical in if ∃ q ∈ cs, q.2 = b then some (.tbl #[]) else none) (fun q hq => if_pos ⟨q, hq, rfl⟩) (fun b u z => ?_) (Or.inr ⟨_, vs.toArray, _, hk, rfl, rfl, rfl, by rw [List.size_toArray, hi.length]; exact hl, by simpa using rv⟩) fun b u z => ?_
    · try dsimp only at z
      by_cases n : ∃ q ∈ cs, q.2 = b
      · exact Or.inl n
      · rw [if_neg n] at z
        cases z
    · try dsimp only at z
      by_cases n : ∃ q ∈ cs, q.2 = b
      · rw [if_pos n] at z
        cases z
        exact tab n
      · rw [if_neg n] at z
        cases z
  | none =>
    refine go (fun b => open Classical in if ∃ q ∈ cs, q.2 = b then some (.tbl #[]) else if b = a then some (.frz { cls := .type "list", data := .seq vs.toArray } (.lst (ns.map V.int))) else none) (fun q hq => if_pos ⟨q, hq, rfl⟩) (fun b u z => ?_) (Or.inl (Or.inr ⟨_, (if_neg aT).trans (if_pos rfl)⟩)) fun b u z => ?_
    · try dsimp only at z
      by_cases n : ∃ q ∈ cs, q.2 = b
      · exact Or.inl n
      · rw [if_neg n] at z
        by_cases n2 : b = a
        · rw [if_pos n2] at z
          cases z
          exact Or.inr ⟨n2, hk, _, _, rfl⟩
        · rw [if_neg n2] at z
          cases z
    · try dsimp only at z
      by_cases n : ∃ q ∈ cs, q.2 = b
      · rw [if_pos n] at z
        cases z
        exact tab n
      · rw [if_neg n] at z
        by_cases n2 : b = a
        · rw [if_pos n2] at z
          cases z
          rw [n2]
          exact ⟨ha, hlen, vs, _, rv, ha⟩
        · rw [if_neg n2] at z
          cases z
end So

/-! rules within a comprehension's block, the written part told -/
namespace So
open PySem PySem.Spec PyProof.Rows L2
section
variable {X : Cx} {K : PySem.W.Frag} {tg l e : Expr} {tl ta : TE} {f : Str} {pos : Pos}
theorem pi_tupK (h : X.K = K) (hl : PE X l tl) : PI X tg l (iTup K tl) := by
  subst h
  exact pi_tup hl
theorem pi_listK (h : X.K = K) (hl : PE X l tl) : PI X tg l (iList K tl) := by
  subst h
  exact pi_list hl
theorem pe_fldK (h : X.K = K) (he : PE X e ta) (hb : attributeBase e f X.env (eval e X.env) = eval e X.env) : PE X (.Attribute e f pos) (tFld K ta f) := by
  subst h
  exact pe_fld he hb
theorem ix_listK (h : X.K = K) : IxR X (rIxL K) := h ▸ ix_list
theorem ix_tupK (h : X.K = K) : IxR X (rIxT K) := h ▸ ix_tup
theorem op_inK (h : X.K = K) : OpR X (compareOp .In) (rIn K false) := by
  subst h
  exact op_in_seq
theorem op_notInK (h : X.K = K) : OpR X (compareOp .NotIn) (rIn K true) := by
  subst h
  exact op_notIn_seq
theorem lenK (h : X.K = K) : CallR X (.builtin "len") (fun xs H Q => ∃ (p : Addr) (ys : List V), xs = [V.ref p] ∧ (SqL K H p ys ∨ SqT K H p ys) ∧ Q (.int (ys.length : Nat)) H) := by
  subst h
  exact call_len_seq
end
end So

/-! repr of data with dicts: each thing's text built by itself, so that no more is asked of an address than that a dict is not the modules' own. -/
namespace So
open PySem PySem.Spec PyProof.Rows L2
mutual
/-- a value is this data; dicts with texts as keys may stand in it -/
inductive Dd (K : PySem.W.Frag) (H : Hp) : V → PyData → Prop
  | non : Dd K H .non .none
  | bl (b : Bool) : Dd K H (.bl b) (.bool b)
  | int (i : Int) : Dd K H (.int i) (.int i)
  | str (x : Str) : Dd K H (.str x) (.str x)
  | lst {a : Addr} {xs : List V} {ds : List PyData} (e : SqL K H a xs) (h : DdAll K H xs ds) : Dd K H (.ref a) (.list ds)
  | tup {a : Addr} {xs : List V} {ds : List PyData} (e : SqT K H a xs) (h : DdAll K H xs ds) : Dd K H (.ref a) (.tuple ds)
  | dct {a : Addr} {kvs : List (Key × V)} {ds : List (PyData × PyData)} (e : H a = some (.dK kvs)) (h : DdKv K H kvs ds) : Dd K H (.ref a) (.dict ds)
inductive DdAll (K : PySem.W.Frag) (H : Hp) : List V → List PyData → Prop
  | nil : DdAll K H [] []
  | cons {v : V} {vs : List V} {d : PyData} {ds : List PyData} (h : Dd K H v d) (t : DdAll K H vs ds) : DdAll K H (v :: vs) (d :: ds)
inductive DdKv (K : PySem.W.Frag) (H : Hp) : List (Key × V) → List (PyData × PyData) → Prop
  | nil : DdKv K H [] []
  | cons {k : Str} {v : V} {r : List (Key × V)} {d : PyData} {ds : List (PyData × PyData)} (h : Dd K H v d) (t : DdKv K H r ds) : DdKv K H ((Sum.inr k, v) :: r) ((.str k, d) :: ds)
end
section
variable {X : Cx} {pins : List (Addr × Obj)} {σ : L2.St} {H : Hp} {s : Shared}
/-- a thing in memory that shows so -/
def ShK (X : Cx) (h : Heap) (u : Value) (d : PyData) : Prop := ∃ as bs, Reads h u d as ∧ ReadAtMost h d.depth bs ∧ ReprK X.prog X.w bs h d.depth u d.shown
def ShAll (X : Cx) (h : Heap) (us : List Value) (ds : List PyData) : Prop := ∃ as bs, ReadsAll h us ds as ∧ ReadAtMost h (PyData.depthAll ds) bs ∧ ReprAllK X.prog X.w bs h (PyData.depthAll ds) us (PyData.shownAll ds)
theorem shAll_cons {h : Heap} {u : Value} {us : List Value} {d : PyData} {ds : List PyData} (a : ShK X h u d) (b : ShAll X h us ds) : ShAll X h (u :: us) (d :: ds) := by
  obtain ⟨as1, b1, r1, hb1, k1⟩ := a
  obtain ⟨as2, b2, r2, hb2, k2⟩ := b
  refine ⟨_, b1 ++ b2, .cons r1 r2, ?_, ?_⟩
  · intro b hm
    simp only [PyData.depthAll]
    rcases List.mem_append.mp hm with hm | hm
    · obtain ⟨d', as', r', hd'⟩ := hb1 b hm
      exact ⟨d', as', r', Nat.le_trans hd' (Nat.le_max_left _ _)⟩
    · obtain ⟨d', as', r', hd'⟩ := hb2 b hm
      exact ⟨d', as', r', Nat.le_trans hd' (Nat.le_max_right _ _)⟩
  · simp only [PyData.depthAll, PyData.shownAll]
    exact .cons ((k1.more fun b hb => List.mem_append_left _ hb).level_le (Nat.le_max_left _ _)) (k2.more_le (fun b hb => List.mem_append_right _ hb) (Nat.le_max_right _ _))
theorem shAll_nil {h : Heap} : ShAll X h [] [] := ⟨_, [], .nil, (fun _ h => nomatch h), by simp only [PyData.shownAll]; exact .nil⟩
mutual
theorem Dd.sh (I : Inv X pins σ H s) : ∀ (d : PyData) (v : V) (u : Value), Dd X.K H v d → RelV v u → d.showable = true → d.shown.length ≤ sizeLine → ShK X s.heap u d
  | .none, _, _, h, r, _, _ => by
    cases h
    cases r
    exact ⟨_, [], .none, (fun _ h => nomatch h), by simp only [PyData.shown]; exact .of_is ReprIs.none _ _ _⟩
  | .bool b, _, _, h, r, _, _ => by
    cases h
    cases r
    exact ⟨_, [], .bool b, (fun _ h => nomatch h), by simp only [PyData.shown]; exact .of_is (ReprIs.bool b) _ _ _⟩
  | .int i, _, _, h, r, hs, _ => by
    cases h
    obtain ⟨t, rfl⟩ := r
    exact ⟨_, [], .int i t, (fun _ h => nomatch h), by simp only [PyData.shown]; exact .of_is (ReprIs.int t (by simpa [PyData.showable] using hs)) _ _ _⟩
  | .str x, _, _, h, r, _, hz => by
    cases h
    obtain ⟨t, rfl⟩ := r
    exact ⟨_, [], .str x t, (fun _ h => nomatch h), by simp only [PyData.shown]; exact .of_is (ReprIs.str x t (by simpa only [PyData.shown] using hz)) _ _ _⟩
  | .list ds, _, _, h, r, hs, hz => by
    cases h with
    | @lst a xs _ e hall =>
      cases r
      have hz' : (listText (PyData.shownAll ds)).length ≤ sizeLine := by simpa only [PyData.shown] using hz
      obtain ⟨its, rv, ⟨o, n, h1, h2, _, h3⟩, _⟩ := I.list e
      obtain ⟨as, bs, rd, hb, hk⟩ := DdAll.sh I ds xs its hall rv (by simpa [PyData.showable] using hs) (fun t ht => Nat.le_trans (listText_mem_le ht) hz')
      have rr : Reads s.heap (.ref a) (.list ds) _ := .list h1 h2 h3 rd
      have hna : a ∉ bs := not_mem_of_deeper rr (by simp only [PyData.depth]; omega) hb
      refine ⟨_, a :: bs, rr, ReadAtMost.cons rr (by simp only [PyData.depth]; omega) hb, ?_⟩
      simp only [PyData.depth, PyData.shown]
      cases its with
      | nil =>
        cases rd
        simp only [PyData.shownAll, listText_nil]
        exact ReprK.listEmpty h1 h2 h3
      | cons x l => exact ReprK.list h1 h2 h3 hna (by simpa using hk.length_eq) (fun i y e => hk.item i y (by simpa using e))
  | .tuple ds, _, _, h, r, hs, hz => by
    cases h with
    | @tup a xs _ e hall =>
      cases r
      have hz' : (tupleText (PyData.shownAll ds)).length ≤ sizeLine := by simpa only [PyData.shown] using hz
      obtain ⟨its, rv, ⟨o, h1, h2, n, h3⟩, _⟩ := I.tuple e
      obtain ⟨as, bs, rd, hb, hk⟩ := DdAll.sh I ds xs its hall rv (by simpa [PyData.showable] using hs) (fun t ht => Nat.le_trans (tupleText_mem_le ht) hz')
      have rr : Reads s.heap (.ref a) (.tuple ds) _ := .tuple h1 h2 h3 rd
      have hna : a ∉ bs := not_mem_of_deeper rr (by simp only [PyData.depth]; omega) hb
      refine ⟨_, a :: bs, rr, ReadAtMost.cons rr (by simp only [PyData.depth]; omega) hb, ?_⟩
      simp only [PyData.depth, PyData.shown]
      exact ReprK.tuple h1 h2 h3 hna hk
  | .dict ds, _, _, h, r, hs, hz => by
    cases h with
    | @dct a kvs _ e hall =>
      cases r
      have hz' : (dictText (PyData.shownKv ds)).length ≤ sizeLine := by simpa only [PyData.shown] using hz
      obtain ⟨_, hsys, vs, hk, hD⟩ : kvs.length ≤ sizeLine ∧ (a == sysModules) = false ∧ ∃ vs, KV kvs vs ∧ s.heap.DictOf (mixKind X.prog X.w) a vs := I.hok a _ e
      obtain ⟨o, es, ep, h1, h2, h3, _, e5, _⟩ := hD
      obtain ⟨hs1, hs2⟩ := PyData.showableKv_split ds (by simpa [PyData.showable] using hs)
      obtain ⟨⟨as1, b1, r1, hb1, k1⟩, as2, b2, r2, hb2, k2⟩ := DdKv.sh I ds kvs vs es.toList hall hk e5 hs1 hs2
        (fun t ht => let ⟨p, hp, hl⟩ := PyData.shownKv_key_le ds t ht; Nat.le_trans hl (Nat.le_trans (dictText_mem_le hp) hz')) (fun t ht => let ⟨p, hp, hl⟩ := PyData.shownKv_val_le ds t ht; Nat.le_trans hl (Nat.le_trans (dictText_mem_le hp) hz'))
      have rr : Reads s.heap (.ref a) (.dict ds) _ := .dict h1 h2.1 h3 r1 r2
      have hb : ReadAtMost s.heap (PyData.depthKv ds) (b1 ++ b2) := (hb1.mono (PyData.depthAll_keys_le ds)).append (hb2.mono (PyData.depthAll_vals_le ds))
      have hna : a ∉ b1 ++ b2 := not_mem_of_deeper rr (by simp only [PyData.depth]; omega) hb
      refine ⟨_, a :: (b1 ++ b2), rr, ReadAtMost.cons rr (by simp only [PyData.depth]; omega) hb, ?_⟩
      simp only [PyData.depth, PyData.shown, PyData.shownKv_eq]
      exact ReprK.dict h1 h2.1 h3 hsys hna (ReprEntriesK.of_two es.toList _ _
        (k1.more_le (fun b hb => List.mem_append_left _ hb) (PyData.depthAll_keys_le ds)) (k2.more_le (fun b hb => List.mem_append_right _ hb) (PyData.depthAll_vals_le ds)))
theorem DdAll.sh (I : Inv X pins σ H s) : ∀ (ds : List PyData) (vs : List V) (us : List Value), DdAll X.K H vs ds → Vals vs us → PyData.showableAll ds = true → (∀ t ∈ PyData.shownAll ds, t.length ≤ sizeLine) → ShAll X s.heap us ds
  | [], _, _, h, r, _, _ => by
    cases h
    cases r
    exact shAll_nil
  | d :: ds, _, _, h, r, hs, hz => by
    cases h with
    | cons h1 h2 =>
      cases r with
      | cons r1 r2 =>
        have hs' : d.showable = true ∧ PyData.showableAll ds = true := by simpa [PyData.showableAll] using hs
        exact shAll_cons (Dd.sh I d _ _ h1 r1 hs'.1 (hz _ (by simp only [PyData.shownAll]; exact List.mem_cons_self ..))) (DdAll.sh I ds _ _ h2 r2 hs'.2 fun t ht => hz t (by simp only [PyData.shownAll]; exact List.mem_cons_of_mem _ ht))
theorem DdKv.sh (I : Inv X pins σ H s) : ∀ (ds : List (PyData × PyData)) (kvs : List (Key × V)) (vs : List (Key × Value)) (es : List DictEntry), DdKv X.K H kvs ds → KV kvs vs → Pairs (mixKind X.prog X.w) es vs → PyData.showableAll (ds.map (·.1)) = true → PyData.showableAll (ds.map (·.2)) = true →
    (∀ t ∈ PyData.shownAll (ds.map (·.1)), t.length ≤ sizeLine) → (∀ t ∈ PyData.shownAll (ds.map (·.2)), t.length ≤ sizeLine) → ShAll X s.heap (es.map (·.key)) (ds.map (·.1)) ∧ ShAll X s.heap (es.map (·.val)) (ds.map (·.2))
  | [], _, _, _, h, hk, hp, _, _, _, _ => by
    cases h
    cases hk
    cases hp
    exact ⟨shAll_nil, shAll_nil⟩
  | (dk, dv) :: ds, _, _, _, h, hk, hp, hs1, hs2, z1, z2 => by
    cases h with
    | @cons k v r _ _ h1 h2 =>
      cases hk with
      | @cons _ kv _ _ hk1 hk2 =>
        obtain ⟨kk, kval⟩ := kv
        obtain ⟨q1, q2⟩ := hk1
        simp only at q1 q2
        subst q1
        cases hp with
        | @cons en _ es' _ p1 p2 p3 =>
          have hs1' : (PyData.str k).showable = true ∧ PyData.showableAll (ds.map (·.1)) = true := by simpa [PyData.showableAll] using hs1
          have hs2' : dv.showable = true ∧ PyData.showableAll (ds.map (·.2)) = true := by simpa [PyData.showableAll] using hs2
          have hz1 : (PyData.str k).shown.length ≤ sizeLine := z1 _ (by simp only [List.map_cons, PyData.shownAll]; exact List.mem_cons_self ..)
          have hz2 : dv.shown.length ≤ sizeLine := z2 _ (by simp only [List.map_cons, PyData.shownAll]; exact List.mem_cons_self ..)
          obtain ⟨c1, c2⟩ := DdKv.sh I ds _ _ _ h2 hk2 p3 hs1'.2 hs2'.2 (fun t ht => z1 t (by simp only [List.map_cons, PyData.shownAll]; exact List.mem_cons_of_mem _ ht)) (fun t ht => z2 t (by simp only [List.map_cons, PyData.shownAll]; exact List.mem_cons_of_mem _ ht))
          simp only at p2
          refine ⟨?_, ?_⟩
          · rcases keyIs_shape (show keyIs (Sum.inr k) en.key = true from p1) with ⟨j, t3, z, _⟩ | ⟨y, t3, z, ez⟩
            · cases z
            · cases z
              simp only [List.map_cons]
              refine shAll_cons ?_ c1
              rw [ez]
              exact ⟨_, [], .str k t3, (fun _ h => nomatch h), by simp only [PyData.shown]; exact .of_is (ReprIs.str k t3 (by simpa only [PyData.shown] using hz1)) _ _ _⟩
          · simp only [List.map_cons]
            rw [p2]
            exact shAll_cons (Dd.sh I dv v _ h1 q2 hs2'.1 hz2) c2
end
/-- such a thing is shown by its own type -/
theorem Dd.shows (I : Inv X pins σ H s) {a : Addr} {d : PyData} (h : Dd X.K H (.ref a) d) (hs : d.showable = true) (hz : d.shown.length ≤ sizeLine) : ∃ T idr, ShowsBy X.prog X.w s.heap a d T idr := by
  cases h with
  | @lst _ xs ds e hall =>
    have hz' : (listText (PyData.shownAll ds)).length ≤ sizeLine := by simpa only [PyData.shown] using hz
    obtain ⟨its, rv, ⟨o, n, h1, h2, _, h3⟩, _⟩ := I.list e
    obtain ⟨as, bs, rd, hb, hk⟩ := DdAll.sh I ds xs its hall rv (by simpa [PyData.showable] using hs) (fun t ht => Nat.le_trans (listText_mem_le ht) hz')
    have rr : Reads s.heap (.ref a) (.list ds) _ := .list h1 h2 h3 rd
    have hna : a ∉ bs := not_mem_of_deeper rr (by simp only [PyData.depth]; omega) hb
    refine ⟨"list", "list.__repr__", F.slot_list_repr.toG, F.slot_list_str, F.slot_list_format, fun s' hk0 => ⟨o, hk0 _ _ h1, h2⟩, fun A E s' Q hg hu hk0 hQ => ?_⟩
    simp only [PyData.depth] at hu
    simp only [PyData.shown] at hQ
    cases its with
    | nil =>
      cases rd
      simp only [PyData.shownAll, listText_nil] at hQ
      exact call_list_repr_empty ⟨o, hk0 _ _ h1, h2⟩ (hk0 _ _ h1) h3 (hQ s'.heap _ _ fun _ _ e => e)
    | cons x l => exact call_list_reprK h1 h2 h3 hna (by simpa using hk.length_eq) (fun i y e => hk.item i y (by simpa using e)) hg (fun b _ => Clear.nil b) hu hk0 hQ hz'
  | @tup _ xs ds e hall =>
    have hz' : (tupleText (PyData.shownAll ds)).length ≤ sizeLine := by simpa only [PyData.shown] using hz
    obtain ⟨its, rv, ⟨o, h1, h2, n, h3⟩, _⟩ := I.tuple e
    obtain ⟨as, bs, rd, hb, hk⟩ := DdAll.sh I ds xs its hall rv (by simpa [PyData.showable] using hs) (fun t ht => Nat.le_trans (tupleText_mem_le ht) hz')
    have rr : Reads s.heap (.ref a) (.tuple ds) _ := .tuple h1 h2 h3 rd
    have hna : a ∉ bs := not_mem_of_deeper rr (by simp only [PyData.depth]; omega) hb
    refine ⟨"tuple", "tuple.__repr__", F.slot_tuple_repr, F.slot_tuple_str, F.slot_tuple_format, fun s' hk0 => ⟨o, hk0 _ _ h1, h2⟩, fun A E s' Q hg hu hk0 hQ => ?_⟩
    simp only [PyData.depth] at hu
    simp only [PyData.shown] at hQ
    exact call_tuple_reprK h1 h2 h3 hna hk hg (fun b _ => Clear.nil b) hu hk0 hQ hz'
  | @dct _ kvs ds e hall =>
    have hz' : (dictText (PyData.shownKv ds)).length ≤ sizeLine := by simpa only [PyData.shown] using hz
    obtain ⟨_, hsys, vs, hk, hD⟩ : kvs.length ≤ sizeLine ∧ (a == sysModules) = false ∧ ∃ vs, KV kvs vs ∧ s.heap.DictOf (mixKind X.prog X.w) a vs := I.hok a _ e
    obtain ⟨o, es, ep, h1, h2, h3, _, e5, _⟩ := hD
    obtain ⟨hs1, hs2⟩ := PyData.showableKv_split ds (by simpa [PyData.showable] using hs)
    obtain ⟨⟨as1, b1, r1, hb1, k1⟩, as2, b2, r2, hb2, k2⟩ := DdKv.sh I ds kvs vs es.toList hall hk e5 hs1 hs2
      (fun t ht => let ⟨p, hp, hl⟩ := PyData.shownKv_key_le ds t ht; Nat.le_trans hl (Nat.le_trans (dictText_mem_le hp) hz')) (fun t ht => let ⟨p, hp, hl⟩ := PyData.shownKv_val_le ds t ht; Nat.le_trans hl (Nat.le_trans (dictText_mem_le hp) hz'))
    have rr : Reads s.heap (.ref a) (.dict ds) _ := .dict h1 h2.1 h3 r1 r2
    have hb : ReadAtMost s.heap (PyData.depthKv ds) (b1 ++ b2) := (hb1.mono (PyData.depthAll_keys_le ds)).append (hb2.mono (PyData.depthAll_vals_le ds))
    have hna : a ∉ b1 ++ b2 := not_mem_of_deeper rr (by simp only [PyData.depth]; omega) hb
    refine ⟨"dict", "dict.__repr__", F.slot_dict_repr, F.slot_dict_str, F.slot_dict_format, fun s' hk0 => ⟨o, hk0 _ _ h1, h2.1⟩, fun A E s' Q hg hu hk0 hQ => ?_⟩
    simp only [PyData.depth] at hu
    simp only [PyData.shown, PyData.shownKv_eq] at hQ
    exact call_dict_reprK h1 h2.1 h3 hsys hna (ReprEntriesK.of_two es.toList _ _
      (k1.more_le (fun b hb => List.mem_append_left _ hb) (PyData.depthAll_keys_le ds)) (k2.more_le (fun b hb => List.mem_append_right _ hb) (PyData.depthAll_vals_le ds))) hg (fun b _ => Clear.nil b) hu hk0 hQ (by rw [← PyData.shownKv_eq]; exact hz')
/-- repr of data, dicts in it -/
def rReprG (K : PySem.W.Frag) : List V → Hp → VK → Prop := fun xs H Q => ∃ v d, xs = [v] ∧ Dd K H v d ∧ d.showable = true ∧ d.depth ≤ 60 ∧ d.shown.length ≤ sizeLine ∧ Q (.str d.shown) H
theorem call_reprG (hg : X.A.guards = some []) (hu : X.A.units + 64 < cLine) : CallR X (.builtin "repr") (rReprG X.K) := by
  intro pins s σ H xs us Q I r h
  obtain ⟨v, d, rfl, hd, hs, hdep, hz, q⟩ := h
  obtain ⟨u, rfl, rv⟩ := vals1 r
  cases v with
  | ref a =>
    cases rv
    obtain ⟨T, idr, S⟩ := hd.shows I hs hz
    refine call_repr_slot (by omega) (S.typeIs s fun _ _ e => e) S.slotRepr (S.call X.A.in1 X.xe s _ hg (by show X.A.units + 1 + d.depth < cLine; omega) (fun _ _ e => e) fun h' u tk hk => ⟨_, _, rfl, ?_⟩)
    exact ⟨.str d.shown, H, I.kept hk, ⟨_, rfl⟩, q⟩
  | non =>
    cases hd
    cases rv
    exact PySem.P.repr_of_none ⟨.str _, H, I.tok _, ⟨_, rfl⟩, q⟩
  | bl b =>
    cases hd
    cases rv
    refine PySem.P.repr_of_bool ⟨.str (PyData.shown (.bool b)), H, I.tok _, ⟨s.toks, ?_⟩, q⟩
    cases b <;> rfl
  | int i =>
    cases hd
    obtain ⟨t, rfl⟩ := rv
    exact PySem.P.repr_of_int (by simpa [PyData.showable] using hs) ⟨.str _, H, I.tok _, ⟨_, rfl⟩, q⟩
  | str x =>
    cases hd
    obtain ⟨t, rfl⟩ := rv
    exact PySem.P.repr_of_str ⟨.str _, H, I.tok _, ⟨_, rfl⟩, q⟩ hz
  | byt b => cases hd
  | flt b => cases hd
  | ty n => cases hd
end
/-! data stays -/
mutual
theorem Dd.same {K : PySem.W.Frag} {H H' : Hp} (s : Ext H H') : ∀ {d : PyData} {v : V}, Dd K H v d → Dd K H' v d
  | _, _, .non => .non
  | _, _, .bl b => .bl b
  | _, _, .int i => .int i
  | _, _, .str x => .str x
  | _, _, .lst e h => .lst (SqL.ext e s) (DdAll.same s h)
  | _, _, .tup e h => .tup (SqT.ext e s) (DdAll.same s h)
  | _, _, .dct e h => .dct (s _ _ e) (DdKv.same s h)
theorem DdAll.same {K : PySem.W.Frag} {H H' : Hp} (s : Ext H H') : ∀ {ds : List PyData} {vs : List V}, DdAll K H vs ds → DdAll K H' vs ds
  | _, _, .nil => .nil
  | _, _, .cons h t => .cons (Dd.same s h) (DdAll.same s t)
theorem DdKv.same {K : PySem.W.Frag} {H H' : Hp} (s : Ext H H') : ∀ {ds : List (PyData × PyData)} {vs : List (Key × V)}, DdKv K H vs ds → DdKv K H' vs ds
  | _, _, .nil => .nil
  | _, _, .cons h t => .cons (Dd.same s h) (DdKv.same s t)
end
end So

namespace K63
open PySem PySem.Spec PyProof.Rows L2 So LamX
abbrev sRight : Stmt := topS 58
abbrev rightN : List Str := ["_law_pen_here", "_law_entry", "_law_parts_here", "_law_one", "_law_two", "_law_odd"]
theorem scRight : FnScope rightN ["_law_pen_here", "_law_entry", "_law_parts_here"] (defScope sRight) := ⟨rfl, rfl, rfl, by decide +kernel, rfl, by decide +kernel, by decide +kernel⟩
def OffN (p : Addr) (H H' : Hp) : Prop := ∀ b o, b ≠ p → H b = some o → (∀ ps, o ≠ .tbl ps) → H' b = some o
theorem lst_ne {xs : List V} : ∀ ps, HO.lst xs ≠ .tbl ps := fun ps z => nomatch z
theorem tup_ne {xs : List V} : ∀ ps, HO.tup xs ≠ .tbl ps := fun ps z => nomatch z
theorem ins_ne {C d : Addr} {fs : List (Str × V)} : ∀ ps, HO.ins C d fs ≠ .tbl ps := fun ps z => nomatch z
theorem dk_ne {kvs : List (Key × V)} : ∀ ps, HO.dK kvs ≠ .tbl ps := fun ps z => nomatch z
theorem tabs_off {T : List (Addr × Str)} {H H' : Hp} {p : Addr} {xs : List V} (hp : H p = some (.lst xs)) (t : Tabs T H) (o : Off p H H') : Tabs T H' := by
  intro y hy
  obtain ⟨ps, h1, h2, h3⟩ := t y hy
  refine ⟨ps, o _ _ (ne_of h1 hp (fun z => nomatch z)) h1, h2, fun pos cv hc => ?_⟩
  obtain ⟨c, e1, e2⟩ := h3 pos cv hc
  refine ⟨c, e1, o _ _ (fun z => ?_) e2⟩
  rw [z, hp] at e2
  cases e2
theorem tabs_same {T : List (Addr × Str)} {H H' : Hp} (t : Tabs T H) (s : Same H H') : Tabs T H' := t.ext s
theorem Told.ext {kind : Str} {xs : List V} {H H' : Hp} {fs : List (Str × V)} (h : Told kind xs H fs) (s : ∀ tp, H tp = some (.tup xs) → H' tp = some (.tup xs)) : Told kind xs H' fs := by
  obtain ⟨h1, ⟨tp, h2, h3⟩, h4⟩ := h
  exact ⟨h1, ⟨tp, h2, s _ h3⟩, h4⟩
theorem RAt.same {C : Addr} {kind : Str} {H H' : Hp} {a : Addr} {xs : List V} (h : RAt C kind H a xs) (s : Same H H') : RAt C kind H' a xs := by
  obtain ⟨dx, fs, h1, h2⟩ := h
  exact ⟨dx, fs, s _ _ h1, h2.ext fun tp e => s _ _ e⟩
theorem At.same {C a : Addr} {H H' : Hp} {z : Str} {m : Int} {v : Str} (h : At C H a z m v) (s : Same H H') : At C H' a z m v := h.elim fun dx e => ⟨dx, s _ _ e⟩
theorem At.off {C a p : Addr} {H H' : Hp} {z : Str} {m : Int} {v : Str} {xs : List V} (h : At C H a z m v) (hp : H p = some (.lst xs)) (s : Off p H H') : At C H' a z m v := h.elim fun dx e => ⟨dx, s _ _ (ne_of e hp (fun z => nomatch z)) e⟩
theorem At.ext {C a : Addr} {H H' : Hp} {z : Str} {m : Int} {v : Str} (h : At C H a z m v) (s : ExtN H H') : At C H' a z m v := h.elim fun dx e => ⟨dx, s _ _ e ins_ne⟩
theorem pen_ext {H H' : Hp} {p l : Addr} {ns : List Int} {n : Nat} {g : Int} (h : Pen H p l ns n g) (s : ExtN H H') : Pen H' p l ns n g := ⟨s _ _ h.pen lst_ne, s _ _ h.cells lst_ne, h.left⟩
theorem sf_rowOf (t m b : V) : (sfV t m b).lookup ("row_of" : Str) = none := by
  have e1 : (("row_of" : Str) == "tool") = false := by decide +kernel
  have e2 : (("row_of" : Str) == "moment") = false := by decide +kernel
  have e3 : (("row_of" : Str) == "by") = false := by decide +kernel
  simp [sfV, List.lookup, e1, e2, e3]
theorem neS {a b : Str} (h : ¬ a = b) : decide (V.str a = V.str b) = false := decide_eq_false fun e => h (V.str.inj e)
theorem eqS (a : Str) : decide (V.str a = V.str a) = true := decide_eq_true rfl
/-- the odd words of outcomes -/
abbrev oddW (q1 q2 q3 : Addr) : List V := [.str "passed", .str "", .str "Pass", .non, .bl true, .int 0, .ref q1, .ref q2, .ref q3]
def dE (d : PyData) : PyData := .tuple [.str "entry", d]
theorem odd_ok {K : PySem.W.Frag} {q1 q2 q3 : Addr} : ∀ v ∈ oddW q1 q2 q3, ∃ d : PyData, ((dE d).showable = true ∧ (dE d).depth ≤ 60 ∧ (dE d).shown.length ≤ 1000) ∧ ∀ H : Hp, H q1 = some (.lst [.str "pass"]) → H q2 = some (.tup [.str "fail"]) → H q3 = some (.dK []) → Dd K H v d ∧ EqW K H v "pass" false ∧ EqW K H v "fail" false := by
  intro v hv
  simp only [List.mem_cons, List.not_mem_nil, or_false] at hv
  rcases hv with h | h | h | h | h | h | h | h | h <;> subst h
  · exact ⟨.str "passed", by decide +kernel, fun H _ _ _ => ⟨.str _, .inl ⟨rfl, neS (by decide +kernel)⟩, .inl ⟨rfl, neS (by decide +kernel)⟩⟩⟩
  · exact ⟨.str "", by decide +kernel, fun H _ _ _ => ⟨.str _, .inl ⟨rfl, neS (by decide +kernel)⟩, .inl ⟨rfl, neS (by decide +kernel)⟩⟩⟩
  · exact ⟨.str "Pass", by decide +kernel, fun H _ _ _ => ⟨.str _, .inl ⟨rfl, neS (by decide +kernel)⟩, .inl ⟨rfl, neS (by decide +kernel)⟩⟩⟩
  · exact ⟨.none, by decide +kernel, fun H _ _ _ => ⟨.non, .inl ⟨rfl, decide_eq_false fun z => nomatch z⟩, .inl ⟨rfl, decide_eq_false fun z => nomatch z⟩⟩⟩
  · exact ⟨.bool true, by decide +kernel, fun H _ _ _ => ⟨.bl _, .inl ⟨rfl, decide_eq_false fun z => nomatch z⟩, .inl ⟨rfl, decide_eq_false fun z => nomatch z⟩⟩⟩
  · exact ⟨.int 0, by decide +kernel, fun H _ _ _ => ⟨.int _, .inl ⟨rfl, decide_eq_false fun z => nomatch z⟩, .inl ⟨rfl, decide_eq_false fun z => nomatch z⟩⟩⟩
  · exact ⟨.list [.str "pass"], by decide +kernel, fun H f1 _ _ => ⟨.lst (SqL.of f1) (.cons (.str _) .nil), .inr (.inl ⟨.list [.str "pass"], .lst (SqL.of f1) (.cons (.str _) .nil), by decide +kernel, by decide +kernel⟩), .inr (.inl ⟨.list [.str "pass"], .lst (SqL.of f1) (.cons (.str _) .nil), by decide +kernel, by decide +kernel⟩)⟩⟩
  · exact ⟨.tuple [.str "fail"], by decide +kernel, fun H _ f2 _ => ⟨.tup (SqT.of f2) (.cons (.str _) .nil), .inr (.inl ⟨.tuple [.str "fail"], .tup (SqT.of f2) (.cons (.str _) .nil), by decide +kernel, by decide +kernel⟩), .inr (.inl ⟨.tuple [.str "fail"], .tup (SqT.of f2) (.cons (.str _) .nil), by decide +kernel, by decide +kernel⟩)⟩⟩
  · exact ⟨.dict [], by decide +kernel, fun H _ _ f3 => ⟨.dct f3 .nil, .inr (.inr ⟨_, _, rfl, f3, rfl⟩), .inr (.inr ⟨_, _, rfl, f3, rfl⟩)⟩⟩
section
variable {K : PySem.W.Frag} {mg : Str → Option Value}
theorem ownR {H : Hp} {C CR x y' : Addr} {nm kind z y : Str} {m : Int} {g : Bool → Bool} {Q : VK} {E : XK} (T : RowK K mg C CR nm) (ok : Ok3 z m y) (A1 : RAt C kind H x (x3 z m y)) (A2 : RAt C kind H y' (x3 z m y)) (h : Q (.bl (g true)) H) :
    rOwn C K (spRowEq C kind) E g (.ref x) (.ref y') H Q := by
  obtain ⟨d1, fs1, h1, t1⟩ := id A1
  obtain ⟨d2, fs2, h2, t2⟩ := id A2
  exact ⟨x, d1, _, .ref C, rfl, h1, .base (.ins h2 T.cl T.ha T.hn T.htk T.hm), by simp [PySem.W.notFirst], x, y', z, m, y, rfl, A1, A2, ok, _, rfl, h⟩
end
def kText {α : Type} : List α → List α → List α
  | [u], [w] => [u, w]
  | _, _ => []
/-- the methods and makers that the law calls -/
structure Mths (K : PySem.W.Frag) (P : Program) (w : World) (mg : Str → Option Value) (base : Heap) (C CP CF CR CN CM CS CE : Addr) : Prop where
  W : Words K mg
  T : Ent K mg C
  RP : RowK K mg CP CR "Passed"
  RF : RowK K mg CF CR "Failed"
  mkP : ∃ (f : Addr) (fd : FuncData), Mk K CP f ∧ Binds K fd ["self", "tool", "moment", "by"] [] ∧ FnOk P w K mg base (L2.CX P w) 5 f fd ["self", "tool", "moment", "by"] (spRow CN CM CS CP "passed")
  mkF : ∃ (f : Addr) (fd : FuncData), Mk K CF f ∧ Binds K fd ["self", "tool", "moment", "by"] [] ∧ FnOk P w K mg base (L2.CX P w) 5 f fd ["self", "tool", "moment", "by"] (spRow CN CM CS CF "failed")
  eqP : ∃ (f : Addr) (fd : FuncData), PySem.W.findIn K (.ref CP) "__eq__" = some (some (.ref f)) ∧ PySem.W.isFn K (.ref f) = true ∧ Binds K fd ["self", "other"] [] ∧ FnOk P w K mg base CX0 1 f fd ["self", "other"] (spRowEq CP "passed") ∧ PySem.W.findIn K (.ref CP) "__ne__" = some (some (.builtin "object.__ne__"))
  eqF : ∃ (f : Addr) (fd : FuncData), PySem.W.findIn K (.ref CF) "__eq__" = some (some (.ref f)) ∧ PySem.W.isFn K (.ref f) = true ∧ Binds K fd ["self", "other"] [] ∧ FnOk P w K mg base CX0 1 f fd ["self", "other"] (spRowEq CF "failed") ∧ PySem.W.findIn K (.ref CF) "__ne__" = some (some (.builtin "object.__ne__"))
  passed : ∃ (pp g : Addr) (fd : FuncData), PropOf K C "passed" pp g ∧ Binds K fd ["self"] [] ∧ FnOk P w K mg base CX0 7 g fd ["self"] (spRowP C CP "passed")
  failed : ∃ (pp g : Addr) (fd : FuncData), PropOf K C "failed" pp g ∧ Binds K fd ["self"] [] ∧ FnOk P w K mg base CX0 7 g fd ["self"] (spRowP C CF "failed")
  rowOf : ∃ (f : Addr) (fd : FuncData), Meth K C "row_of" f ∧ Binds K fd ["self", "word"] [] ∧ KBinds K fd ["self", "word"] ["word"] kText kText ∧ FnOk P w K mg base (L2.CX P w) 9 f fd ["self", "word"] (spRowOf K C CP CF CE)
section
variable {P : Program} {w : World} {K : PySem.W.Frag} {mg : Str → Option Value} {base : Heap}
def spRight (C : Addr) (T : List (Addr × Str)) : Sp := fun vs H Q _ => ∃ (p l e t : Addr) (ns : List Int) (n : Nat) (g : Int) (z : Str) (m : Int) (y : Str), vs = [.ref p, .ref e, .ref t] ∧ Pen H p l ns n g ∧ n < 900000 ∧ At C H e z m y ∧ Ok3 z m y ∧ t ≠ p ∧ H t = some (.tup (x3 z m y)) ∧ Tabs T H ∧
  ∀ (n' : Nat) (g' : Int) (H' : Hp), n' ≤ n + 1 → OffN p H H' → Pen H' p l ns n' g' → Tabs T H' → Q (.bl true) H'
theorem ok_right {T : List (Addr × Str)} {C CP CF CR CN CM CS CE CT f c1 P1 fP fH : Addr} {fd fdP fdH : FuncData} (F : Fun K "_law_rows_right" "_law_rows_right" sRight f fd) (hcode : fd.code = .ref c1) (TB : TabB base mg c1 P1)
    (hT1 : ∀ n f' c', (P1, (envOfC "_law_rows_right" (defScope sRight) n f' c').qual ++ "<lambda>") ∈ T) (hT2 : ∀ n f' c', ∀ q ∈ T, q.1 = P1 → q.2 = (envOfC "_law_rows_right" (defScope sRight) n f' c').qual ++ "<lambda>")
    (M : Mths K P w mg base C CP CF CR CN CM CS CE) (R : Hrd K mg CT CN CM CE) (mp : mg "repr" = none)
    (FP : Fun K "_law_pick" "_law_pick" sPick fP fdP) (bP : Binds K fdP ["_law_pen_here", "_law_some"] []) (gP : mg "_law_pick" = some (.ref fP)) (GP : FnOk P w K mg base CX0 2 fP fdP ["_law_pen_here", "_law_some"] (spPick K))
    (FH : Fun K "_law_heard" "_law_heard" sHeard fH fdH) (bH0 : Binds K fdH ["_law_ask"] []) (gH : mg "_law_heard" = some (.ref fH)) :
    FnG P w K mg base CX0 12 f fd ["_law_pen_here", "_law_entry", "_law_parts_here"] (spRight C T) := by
  obtain ⟨f1, fd1, mk1, b1, G1⟩ := M.mkP
  obtain ⟨f2, fd2, mk2, b2, G2⟩ := M.mkF
  obtain ⟨f3, fd3, s3, i3, b3, G3, n3⟩ := M.eqP
  obtain ⟨f4, fd4, s4, i4, b4, G4, n4⟩ := M.eqF
  obtain ⟨p5, g5, fd5, P5, b5, G5⟩ := M.passed
  obtain ⟨p6, g6, fd6, P6, b6, G6⟩ := M.failed
  obtain ⟨f7, fd7, m7, b7, k7, G7⟩ := M.rowOf
  obtain ⟨ocH, odH, kVH, docH, pmH, anH, cdvH, ctH, oslH, efd, lkH, hcH⟩ := FH.ex
  subst efd
  have bH := bH0
  refine fnG_ofC F hcode scRight (fun vs H Q E h => ?_) (fun A outer s H vs Q E hg hr h => ?_)
  · obtain ⟨_, _, _, _, _, _, _, _, _, _, rfl, _⟩ := h
    rfl
  · obtain ⟨p, l, e, t, ns, n, g, z, m, y, rfl, hp, hn, A1, ok, ntp, ht, hT, q⟩ := h
    have hr2 : Room 2 _ := hr.mono (by decide)
    have hr6 : Room 6 _ := hr.mono (by decide)
    have hr8 : Room 8 _ := hr.mono (by decide)
    have hr9 : Room 9 _ := hr.mono (by decide)
    refine ⟨_, pss_cons (ps_par (i := 3) (j := 4) (by rfl) scRight.nd rfl rfl (by decide) rfl rfl (pa_cons (pe_make mk1 G1 hr6 (by rfl) M.RP.g b1 .nil passNo (pa_cons (pe_ix ix_tup (pv 2) pe_int (fun _ _ => rfl)) (pa_cons (pe_ix ix_tup (pv 2) pe_int (fun _ _ => rfl)) (pa_cons (pe_ix ix_tup (pv 2) pe_int (fun _ _ => rfl)) pa_nil))))
          (pa_cons (pe_make mk2 G2 hr6 (by rfl) M.RF.g b2 .nil passNo (pa_cons (pe_ix ix_tup (pv 2) pe_int (fun _ _ => rfl)) (pa_cons (pe_ix ix_tup (pv 2) pe_int (fun _ _ => rfl)) (pa_cons (pe_ix ix_tup (pv 2) pe_int (fun _ _ => rfl)) pa_nil)))) pa_nil)) (by rfl))
      (pss_cons (ps_if (PW.pt (pw_or (pt_cmpR (op_neOwn G3 s3 i3 b3 pass0 hr2 n3 M.RP.hm) (pe_prop (pv 1) M.T.cl P5 G5 hr8 b5 .nil pass0 rfl) (pv 3) (nomark _)) (pw_or1 (pt_cmpR (op_neOwn G4 s4 i4 b4 pass0 hr2 n4 M.RF.hm) (pe_prop (pv 1) M.T.cl P6 G6 hr8 b6 .nil pass0 rfl) (pv 4) (nomark _))))) (pss_one (ps_ret pe_bl)) pss_nil)
      (pss_cons (ps_if (PW.pt (pw_or (pt_cmpR (op_neOwn G3 s3 i3 b3 pass0 hr2 n3 M.RP.hm) (pe_meth (pv 1) M.T.cl m7 G7 hr9 b7 .nil passNo (pa_cons pe_str pa_nil)) (pv 3) (nomark _)) (pw_or1 (pt_cmpR (op_neOwn G4 s4 i4 b4 pass0 hr2 n4 M.RF.hm) (pe_methK (pv 1) M.T.cl m7 G7 hr9 k7 passNo (pk_cons pe_str pk_nil)) (pv 4) (nomark _))))) (pss_one (ps_ret pe_bl)) pss_nil)
      (pss_cons (ps_set (i := 5) scRight.nd rfl (.inr rfl) (pe_call GP hr2 (by rfl) gP FP.kp bP .nil pass0 (pa_cons (pv 0) (pa_cons (pe_lst (pa_cons pe_str (pa_cons pe_str (pa_cons pe_str (pa_cons pe_non (pa_cons pe_bl (pa_cons pe_int (pa_cons (pe_lst (pa_cons pe_str pa_nil)) (pa_cons (pe_tup (pa_cons pe_str pa_nil)) (pa_cons pe_dnewK pa_nil)))))))))) pa_nil))))
      (pss_one (ps_ret (pe_cmpR op_eq (pe_callB (call_reprG hg hr.units) (by rfl) mp (by decide +kernel) (pa_cons
          (pe_lamcall (T := T) (TT := TTh CN CM CE) (t := _) (k := 9) (by rfl) gH FH.kp lkH hcH bH scHeard rfl (Or.inl rfl) (heard_gives R) TB rfl (hT1 _ _ _) (hT2 _ _ _) hr
            (lamS_by (sc := defScope sRight) (by decide +kernel)) rfl (fun _ _ _ _ _ => rfl) (fun A outer s H E f c' hr' => pe_meth (pv 1) M.T.cl m7 G7 hr' b7 .nil (passes_call (takes_of rfl rfl rfl rfl) (fun _ _ _ _ h => h)) (pa_cons (pv 5) pa_nil))) pa_nil))
          (pe_callB (call_reprG hg hr.units) (by rfl) mp (by decide +kernel) (pa_cons (pe_tup (pa_cons pe_str (pa_cons (pv 5) pa_nil))) pa_nil)) (nomark _))))))), ?_⟩
    -- the two rows
    refine ⟨_, rfl, t, _, 0, _, rfl, rfl, SqT.of ht, atI_nat (j := 0) rfl, _, rfl, t, _, 1, _, rfl, rfl, SqT.of ht, atI_nat (j := 1) rfl, _, rfl, t, _, 2, _, rfl, rfl, SqT.of ht, atI_nat (j := 2) rfl, ?_⟩
    refine rows3 (z := z) (m := m) (y := y) forms_passed ok (fun H1 r1 s1 R1 => ?_)
    have ht1 := s1 _ _ ht
    refine ⟨_, rfl, t, _, 0, _, rfl, rfl, SqT.of ht1, atI_nat (j := 0) rfl, _, rfl, t, _, 1, _, rfl, rfl, SqT.of ht1, atI_nat (j := 1) rfl, _, rfl, t, _, 2, _, rfl, rfl, SqT.of ht1, atI_nat (j := 2) rfl, ?_⟩
    refine rows3 (z := z) (m := m) (y := y) forms_failed ok (fun H2 r2 s2 R2 => ⟨_, _, rfl, ?_⟩)
    have R1' := R1.same s2
    have A2 := A1.same (s1.trans s2)
    obtain ⟨dx, hx⟩ := id A2
    refine ⟨_, rfl, e, dx, _, rfl, hx, e, z, m, y, rfl, A2, ok, fun H3 r3 s3' R3 => ?_⟩
    refine ⟨_, rfl, ownR M.RP ok R3 (R1'.same s3') ⟨_, rfl, iteF ?_⟩⟩
    have A3 := A2.same s3'
    obtain ⟨dx3, hx3⟩ := id A3
    refine ⟨_, rfl, e, dx3, _, rfl, hx3, e, z, m, y, rfl, A3, ok, fun H4 r4 s4' R4 => ?_⟩
    refine ⟨_, rfl, ownR M.RF ok R4 (R2.same (s3'.trans s4')) ⟨_, rfl, iteF ?_⟩⟩
    have A4 := A3.same s4'
    obtain ⟨dx4, hx4⟩ := id A4
    have R1'' := R1'.same (s3'.trans s4')
    have R2'' := R2.same (s3'.trans s4')
    refine ⟨_, rfl, e, dx4, _, rfl, hx4, sf_rowOf _ _ _, e, z, m, y, _, rfl, A4, ok, .inl ⟨.inl ⟨rfl, eqS _⟩, fun H5 r5 s5' R5 => ?_⟩⟩
    refine ⟨_, rfl, ownR M.RP ok R5 (R1''.same s5') ⟨_, rfl, iteF ?_⟩⟩
    have A5 := A4.same s5'
    obtain ⟨dx5, hx5⟩ := id A5
    refine ⟨_, rfl, e, dx5, _, rfl, hx5, sf_rowOf _ _ _, e, z, m, y, _, rfl, A5, ok, .inr (.inl ⟨.inl ⟨rfl, neS (by decide +kernel)⟩, .inl ⟨rfl, eqS _⟩, fun H6 r6 s6' R6 => ?_⟩)⟩
    refine ⟨_, rfl, ownR M.RF ok R6 (R2''.same (s5'.trans s6')) ⟨_, rfl, iteF ?_⟩⟩
    have s06 := ((((s1.trans s2).trans s3').trans s4').trans s5').trans s6'
    have A6 := A5.same s6'
    have pen6 := pen_same hp s06
    have t6 := tabs_same hT s06
    clear A5 A4 A3 A2 R1 R2 R1' R1'' R2'' R3 R4 R5 R6 hx hx3 hx4 hx5 s1 s2 s3' s4' s5' s6'
    refine ⟨_, rfl, by show 1 ≤ sizeLine; decide, fun q1 h1 => ⟨by show 1 ≤ sizeLine; decide, fun q2 h2 => fun q3 h3 => ⟨by show 9 ≤ sizeLine; decide, fun q4 h4 => ?_⟩⟩⟩
    have sA := ((same_upd0 (o := .lst [.str "pass"]) h1).trans (same_upd0 (o := .tup [.str "fail"]) h2)).trans (same_upd0 (o := .dK []) h3)
    have sB := sA.trans (same_upd0 (o := .lst (oddW q1 q2 q3)) h4)
    have F0 : (L2.upd (L2.upd (L2.upd (L2.upd H6 q1 (.lst [.str "pass"])) q2 (.tup [.str "fail"])) q3 (.dK [])) q4 (.lst (oddW q1 q2 q3))) q4 = some (.lst (oddW q1 q2 q3)) ∧
        (L2.upd (L2.upd (L2.upd (L2.upd H6 q1 (.lst [.str "pass"])) q2 (.tup [.str "fail"])) q3 (.dK [])) q4 (.lst (oddW q1 q2 q3))) q1 = some (.lst [.str "pass"]) ∧
        (L2.upd (L2.upd (L2.upd (L2.upd H6 q1 (.lst [.str "pass"])) q2 (.tup [.str "fail"])) q3 (.dK [])) q4 (.lst (oddW q1 q2 q3))) q2 = some (.tup [.str "fail"]) ∧
        (L2.upd (L2.upd (L2.upd (L2.upd H6 q1 (.lst [.str "pass"])) q2 (.tup [.str "fail"])) q3 (.dK [])) q4 (.lst (oddW q1 q2 q3))) q3 = some (.dK []) :=
      ⟨upd_same, (same_upd0 h4) _ _ ((same_upd0 h3) _ _ ((same_upd0 h2) _ _ upd_same)), (same_upd0 h4) _ _ ((same_upd0 h3) _ _ upd_same), (same_upd0 h4) _ _ upd_same⟩
    have n4' : q4 ≠ p := (ne_of_none (sA _ _ pen6.pen) h4).symm
    have n1' : q1 ≠ p := (ne_of_none pen6.pen h1).symm
    have n2' : q2 ≠ p := (ne_of_none (same_upd0 (o := .lst [.str "pass"]) h1 _ _ pen6.pen) h2).symm
    have n3' : q3 ≠ p := (ne_of_none (((same_upd0 (o := .lst [.str "pass"]) h1).trans (same_upd0 (o := .tup [.str "fail"]) h2)) _ _ pen6.pen) h3).symm
    have A7 := A6.same sB
    have pen7 := pen_same pen6 sB
    have t7 := tabs_same t6 sB
    have s07 := s06.trans sB
    revert F0 A7 pen7 t7 s07
    generalize L2.upd (L2.upd (L2.upd (L2.upd H6 q1 (.lst [.str "pass"])) q2 (.tup [.str "fail"])) q3 (.dK [])) q4 (.lst (oddW q1 q2 q3)) = H7
    rintro ⟨f4', f1', f2', f3'⟩ A7 pen7 t7 s07
    clear h1 h2 h3 h4 sA sB A6 pen6 t6 s06
    refine ⟨p, l, ns, n, g, _, rfl, pen7, by omega, .inl ⟨q4, _, rfl, n4', f4', by show 0 < 9; decide, by show 9 ≤ 1000; decide, fun v n8 g8 H8 hv hn8 off8 pen8 => ?_⟩⟩
    obtain ⟨dd, ⟨k1, k2, k3⟩, hd⟩ := odd_ok (K := K) v hv
    have k3' : (dE dd).shown.length ≤ sizeLine := by have := sizeLine_eq; omega
    have A8 := A7.off pen7.pen off8
    have t8 := tabs_off pen7.pen t7 off8
    have f1 := off8 _ _ n1' f1'
    have f2 := off8 _ _ n2' f2'
    have f3 := off8 _ _ n3' f3'
    refine ⟨t8, fun H9 x9 t9 => ?_⟩
    have A9 := A8.ext x9
    obtain ⟨dx9, hx9⟩ := id A9
    have f1'' := x9 _ _ f1 lst_ne
    have f2'' := x9 _ _ f2 tup_ne
    have f3'' := x9 _ _ f3 dk_ne
    obtain ⟨_, eq1, eq2⟩ := hd H9 f1'' f2'' f3''
    have pen9 := pen_ext pen8 x9
    refine ⟨_, rfl, e, dx9, _, rfl, hx9, sf_rowOf _ _ _, _, rfl, e, z, m, y, v, rfl, A9, ok, .inr (.inr ⟨eq1, eq2, fun d H10 s10 ed => ⟨"entry", CE, "at", v, d, .inr (.inr ⟨rfl, rfl, rfl⟩), rfl, rfl, ed, fun H11 r s11 hr11 => ?_⟩⟩)⟩
    have s9 := s10.trans s11
    refine ⟨_, dE dd, rfl, .tup (SqT.of hr11) (.cons (.str _) (.cons (hd H11 (s9 _ _ f1'') (s9 _ _ f2'') (s9 _ _ f3'')).1 .nil)), k1, k2, k3', _, rfl, by show 2 ≤ sizeLine; decide, fun r2 hr2 => ?_⟩
    have s12 := same_upd0 (o := .tup [.str "entry", v]) hr2
    have sE := s9.trans s12
    refine ⟨_, dE dd, rfl, .tup (SqT.of upd_same) (.cons (.str _) (.cons (hd _ (sE _ _ f1'') (sE _ _ f2'') (sE _ _ f3'')).1 .nil)), k1, k2, k3', rfl, ?_⟩
    rw [decide_eq_true rfl]
    refine q n8 g8 _ hn8 (fun b o nb eb nt => sE _ _ (x9 _ _ (off8 _ _ nb (s07 _ _ eb)) nt)) (pen_same pen9 sE) (tabs_same t9 sE)
end
end K63

namespace K63
open PySem PySem.Spec PyProof.Rows L2 So LamX
abbrev sRef : Stmt := topS 57
abbrev refN : List Str := ["_law_pen_here", "_law_parts_here", "_law_odd", "_law_bad", "_law_wrong", "_law_due", "_law_at", "_law_more", "_law_some"]
theorem scRef : FnScope refN ["_law_pen_here", "_law_parts_here"] (defScope sRef) := ⟨rfl, rfl, rfl, by decide +kernel, rfl, by decide +kernel, by decide +kernel⟩
theorem ixl {X : Cx} {K : PySem.W.Frag} (h : X.K = K) : IxR X (rIxL K) := by
  subst h
  exact ix_list
theorem at0 {xs : List V} {i : Nat} {v : V} (h : xs[i]? = some v) : atI xs (0 + (i : Int)) = some v := by
  rw [Int.zero_add]
  exact atI_nat h
theorem ixN0 {n j : Nat} (hj : j < n) : ixN n (0 + (j : Int)) = some j := by
  unfold ixN
  rw [if_pos (by omega), if_pos (by omega)]
  simp
theorem neSame {s : Str} : ¬ ((!decide (V.str s = V.str s)) = true) := by simp
/-- by, tool, moment: the keywords as the law gives them -/
def kBtm {α : Type} : List α → List α → List α
  | [u], [b, t, m] => [u, t, m, b]
  | _, _ => []
/-- the odd names, the odd moments -/
abbrev oddN (a1 a2 a3 : Addr) : List V := [.str "", .str "A", .str "0a", .str "abcdefghi", .str "a b", .str "sound", .str "never", .str "menu", .non, .int 0, .bl true, .ref a1, .ref a2, .ref a3]
abbrev oddM (a1 a2 a3 : Addr) : List V := [.int (-1), .int ((10 : Int) ^ (Int.toNat 30) + 1), .non, .bl true, .str "0", .ref a1, .ref a2, .ref a3]
def dW (wd : Str) (d : PyData) : PyData := .tuple [.str wd, d]
def Fits (wd : Str) (d : PyData) : Prop := (dW wd d).showable = true ∧ (dW wd d).depth ≤ 60 ∧ (dW wd d).shown.length ≤ 1000
instance (wd : Str) (d : PyData) : Decidable (Fits wd d) := by unfold Fits; infer_instance
def Shows (K : PySem.W.Frag) (H : Hp) (v : V) (d : PyData) : Prop := Dd K H v d ∧ ∃ T, Gv H v T
theorem shS {K : PySem.W.Frag} {H : Hp} (z : Str) (h : z.length ≤ 100) : Shows K H (.str z) (.str z) := ⟨.str _, _, .str z (Nat.le_trans h (by decide))⟩
theorem oddN_ok {K : PySem.W.Frag} {a1 a2 a3 : Addr} : ∀ v ∈ oddN a1 a2 a3, gNam v = false ∧ ∃ d : PyData, Fits "name" d ∧ ∀ H : Hp, H a1 = some (.lst [.str "a"]) → H a2 = some (.tup [.str "a"]) → H a3 = some (.dK []) → Shows K H v d := by
  intro v hv
  simp only [List.mem_cons, List.not_mem_nil, or_false] at hv
  rcases hv with h | h | h | h | h | h | h | h | h | h | h | h | h | h <;> subst h
  · exact ⟨by decide +kernel, .str "", by decide +kernel, fun H _ _ _ => shS _ (by decide)⟩
  · exact ⟨by decide +kernel, .str "A", by decide +kernel, fun H _ _ _ => shS _ (by decide)⟩
  · exact ⟨by decide +kernel, .str "0a", by decide +kernel, fun H _ _ _ => shS _ (by decide)⟩
  · exact ⟨by decide +kernel, .str "abcdefghi", by decide +kernel, fun H _ _ _ => shS _ (by decide)⟩
  · exact ⟨by decide +kernel, .str "a b", by decide +kernel, fun H _ _ _ => shS _ (by decide)⟩
  · exact ⟨by decide +kernel, .str "sound", by decide +kernel, fun H _ _ _ => shS _ (by decide)⟩
  · exact ⟨by decide +kernel, .str "never", by decide +kernel, fun H _ _ _ => shS _ (by decide)⟩
  · exact ⟨by decide +kernel, .str "menu", by decide +kernel, fun H _ _ _ => shS _ (by decide)⟩
  · exact ⟨rfl, .none, by decide +kernel, fun H _ _ _ => ⟨.non, _, .non⟩⟩
  · exact ⟨rfl, .int 0, by decide +kernel, fun H _ _ _ => ⟨.int _, _, .int _⟩⟩
  · exact ⟨rfl, .bool true, by decide +kernel, fun H _ _ _ => ⟨.bl _, _, .bl _⟩⟩
  · exact ⟨rfl, .list [.str "a"], by decide +kernel, fun H f1 _ _ => ⟨.lst (SqL.of f1) (.cons (.str _) .nil), _, .lst f1⟩⟩
  · exact ⟨rfl, .tuple [.str "a"], by decide +kernel, fun H _ f2 _ => ⟨.tup (SqT.of f2) (.cons (.str _) .nil), _, .tup f2⟩⟩
  · exact ⟨rfl, .dict [], by decide +kernel, fun H _ _ f3 => ⟨.dct f3 .nil, _, .dK f3⟩⟩
theorem oddM_ok {K : PySem.W.Frag} {a1 a2 a3 : Addr} : ∀ v ∈ oddM a1 a2 a3, gMom v = false ∧ ∃ d : PyData, Fits "moment" d ∧ ∀ H : Hp, H a1 = some (.lst [.int 0]) → H a2 = some (.tup [.int 0]) → H a3 = some (.dK []) → Shows K H v d := by
  intro v hv
  simp only [List.mem_cons, List.not_mem_nil, or_false] at hv
  rcases hv with h | h | h | h | h | h | h | h <;> subst h
  · exact ⟨by decide, .int (-1), by decide +kernel, fun H _ _ _ => ⟨.int _, _, .int _⟩⟩
  · exact ⟨by decide, .int ((10 : Int) ^ (Int.toNat 30) + 1), by decide +kernel, fun H _ _ _ => ⟨.int _, _, .int _⟩⟩
  · exact ⟨rfl, .none, by decide +kernel, fun H _ _ _ => ⟨.non, _, .non⟩⟩
  · exact ⟨rfl, .bool true, by decide +kernel, fun H _ _ _ => ⟨.bl _, _, .bl _⟩⟩
  · exact ⟨rfl, .str "0", by decide +kernel, fun H _ _ _ => shS _ (by decide)⟩
  · exact ⟨rfl, .list [.int 0], by decide +kernel, fun H f1 _ _ => ⟨.lst (SqL.of f1) (.cons (.int _) .nil), _, .lst f1⟩⟩
  · exact ⟨rfl, .tuple [.int 0], by decide +kernel, fun H _ f2 _ => ⟨.tup (SqT.of f2) (.cons (.int _) .nil), _, .tup f2⟩⟩
  · exact ⟨rfl, .dict [], by decide +kernel, fun H _ _ f3 => ⟨.dct f3 .nil, _, .dK f3⟩⟩
theorem OffN.refl {p : Addr} {H : Hp} : OffN p H H := fun _ _ _ e _ => e
theorem OffN.trans {p : Addr} {H H1 H2 : Hp} (a : OffN p H H1) (b : OffN p H1 H2) : OffN p H H2 := fun c o n e t => b c o n (a c o n e t) t
theorem OffN.same {p : Addr} {H H1 : Hp} (s : Same H H1) : OffN p H H1 := fun c o _ e _ => s c o e
theorem OffN.off {p : Addr} {H H1 : Hp} (s : Off p H H1) : OffN p H H1 := fun c o n e _ => s c o n e
theorem OffN.ext {p : Addr} {H H1 : Hp} (s : ExtN H H1) : OffN p H H1 := fun c o _ e t => s c o e t
structure Odds (p a1 a2 a3 b1 b2 b3 o1 o2 : Addr) (H : Hp) : Prop where
  e1 : H a1 = some (.lst [.str "a"])
  e2 : H a2 = some (.tup [.str "a"])
  e3 : H a3 = some (.dK [])
  e4 : H b1 = some (.lst [.int 0])
  e5 : H b2 = some (.tup [.int 0])
  e6 : H b3 = some (.dK [])
  e7 : H o1 = some (.lst (oddN a1 a2 a3))
  e8 : H o2 = some (.lst (oddM b1 b2 b3))
  n1 : a1 ≠ p
  n2 : a2 ≠ p
  n3 : a3 ≠ p
  n4 : b1 ≠ p
  n5 : b2 ≠ p
  n6 : b3 ≠ p
  n7 : o1 ≠ p
  n8 : o2 ≠ p
theorem Odds.to {p a1 a2 a3 b1 b2 b3 o1 o2 : Addr} {H H' : Hp} (h : Odds p a1 a2 a3 b1 b2 b3 o1 o2 H) (s : OffN p H H') : Odds p a1 a2 a3 b1 b2 b3 o1 o2 H' :=
  ⟨s _ _ h.n1 h.e1 lst_ne, s _ _ h.n2 h.e2 tup_ne, s _ _ h.n3 h.e3 dk_ne, s _ _ h.n4 h.e4 lst_ne, s _ _ h.n5 h.e5 tup_ne, s _ _ h.n6 h.e6 dk_ne, s _ _ h.n7 h.e7 lst_ne, s _ _ h.n8 h.e8 lst_ne, h.n1, h.n2, h.n3, h.n4, h.n5, h.n6, h.n7, h.n8⟩
section
variable {P : Program} {w : World} {K : PySem.W.Frag} {mg : Str → Option Value} {base : Heap}
def spRef (T : List (Addr × Str)) : Sp := fun vs H Q _ => ∃ (p l t : Addr) (ns : List Int) (n : Nat) (g : Int) (z : Str) (m : Int) (y : Str), vs = [.ref p, .ref t] ∧ Pen H p l ns n g ∧ n < 900000 ∧ Ok3 z m y ∧ t ≠ p ∧ H t = some (.tup (x3 z m y)) ∧ Tabs T H ∧
  ∀ (n' : Nat) (g' : Int) (H' : Hp), n' ≤ n + 6 → OffN p H H' → Pen H' p l ns n' g' → Tabs T H' → Q (.bl true) H'
theorem ok_ref {T : List (Addr × Str)} {C CN CM CS CE CT f fI c1 P1 fD fP fH : Addr} {fd fdI fdD fdP fdH : FuncData} (F : Fun K "_law_refused_right" "_law_refused_right" sRef f fd) (hcode : fd.code = .ref c1) (TB : TabB base mg c1 P1)
    (hT1 : ∀ n f' c', (P1, (envOfC "_law_refused_right" (defScope sRef) n f' c').qual ++ "<lambda>") ∈ T) (hT2 : ∀ n f' c', ∀ q ∈ T, q.1 = P1 → q.2 = (envOfC "_law_refused_right" (defScope sRef) n f' c').qual ++ "<lambda>")
    (T0 : Ent K mg C) (M : Mk K C fI) (bI : Binds K fdI ["self", "tool", "moment", "by"] []) (kI : KBn K fdI ["self", "tool", "moment", "by"] 1 ["by", "tool", "moment"] kBtm kBtm) (G : FnOk P w K mg base (L2.CX P w) 4 fI fdI ["self", "tool", "moment", "by"] (spInit CN CM C))
    (R : Hrd K mg CT CN CM CE) (mp : mg "repr" = none) (mr : mg "range" = none) (mls : mg "list" = none)
    (FD : Fun K "_law_draw" "_law_draw" sDraw fD fdD) (bD : Binds K fdD ["_law_pen_here", "_law_many"] []) (gD : mg "_law_draw" = some (.ref fD)) (GD : FnOk P w K mg base CX0 1 fD fdD ["_law_pen_here", "_law_many"] spDraw)
    (FP : Fun K "_law_pick" "_law_pick" sPick fP fdP) (bP : Binds K fdP ["_law_pen_here", "_law_some"] []) (gP : mg "_law_pick" = some (.ref fP)) (GP : FnOk P w K mg base CX0 2 fP fdP ["_law_pen_here", "_law_some"] (spPick K))
    (FH : Fun K "_law_heard" "_law_heard" sHeard fH fdH) (bH0 : Binds K fdH ["_law_ask"] []) (gH : mg "_law_heard" = some (.ref fH)) :
    FnG P w K mg base CX0 12 f fd ["_law_pen_here", "_law_parts_here"] (spRef T) := by
  obtain ⟨ocH, odH, kVH, docH, pmH, anH, cdvH, ctH, oslH, efd, lkH, hcH⟩ := FH.ex
  subst efd
  have bH := bH0
  refine fnG_ofC F hcode scRef (fun vs H Q E h => ?_) (fun A outer s H vs Q E hg hr h => ?_)
  · obtain ⟨_, _, _, _, _, _, _, _, _, rfl, _⟩ := h
    rfl
  · obtain ⟨p, l, t, ns, n, g, z, m, y, rfl, hp, hn, ok, ntp, ht, hT, q⟩ := h
    have hr1 : Room 1 _ := hr.mono (by decide)
    have hr2 : Room 2 _ := hr.mono (by decide)
    refine ⟨_, (pss_cons (ps_set (i := 2) scRef.nd rfl (.inl rfl) (pe_lst (pa_cons pe_str (pa_cons pe_str (pa_cons pe_str (pa_cons pe_str (pa_cons pe_str (pa_cons pe_str (pa_cons pe_str (pa_cons pe_str (pa_cons pe_non (pa_cons pe_int (pa_cons pe_bl (pa_cons (pe_lst (pa_cons pe_str pa_nil)) (pa_cons (pe_tup (pa_cons pe_str pa_nil)) (pa_cons pe_dnewK pa_nil))))))))))))))))
      (pss_cons (ps_set (i := 3) scRef.nd rfl (.inl rfl) (pe_lst (pa_cons (pe_un un_neg pe_int) (pa_cons (pe_op op_add (pe_op op_pow pe_int pe_int) pe_int) (pa_cons pe_non (pa_cons pe_bl (pa_cons pe_str (pa_cons (pe_lst (pa_cons pe_int pa_nil)) (pa_cons (pe_tup (pa_cons pe_int pa_nil)) (pa_cons pe_dnewK pa_nil))))))))))
      (pss_cons (ps_set (i := 4) scRef.nd rfl (.inl rfl) (pe_lst (pa_cons (pe_call GP hr2 (by rfl) gP FP.kp bP .nil pass0 (pa_cons (pv 0) (pa_cons (pv 2) pa_nil))) (pa_cons (pe_call GP hr2 (by rfl) gP FP.kp bP .nil pass0 (pa_cons (pv 0) (pa_cons (pv 3) pa_nil))) (pa_cons (pe_call GP hr2 (by rfl) gP FP.kp bP .nil pass0 (pa_cons (pv 0) (pa_cons (pv 2) pa_nil))) pa_nil)))))
      (pss_cons (ps_set (i := 5) scRef.nd rfl (.inl rfl) (pe_lst (pa_cons (pe_tup (pa_cons pe_str (pa_cons (pe_ix ix_list (pv 4) pe_int (fun _ _ => rfl)) pa_nil))) (pa_cons (pe_tup (pa_cons pe_str (pa_cons (pe_ix ix_list (pv 4) pe_int (fun _ _ => rfl)) pa_nil))) (pa_cons (pe_tup (pa_cons pe_str (pa_cons (pe_ix ix_list (pv 4) pe_int (fun _ _ => rfl)) pa_nil))) pa_nil)))))
      (pss_cons (ps_for PassesOwn.never rfl (pi_range1 (by rfl) mr (pa_cons pe_int pa_nil)) (pg_name (i := 6) scRef.nd rfl (Or.inl rfl))
      (pss_cons (ps_set (i := 8) scRef.nd rfl (.inr rfl) (pe_callTy call_list_of (by rfl) mls (by decide +kernel) (pa_cons (pv 1) pa_nil)))
      (pss_cons (ps_asg (pe_ix ix_list (pv 4) (pv 6) (fun _ _ => rfl)) (pg_sub (pv 8) (pv 6) set_list))
      (pss_cons (ps_set (i := 7) scRef.nd rfl (.inl rfl) (pe_op op_add (pv 6) (pe_call GD hr1 (by rfl) gD FD.kp bD .nil pass0 (pa_cons (pv 0) (pa_cons (pe_op op_sub pe_int (pv 6)) pa_nil)))))
      (pss_cons (ps_asg (pe_ix ix_list (pv 4) (pv 7) (fun _ _ => rfl)) (pg_sub (pv 8) (pv 7) set_list))
      (pss_cons (ps_if (pt_cmpR op_ne (pe_callB (call_reprG hg hr.units) (by rfl) mp (by decide +kernel) (pa_cons (pe_lamcall (T := T) (TT := TTh CN CM CE) (t := _) (k := 9) (by rfl) gH FH.kp lkH hcH bH scHeard rfl (Or.inl rfl) (heard_gives R) TB rfl (hT1 _ _ _) (hT2 _ _ _) hr
            (lamS_by (sc := defScope sRef) (by decide +kernel)) rfl (fun _ _ _ _ _ => rfl) (fun A outer s H E f c' hr' => pe_make M G (hr'.mono (by decide)) (by rfl) T0.mgC bI .nil (passes_call (takes_of rfl rfl rfl rfl) (fun _ _ _ _ h => h)) (pa_cons (pe_ix (ixl (K := K) rfl) (pv 8) pe_int (fun _ _ => rfl)) (pa_cons (pe_ix (ixl (K := K) rfl) (pv 8) pe_int (fun _ _ => rfl)) (pa_cons (pe_ix (ixl (K := K) rfl) (pv 8) pe_int (fun _ _ => rfl)) pa_nil))))) pa_nil)) (pe_callB (call_reprG hg hr.units) (by rfl) mp (by decide +kernel) (pa_cons (pe_ix ix_list (pv 5) (pv 6) (fun _ _ => rfl)) pa_nil)) (nomark _)) (pss_one (ps_ret pe_bl)) pss_nil)
      (pss_one (ps_if (pt_cmpR op_ne (pe_callB (call_reprG hg hr.units) (by rfl) mp (by decide +kernel) (pa_cons (pe_lamcall (T := T) (TT := TTh CN CM CE) (t := _) (k := 9) (by rfl) gH FH.kp lkH hcH bH scHeard rfl (Or.inl rfl) (heard_gives R) TB rfl (hT1 _ _ _) (hT2 _ _ _) hr
            (lamS_by (sc := defScope sRef) (by decide +kernel)) rfl (fun _ _ _ _ _ => rfl) (fun A outer s H E f c' hr' => pe_makeK0 M G (hr'.mono (by decide)) (by rfl) T0.mgC kI (passes_call (takes_of rfl rfl rfl rfl) (fun _ _ _ _ h => h)) (pk_cons (pe_ix (ixl (K := K) rfl) (pv 8) pe_int (fun _ _ => rfl)) (pk_cons (pe_ix (ixl (K := K) rfl) (pv 8) pe_int (fun _ _ => rfl)) (pk_cons (pe_ix (ixl (K := K) rfl) (pv 8) pe_int (fun _ _ => rfl)) pk_nil))))) pa_nil)) (pe_callB (call_reprG hg hr.units) (by rfl) mp (by decide +kernel) (pa_cons (pe_ix ix_list (pv 5) (pv 6) (fun _ _ => rfl)) pa_nil)) (nomark _)) (pss_one (ps_ret pe_bl)) pss_nil))))))))
      (pss_one (ps_ret pe_bl))))))), ?_⟩
    refine ⟨by show 1 ≤ sizeLine; decide, fun a1 ha1 => ⟨by show 1 ≤ sizeLine; decide, fun a2 ha2 => fun a3 ha3 => ⟨by show 14 ≤ sizeLine; decide, fun o1 ho1 => ?_⟩⟩⟩
    have s1 := (((same_upd0 (o := .lst [.str "a"]) ha1).trans (same_upd0 (o := .tup [.str "a"]) ha2)).trans (same_upd0 (o := .dK []) ha3)).trans (same_upd0 (o := .lst (oddN a1 a2 a3)) ho1)
    have m1 : a1 ≠ p ∧ a2 ≠ p ∧ a3 ≠ p ∧ o1 ≠ p := ⟨(ne_of_none hp.pen ha1).symm, (ne_of_none (same_upd0 (o := .lst [.str "a"]) ha1 _ _ hp.pen) ha2).symm, (ne_of_none (((same_upd0 (o := .lst [.str "a"]) ha1).trans (same_upd0 (o := .tup [.str "a"]) ha2)) _ _ hp.pen) ha3).symm, (ne_of_none ((((same_upd0 (o := .lst [.str "a"]) ha1).trans (same_upd0 (o := .tup [.str "a"]) ha2)).trans (same_upd0 (o := .dK []) ha3)) _ _ hp.pen) ho1).symm⟩
    have F1 : (L2.upd (L2.upd (L2.upd (L2.upd H a1 (.lst [.str "a"])) a2 (.tup [.str "a"])) a3 (.dK [])) o1 (.lst (oddN a1 a2 a3))) a1 = some (.lst [.str "a"]) ∧ (L2.upd (L2.upd (L2.upd (L2.upd H a1 (.lst [.str "a"])) a2 (.tup [.str "a"])) a3 (.dK [])) o1 (.lst (oddN a1 a2 a3))) a2 = some (.tup [.str "a"]) ∧
        (L2.upd (L2.upd (L2.upd (L2.upd H a1 (.lst [.str "a"])) a2 (.tup [.str "a"])) a3 (.dK [])) o1 (.lst (oddN a1 a2 a3))) a3 = some (.dK []) ∧ (L2.upd (L2.upd (L2.upd (L2.upd H a1 (.lst [.str "a"])) a2 (.tup [.str "a"])) a3 (.dK [])) o1 (.lst (oddN a1 a2 a3))) o1 = some (.lst (oddN a1 a2 a3)) :=
      ⟨same_upd0 ho1 _ _ (same_upd0 ha3 _ _ (same_upd0 ha2 _ _ upd_same)), same_upd0 ho1 _ _ (same_upd0 ha3 _ _ upd_same), same_upd0 ho1 _ _ upd_same, upd_same⟩
    revert s1 F1
    generalize L2.upd (L2.upd (L2.upd (L2.upd H a1 (.lst [.str "a"])) a2 (.tup [.str "a"])) a3 (.dK [])) o1 (.lst (oddN a1 a2 a3)) = H1
    rintro s1 ⟨c1, c2, c3, c4⟩
    clear ha1 ha2 ha3 ho1
    have pen1 := pen_same hp s1
    refine ⟨_, rfl, _, _, rfl, rfl, ⟨by decide, by decide, by decide⟩, _, _, rfl, rfl, by show 1 ≤ sizeLine; decide, fun b1 hb1 => ⟨by show 1 ≤ sizeLine; decide, fun b2 hb2 => fun b3 hb3 => ⟨by show 8 ≤ sizeLine; decide, fun o2 ho2 => ?_⟩⟩⟩
    have s2 := (((same_upd0 (o := .lst [.int 0]) hb1).trans (same_upd0 (o := .tup [.int 0]) hb2)).trans (same_upd0 (o := .dK []) hb3)).trans (same_upd0 (o := .lst (oddM b1 b2 b3)) ho2)
    have m2 : b1 ≠ p ∧ b2 ≠ p ∧ b3 ≠ p ∧ o2 ≠ p := ⟨(ne_of_none pen1.pen hb1).symm, (ne_of_none (same_upd0 (o := .lst [.int 0]) hb1 _ _ pen1.pen) hb2).symm, (ne_of_none (((same_upd0 (o := .lst [.int 0]) hb1).trans (same_upd0 (o := .tup [.int 0]) hb2)) _ _ pen1.pen) hb3).symm, (ne_of_none ((((same_upd0 (o := .lst [.int 0]) hb1).trans (same_upd0 (o := .tup [.int 0]) hb2)).trans (same_upd0 (o := .dK []) hb3)) _ _ pen1.pen) ho2).symm⟩
    have O2 : Odds p a1 a2 a3 b1 b2 b3 o1 o2 (L2.upd (L2.upd (L2.upd (L2.upd H1 b1 (.lst [.int 0])) b2 (.tup [.int 0])) b3 (.dK [])) o2 (.lst (oddM b1 b2 b3))) :=
      ⟨s2 _ _ c1, s2 _ _ c2, s2 _ _ c3, same_upd0 ho2 _ _ (same_upd0 hb3 _ _ (same_upd0 hb2 _ _ upd_same)), same_upd0 ho2 _ _ (same_upd0 hb3 _ _ upd_same), same_upd0 ho2 _ _ upd_same, s2 _ _ c4, upd_same, m1.1, m1.2.1, m1.2.2.1, m2.1, m2.2.1, m2.2.2.1, m1.2.2.2, m2.2.2.2⟩
    show gName 3 (V.ref o2) _ (L2.upd (L2.upd (L2.upd (L2.upd H1 b1 (.lst [.int 0])) b2 (.tup [.int 0])) b3 (.dK [])) o2 (.lst (oddM b1 b2 b3))) _
    revert s2 O2
    generalize L2.upd (L2.upd (L2.upd (L2.upd H1 b1 (.lst [.int 0])) b2 (.tup [.int 0])) b3 (.dK [])) o2 (.lst (oddM b1 b2 b3)) = H2
    intro s2 O2
    clear hb1 hb2 hb3 ho2 c1 c2 c3 c4 m1 m2
    have s12 := s1.trans s2
    have pen2 := pen_same hp s12
    refine ⟨_, rfl, _, rfl, p, l, ns, n, g, _, rfl, pen2, by omega, .inl ⟨o1, _, rfl, O2.n7, O2.e7, by show 0 < 14; decide, by show 14 ≤ 1000; decide, fun w0 n3 g3 H3 hw0 hn3 off3 pen3 => ?_⟩⟩
    have O3 := O2.to (OffN.off off3)
    refine ⟨_, rfl, _, rfl, p, l, ns, n3, g3, _, rfl, pen3, by omega, .inl ⟨o2, _, rfl, O3.n8, O3.e8, by show 0 < 8; decide, by show 8 ≤ 1000; decide, fun w1 n4 g4 H4 hw1 hn4 off4 pen4 => ?_⟩⟩
    have O4 := O3.to (OffN.off off4)
    refine ⟨_, rfl, _, rfl, p, l, ns, n4, g4, _, rfl, pen4, by omega, .inl ⟨o1, _, rfl, O4.n7, O4.e7, by show 0 < 14; decide, by show 14 ≤ 1000; decide, fun w2 n5 g5 H5 hw2 hn5 off5 pen5 => ?_⟩⟩
    have O5 := O4.to (OffN.off off5)
    have N5 : OffN p H H5 := (OffN.same s12).trans (OffN.off ((off3.trans off4).trans off5))
    have T5 : Tabs T H5 := tabs_off (s12 _ _ hp.pen) (tabs_same hT s12) ((off3.trans off4).trans off5)
    clear O2 O3 O4 off3 off4 off5 pen2 pen3 pen4 s12 s1 s2 pen1
    obtain ⟨bad0, y0, fit0, sh0⟩ := oddN_ok (K := K) w0 hw0
    obtain ⟨bad1, y1, fit1, sh1⟩ := oddM_ok (K := K) w1 hw1
    obtain ⟨bad2, y2, fit2, sh2⟩ := oddN_ok (K := K) w2 hw2
    refine ⟨by show 3 ≤ sizeLine; decide, fun wr hwr => ?_⟩
    have s6 := same_upd0 (o := .lst [w0, w1, w2]) hwr
    have nwr : wr ≠ p := (ne_of_none pen5.pen hwr).symm
    have ewr : (L2.upd H5 wr (.lst [w0, w1, w2])) wr = some (.lst [w0, w1, w2]) := upd_same
    have O6 := O5.to (OffN.same s6)
    have N6 := N5.trans (OffN.same s6)
    have T6 := tabs_same T5 s6
    have pen6 := pen_same pen5 s6
    revert ewr O6 N6 T6 pen6
    generalize L2.upd H5 wr (.lst [w0, w1, w2]) = H6
    intro ewr O6 N6 T6 pen6
    clear s6 hwr O5 N5 T5 pen5
    refine ⟨_, rfl, wr, _, 0, _, rfl, rfl, SqL.of ewr, atI_nat (j := 0) rfl, by show 2 ≤ sizeLine; decide, fun u0 hu0 => ?_⟩
    have s7 := same_upd0 (o := .tup [.str "name", w0]) hu0
    refine ⟨_, rfl, wr, _, 1, _, rfl, rfl, SqL.of (s7 _ _ ewr), atI_nat (j := 1) rfl, by show 2 ≤ sizeLine; decide, fun u1 hu1 => ?_⟩
    have s8 := same_upd0 (o := .tup [.str "moment", w1]) hu1
    refine ⟨_, rfl, wr, _, 2, _, rfl, rfl, SqL.of (s8 _ _ (s7 _ _ ewr)), atI_nat (j := 2) rfl, by show 2 ≤ sizeLine; decide, fun u2 hu2 => ?_⟩
    have s9 := same_upd0 (o := .tup [.str "name", w2]) hu2
    refine ⟨by show 3 ≤ sizeLine; decide, fun du hdu => ?_⟩
    have s10 := same_upd0 (o := .lst [.ref u0, .ref u1, .ref u2]) hdu
    have sZ := ((s7.trans s8).trans s9).trans s10
    have Z : (L2.upd (L2.upd (L2.upd (L2.upd H6 u0 (.tup [.str "name", w0])) u1 (.tup [.str "moment", w1])) u2 (.tup [.str "name", w2])) du (.lst [.ref u0, .ref u1, .ref u2])) u0 = some (.tup [.str "name", w0]) ∧
        (L2.upd (L2.upd (L2.upd (L2.upd H6 u0 (.tup [.str "name", w0])) u1 (.tup [.str "moment", w1])) u2 (.tup [.str "name", w2])) du (.lst [.ref u0, .ref u1, .ref u2])) u1 = some (.tup [.str "moment", w1]) ∧
        (L2.upd (L2.upd (L2.upd (L2.upd H6 u0 (.tup [.str "name", w0])) u1 (.tup [.str "moment", w1])) u2 (.tup [.str "name", w2])) du (.lst [.ref u0, .ref u1, .ref u2])) u2 = some (.tup [.str "name", w2]) ∧
        (L2.upd (L2.upd (L2.upd (L2.upd H6 u0 (.tup [.str "name", w0])) u1 (.tup [.str "moment", w1])) u2 (.tup [.str "name", w2])) du (.lst [.ref u0, .ref u1, .ref u2])) du = some (.lst [.ref u0, .ref u1, .ref u2]) :=
      ⟨s10 _ _ (s9 _ _ (s8 _ _ upd_same)), s10 _ _ (s9 _ _ upd_same), s10 _ _ upd_same, upd_same⟩
    have nu : u0 ≠ p ∧ u1 ≠ p ∧ u2 ≠ p ∧ du ≠ p := ⟨(ne_of_none pen6.pen hu0).symm, (ne_of_none (s7 _ _ pen6.pen) hu1).symm, (ne_of_none (s8 _ _ (s7 _ _ pen6.pen)) hu2).symm, (ne_of_none (s9 _ _ (s8 _ _ (s7 _ _ pen6.pen))) hdu).symm⟩
    have ewr' := sZ _ _ ewr
    have O7 := O6.to (OffN.same sZ)
    have N7 := N6.trans (OffN.same sZ)
    have T7 := tabs_same T6 sZ
    have pen7 := pen_same pen6 sZ
    revert Z ewr' O7 N7 T7 pen7
    generalize L2.upd (L2.upd (L2.upd (L2.upd H6 u0 (.tup [.str "name", w0])) u1 (.tup [.str "moment", w1])) u2 (.tup [.str "name", w2])) du (.lst [.ref u0, .ref u1, .ref u2]) = H7
    rintro ⟨z0, z1, z2, z3⟩ ewr' O7 N7 T7 pen7
    clear s7 s8 s9 s10 sZ hu0 hu1 hu2 hdu ewr O6 N6 T6 pen6
    have ht7 := N7 _ _ ntp ht tup_ne
    obtain ⟨nu0, nu1, nu2, ndu⟩ := nu
    refine ⟨3, rfl, by decide, by decide, for_range (lo := 0) (n := 3) (fun j σ G => ∃ x6 x7 x8 n' g', σ = [some (.ref p), some (.ref t), some (.ref o1), some (.ref o2), some (.ref wr), some (.ref du), x6, x7, x8] ∧ OffN p H7 G ∧ Pen G p l ns n' g' ∧ n' ≤ n5 + j ∧ Tabs T G)
      ⟨none, none, none, n5, g5, rfl, OffN.refl, pen7, Nat.le_refl _, T7⟩ ?_ ?_⟩
    case refine_2 =>
      rintro σ G ⟨x6, x7, x8, n8, g8, rfl, N8, pen8, hn8, T8⟩
      exact q n8 g8 G (by omega) (N7.trans N8) pen8 T8
    rintro j σ G hj ⟨x6, x7, x8, n8, g8, rfl, N8, pen8, hn8, T8⟩
    have ht8 := N8 _ _ ntp ht7 tup_ne
    have wr8 := N8 _ _ nwr ewr' lst_ne
    have du8 := N8 _ _ ndu z3 lst_ne
    have O8 := O7.to N8
    obtain ⟨wj, hwj⟩ : ∃ wj, [w0, w1, w2][j]? = some wj := ⟨_, List.getElem?_eq_getElem (by show j < 3; exact hj)⟩
    refine ⟨_, rfl, t, _, rfl, .inr (SqT.of ht8), fun sm hsm => ?_⟩
    have s9 := same_upd0 (o := .lst (x3 z m y)) hsm
    have nsm : sm ≠ p := (ne_of_none pen8.pen hsm).symm
    refine ⟨_, rfl, _, rfl, wr, _, _, _, rfl, rfl, SqL.of (s9 _ _ wr8), at0 hwj, _, rfl, _, rfl, sm, _, _, j, rfl, rfl, upd_same, ixN0 (by show j < 3; exact hj), ?_⟩
    have N9 : OffN p H7 (L2.upd (L2.upd G sm (.lst (x3 z m y))) sm (.lst ((x3 z m y).set j wj))) := fun b o nb eb nt => by
      have e1 := N8 _ _ nb eb nt
      have nb2 : b ≠ sm := ne_of_none e1 hsm
      exact (upd_ne nb2).trans ((upd_ne nb2).trans e1)
    have pen9 : Pen (L2.upd (L2.upd G sm (.lst (x3 z m y))) sm (.lst ((x3 z m y).set j wj))) p l ns n8 g8 :=
      ⟨(upd_ne nsm.symm).trans (s9 _ _ pen8.pen), (upd_ne (ne_of_none pen8.cells hsm)).trans (s9 _ _ pen8.cells), pen8.left⟩
    have esm : (L2.upd (L2.upd G sm (.lst (x3 z m y))) sm (.lst ((x3 z m y).set j wj))) sm = some (.lst ((x3 z m y).set j wj)) := upd_same
    have T9 : Tabs T (L2.upd (L2.upd G sm (.lst (x3 z m y))) sm (.lst ((x3 z m y).set j wj))) := by
      refine tabs_same T8 fun b o e => ?_
      have nb2 : b ≠ sm := ne_of_none e hsm
      exact (upd_ne nb2).trans ((upd_ne nb2).trans e)
    have nbs : ∀ b o, b ≠ p → H7 b = some o → (∀ ps, o ≠ .tbl ps) → b ≠ sm := fun b o nb eb nt => ne_of_none (N8 _ _ nb eb nt) hsm
    have nls : l ≠ sm := ne_of_none pen8.cells hsm
    revert N9 pen9 esm T9
    generalize L2.upd (L2.upd G sm (.lst (x3 z m y))) sm (.lst ((x3 z m y).set j wj)) = G1
    intro N9 pen9 esm T9
    clear s9 hsm pen8 T8 wr8 du8 O8 ht8 N8
    refine ⟨_, rfl, _, rfl, _, rfl, _, _, rfl, rfl, p, l, ns, n8, g8, _, rfl, pen9, by omega, by omega, Nat.lt_of_le_of_lt (by omega : _ ≤ 3) (by decide), fun d n10 g10 G2 d0 d1 hn10 off10 pen10 => ?_⟩
    obtain ⟨k, rfl⟩ : ∃ k : Nat, d = k := ⟨d.toNat, by omega⟩
    have hk : j + k < 3 := by omega
    have N10 := N9.trans (OffN.off off10)
    have T10 := tabs_off pen9.pen T9 off10
    have esm10 := off10 _ _ nsm esm
    have wr10 := N10 _ _ nwr ewr' lst_ne
    obtain ⟨wk, hwk⟩ : ∃ wk, [w0, w1, w2][j + k]? = some wk := ⟨_, List.getElem?_eq_getElem (by show j + k < 3; exact hk)⟩
    refine ⟨_, _, rfl, rfl, ?_⟩
    show gName 7 (V.int ((0 : Int) + (j : Int) + (k : Int))) _ _ _
    rw [show (0 : Int) + (j : Int) + (k : Int) = 0 + ((j + k : Nat) : Int) by omega]
    refine ⟨_, rfl, _, rfl, wr, _, _, _, rfl, rfl, SqL.of wr10, at0 hwk, _, rfl, _, rfl, sm, _, _, j + k, rfl, rfl, esm10, ixN0 (by rw [List.length_set]; show j + k < 3; exact hk), ?_⟩
    have N11 : OffN p H7 (L2.upd G2 sm (.lst (((x3 z m y).set j wj).set (j + k) wk))) := fun b o nb eb nt => (upd_ne (nbs b o nb eb nt)).trans (N10 _ _ nb eb nt)
    have pen11 : Pen (L2.upd G2 sm (.lst (((x3 z m y).set j wj).set (j + k) wk))) p l ns n10 g10 := ⟨(upd_ne nsm.symm).trans pen10.pen, (upd_ne nls).trans pen10.cells, pen10.left⟩
    have T11 : Tabs T (L2.upd G2 sm (.lst (((x3 z m y).set j wj).set (j + k) wk))) := tabs_off esm10 T10 (Off.upd Off.refl)
    have esm11 : (L2.upd G2 sm (.lst (((x3 z m y).set j wj).set (j + k) wk))) sm = some (.lst (((x3 z m y).set j wj).set (j + k) wk)) := upd_same
    revert N11 pen11 T11 esm11
    generalize L2.upd G2 sm (.lst (((x3 z m y).set j wj).set (j + k) wk)) = G3
    intro N11 pen11 T11 esm11
    clear N10 T10 esm10 wr10 pen10 N9 T9 esm pen9 off10
    -- what the list holds, and the first thing in it that cannot stand
    have gS : ∀ {u : Str} H', isName u = true → ∃ T, Gv H' (.str u) T := fun _ h => ⟨_, .str _ (Nat.le_trans (name_len h) (by decide))⟩
    have S0 : ∀ G', OffN p H7 G' → Shows K G' w0 y0 := fun G' N => sh0 G' (O7.to N).e1 (O7.to N).e2 (O7.to N).e3
    have S1 : ∀ G', OffN p H7 G' → Shows K G' w1 y1 := fun G' N => sh1 G' (O7.to N).e4 (O7.to N).e5 (O7.to N).e6
    have S2 : ∀ G', OffN p H7 G' → Shows K G' w2 y2 := fun G' N => sh2 G' (O7.to N).e1 (O7.to N).e2 (O7.to N).e3
    obtain ⟨v0, v1, v2, wd, Cj, fl, uj, yj, hL, hgv, hbad, hk3, huj, huw, hfit, hsh⟩ : ∃ (v0 v1 v2 : V) (wd : Str) (Cj : Addr) (fl : Str) (uj : Addr) (yj : PyData), ((x3 z m y).set j wj).set (j + k) wk = [v0, v1, v2] ∧ (∀ G', OffN p H7 G' → (∃ T, Gv G' v0 T) ∧ (∃ T, Gv G' v1 T) ∧ ∃ T, Gv G' v2 T) ∧ bad3 CN CM v0 v1 v2 = some (Cj, fl, wj) ∧ Kind3 CN CM CE wd Cj fl ∧
        [V.ref u0, V.ref u1, V.ref u2][j]? = some (.ref uj) ∧ (∀ G', OffN p H7 G' → G' uj = some (.tup [.str wd, wj])) ∧ Fits wd yj ∧ ∀ G', OffN p H7 G' → Shows K G' wj yj := by
      have gz : gNam (.str z) = true := ok.z
      have gm : gMom (.int m) = true := decide_eq_true ok.m
      have b0 : ∀ a b, bad3 CN CM w0 a b = some (CN, ("name" : Str), w0) := fun a b => by
        unfold bad3
        rw [bad0]
        rfl
      have b1' : ∀ b, bad3 CN CM (.str z) w1 b = some (CM, ("moment" : Str), w1) := fun b => by
        unfold bad3
        rw [gz, bad1]
        rfl
      have b2' : bad3 CN CM (.str z) (.int m) w2 = some (CN, ("name" : Str), w2) := by
        unfold bad3
        rw [gz, gm, bad2]
        rfl
      have U0 : ∀ G', OffN p H7 G' → G' u0 = some (.tup [.str "name", w0]) := fun G' N => N _ _ nu0 z0 tup_ne
      have U1 : ∀ G', OffN p H7 G' → G' u1 = some (.tup [.str "moment", w1]) := fun G' N => N _ _ nu1 z1 tup_ne
      have U2 : ∀ G', OffN p H7 G' → G' u2 = some (.tup [.str "name", w2]) := fun G' N => N _ _ nu2 z2 tup_ne
      have cj : j = 0 ∨ j = 1 ∨ j = 2 := by omega
      rcases cj with e | e | e <;> subst e
      · cases hwj
        have ck : k = 0 ∨ k = 1 ∨ k = 2 := by omega
        rcases ck with e | e | e <;> subst e <;> cases hwk
        · exact ⟨_, _, _, "name", CN, "name", u0, y0, rfl, fun G' N => ⟨(S0 G' N).2, ⟨_, .int m⟩, gS G' ok.y⟩, b0 _ _, .inl ⟨rfl, rfl, rfl⟩, rfl, U0, fit0, S0⟩
        · exact ⟨_, _, _, "name", CN, "name", u0, y0, rfl, fun G' N => ⟨(S0 G' N).2, (S1 G' N).2, gS G' ok.y⟩, b0 _ _, .inl ⟨rfl, rfl, rfl⟩, rfl, U0, fit0, S0⟩
        · exact ⟨_, _, _, "name", CN, "name", u0, y0, rfl, fun G' N => ⟨(S0 G' N).2, ⟨_, .int m⟩, (S2 G' N).2⟩, b0 _ _, .inl ⟨rfl, rfl, rfl⟩, rfl, U0, fit0, S0⟩
      · cases hwj
        have ck : k = 0 ∨ k = 1 := by omega
        rcases ck with e | e <;> subst e <;> cases hwk
        · exact ⟨_, _, _, "moment", CM, "moment", u1, y1, rfl, fun G' N => ⟨gS G' ok.z, (S1 G' N).2, gS G' ok.y⟩, b1' _, .inr (.inl ⟨rfl, rfl, rfl⟩), rfl, U1, fit1, S1⟩
        · exact ⟨_, _, _, "moment", CM, "moment", u1, y1, rfl, fun G' N => ⟨gS G' ok.z, (S1 G' N).2, (S2 G' N).2⟩, b1' _, .inr (.inl ⟨rfl, rfl, rfl⟩), rfl, U1, fit1, S1⟩
      · cases hwj
        have ck : k = 0 := by omega
        subst ck
        cases hwk
        exact ⟨_, _, _, "name", CN, "name", u2, y2, rfl, fun G' N => ⟨gS G' ok.z, ⟨_, .int m⟩, (S2 G' N).2⟩, b2', .inl ⟨rfl, rfl, rfl⟩, rfl, U2, fit2, S2⟩
    rw [hL] at esm11
    obtain ⟨k1, k2, k3⟩ := hfit
    have k3' : (dW wd yj).shown.length ≤ sizeLine := by have := sizeLine_eq; omega
    -- the first lambda
    refine ⟨T11, fun G4 x4 T4 => ?_⟩
    have N4 := N11.trans (OffN.ext x4)
    have esm4 := x4 _ _ esm11 lst_ne
    have pen4 := pen_ext pen11 x4
    clear T11 esm11 pen11 N11 x4
    refine ⟨_, rfl, sm, _, 0, _, rfl, rfl, SqL.of esm4, atI_nat (j := 0) rfl, _, rfl, sm, _, 1, _, rfl, rfl, SqL.of esm4, atI_nat (j := 1) rfl, _, rfl, sm, _, 2, _, rfl, rfl, SqL.of esm4, atI_nat (j := 2) rfl, fun x dx e1 e2 e3 => ?_⟩
    obtain ⟨⟨t0, g0⟩, ⟨t1, g1⟩, ⟨t2, g2⟩⟩ := hgv G4 N4
    refine made1 e1 e2 e3 g0 g1 g2 ⟨fun e => (by rw [hbad] at e; cases e), fun C' fl' v' e d' G5 s5 ed => ?_⟩
    rw [hbad] at e
    cases e
    refine ⟨wd, Cj, fl, wj, d', hk3, rfl, rfl, ed, fun G6 r s6 hr6 => ?_⟩
    have N6 := N4.trans (OffN.same (s5.trans s6))
    have esm6 := (s5.trans s6) _ _ esm4
    have pen6 := pen_same pen4 (s5.trans s6)
    have T6 := tabs_same T4 (s5.trans s6)
    clear e1 e2 e3 g0 g1 g2 T4 esm4 pen4 N4 s5 s6 ed
    refine ⟨_, dW wd yj, rfl, .tup (SqT.of hr6) (.cons (.str _) (.cons (hsh G6 N6).1 .nil)), k1, k2, k3', _, rfl, _, rfl, du, _, _, _, rfl, rfl, SqL.of (N6 _ _ ndu z3 lst_ne), at0 huj, ?_⟩
    refine ⟨_, dW wd yj, rfl, .tup (SqT.of (huw G6 N6)) (.cons (.str _) (.cons (hsh G6 N6).1 .nil)), k1, k2, k3', rfl, _, rfl, ite2 (fun e => absurd e neSame) (fun _ => ?_)⟩
    -- the second one
    refine ⟨T6, fun G7 x7 T7' => ?_⟩
    have N7' := N6.trans (OffN.ext x7)
    have esm7 := x7 _ _ esm6 lst_ne
    have pen7' := pen_ext pen6 x7
    clear T6 esm6 pen6 N6 x7 hr6
    refine ⟨_, rfl, sm, _, 2, _, rfl, rfl, SqL.of esm7, atI_nat (j := 2) rfl, _, rfl, sm, _, 0, _, rfl, rfl, SqL.of esm7, atI_nat (j := 0) rfl, _, rfl, sm, _, 1, _, rfl, rfl, SqL.of esm7, atI_nat (j := 1) rfl, rfl, rfl, fun x dx e1 e2 e3 => ?_⟩
    obtain ⟨⟨t0, g0⟩, ⟨t1, g1⟩, ⟨t2, g2⟩⟩ := hgv G7 N7'
    refine made1 e1 e2 e3 g0 g1 g2 ⟨fun e => (by rw [hbad] at e; cases e), fun C' fl' v' e d' G8 s8 ed => ?_⟩
    rw [hbad] at e
    cases e
    refine ⟨wd, Cj, fl, wj, d', hk3, rfl, rfl, ed, fun G9 r s9 hr9 => ?_⟩
    have N9 := N7'.trans (OffN.same (s8.trans s9))
    have pen9 := pen_same pen7' (s8.trans s9)
    have T9 := tabs_same T7' (s8.trans s9)
    refine ⟨_, dW wd yj, rfl, .tup (SqT.of hr9) (.cons (.str _) (.cons (hsh G9 N9).1 .nil)), k1, k2, k3', _, rfl, _, rfl, du, _, _, _, rfl, rfl, SqL.of (N9 _ _ ndu z3 lst_ne), at0 huj, ?_⟩
    refine ⟨_, dW wd yj, rfl, .tup (SqT.of (huw G9 N9)) (.cons (.str _) (.cons (hsh G9 N9).1 .nil)), k1, k2, k3', rfl, _, rfl, ite2 (fun e => absurd e neSame) (fun _ => ?_)⟩
    exact ⟨_, _, _, n10, g10, rfl, N9, pen9, by omega, T9⟩
end
end K63

namespace So
open PySem PySem.Spec PyProof.Rows L2
section
variable {X : Cx} {CX : CXT} {k : Nat} {C f : Addr} {fd : FuncData} {ps : List Str} {sp : Sp} {E : XK}
/-- str(o) of an instance whose class has an own __str__ -/
theorem call_strOwn (F : FnOk X.prog X.w X.K X.mg X.base CX k f fd ps sp) (hs : PySem.W.findIn X.K (.ref C) "__str__" = some (some (.ref f))) (hf : PySem.W.isFn X.K (.ref f) = true) (hb : Binds X.K fd ps []) (hx : Passes CX X E) (hr : Room (k + 2) X.A) :
    CallR X (.type "str") (fun xs H Q => ∃ a dx fs, xs = [.ref a] ∧ H a = some (.ins C dx fs) ∧ sp [.ref a] H (fun v H' => ∃ t : Str, v = .str t ∧ Q (.str t) H') E) := by
  intro pins s σ H xs us Q I r h
  obtain ⟨a, dx, fs, rfl, ha, q⟩ := h
  obtain ⟨u, rfl, ru⟩ := vals1 r
  cases ru
  obtain ⟨mA, J, _⟩ := ins_get I.hok ha
  obtain ⟨od, J, _⟩ := J.look
  have hr2 : Room k X.A.in1.in1 := hr.in1.in1
  refine PySem.W.kso_call hr2.units0 I.kIn J hs hf ?_
  have e0 : Env0 X.prog X.w X.K X.mg X.base X.A.in1.in1 X.stack s H := I.env0.in1.in1
  have hl : ([Value.ref a] ++ ([] : List Value)).length = ps.length := (F.len _ _ _ _ q : [V.ref a].length = ps.length)
  refine wpAny_call (codeAny_mono (F.run X.A.in1.in1 X.stack s H ⟨[.ref a], []⟩ ([Value.ref a] ++ []) [.ref a] _ E hr2 e0 (hb s [Value.ref a] I.kIn hl) (show Vals [V.ref a] [Value.ref a] from .cons rfl .nil) q) fun r s' hq => ?_)
  match r, hq with
  | .error e, hq => exact hx pins σ H s e s' I hq
  | .ok (.ret u), hq =>
    obtain ⟨v, H', I', rv, t, ev, q'⟩ := I.after hq
    subst ev
    obtain ⟨tk, rfl⟩ := rv
    exact ⟨.str t, H', I', ⟨tk, rfl⟩, q'⟩
  | .ok .next, hq => exact hq.elim
  | .ok .brk, hq => exact hq.elim
  | .ok .cont, hq => exact hq.elim
end
end So

namespace K63
open PySem PySem.Spec PyProof.Rows L2 So TL
/-! ### the text of an entry; how long what repr tells is -/
theorem mom_log {m : Int} (h : 0 ≤ m ∧ m ≤ 1000000000000000000000000000000) : m.natAbs.log2 < 1920 := by
  have : m.natAbs < 2 ^ 100 := by omega
  exact Nat.lt_of_lt_of_le (PySem.Flt.log2_lt_of (by decide) this) (by decide)
theorem num_len {m : Int} (h : 0 ≤ m ∧ m ≤ 1000000000000000000000000000000) : (Str.ofString (toString m)).length ≤ 31 ∧ ∀ c ∈ tl (Str.ofString (toString m)), c < 128 := by
  obtain ⟨k, rfl⟩ : ∃ k : Nat, m = k := ⟨m.toNat, by omega⟩
  have e := tl_num k
  have hl : (numL k).length ≤ 31 := numL_len (by decide) (by omega)
  refine ⟨by rw [TL.len_tl, e]; exact hl, fun c hc => ?_⟩
  rw [e] at hc
  have := numL_digits k c hc
  omega
theorem text_eq (z : Str) (m : Int) (y : Str) : (((((("check " : Str) ++ z) ++ (" " : Str)) ++ Str.ofString (toString m)) ++ (" by " : Str)) ++ y) = entText z m y := by
  unfold entText
  rw [show Str.empty ++ ("check " : Str) = ("check " : Str) from Str.empty_append _]
theorem text_len {z : Str} {m : Int} {y : Str} (ok : Ok3 z m y) : (entText z m y).length ≤ 60 := by
  have h1 := name_len ok.z
  have h2 := name_len ok.y
  have h3 := (num_len ok.m).1
  rw [← text_eq]
  rw [Str.length_append, Str.length_append, Str.length_append, Str.length_append, Str.length_append]
  have e1 : ("check " : Str).length = 6 := by decide
  have e2 : (" " : Str).length = 1 := by decide
  have e3 : (" by " : Str).length = 4 := by decide
  rw [e1, e2, e3]
  omega
theorem text_small {z : Str} {m : Int} {y : Str} (ok : Ok3 z m y) : ∀ c ∈ (entText z m y).cps.toList, c < 128 := by
  intro c hc
  have hc : c ∈ tl (entText z m y) := hc
  rw [← text_eq, tl_append, tl_append, tl_append, tl_append, tl_append] at hc
  simp only [List.mem_append] at hc
  rcases hc with ((((h | h) | h) | h) | h) | h
  · have : ∀ c ∈ tl ("check " : Str), c < 128 := by decide +kernel
    exact this c h
  · exact name_small ok.z c h
  · have : ∀ c ∈ tl (" " : Str), c < 128 := by decide +kernel
    exact this c h
  · exact (num_len ok.m).2 c h
  · have : ∀ c ∈ tl (" by " : Str), c < 128 := by decide +kernel
    exact this c h
  · exact name_small ok.y c h
/-- a short text of signs below 128, as data -/
def Sm (d : PyData) : Prop := d.showable = true ∧ d.depth = 0 ∧ d.shown.length ≤ 3000
theorem smS {u : Str} (h1 : u.length ≤ 60) (h2 : ∀ c ∈ u.cps.toList, c < 128) : Sm (.str u) := by
  refine ⟨rfl, rfl, ?_⟩
  have := PySem.StrLaws.reprText_len u (fun c hc => Nat.lt_trans (h2 c hc) (by decide))
  show (reprText u).length ≤ 3000
  omega
theorem smN {z : Str} (h : isName z = true) : Sm (.str z) := smS (Nat.le_trans (name_len h) (by decide)) (name_small h)
theorem smI {m : Int} (h : 0 ≤ m ∧ m ≤ 1000000000000000000000000000000) : Sm (.int m) := by
  refine ⟨by
    have := mom_log h
    unfold PyData.showable
    simp only [decide_eq_true_eq]
    omega, rfl, ?_⟩
  show (Str.ofString (toString m)).length ≤ 3000
  have := (num_len h).1
  omega
theorem smB (b : Bool) : Sm (.bool b) := by cases b <;> exact ⟨rfl, rfl, by decide⟩
theorem showAll_of : ∀ ds : List PyData, (∀ d ∈ ds, Sm d) → PyData.showableAll ds = true ∧ PyData.depthAll ds = 0 ∧ ((PyData.shownAll ds).map (·.length)).sum ≤ 3000 * ds.length ∧ (PyData.shownAll ds).length = ds.length
  | [], _ => ⟨rfl, rfl, by simp [PyData.shownAll], rfl⟩
  | d :: r, h => by
    obtain ⟨a1, a2, a3⟩ := h d List.mem_cons_self
    obtain ⟨b1, b2, b3, b4⟩ := showAll_of r fun x hx => h x (List.mem_cons_of_mem _ hx)
    refine ⟨?_, ?_, ?_, ?_⟩
    · unfold PyData.showableAll
      rw [a1, b1]
      rfl
    · unfold PyData.depthAll
      rw [a2, b2]
      rfl
    · unfold PyData.shownAll
      rw [List.map_cons, List.sum_cons, List.length_cons, Nat.mul_succ]
      omega
    · unfold PyData.shownAll
      rw [List.length_cons, b4, List.length_cons]
theorem list_ok {ds : List PyData} (h : ∀ d ∈ ds, Sm d) (hl : ds.length ≤ 10) : (PyData.list ds).showable = true ∧ (PyData.list ds).depth ≤ 60 ∧ (PyData.list ds).shown.length ≤ sizeLine := by
  obtain ⟨a, b, c, e⟩ := showAll_of ds h
  refine ⟨a, ?_, ?_⟩
  · show PyData.depthAll ds + 1 ≤ 60
    omega
  · have h1 := listText_len_le (PyData.shownAll ds)
    show (listText (PyData.shownAll ds)).length ≤ _
    have := sizeLine_eq
    rw [e] at h1
    omega
end K63

namespace K63
open PySem PySem.Spec PyProof.Rows L2 So LamX
abbrev sLaw : Stmt := topS 59
abbrev lawN : List Str := ["_law_script", "_law_pen_here", "_law_turn", "_law_parts_here", "_law_rest", "_law_entry", "_law_told", "_law_text", "_law_at", "_law_near", "_law_fresh", "_law_things", "_law_k", "_law_thing"]
theorem scLaw : FnScope lawN ["_law_script"] (defScope sLaw) := ⟨rfl, rfl, rfl, by decide +kernel, rfl, by decide +kernel, by decide +kernel⟩
theorem ixt {X : Cx} {K : PySem.W.Frag} (h : X.K = K) : IxR X (rIxT K) := by
  subst h
  exact ix_tup
theorem op_eqOwnK {X : Cx} {K : PySem.W.Frag} {CX : CXT} {k : Nat} {C f : Addr} {fd : FuncData} {ps : List Str} {sp : Sp} {E : XK} (h : X.K = K) (F : FnOk X.prog X.w X.K X.mg X.base CX k f fd ps sp) (hs : PySem.W.findIn X.K (.ref C) "__eq__" = some (some (.ref f))) (hf : PySem.W.isFn X.K (.ref f) = true) (hb : Binds X.K fd ps []) (hx : Passes CX X E) (hr : Room k X.A) :
    OpR X (compareOp .Eq) (rOwn C K sp E id) := by
  subst h
  exact op_eqOwn F hs hf hb hx hr
theorem Ways3 {CN CM : Addr} {z y : Str} {m : Int} {H : Hp} {E : XK} {q : Prop} (ok : Ok3 z m y) (h : q) : Ways CN CM (.str z) (.int m) (.str y) H E q := Ways.ok ok.z ok.m ok.y h
theorem eq3 (z y z' y' : Str) (m m' : Int) : (decide (z = z') && decide (m = m') && decide (y = y')) = PyData.eqv (d3 z m y) (d3 z' m' y') := by
  rw [eqv_3]
  by_cases h1 : z = z' <;> by_cases h2 : m = m' <;> by_cases h3 : y = y' <;> simp [h1, h2, h3]
theorem eq3' (z y z' y' : Str) (m m' : Int) : (decide (z' = z) && decide (m' = m) && decide (y' = y)) = PyData.eqv (d3 z m y) (d3 z' m' y') := by
  rw [eqv_3]
  by_cases h1 : z = z' <;> by_cases h2 : m = m' <;> by_cases h3 : y = y' <;> simp [h1, h2, h3, eq_comm]
theorem sf_ahead (t m b : V) : (sfV t m b).lookup ("is_ahead" : Str) = none := by
  have e1 : (("is_ahead" : Str) == "tool") = false := by decide +kernel
  have e2 : (("is_ahead" : Str) == "moment") = false := by decide +kernel
  have e3 : (("is_ahead" : Str) == "by") = false := by decide +kernel
  simp [sfV, List.lookup, e1, e2, e3]
theorem own3 {K : PySem.W.Frag} {mg : Str → Option Value} {H : Hp} {C x w' : Addr} {z y z' y' : Str} {m m' : Int} {g : Bool → Bool} {Q : VK} {E : XK} (T : Ent K mg C) (A1 : At C H x z m y) (A2 : At C H w' z' m' y') (h : Q (.bl (g (decide (z = z') && decide (m = m') && decide (y = y')))) H) :
    rOwn C K (spEq K C) E g (.ref x) (.ref w') H Q := by
  obtain ⟨d1, h1⟩ := id A1
  obtain ⟨d2, h2⟩ := id A2
  exact ⟨x, d1, _, .ref C, rfl, h1, .base (.ins h2 T.cl T.ha T.hn T.htk T.hm), by simp [PySem.W.notFirst], x, .ref w', z, y, m, rfl, A1, .inl ⟨w', z', y', m', rfl, A2, _, rfl, h⟩⟩
def l3 (z : Str) (m : Int) (y : Str) : PyData := .list [.str z, .int m, .str y]
theorem eqv_l3 (z y : Str) (m : Int) : PyData.eqv (l3 z m y) (l3 z m y) = true := by
  unfold l3
  simp [PyData.eqv, PyData.eqvAll]
theorem shaped_l3 {z y : Str} {m : Int} (h : Ok3 z m y) : SeqAt.shaped (l3 z m y) = true := by
  unfold SeqAt.shaped l3
  simp [PyData.canLay0, PyData.canLayAll0, PyData.depth, PyData.depthAll, name_strOk h.z, name_strOk h.y]
theorem dp_l3 {K : PySem.W.Frag} {H : Hp} {p : Addr} {z y : Str} {m : Int} (h : H p = some (.lst (x3 z m y))) : Dp K H (.ref p) (l3 z m y) := .lst (SqL.of h) (.cons (.str z) (.cons (.int m) (.cons (.str y) .nil)))
theorem shaped_e : SeqAt.shaped (.list []) = true := by decide +kernel
theorem eqv_e : PyData.eqv (.list []) (.list []) = true := by decide +kernel
/-- the names that the law reads, and what is no entry -/
structure EnvL (K : PySem.W.Frag) (mg : Str → Option Value) (C CP : Addr) : Prop where
  rng : mg "range" = none
  rpr : mg "repr" = none
  ls : mg "list" = none
  tu : mg "tuple" = none
  noT : ∀ t, t ∈ ["tuple", "str", "NoneType", "int", "list"] → PySem.W.kitOne K (.type t) (.ref C) = some false ∧ PySem.W.notFirst K C (.type t) = true
  noP : PySem.W.kitOne K (.ref CP) (.ref C) = some false ∧ PySem.W.notFirst K C (.ref CP) = true
section
variable {P : Program} {w : World} {K : PySem.W.Frag} {mg : Str → Option Value} {base : Heap}
def spLaw (K : PySem.W.Frag) (T : List (Addr × Str)) : Sp := fun vs H Q _ => ∃ (a : Addr) (ns : List Int), vs = [.ref a] ∧ SqL K H a (ns.map V.int) ∧ Tabs T H ∧ ∀ H', Q (.bl true) H'
theorem ok_law {T : List (Addr × Str)} {C CP CF CR CN CM CS CE f fPen fPa fD fI fE fS fA fRi fRe : Addr} {fd fdPen fdPa fdD fdI fdE fdS fdA fdRi fdRe : FuncData} (F : Fun K "law" "law" sLaw f fd) (N : EnvL K mg C CP) (M : Mths K P w mg base C CP CF CR CN CM CS CE)
    (FPen : Fun K "_law_pen" "_law_pen" sPen fPen fdPen) (bPen : Binds K fdPen ["_law_script"] []) (gPen : mg "_law_pen" = some (.ref fPen)) (GPen : FnOk P w K mg base CX0 1 fPen fdPen ["_law_script"] (spPen K))
    (FPa : Fun K "_law_parts" "_law_parts" sParts fPa fdPa) (bPa : Binds K fdPa ["_law_pen_here"] []) (gPa : mg "_law_parts" = some (.ref fPa)) (GPa : FnOk P w K mg base CX0 3 fPa fdPa ["_law_pen_here"] spParts)
    (FD : Fun K "_law_draw" "_law_draw" sDraw fD fdD) (bD : Binds K fdD ["_law_pen_here", "_law_many"] []) (gD : mg "_law_draw" = some (.ref fD)) (GD : FnOk P w K mg base CX0 1 fD fdD ["_law_pen_here", "_law_many"] spDraw)
    (Mk0 : Mk K C fI) (bI : Binds K fdI ["self", "tool", "moment", "by"] []) (GI : FnOk P w K mg base (L2.CX P w) 4 fI fdI ["self", "tool", "moment", "by"] (spInit CN CM C))
    (sE : PySem.W.findIn K (.ref C) "__eq__" = some (some (.ref fE))) (iE : PySem.W.isFn K (.ref fE) = true) (bE : Binds K fdE ["self", "other"] []) (GE : FnOk P w K mg base CX0 1 fE fdE ["self", "other"] (spEq K C))
    (nE : PySem.W.findIn K (.ref C) "__ne__" = some (some (.builtin "object.__ne__")))
    (sS : PySem.W.findIn K (.ref C) "__str__" = some (some (.ref fS))) (iS : PySem.W.isFn K (.ref fS) = true) (bS : Binds K fdS ["self"] []) (GS : FnOk P w K mg base CX0 1 fS fdS ["self"] (spStr C))
    (mA : Meth K C "is_ahead" fA) (bA : Binds K fdA ["self", "other"] []) (kA : KBinds K fdA ["self", "other"] ["other"] kText kText) (GA : FnOk P w K mg base CX0 1 fA fdA ["self", "other"] (spAhead C))
    (FRi : Fun K "_law_rows_right" "_law_rows_right" sRight fRi fdRi) (bRi : Binds K fdRi ["_law_pen_here", "_law_entry", "_law_parts_here"] []) (gRi : mg "_law_rows_right" = some (.ref fRi)) (GRi : FnG P w K mg base CX0 12 fRi fdRi ["_law_pen_here", "_law_entry", "_law_parts_here"] (spRight C T))
    (FRe : Fun K "_law_refused_right" "_law_refused_right" sRef fRe fdRe) (bRe : Binds K fdRe ["_law_pen_here", "_law_parts_here"] []) (gRe : mg "_law_refused_right" = some (.ref fRe)) (GRe : FnG P w K mg base CX0 12 fRe fdRe ["_law_pen_here", "_law_parts_here"] (spRef T)) :
    FnG P w K mg base CX0 14 f fd ["_law_script"] (spLaw K T) := by
  obtain ⟨p5, g5, fd5, P5, b5, G5⟩ := M.passed
  refine fnG_of F scLaw (fun vs H Q E h => ?_) (fun cdv A outer s H vs Q E hg hr h => ?_)
  · obtain ⟨a, ns, rfl, _⟩ := h
    rfl
  · obtain ⟨a, ns, rfl, hS, hT0, q⟩ := h
    have hr1 : Room 1 _ := hr.mono (by decide)
    have hr2 : Room 2 _ := hr.mono (by decide)
    have hr3 : Room 3 _ := hr.mono (by decide)
    have hr5 : Room 5 _ := hr.mono (by decide)
    have hr8 : Room 8 _ := hr.mono (by decide)
    have hr12 : Room 12 _ := hr.mono (by decide)
    refine ⟨_, (pss_cons (ps_set (i := 1) scLaw.nd rfl (.inl rfl) (pe_call GPen hr1 (by rfl) gPen FPen.kp bPen .nil pass0 (pa_cons (pv 0) pa_nil)))
      (pss_cons (ps_for PassesOwn.never rfl (pi_range1 (by rfl) N.rng (pa_cons pe_int pa_nil)) (pg_name (i := 2) scLaw.nd rfl (Or.inl rfl))
      (pss_cons (ps_asg (pe_tup (pa_cons (pe_call GPa hr3 (by rfl) gPa FPa.kp bPa .nil pass0 (pa_cons (pv 1) pa_nil)) (pa_cons (pe_callTy call_list_of (by rfl) N.ls (by decide +kernel) (pa_cons (pe_call GPa hr3 (by rfl) gPa FPa.kp bPa .nil pass0 (pa_cons (pv 1) pa_nil)) pa_nil)) pa_nil))) (pg_tup rfl (pgs_cons (pg_name (i := 3) scLaw.nd rfl (Or.inr rfl)) (pgs_cons (pg_name (i := 4) scLaw.nd rfl (Or.inr rfl)) pgs_nil))))
      (pss_cons (ps_set (i := 5) scLaw.nd rfl (.inr rfl) (pe_make Mk0 GI hr5 (by rfl) M.T.mgC bI .nil passNo (pa_cons (pe_ix ix_tup (pv 3) pe_int (fun _ _ => rfl)) (pa_cons (pe_ix ix_tup (pv 3) pe_int (fun _ _ => rfl)) (pa_cons (pe_ix ix_tup (pv 3) pe_int (fun _ _ => rfl)) pa_nil)))))
      (pss_cons (ps_set (i := 6) scLaw.nd rfl (.inl rfl) (pe_lst (pa_cons (pe_fld (pv 5) rfl) (pa_cons (pe_fld (pv 5) rfl) (pa_cons (pe_fld (pv 5) rfl) (pa_cons (pe_callTy (call_strOwn GS sS iS bS pass0 hr3) (by rfl) M.W.str (by decide +kernel) (pa_cons (pv 5) pa_nil)) pa_nil))))))
      (pss_cons (ps_set (i := 7) scLaw.nd rfl (.inl rfl) (pe_op op_add_str (pe_op op_add_str (pe_op op_add_str (pe_op op_add_str (pe_op op_add_str pe_str (pe_ix ix_tup (pv 3) pe_int (fun _ _ => rfl))) pe_str) (pe_callTy call_str_int (by rfl) M.W.str (by decide +kernel) (pa_cons (pe_ix ix_tup (pv 3) pe_int (fun _ _ => rfl)) pa_nil))) pe_str) (pe_ix ix_tup (pv 3) pe_int (fun _ _ => rfl))))
      (pss_cons (ps_if (PW.pt (pw_or (pt_cmpR op_ne (pe_callB (call_reprD hg hr.units) (by rfl) N.rpr (by decide +kernel) (pa_cons (pv 6) pa_nil)) (pe_callB (call_reprD hg hr.units) (by rfl) N.rpr (by decide +kernel) (pa_cons (pe_lst (pa_cons (pe_ix ix_tup (pv 3) pe_int (fun _ _ => rfl)) (pa_cons (pe_ix ix_tup (pv 3) pe_int (fun _ _ => rfl)) (pa_cons (pe_ix ix_tup (pv 3) pe_int (fun _ _ => rfl)) (pa_cons (pv 7) pa_nil))))) pa_nil)) (nomark _)) (pw_or1 (pt_not (pt_val (pe_callG GRi hg hr12 (by rfl) gRi FRi.kp bRi .nil pass0 (pa_cons (pv 1) (pa_cons (pv 5) (pa_cons (pv 3) pa_nil))))))))) (pss_one (ps_ret pe_bl)) pss_nil)
      (pss_cons (ps_set (i := 8) scLaw.nd rfl (.inr rfl) (pe_call GD hr1 (by rfl) gD FD.kp bD .nil pass0 (pa_cons (pv 1) (pa_cons pe_int pa_nil))))
      (pss_cons (ps_set (i := 9) scLaw.nd rfl (.inl rfl) (pe_callTy call_tuple_of (by rfl) N.tu (by decide +kernel) (pa_cons (pe_lc (own := [("_law_k", 12)]) (g := gName 12) (tt := tYes) rfl scLaw.nd (pi_range1 (by rfl) N.rng (pa_cons pe_int pa_nil)) (blkOk_by (N := lawN) (sc := defScope sLaw) (by decide +kernel)) (fun _ _ _ _ _ => pg_name (i := 12) scLaw.nd rfl (Or.inl rfl)) (fun _ _ _ _ _ => pts_nil)
          (fun _ _ _ _ _ => pe_ifExp (pt_cmpR op_eq (pv 12) (pv 8) (nomark _)) (pe_ix (ixl (K := K) rfl) (pv 4) (pv 12) (fun _ _ => rfl)) (pe_ix (ixt (K := K) rfl) (pv 3) (pv 12) (fun _ _ => rfl)))) pa_nil)))
      (pss_cons (ps_set (i := 10) scLaw.nd rfl (.inl rfl) (pe_make Mk0 GI hr5 (by rfl) M.T.mgC bI .nil passNo (pa_cons (pe_ix ix_tup (pv 9) pe_int (fun _ _ => rfl)) (pa_cons (pe_ix ix_tup (pv 9) pe_int (fun _ _ => rfl)) (pa_cons (pe_ix ix_tup (pv 9) pe_int (fun _ _ => rfl)) pa_nil)))))
      (pss_cons (ps_set (i := 6) scLaw.nd rfl (.inl rfl) (pe_lst (pa_cons (pe_cmpR (op_eqOwn GE sE iE bE pass0 hr1) (pv 5) (pv 10) (nomark _)) (pa_cons (pe_cmpR (op_eqOwn GE sE iE bE pass0 hr1) (pv 10) (pv 5) (nomark _)) (pa_cons (pe_cmpR (op_neOwn GE sE iE bE pass0 hr2 nE M.T.hm) (pv 5) (pv 10) (nomark _)) (pa_cons (pe_meth (pv 5) M.T.cl mA GA hr1 bA .nil pass0 (pa_cons (pv 10) pa_nil)) (pa_cons (pe_methK (pv 10) M.T.cl mA GA hr1 kA pass0 (pk_cons (pv 5) pk_nil)) pa_nil)))))))
      (pss_cons (ps_if (pt_cmpR op_ne (pe_callB (call_reprD hg hr.units) (by rfl) N.rpr (by decide +kernel) (pa_cons (pv 6) pa_nil)) (pe_callB (call_reprD hg hr.units) (by rfl) N.rpr (by decide +kernel) (pa_cons (pe_lst (pa_cons (pe_cmpR (op_eqD hr.units) (pv 3) (pv 9) (nomark _)) (pa_cons (pe_cmpR (op_eqD hr.units) (pv 3) (pv 9) (nomark _)) (pa_cons (pe_cmpR (op_neD hr.units) (pv 3) (pv 9) (nomark _)) (pa_cons (pe_cmpR (op_ltD hr.units) (pv 3) (pv 9) (nomark _)) (pa_cons (pe_cmpR (op_ltD hr.units) (pv 9) (pv 3) (nomark _)) pa_nil)))))) pa_nil)) (nomark _)) (pss_one (ps_ret pe_bl)) pss_nil)
      (pss_cons (ps_set (i := 11) scLaw.nd rfl (.inl rfl) (pe_lst (pa_cons (pv 3) (pa_cons (pv 7) (pa_cons pe_non (pa_cons pe_int (pa_cons (pe_prop (pv 5) M.T.cl P5 G5 hr8 b5 .nil pass0 rfl) (pa_cons (pe_lst (pa_cons (pv 5) pa_nil)) pa_nil))))))))
      (pss_cons (ps_if (PW.pt (pw_or (pt_cmpR (op_neD hr.units) (pe_lc (own := [("_law_thing", 13)]) (g := gName 13) (tt := _) rfl scLaw.nd (pi_list (pv 11)) (blkOk_by (N := lawN) (sc := defScope sLaw) (by decide +kernel)) (fun _ _ _ _ _ => pg_name (i := 13) scLaw.nd rfl (Or.inl rfl)) (fun _ _ _ _ _ => pts_one (pt_cmpR (op_eqOwnK (K := K) rfl GE sE iE bE pass0 hr1) (pv 5) (pv 13) (nomark _)))
          (fun _ _ _ _ _ => pv 13)) (pe_lst pa_nil) (nomark _)) (pw_or1 (pt_not (pt_val (pe_callG GRe hg hr12 (by rfl) gRe FRe.kp bRe .nil pass0 (pa_cons (pv 1) (pa_cons (pv 3) pa_nil)))))))) (pss_one (ps_ret pe_bl)) pss_nil)
      (pss_one (ps_if (pt_cmpR (op_neD hr.units) (pe_lst (pa_cons (pe_fld (pv 5) rfl) (pa_cons (pe_fld (pv 5) rfl) (pa_cons (pe_fld (pv 5) rfl) pa_nil)))) (pe_callTy call_list_of (by rfl) N.ls (by decide +kernel) (pa_cons (pv 3) pa_nil)) (nomark _)) (pss_one (ps_ret pe_bl)) pss_nil)))))))))))))))
      (pss_one (ps_ret pe_bl)))), ?_⟩
    refine ⟨_, rfl, a, ns, rfl, hS, fun H1 p l cs s1 pen1 => ?_⟩
    have T1 := tabs_same hT0 s1
    refine ⟨6, rfl, by decide, by decide, for_range (lo := 0) (n := 6) (fun i σ H' => ∃ y2 y3 y4 x5 x6 x7 x8 x9 x10 x11 n' g', σ = [some (.ref a), some (.ref p), y2, y3, y4, x5, x6, x7, x8, x9, x10, x11, none, none] ∧ Pen H' p l cs n' g' ∧ n' ≤ 40 * i ∧ Tabs T H')
      ⟨none, none, none, none, none, none, none, none, none, none, 0, 0, rfl, pen1, Nat.zero_le _, T1⟩ ?_ ?_⟩
    case refine_2 =>
      rintro σ H2 ⟨y2, y3, y4, x5, x6, x7, x8, x9, x10, x11, n', g', rfl, _⟩
      exact q _
    rintro i σ H2 hi ⟨y2, y3, y4, x5, x6, x7, x8, x9, x10, x11, n2, g2, rfl, pen2, hn2, T2⟩
    refine ⟨_, rfl, p, l, cs, n2, g2, rfl, pen2, by omega, fun z m y n3 g3 H3 t1 ok hn3 off3 pen3 nt1 ht1 => ?_⟩
    refine ⟨_, rfl, p, l, cs, n3, g3, rfl, pen3, by omega, fun z' m' y' n4 g4 H4 t2 ok' hn4 off4 pen4 nt2 ht2 => ?_⟩
    have ht1' := off4 _ _ nt1 ht1
    have T4 := tabs_off pen2.pen T2 (off3.trans off4)
    refine ⟨t2, _, rfl, .inr (SqT.of ht2), fun rl hrl => ⟨by show 2 ≤ sizeLine; decide, fun tp htp => ⟨tp, _, rfl, SqT.of upd_same, rfl, _, _, rfl, _, _, rfl, rfl, ?_⟩⟩⟩
    have s5 := (same_upd0 (o := .lst (x3 z' m' y')) hrl).trans (same_upd0 (o := .tup [.ref t1, .ref rl]) htp)
    have nrl : rl ≠ p := (ne_of_none pen4.pen hrl).symm
    have erl : (L2.upd (L2.upd H4 rl (.lst (x3 z' m' y'))) tp (.tup [.ref t1, .ref rl])) rl = some (.lst (x3 z' m' y')) := same_upd0 htp _ _ upd_same
    have ht5 := s5 _ _ ht1'
    have pen5 := pen_same pen4 s5
    have T5 := tabs_same T4 s5
    revert erl ht5 pen5 T5
    generalize L2.upd (L2.upd H4 rl (.lst (K63.x3 z' m' y'))) tp (.tup [.ref t1, .ref rl]) = H5
    intro erl ht5 pen5 T5
    clear s5 hrl htp ht1' T4 pen4 pen3 off3 off4 ht1 ht2 T2 pen2
    have gz : ∀ {u : Str} H', isName u = true → Gv H' (.str u) "str" := fun _ h => .str _ (Nat.le_trans (name_len h) (by decide))
    refine ⟨_, rfl, t1, _, 0, _, rfl, rfl, SqT.of ht5, atI_nat (j := 0) rfl, _, rfl, t1, _, 1, _, rfl, rfl, SqT.of ht5, atI_nat (j := 1) rfl, _, rfl, t1, _, 2, _, rfl, rfl, SqT.of ht5, atI_nat (j := 2) rfl, fun x dx e1 e2 e3 => ?_⟩
    refine made1 e1 e2 e3 (gz _ ok.z) (.int m) (gz _ ok.y) (Ways3 ok fun H6 s6 hx => ?_)
    have A6 : At C H6 x z m y := ⟨dx, hx⟩
    refine ⟨_, rfl, x, C, dx, _, _, rfl, hx, M.T.cl, M.T.nT, sf_tool _ _ _, _, rfl, x, C, dx, _, _, rfl, hx, M.T.cl, M.T.nM, sf_moment _ _ _, _, rfl, x, C, dx, _, _, rfl, hx, M.T.cl, M.T.nB, sf_by _ _ _, _, rfl, x, dx, _, rfl, hx, x, z, m, y, rfl, A6, name_len ok.z, name_len ok.y, mom_log ok.m, _, rfl, by show 4 ≤ sizeLine; decide, fun tl htl => ?_⟩
    have s7 := s6.trans (same_upd0 (o := .lst [.str z, .int m, .str y, .str (entText z m y)]) htl)
    have etl : (L2.upd H6 tl (.lst [.str z, .int m, .str y, .str (entText z m y)])) tl = some (.lst [.str z, .int m, .str y, .str (entText z m y)]) := upd_same
    have A7 := A6.same (same_upd0 (o := .lst [.str z, .int m, .str y, .str (entText z m y)]) htl)
    have ht7 := s7 _ _ ht5
    have erl7 := s7 _ _ erl
    have pen7 := pen_same pen5 s7
    have T7 := tabs_same T5 s7
    revert etl A7 ht7 erl7 pen7 T7
    generalize L2.upd H6 tl (.lst [.str z, .int m, .str y, .str (entText z m y)]) = H7
    intro etl A7 ht7 erl7 pen7 T7
    clear s7 htl A6 hx s6 e1 e2 e3 erl ht5 pen5 T5
    have sl := sizeLine_eq
    have h1 := name_len ok.z
    have h2 := name_len ok.y
    have h3 := (num_len ok.m).1
    have c1 : ("check " : Str).length = 6 := by decide
    have c2 : (" " : Str).length = 1 := by decide
    have c3 : (" by " : Str).length = 4 := by decide
    have l1 : (("check " : Str) ++ z).length = 6 + z.length := by rw [Str.length_append, c1]
    have l2 : ((("check " : Str) ++ z) ++ (" " : Str)).length = 6 + z.length + 1 := by rw [Str.length_append, l1, c2]
    have l3 : (((("check " : Str) ++ z) ++ (" " : Str)) ++ Str.ofString (toString m)).length = 6 + z.length + 1 + (Str.ofString (toString m)).length := by rw [Str.length_append, l2]
    have l4 : ((((("check " : Str) ++ z) ++ (" " : Str)) ++ Str.ofString (toString m)) ++ (" by " : Str)).length = 6 + z.length + 1 + (Str.ofString (toString m)).length + 4 := by rw [Str.length_append, l3, c3]
    refine ⟨_, rfl, t1, _, 0, _, rfl, rfl, SqT.of ht7, atI_nat (j := 0) rfl, _, _, rfl, rfl, by rw [c1]; omega, _, _, rfl, rfl, by rw [l1, c2]; omega, ?_⟩
    refine ⟨_, rfl, t1, _, 1, _, rfl, rfl, SqT.of ht7, atI_nat (j := 1) rfl, m, rfl, mom_log ok.m, _, _, rfl, rfl, by rw [l2]; show _ + (Str.ofString (toString m)).length ≤ _; omega, _, _, rfl, rfl, by rw [c3]; show ((((("check " : Str) ++ z) ++ (" " : Str)) ++ Str.ofString (toString m)).length) + 4 ≤ _; rw [l3]; omega, ?_⟩
    refine ⟨_, rfl, t1, _, 2, _, rfl, rfl, SqT.of ht7, atI_nat (j := 2) rfl, _, _, rfl, rfl, by show (((((("check " : Str) ++ z) ++ (" " : Str)) ++ Str.ofString (toString m)) ++ (" by " : Str)).length) + y.length ≤ _; rw [l4]; omega, ?_⟩
    show gName 7 (V.str (((((("check " : Str) ++ z) ++ (" " : Str)) ++ Str.ofString (toString m)) ++ (" by " : Str)) ++ y)) _ _ _
    rw [text_eq]
    obtain ⟨k1, k2, k3⟩ := list_ok (ds := [.str z, .int m, .str y, .str (entText z m y)]) (by
      simp only [List.forall_mem_cons]
      exact ⟨smN ok.z, smI ok.m, smN ok.y, smS (text_len ok) (text_small ok), fun _ h => nomatch h⟩) (by show 4 ≤ 10; decide)
    have dp4 : ∀ {G : Hp} {b : Addr}, G b = some (.lst [.str z, .int m, .str y, .str (entText z m y)]) → Dp K G (.ref b) (.list [.str z, .int m, .str y, .str (entText z m y)]) := fun h => .lst (SqL.of h) (.cons (.str _) (.cons (.int _) (.cons (.str _) (.cons (.str _) .nil))))
    clear h1 h2 h3 c1 c2 c3 l1 l2 l3 l4
    refine ⟨_, rfl, _, _, rfl, dp4 etl, k1, k2, k3, _, rfl, t1, _, 0, _, rfl, rfl, SqT.of ht7, atI_nat (j := 0) rfl, _, rfl, t1, _, 1, _, rfl, rfl, SqT.of ht7, atI_nat (j := 1) rfl, _, rfl, t1, _, 2, _, rfl, rfl, SqT.of ht7, atI_nat (j := 2) rfl, _, rfl, by show 4 ≤ sizeLine; decide, fun dl hdl => ?_⟩
    have s8 := same_upd0 (o := .lst [.str z, .int m, .str y, .str (entText z m y)]) hdl
    refine ⟨_, _, rfl, dp4 upd_same, k1, k2, k3, rfl, _, rfl, ite2 (fun e => absurd e neSame) (fun _ => ?_)⟩
    have A8 := A7.same s8
    have ht8 := s8 _ _ ht7
    have erl8 := s8 _ _ erl7
    have pen8 := pen_same pen7 s8
    have T8 := tabs_same T7 s8
    clear s8 hdl A7 ht7 erl7 pen7 T7 etl k1 k2 k3 dp4
    refine ⟨_, rfl, _, rfl, _, rfl, p, l, x, t1, cs, n4, g4, z, m, y, rfl, pen8, by omega, A8, ok, nt1, ht8, T8, fun n9 g9 H9 hn9 N9 pen9 T9 => ⟨_, rfl, iteF ?_⟩⟩
    have A9 : At C H9 x z m y := by
      obtain ⟨dx, h⟩ := A8
      exact ⟨dx, N9 _ _ (ne_of h pen8.pen (fun z => nomatch z)) h ins_ne⟩
    have ht9 := N9 _ _ nt1 ht8 tup_ne
    have erl9 := N9 _ _ nrl erl8 lst_ne
    clear N9 A8 ht8 erl8 pen8 T8
    refine ⟨_, rfl, p, l, cs, n9, g9, _, rfl, pen9, by omega, by decide, by decide, fun d n10 g10 H10 d0 d1 hn10 off10 pen10 => ?_⟩
    have A10 := A9.off pen9.pen off10
    have ht10 := off10 _ _ nt1 ht9
    have erl10 := off10 _ _ nrl erl9
    have T10 := tabs_off pen9.pen T9 off10
    clear A9 ht9 erl9 T9 off10 pen9
    -- near
    obtain ⟨v0, v1, v2, okN, hN⟩ : ∃ (v0 : Str) (v1 : Int) (v2 : Str), Ok3 v0 v1 v2 ∧ ∀ j : Nat, j < 3 → ∃ rj pj, (x3 z' m' y')[j]? = some rj ∧ (x3 z m y)[j]? = some pj ∧ (x3 v0 v1 v2)[j]? = some (if (decide (V.int (0 + (j : Int)) = V.int d)) = true then rj else pj) := by
      refine ⟨if (0 : Int) + ((0 : Nat) : Int) = d then z' else z, if (0 : Int) + ((1 : Nat) : Int) = d then m' else m, if (0 : Int) + ((2 : Nat) : Int) = d then y' else y, ⟨?_, ?_, ?_⟩, fun j hj => ?_⟩
      · split
        · exact ok'.z
        · exact ok.z
      · split
        · exact ok'.m
        · exact ok.m
      · split
        · exact ok'.y
        · exact ok.y
      · rcases (by omega : j = 0 ∨ j = 1 ∨ j = 2) with rfl | rfl | rfl
        · refine ⟨_, _, rfl, rfl, ?_⟩
          show some (V.str (if _ then _ else _)) = some (if _ then _ else _)
          by_cases h : (0 : Int) + ((0 : Nat) : Int) = d
          · rw [if_pos h, if_pos (decide_eq_true (congrArg V.int h))]
          · rw [if_neg h, if_neg (fun e => h (V.int.inj (of_decide_eq_true e)))]
        · refine ⟨_, _, rfl, rfl, ?_⟩
          show some (V.int (if _ then _ else _)) = some (if _ then _ else _)
          by_cases h : (0 : Int) + ((1 : Nat) : Int) = d
          · rw [if_pos h, if_pos (decide_eq_true (congrArg V.int h))]
          · rw [if_neg h, if_neg (fun e => h (V.int.inj (of_decide_eq_true e)))]
        · refine ⟨_, _, rfl, rfl, ?_⟩
          show some (V.str (if _ then _ else _)) = some (if _ then _ else _)
          by_cases h : (0 : Int) + ((2 : Nat) : Int) = d
          · rw [if_pos h, if_pos (decide_eq_true (congrArg V.int h))]
          · rw [if_neg h, if_neg (fun e => h (V.int.inj (of_decide_eq_true e)))]
    refine ⟨3, rfl, by decide, by decide, fun D hD => lc_range (lo := 0) (n := 3) (fun j G => G D = some (.lst ((x3 v0 v1 v2).take j)) ∧ Same H10 G) ⟨upd_same, same_upd0 hD⟩ ?_ ?_⟩
    · rintro j G hj ⟨hDl, sm⟩
      obtain ⟨rj, pj, e1, e2, e3⟩ := hN j hj
      refine ⟨rfl, _, rfl, _, rfl, rfl, _, rfl, ?_⟩
      have fin : ∀ b : Bool, (x3 v0 v1 v2)[j]? = some (if b = true then rj else pj) → ∃ acc : List V, G D = some (.lst acc) ∧ acc.length < sizeLine ∧ (L2.upd G D (.lst (acc ++ [if b = true then rj else pj]))) D = some (.lst ((x3 v0 v1 v2).take (j + 1))) ∧ Same H10 (L2.upd G D (.lst (acc ++ [if b = true then rj else pj]))) := by
        intro b e4
        refine ⟨_, hDl, ?_, ?_, Same.over sm hD⟩
        · rw [List.length_take]
          exact Nat.lt_of_le_of_lt (Nat.min_le_left _ _) (Nat.lt_trans hj (by decide))
        · rw [upd_same, List.take_add_one, e4]
          rfl
      have f := fin _ e3
      revert f
      show _ → (if decide (V.int (0 + (j : Int)) = V.int d) = true then _ else _)
      generalize decide (V.int (0 + (j : Int)) = V.int d) = b
      intro f
      cases b with
      | true => exact iteT ⟨_, rfl, _, rfl, rl, _, _, _, rfl, rfl, SqL.of (sm _ _ erl10), at0 e1, f⟩
      | false => exact iteF ⟨_, rfl, _, rfl, t1, _, _, _, rfl, rfl, SqT.of (sm _ _ ht10), at0 e2, f⟩
    rintro G ⟨hDl, sm⟩
    replace hDl : G D = some (.lst (x3 v0 v1 v2)) := hDl
    refine ⟨D, _, rfl, .inl ⟨SqL.of hDl, fun nt hnt => ?_⟩⟩
    have s11 := sm.trans (same_upd0 (o := .tup (x3 v0 v1 v2)) hnt)
    have ent : (L2.upd G nt (.tup (x3 v0 v1 v2))) nt = some (.tup (x3 v0 v1 v2)) := upd_same
    have A11 := A10.same s11
    have ht11 := s11 _ _ ht10
    have pen11 := pen_same pen10 s11
    have T11 := tabs_same T10 s11
    revert ent A11 ht11 pen11 T11
    generalize L2.upd G nt (.tup (K63.x3 v0 v1 v2)) = H11
    intro ent A11 ht11 pen11 T11
    clear s11 hnt hDl sm A10 ht10 erl10 pen10 T10 hD hN
    refine ⟨_, rfl, nt, _, 0, _, rfl, rfl, SqT.of ent, atI_nat (j := 0) rfl, _, rfl, nt, _, 1, _, rfl, rfl, SqT.of ent, atI_nat (j := 1) rfl, _, rfl, nt, _, 2, _, rfl, rfl, SqT.of ent, atI_nat (j := 2) rfl, fun fr dfr e1 e2 e3 => ?_⟩
    refine made1 e1 e2 e3 (gz _ okN.z) (.int v1) (gz _ okN.y) (Ways3 okN fun H12 s12 hf => ?_)
    have B12 : At C H12 fr v0 v1 v2 := ⟨dfr, hf⟩
    have A12 := A11.same s12
    have ht12 := s12 _ _ ht11
    have en12 := s12 _ _ ent
    have pen12 := pen_same pen11 s12
    have T12 := tabs_same T11 s12
    clear e1 e2 e3 s12 A11 ht11 ent pen11 T11
    obtain ⟨dx12, hx12⟩ := id A12
    refine ⟨_, rfl, _, rfl, own3 M.T A12 B12 ?_⟩
    refine ⟨_, rfl, _, rfl, own3 M.T B12 A12 ?_⟩
    refine ⟨_, rfl, _, rfl, own3 M.T A12 B12 ?_⟩
    refine ⟨_, rfl, x, dx12, _, rfl, hx12, sf_ahead _ _ _, _, rfl, x, fr, z, y, v0, v2, m, v1, rfl, A12, B12, fun H13 s13 => ?_⟩
    have A13 := A12.same s13
    have B13 := B12.same s13
    obtain ⟨df13, hf13⟩ := id B13
    refine ⟨_, rfl, fr, df13, _, rfl, hf13, sf_ahead _ _ _, _, rfl, fr, x, v0, v2, z, y, v1, m, rfl, B13, A13, fun H14 s14 => ?_⟩
    refine ⟨by show 5 ≤ sizeLine; decide, fun tb htb => ?_⟩
    rw [eq3, eq3']
    have s15 := (s13.trans s14).trans (same_upd0 (o := .lst [.bl (PyData.eqv (d3 z m y) (d3 v0 v1 v2)), .bl (PyData.eqv (d3 z m y) (d3 v0 v1 v2)), .bl (not (PyData.eqv (d3 z m y) (d3 v0 v1 v2))), .bl (PySem.W.dataLt (d3 z m y) (d3 v0 v1 v2)), .bl (PySem.W.dataLt (d3 v0 v1 v2) (d3 z m y))]) htb)
    have etb : (L2.upd H14 tb (.lst [.bl (PyData.eqv (d3 z m y) (d3 v0 v1 v2)), .bl (PyData.eqv (d3 z m y) (d3 v0 v1 v2)), .bl (not (PyData.eqv (d3 z m y) (d3 v0 v1 v2))), .bl (PySem.W.dataLt (d3 z m y) (d3 v0 v1 v2)), .bl (PySem.W.dataLt (d3 v0 v1 v2) (d3 z m y))])) tb = some (.lst [.bl (PyData.eqv (d3 z m y) (d3 v0 v1 v2)), .bl (PyData.eqv (d3 z m y) (d3 v0 v1 v2)), .bl (not (PyData.eqv (d3 z m y) (d3 v0 v1 v2))), .bl (PySem.W.dataLt (d3 z m y) (d3 v0 v1 v2)), .bl (PySem.W.dataLt (d3 v0 v1 v2) (d3 z m y))]) := upd_same
    have A15 := A12.same s15
    have ht15 := s15 _ _ ht12
    have en15 := s15 _ _ en12
    have pen15 := pen_same pen12 s15
    have T15 := tabs_same T12 s15
    show gName 6 (V.ref tb) _ (L2.upd H14 tb (.lst [.bl (PyData.eqv (d3 z m y) (d3 v0 v1 v2)), .bl (PyData.eqv (d3 z m y) (d3 v0 v1 v2)), .bl (not (PyData.eqv (d3 z m y) (d3 v0 v1 v2))), .bl (PySem.W.dataLt (d3 z m y) (d3 v0 v1 v2)), .bl (PySem.W.dataLt (d3 v0 v1 v2) (d3 z m y))])) _
    revert etb A15 ht15 en15 pen15 T15
    generalize L2.upd H14 tb (.lst [.bl (PyData.eqv (d3 z m y) (d3 v0 v1 v2)), .bl (PyData.eqv (d3 z m y) (d3 v0 v1 v2)), .bl (not (PyData.eqv (d3 z m y) (d3 v0 v1 v2))), .bl (PySem.W.dataLt (d3 z m y) (d3 v0 v1 v2)), .bl (PySem.W.dataLt (d3 v0 v1 v2) (d3 z m y))]) = H15
    intro etb A15 ht15 en15 pen15 T15
    clear s13 s14 s15 htb A13 B13 hf13 A12 B12 hx12 hf ht12 en12 pen12 T12
    have dp5 : ∀ {G : Hp} {b : Addr} {c1 c2 c3 c4 c5 : Bool}, G b = some (.lst [.bl c1, .bl c2, .bl c3, .bl c4, .bl c5]) → Dp K G (.ref b) (.list [.bool c1, .bool c2, .bool c3, .bool c4, .bool c5]) := fun h => .lst (SqL.of h) (.cons (.bl _) (.cons (.bl _) (.cons (.bl _) (.cons (.bl _) (.cons (.bl _) .nil)))))
    have ok5 : ∀ c1 c2 c3 c4 c5 : Bool, (PyData.list [.bool c1, .bool c2, .bool c3, .bool c4, .bool c5]).showable = true ∧ (PyData.list [.bool c1, .bool c2, .bool c3, .bool c4, .bool c5]).depth ≤ 60 ∧ (PyData.list [.bool c1, .bool c2, .bool c3, .bool c4, .bool c5]).shown.length ≤ sizeLine := fun c1 c2 c3 c4 c5 => list_ok (by
      simp only [List.forall_mem_cons]
      exact ⟨smB _, smB _, smB _, smB _, smB _, fun _ h => nomatch h⟩) (by show 5 ≤ 10; decide)
    obtain ⟨k1, k2, k3⟩ := ok5 (PyData.eqv (d3 z m y) (d3 v0 v1 v2)) (PyData.eqv (d3 z m y) (d3 v0 v1 v2)) (not (PyData.eqv (d3 z m y) (d3 v0 v1 v2))) (PySem.W.dataLt (d3 z m y) (d3 v0 v1 v2)) (PySem.W.dataLt (d3 v0 v1 v2) (d3 z m y))
    refine ⟨_, rfl, _, _, rfl, dp5 etb, k1, k2, k3, ?_⟩
    refine ⟨_, rfl, _, rfl, d3 z m y, d3 v0 v1 v2, dp_3 ht15, dp_3 en15, shaped_3 ok, shaped_3 okN, _, rfl, _, rfl, d3 z m y, d3 v0 v1 v2, dp_3 ht15, dp_3 en15, shaped_3 ok, shaped_3 okN, _, rfl, _, rfl, d3 z m y, d3 v0 v1 v2, dp_3 ht15, dp_3 en15, shaped_3 ok, shaped_3 okN, ?_⟩
    refine ⟨_, rfl, _, rfl, d3 z m y, d3 v0 v1 v2, dp_3 ht15, dp_3 en15, rfl, (fun z => nomatch z), (by show 1 ≤ 60; decide), _, rfl, _, rfl, d3 v0 v1 v2, d3 z m y, dp_3 en15, dp_3 ht15, rfl, (fun z => nomatch z), (by show 1 ≤ 60; decide), by show 5 ≤ sizeLine; decide, fun ub hub => ?_⟩
    refine ⟨_, _, rfl, dp5 upd_same, k1, k2, k3, rfl, _, rfl, ite2 (fun e => absurd e neSame) (fun _ => ?_)⟩
    have s16 := same_upd0 (o := .lst [.bl (PyData.eqv (d3 z m y) (d3 v0 v1 v2)), .bl (PyData.eqv (d3 z m y) (d3 v0 v1 v2)), .bl (not (PyData.eqv (d3 z m y) (d3 v0 v1 v2))), .bl (PySem.W.dataLt (d3 z m y) (d3 v0 v1 v2)), .bl (PySem.W.dataLt (d3 v0 v1 v2) (d3 z m y))]) hub
    have A16 := A15.same s16
    have ht16 := s16 _ _ ht15
    have pen16 := pen_same pen15 s16
    have T16 := tabs_same T15 s16
    obtain ⟨dx16, hx16⟩ := id A16
    refine ⟨_, rfl, _, rfl, _, rfl, x, dx16, _, rfl, hx16, x, z, m, y, rfl, A16, ok, fun H17 r17 s17 R17 => ?_⟩
    refine ⟨_, rfl, by show 1 ≤ sizeLine; decide, fun il hil => ⟨by show 6 ≤ sizeLine; decide, fun th hth => ?_⟩⟩
    have s18 := (s17.trans (same_upd0 (o := .lst [.ref x]) hil)).trans (same_upd0 (o := .lst [.ref t1, .str (entText z m y), .non, .int 0, .ref r17, .ref il]) hth)
    have eth : (L2.upd (L2.upd H17 il (.lst [.ref x])) th (.lst [.ref t1, .str (entText z m y), .non, .int 0, .ref r17, .ref il])) th = some (.lst [.ref t1, .str (entText z m y), .non, .int 0, .ref r17, .ref il]) := upd_same
    have eil : (L2.upd (L2.upd H17 il (.lst [.ref x])) th (.lst [.ref t1, .str (entText z m y), .non, .int 0, .ref r17, .ref il])) il = some (.lst [.ref x]) := same_upd0 hth _ _ upd_same
    have R18 := R17.same ((same_upd0 (o := .lst [.ref x]) hil).trans (same_upd0 (o := .lst [.ref t1, .str (entText z m y), .non, .int 0, .ref r17, .ref il]) hth))
    have A18 := A16.same s18
    have ht18 := s18 _ _ ht16
    have pen18 := pen_same pen16 s18
    have T18 := tabs_same T16 s18
    revert eth eil R18 A18 ht18 pen18 T18
    generalize L2.upd (L2.upd H17 il (.lst [.ref x])) th (.lst [.ref t1, .str (entText z m y), .non, .int 0, .ref r17, .ref il]) = H18
    intro eth eil R18 A18 ht18 pen18 T18
    clear s16 s17 s18 hil hth hub R17 A16 ht16 pen16 T16 hx16 A15 ht15 en15 pen15 T15 etb
    refine ⟨_, rfl, th, rfl, ⟨_, SqL.of eth⟩, fun D hD => ?_⟩
    refine lc_it (walk_list (xs := [.ref t1, .str (entText z m y), .non, .int 0, .ref r17, .ref il])) (fun i G => G D = some (.lst []) ∧ Same H18 G) ⟨upd_same, same_upd0 hD⟩ (fun _ _ _ y => SqL.of (y.2 _ _ eth)) ?_ ?_
    · rintro i v G G' hi ⟨hDl, sm⟩ ⟨rfl, hv⟩
      have hv : v ∈ ([.ref t1, .str (entText z m y), .non, .int 0, .ref r17, .ref il] : List V) := List.mem_of_getElem? hv
      have A' := A18.same sm
      obtain ⟨dx', hx'⟩ := id A'
      obtain ⟨dr, fr', hr', _⟩ := R18.same sm
      obtain ⟨ty, hty, hk, hnf⟩ : ∃ ty, TyX K G' v ty ∧ PySem.W.kitOne K ty (.ref C) = some false ∧ PySem.W.notFirst K C ty = true := by
        simp only [List.mem_cons, List.not_mem_nil, or_false] at hv
        rcases hv with h | h | h | h | h | h <;> subst h
        · exact ⟨_, (Gv.tup (sm _ _ ht18)).ty, N.noT "tuple" (by simp)⟩
        · exact ⟨_, .base (.str _), N.noT "str" (by simp)⟩
        · exact ⟨_, .base .non, N.noT "NoneType" (by simp)⟩
        · exact ⟨_, .base (.int 0), N.noT "int" (by simp)⟩
        · exact ⟨_, .base (.ins hr' M.RP.cl M.RP.ha M.RP.hn M.RP.htk M.RP.hm), N.noP⟩
        · exact ⟨_, (Gv.lst (sm _ _ eil)).ty, N.noT "list" (by simp)⟩
      exact ⟨rfl, _, rfl, _, rfl, x, dx', _, ty, rfl, hx', hty, hnf, x, v, z, y, m, rfl, A', .inr ⟨ty, hty, hk, _, rfl, _, rfl, iteF ⟨hDl, sm⟩⟩⟩
    rintro G ⟨hDl, sm⟩
    refine ⟨by show 0 ≤ sizeLine; decide, fun em hem => ?_⟩
    have s19 := sm.trans (same_upd0 (o := .lst []) hem)
    refine ⟨.list [], .list [], .lst (SqL.of (same_upd0 hem _ _ hDl)) .nil, .lst (SqL.of upd_same) .nil, shaped_e, shaped_e, _, rfl, ?_⟩
    rw [eqv_e]
    refine iteF ?_
    have A19 := A18.same s19
    have ht19 := s19 _ _ ht18
    have pen19 := pen_same pen18 s19
    have T19 := tabs_same T18 s19
    refine ⟨_, rfl, _, rfl, p, l, t1, cs, n10, g10, z, m, y, rfl, pen19, by omega, ok, nt1, ht19, T19, fun n20 g20 H20 hn20 N20 pen20 T20 => ⟨_, rfl, iteF ?_⟩⟩
    have A20 : At C H20 x z m y := by
      obtain ⟨dx, h⟩ := A19
      exact ⟨dx, N20 _ _ (ne_of h pen19.pen (fun z => nomatch z)) h ins_ne⟩
    have ht20 := N20 _ _ nt1 ht19 tup_ne
    obtain ⟨dx20, hx20⟩ := id A20
    refine ⟨_, rfl, x, C, dx20, _, _, rfl, hx20, M.T.cl, M.T.nT, sf_tool _ _ _, _, rfl, x, C, dx20, _, _, rfl, hx20, M.T.cl, M.T.nM, sf_moment _ _ _, _, rfl, x, C, dx20, _, _, rfl, hx20, M.T.cl, M.T.nB, sf_by _ _ _, by show 3 ≤ sizeLine; decide, fun fl hfl => ?_⟩
    have s21 := same_upd0 (o := .lst (x3 z m y)) hfl
    refine ⟨_, rfl, t1, _, rfl, .inr (SqT.of (s21 _ _ ht20)), fun l2 hl2 => ?_⟩
    have s22 := same_upd0 (o := .lst (x3 z m y)) hl2
    refine ⟨l3 z m y, l3 z m y, dp_l3 (s22 _ _ upd_same), dp_l3 upd_same, shaped_l3 ok, shaped_l3 ok, _, rfl, ?_⟩
    rw [eqv_l3]
    refine iteF ?_
    exact ⟨_, _, _, _, _, _, _, _, _, _, n20, g20, rfl, pen_same pen20 (s21.trans s22), by omega, tabs_same T20 (s21.trans s22)⟩
end
end K63

namespace K63
open PySem PySem.Spec PyProof.Rows L2 So LamX
def strOf? : Value → Option Str
  | .str x _ => some x
  | _ => none
theorem vals_strs : ∀ {ss : List Str} {us : List Value}, us.map strOf? = ss.map some → Vals (ss.map V.str) us
  | [], [], _ => .nil
  | [], _ :: _, h => by simp at h
  | _ :: _, [], h => by simp at h
  | x :: ss, u :: us, h => by
    simp only [List.map_cons, List.cons.injEq] at h
    refine .cons ?_ (vals_strs h.2)
    cases u <;> simp [strOf?] at h
    rename_i y t
    exact ⟨t, by rw [h.1]⟩
theorem tab_seq {K : PySem.W.Frag} {a : Addr} {od : Option Addr} {its : Array Value} {n : Nat} {sl : Array (Option Value)} {ss : List Str} (l : K.lookup a = some ⟨.type "tuple", od, .seq its n, sl⟩) (v : its.toList.map strOf? = ss.map some) (hz : ss.length ≤ 1000) (H : Hp) : SqT K H a (ss.map V.str) := by
  have hv := vals_strs v
  refine .inr ⟨_, its, n, l, rfl, rfl, ?_, hv⟩
  have := hv.length
  rw [List.length_map] at this
  rw [← Array.length_toList, ← this]
  exact Nat.le_trans hz (by decide)
section
variable {K : PySem.W.Frag}
theorem exm_own {D S : Addr} (h2 : PySem.W.isClsIn K S = true) (h3 : PySem.W.typeIn K (.ref S) = some (.type "type")) (h1 : PySem.W.subIn K (.ref S) (.type "BaseException") = some true) (h4 : PySem.W.subIn K (.ref D) (.ref S) = some true) (_ : PySem.W.subIn K (.ref S) (.ref S) = some true) : PySem.W.exmOne K (.ref D) (.ref S) = some true := by
  unfold PySem.W.exmOne PySem.W.kitCls
  unfold PySem.W.isClsIn at h2
  simp [h1, h2, h3, h4]
theorem tab_by {x : Str} {f c P : Addr} {o1 u1 : Value} {o2 u2 : Option Addr} {o3 u3 : Array (Option Value)} {fd : FuncData} {vs : Array Value} (a : PySem.W.nsIn K mainGlobals x = some (some (.ref f))) (l : K.lookup f = some ⟨o1, o2, .func fd, o3⟩) (hc : fd.code = .ref c)
    (lc : K.lookup c = some ⟨u1, u2, .fields vs, u3⟩) (hv : (vs[11]? : Option Value) = some (.ref P)) : PySem.W.tabIn K x = some (c, P) := by
  unfold PySem.W.tabIn
  rw [a]
  simp only [l, hc, lc, hv]
theorem kit_VE {D : Addr} (h : PySem.W.subIn K (.ref D) (.type "ValueError") = some true) : PySem.W.kitOne K (.ref D) (.type "ValueError") = some true := by
  unfold PySem.W.kitOne PySem.W.kitCls
  have e : PySem.W.kitMeta "ValueError" = true := by decide +kernel
  simp [h, e]
theorem kit_own {D C : Addr} {b : Bool} (hc : PySem.W.isClsIn K C = true) (ht : PySem.W.typeIn K (.ref C) = some (.type "type")) (hs : PySem.W.subIn K (.ref D) (.ref C) = some b) (self : PySem.W.subIn K (.ref C) (.ref C) = some true) : PySem.W.kitOne K (.ref D) (.ref C) = some b := by
  by_cases e : D = C
  · subst e
    rw [self] at hs
    rw [kit_self, hs]
  · unfold PySem.W.kitOne PySem.W.kitCls
    unfold PySem.W.isClsIn at hc
    simp [hc, ht, hs, e]
end
def T2 (P1 P2 : Addr) : List (Addr × Str) := [(P1, (envOfC "_law_rows_right" (defScope sRight) 0 0 .none).qual ++ "<lambda>"), (P2, (envOfC "_law_refused_right" (defScope sRef) 0 0 .none).qual ++ "<lambda>")]
theorem t2_right {P1 P2 : Addr} (ne : P2 ≠ P1) : ∀ n f' c', ∀ q ∈ T2 P1 P2, q.1 = P1 → q.2 = (envOfC "_law_rows_right" (defScope sRight) n f' c').qual ++ "<lambda>" := by
  intro n f' c' q hq h
  unfold T2 at hq
  simp only [List.mem_cons, List.not_mem_nil, or_false] at hq
  rcases hq with e | e <;> subst e
  · rfl
  · exact absurd h ne
theorem t2_ref {P1 P2 : Addr} (ne : P2 ≠ P1) : ∀ n f' c', ∀ q ∈ T2 P1 P2, q.1 = P2 → q.2 = (envOfC "_law_refused_right" (defScope sRef) n f' c').qual ++ "<lambda>" := by
  intro n f' c' q hq h
  unfold T2 at hq
  simp only [List.mem_cons, List.not_mem_nil, or_false] at hq
  rcases hq with e | e <;> subst e
  · exact absurd h.symm ne
  · rfl
theorem kb_btm {K : PySem.W.Frag} {fd : FuncData} (h : ∀ (s : Shared) (u b t m : Value), BindsTo s fd ⟨[u], [("by", b), ("tool", t), ("moment", m)]⟩ [("self", u), ("tool", t), ("moment", m), ("by", b)]) : KBn K fd ["self", "tool", "moment", "by"] 1 ["by", "tool", "moment"] kBtm kBtm := by
  refine ⟨fun s us ws _ h1 h2 => ?_, fun {vs us zs ws} r rz => ?_⟩
  · match us, h1, ws, h2 with
    | [u], _, [b, t, m], _ => exact h s u b t m
  · cases r with
    | nil => exact .nil
    | cons r1 r =>
      cases r with
      | cons _ _ => exact .nil
      | nil =>
        cases rz with
        | nil => exact .nil
        | cons r2 rz =>
          cases rz with
          | nil => exact .nil
          | cons r3 rz =>
            cases rz with
            | nil => exact .nil
            | cons r4 rz =>
              cases rz with
              | nil => exact .cons r1 (.cons r3 (.cons r4 (.cons r2 .nil)))
              | cons _ _ => exact .nil
theorem kb_word {K : PySem.W.Frag} {fd : FuncData} (h : ∀ (s : Shared) (u w : Value), BindsTo s fd ⟨[u], [("word", w)]⟩ [("self", u), ("word", w)]) : KBinds K fd ["self", "word"] ["word"] kText kText := by
  refine ⟨fun s us ws _ hl => ?_, fun {vs us zs ws} r rz => ?_⟩
  · match us, ws, hl with
    | [u], [w], _ => exact h s u w
    | [], _, hl => cases hl
    | [_], [], hl => cases hl
    | [_], _ :: _ :: _, hl => cases hl
    | _ :: _ :: _, _, hl => cases hl
  · cases r with
    | nil => exact .nil
    | cons r1 r =>
      cases r with
      | cons _ _ => exact .nil
      | nil =>
        cases rz with
        | nil => exact .nil
        | cons r2 rz =>
          cases rz with
          | nil => exact .cons r1 (.cons r2 .nil)
          | cons _ _ => exact .nil
theorem kb_other {K : PySem.W.Frag} {fd : FuncData} (h : ∀ (s : Shared) (u w : Value), BindsTo s fd ⟨[u], [("other", w)]⟩ [("self", u), ("other", w)]) : KBinds K fd ["self", "other"] ["other"] kText kText := by
  refine ⟨fun s us ws _ hl => ?_, fun {vs us zs ws} r rz => ?_⟩
  · match us, ws, hl with
    | [u], [w], _ => exact h s u w
    | [], _, hl => cases hl
    | [_], [], hl => cases hl
    | [_], _ :: _ :: _, hl => cases hl
    | _ :: _ :: _, _, hl => cases hl
  · cases r with
    | nil => exact .nil
    | cons r1 r =>
      cases r with
      | cons _ _ => exact .nil
      | nil =>
        cases rz with
        | nil => exact .nil
        | cons r2 rz =>
          cases rz with
          | nil => exact .cons r1 (.cons r2 .nil)
          | cons _ _ => exact .nil
theorem all_mk {l : PySem.W.OpenLaw} {w : World} {K : PySem.W.Frag} {h : Heap} {mg : Str → Option Value} {fa fpen fdraw fpick fheard fparts fref c_ref P_ref fright c_right P_right flaw fwhole fmoment fname fcheck fchecked C finit feq fstr frowof fahead ppassedp fpassedp pfailedp ffailedp CR CP fpassed freq CF ffailed aNo aF t_begun t_setby t_found t_trusted t_passed t_failed t_agreed t_differed t_served t_backed CT CN feN CM feM CS feS CE feE : Addr} (X : K.In h) (G : h.Ns mainGlobals mg) (hfa : mg "law" = some (.ref fa))
    {odpen anpen oddraw andraw odpick anpick odheard anheard odparts anparts odref anref odright anright odlaw anlaw odwhole anwhole odmoment anmoment odname anname odcheck ancheck odchecked anchecked odinit aninit odeq aneq odstr anstr odrowof anrowof odahead anahead odpassedp anpassedp odfailedp anfailedp odpassed anpassed odreq anreq odfailed anfailed odN odtbegun odtsetby odtfound odttrusted odtpassed odtfailed odtagreed odtdiffered odtserved odtbacked odeN aneN odeM aneM odeS aneS odeE aneE odcright odcref : Option Addr} {slpen sldraw slpick slheard slparts slref slright sllaw slwhole slmoment slname slcheck slchecked slinit sleq slstr slrowof slahead slpassedp slfailedp slpassed slreq slfailed slN sltbegun sltsetby sltfound slttrusted sltpassed sltfailed sltagreed sltdiffered sltserved sltbacked sleN sleM sleS sleE slcright slcref : Array (Option Value)} {ocpen kVpen dcpen pmpen ctpen cdpen ocdraw kVdraw dcdraw pmdraw ctdraw cddraw ocpick kVpick dcpick pmpick ctpick cdpick ocheard kVheard dcheard pmheard ctheard cdheard ocparts kVparts dcparts pmparts ctparts cdparts ocref kVref dcref pmref ctref ocright kVright dcright pmright ctright oclaw kVlaw dclaw pmlaw ctlaw cdlaw ocwhole kVwhole dcwhole pmwhole ctwhole cdwhole ocmoment kVmoment dcmoment pmmoment ctmoment cdmoment ocname kVname dcname pmname ctname cdname occheck kVcheck dccheck pmcheck ctcheck cdcheck occhecked kVchecked dcchecked pmchecked ctchecked cdchecked ocinit kVinit dcinit pminit ctinit cdinit oceq kVeq dceq pmeq cteq cdeq ocstr kVstr dcstr pmstr ctstr cdstr ocrowof kVrowof dcrowof pmrowof ctrowof cdrowof ocahead kVahead dcahead pmahead ctahead cdahead ocpassedp kVpassedp dcpassedp pmpassedp ctpassedp cdpassedp ocfailedp kVfailedp dcfailedp pmfailedp ctfailedp cdfailedp ocpassed kVpassed dcpassed pmpassed ctpassed cdpassed ocreq kVreq dcreq pmreq ctreq cdreq ocfailed kVfailed dcfailed pmfailed ctfailed cdfailed oceN kVeN dceN pmeN cteN cdeN oceM kVeM dceM pmeM cteM cdeM oceS kVeS dceS pmeS cteS cdeS oceE kVeE dceE pmeE cteE cdeE occright occref : Value} {restpassedp restfailedp : List Value}  {tG tL tA tD : Tok} {itsN : Array Value} {nN nF : Nat} {esF : Array DictEntry} {itsbegun itssetby itsfound itstrusted itspassed itsfailed itsagreed itsdiffered itsserved itsbacked : Array Value} {ntbegun ntsetby ntfound nttrusted ntpassed ntfailed ntagreed ntdiffered ntserved ntbacked : Nat} {vsright vsref : Array Value} {nmN qN : Str} {NN : Addr} {bsN subN : List Value} {snN : List Str} {abN : Bool} {colN : Option Bool} {ddN : Option Addr} {m0N m1N m2N m3N m5N : Option Value} {nmM qM : Str} {NM : Addr} {bsM subM : List Value} {snM : List Str} {abM : Bool} {colM : Option Bool} {ddM : Option Addr} {m0M m1M m2M m3M m5M : Option Value} {nmS qS : Str} {NS : Addr} {bsS subS : List Value} {snS : List Str} {abS : Bool} {colS : Option Bool} {ddS : Option Addr} {m0S m1S m2S m3S m5S : Option Value} {nmE qE : Str} {NE : Addr} {bsE subE : List Value} {snE : List Str} {abE : Bool} {colE : Option Bool} {ddE : Option Addr} {m0E m1E m2E m3E m5E : Option Value}
    (apen : PySem.W.nsIn K mainGlobals "_law_pen" = some (some (.ref fpen)))
    (lpen : K.lookup fpen = some ⟨ocpen, odpen, .func (PySem.W.fnOf "_law_pen" "_law_pen" (defArgs sPen) (defBody sPen) (defScope sPen) .none kVpen dcpen pmpen anpen cdpen ctpen), slpen⟩)
    (cpen : PySem.W.codeIn K cdpen "_law_pen" = true)
    (kpen : PySem.W.keepIn K (.ref fpen) = true)
    (adraw : PySem.W.nsIn K mainGlobals "_law_draw" = some (some (.ref fdraw)))
    (ldraw : K.lookup fdraw = some ⟨ocdraw, oddraw, .func (PySem.W.fnOf "_law_draw" "_law_draw" (defArgs sDraw) (defBody sDraw) (defScope sDraw) .none kVdraw dcdraw pmdraw andraw cddraw ctdraw), sldraw⟩)
    (cdraw : PySem.W.codeIn K cddraw "_law_draw" = true)
    (kdraw : PySem.W.keepIn K (.ref fdraw) = true)
    (apick : PySem.W.nsIn K mainGlobals "_law_pick" = some (some (.ref fpick)))
    (lpick : K.lookup fpick = some ⟨ocpick, odpick, .func (PySem.W.fnOf "_law_pick" "_law_pick" (defArgs sPick) (defBody sPick) (defScope sPick) .none kVpick dcpick pmpick anpick cdpick ctpick), slpick⟩)
    (cpick : PySem.W.codeIn K cdpick "_law_pick" = true)
    (kpick : PySem.W.keepIn K (.ref fpick) = true)
    (aheard : PySem.W.nsIn K mainGlobals "_law_heard" = some (some (.ref fheard)))
    (lheard : K.lookup fheard = some ⟨ocheard, odheard, .func (PySem.W.fnOf "_law_heard" "_law_heard" (defArgs sHeard) (defBody sHeard) (defScope sHeard) .none kVheard dcheard pmheard anheard cdheard ctheard), slheard⟩)
    (cheard : PySem.W.codeIn K cdheard "_law_heard" = true)
    (kheard : PySem.W.keepIn K (.ref fheard) = true)
    (aparts : PySem.W.nsIn K mainGlobals "_law_parts" = some (some (.ref fparts)))
    (lparts : K.lookup fparts = some ⟨ocparts, odparts, .func (PySem.W.fnOf "_law_parts" "_law_parts" (defArgs sParts) (defBody sParts) (defScope sParts) .none kVparts dcparts pmparts anparts cdparts ctparts), slparts⟩)
    (cparts : PySem.W.codeIn K cdparts "_law_parts" = true)
    (kparts : PySem.W.keepIn K (.ref fparts) = true)
    (aref : PySem.W.nsIn K mainGlobals "_law_refused_right" = some (some (.ref fref)))
    (lref : K.lookup fref = some ⟨ocref, odref, .func (PySem.W.fnOf "_law_refused_right" "_law_refused_right" (defArgs sRef) (defBody sRef) (defScope sRef) .none kVref dcref pmref anref (.ref c_ref) ctref), slref⟩)
    (cref : PySem.W.codeIn K (.ref c_ref) "_law_refused_right" = true)
    (kref : PySem.W.keepIn K (.ref fref) = true)
    (aright : PySem.W.nsIn K mainGlobals "_law_rows_right" = some (some (.ref fright)))
    (lright : K.lookup fright = some ⟨ocright, odright, .func (PySem.W.fnOf "_law_rows_right" "_law_rows_right" (defArgs sRight) (defBody sRight) (defScope sRight) .none kVright dcright pmright anright (.ref c_right) ctright), slright⟩)
    (cright : PySem.W.codeIn K (.ref c_right) "_law_rows_right" = true)
    (kright : PySem.W.keepIn K (.ref fright) = true)
    (alaw : PySem.W.nsIn K mainGlobals "law" = some (some (.ref flaw)))
    (llaw : K.lookup flaw = some ⟨oclaw, odlaw, .func (PySem.W.fnOf "law" "law" (defArgs sLaw) (defBody sLaw) (defScope sLaw) .none kVlaw dclaw pmlaw anlaw cdlaw ctlaw), sllaw⟩)
    (claw : PySem.W.codeIn K cdlaw "law" = true)
    (klaw : PySem.W.keepIn K (.ref flaw) = true)
    (awhole : PySem.W.nsIn K mainGlobals "is_whole" = some (some (.ref fwhole)))
    (lwhole : K.lookup fwhole = some ⟨ocwhole, odwhole, .func (PySem.W.fnOf "is_whole" "is_whole" (defArgs sWhole) (defBody sWhole) (defScope sWhole) .none kVwhole dcwhole pmwhole anwhole cdwhole ctwhole), slwhole⟩)
    (cwhole : PySem.W.codeIn K cdwhole "is_whole" = true)
    (kwhole : PySem.W.keepIn K (.ref fwhole) = true)
    (amoment : PySem.W.nsIn K mainGlobals "is_moment" = some (some (.ref fmoment)))
    (lmoment : K.lookup fmoment = some ⟨ocmoment, odmoment, .func (PySem.W.fnOf "is_moment" "is_moment" (defArgs sMoment) (defBody sMoment) (defScope sMoment) .none kVmoment dcmoment pmmoment anmoment cdmoment ctmoment), slmoment⟩)
    (cmoment : PySem.W.codeIn K cdmoment "is_moment" = true)
    (kmoment : PySem.W.keepIn K (.ref fmoment) = true)
    (aname : PySem.W.nsIn K mainGlobals "is_name" = some (some (.ref fname)))
    (lname : K.lookup fname = some ⟨ocname, odname, .func (PySem.W.fnOf "is_name" "is_name" (defArgs sName) (defBody sName) (defScope sName) .none kVname dcname pmname anname cdname ctname), slname⟩)
    (cname : PySem.W.codeIn K cdname "is_name" = true)
    (kname : PySem.W.keepIn K (.ref fname) = true)
    (acheck : PySem.W.nsIn K mainGlobals "check_form" = some (some (.ref fcheck)))
    (lcheck : K.lookup fcheck = some ⟨occheck, odcheck, .func (PySem.W.fnOf "check_form" "check_form" (defArgs sCheck) (defBody sCheck) (defScope sCheck) .none kVcheck dccheck pmcheck ancheck cdcheck ctcheck), slcheck⟩)
    (ccheck : PySem.W.codeIn K cdcheck "check_form" = true)
    (kcheck : PySem.W.keepIn K (.ref fcheck) = true)
    (achecked : PySem.W.nsIn K mainGlobals "checked" = some (some (.ref fchecked)))
    (lchecked : K.lookup fchecked = some ⟨occhecked, odchecked, .func (PySem.W.fnOf "checked" "checked" (defArgs sChecked) (defBody sChecked) (defScope sChecked) .none kVchecked dcchecked pmchecked anchecked cdchecked ctchecked), slchecked⟩)
    (cchecked : PySem.W.codeIn K cdchecked "checked" = true)
    (kchecked : PySem.W.keepIn K (.ref fchecked) = true)
    (aC : PySem.W.nsIn K mainGlobals "Entry" = some (some (.ref C)))
    (pgC : PySem.W.plainGet K C Str.empty = true)
    (hdC : PySem.W.hasDictIn K C = true)
    (poC : PySem.W.plainOver K C = true)
    (saC : PySem.W.findIn K (.ref C) "__setattr__" = some (some (.builtin "object.__setattr__")))
    (mkC : PySem.W.makesIn K C = true)
    (kcC : PySem.W.keepIn K (.ref C) = true)
    (nC_tool : PySem.W.findIn K (.ref C) "tool" = some none)
    (nC_moment : PySem.W.findIn K (.ref C) "moment" = some none)
    (nC_by : PySem.W.findIn K (.ref C) "by" = some none)
    (thn : PySem.W.specialIn K (.builtin "object.__class__") "__get__" = some (some (.builtin "getset_descriptor.__get__")))
    (tht : PySem.W.takesIn K (.builtin "object.__class__") = some true)
    (thaC : PySem.W.findIn K (.ref C) "__class__" = some (some (.builtin "object.__class__")))
    (thmC : PySem.W.mroIn K C (.type "object") = some true)
    (hclsC : PySem.W.isClsIn K C = true)
    (htypC : PySem.W.typeIn K (.ref C) = some (.type "type"))
    (ainit : PySem.W.findIn K (.ref C) "__init__" = some (some (.ref finit)))
    (iinit : PySem.W.isFn K (.ref finit) = true)
    (linit : K.lookup finit = some ⟨ocinit, odinit, .func (PySem.W.fnOf "__init__" "Entry.__init__" (defArgs sInit) (defBody sInit) (defScope sInit) .none kVinit dcinit pminit aninit cdinit ctinit), slinit⟩)
    (cinit : PySem.W.codeIn K cdinit "Entry.__init__" = true)
    (kinit : PySem.W.keepIn K (.ref finit) = true)
    (aeq : PySem.W.findIn K (.ref C) "__eq__" = some (some (.ref feq)))
    (ieq : PySem.W.isFn K (.ref feq) = true)
    (leq : K.lookup feq = some ⟨oceq, odeq, .func (PySem.W.fnOf "__eq__" "Entry.__eq__" (defArgs sEq) (defBody sEq) (defScope sEq) .none kVeq dceq pmeq aneq cdeq cteq), sleq⟩)
    (ceq : PySem.W.codeIn K cdeq "Entry.__eq__" = true)
    (keq : PySem.W.keepIn K (.ref feq) = true)
    (astr : PySem.W.findIn K (.ref C) "__str__" = some (some (.ref fstr)))
    (istr : PySem.W.isFn K (.ref fstr) = true)
    (lstr : K.lookup fstr = some ⟨ocstr, odstr, .func (PySem.W.fnOf "__str__" "Entry.__str__" (defArgs sStr) (defBody sStr) (defScope sStr) .none kVstr dcstr pmstr anstr cdstr ctstr), slstr⟩)
    (cstr : PySem.W.codeIn K cdstr "Entry.__str__" = true)
    (kstr : PySem.W.keepIn K (.ref fstr) = true)
    (arowof : PySem.W.findIn K (.ref C) "row_of" = some (some (.ref frowof)))
    (irowof : PySem.W.isFn K (.ref frowof) = true)
    (lrowof : K.lookup frowof = some ⟨ocrowof, odrowof, .func (PySem.W.fnOf "row_of" "Entry.row_of" (defArgs sRowOf) (defBody sRowOf) (defScope sRowOf) .none kVrowof dcrowof pmrowof anrowof cdrowof ctrowof), slrowof⟩)
    (crowof : PySem.W.codeIn K cdrowof "Entry.row_of" = true)
    (krowof : PySem.W.keepIn K (.ref frowof) = true)
    (aahead : PySem.W.findIn K (.ref C) "is_ahead" = some (some (.ref fahead)))
    (iahead : PySem.W.isFn K (.ref fahead) = true)
    (lahead : K.lookup fahead = some ⟨ocahead, odahead, .func (PySem.W.fnOf "is_ahead" "Entry.is_ahead" (defArgs sAhead) (defBody sAhead) (defScope sAhead) .none kVahead dcahead pmahead anahead cdahead ctahead), slahead⟩)
    (cahead : PySem.W.codeIn K cdahead "Entry.is_ahead" = true)
    (kahead : PySem.W.keepIn K (.ref fahead) = true)
    (nne : PySem.W.findIn K (.ref C) "__ne__" = some (some (.builtin "object.__ne__")))
    (apassedp : PySem.W.findIn K (.ref C) "passed" = some (some (.ref ppassedp)))
    (gpassedp : PySem.W.specialIn K (.ref ppassedp) "__get__" = some (some (.builtin "property.__get__")))
    (tpassedp : PySem.W.takesIn K (.ref ppassedp) = some true)
    (rpassedp : PySem.W.recIn K ppassedp "property" = some (.ref fpassedp :: restpassedp))
    (lpassedp : K.lookup fpassedp = some ⟨ocpassedp, odpassedp, .func (PySem.W.fnOf "passed" "Entry.passed" (defArgs sPassedP) (defBody sPassedP) (defScope sPassedP) .none kVpassedp dcpassedp pmpassedp anpassedp cdpassedp ctpassedp), slpassedp⟩)
    (cpassedp : PySem.W.codeIn K cdpassedp "Entry.passed" = true)
    (kpassedp : PySem.W.keepIn K (.ref fpassedp) = true)
    (afailedp : PySem.W.findIn K (.ref C) "failed" = some (some (.ref pfailedp)))
    (gfailedp : PySem.W.specialIn K (.ref pfailedp) "__get__" = some (some (.builtin "property.__get__")))
    (tfailedp : PySem.W.takesIn K (.ref pfailedp) = some true)
    (rfailedp : PySem.W.recIn K pfailedp "property" = some (.ref ffailedp :: restfailedp))
    (lfailedp : K.lookup ffailedp = some ⟨ocfailedp, odfailedp, .func (PySem.W.fnOf "failed" "Entry.failed" (defArgs sFailedP) (defBody sFailedP) (defScope sFailedP) .none kVfailedp dcfailedp pmfailedp anfailedp cdfailedp ctfailedp), slfailedp⟩)
    (cfailedp : PySem.W.codeIn K cdfailedp "Entry.failed" = true)
    (kfailedp : PySem.W.keepIn K (.ref ffailedp) = true)
    (gR : PySem.W.nsIn K mainGlobals "Row" = some (some (.ref CR)))
    (icR : PySem.W.isClsIn K CR = true)
    (tyR : PySem.W.typeIn K (.ref CR) = some (.type "type"))
    (sbR : PySem.W.subIn K (.ref CR) (.ref CR) = some true)
    (aCP : PySem.W.nsIn K mainGlobals "Passed" = some (some (.ref CP)))
    (pgCP : PySem.W.plainGet K CP Str.empty = true)
    (hdCP : PySem.W.hasDictIn K CP = true)
    (poCP : PySem.W.plainOver K CP = true)
    (saCP : PySem.W.findIn K (.ref CP) "__setattr__" = some (some (.builtin "object.__setattr__")))
    (mkCP : PySem.W.makesIn K CP = true)
    (kcCP : PySem.W.keepIn K (.ref CP) = true)
    (nCP__told : PySem.W.findIn K (.ref CP) "_told" = some none)
    (nCP_kind : PySem.W.findIn K (.ref CP) "kind" = some none)
    (nCP_tool : PySem.W.findIn K (.ref CP) "tool" = some none)
    (nCP_moment : PySem.W.findIn K (.ref CP) "moment" = some none)
    (nCP_by : PySem.W.findIn K (.ref CP) "by" = some none)
    (thaCP : PySem.W.findIn K (.ref CP) "__class__" = some (some (.builtin "object.__class__")))
    (thmCP : PySem.W.mroIn K CP (.type "object") = some true)
    (hclsCP : PySem.W.isClsIn K CP = true)
    (htypCP : PySem.W.typeIn K (.ref CP) = some (.type "type"))
    (apassed : PySem.W.findIn K (.ref CP) "__init__" = some (some (.ref fpassed)))
    (ipassed : PySem.W.isFn K (.ref fpassed) = true)
    (lpassed : K.lookup fpassed = some ⟨ocpassed, odpassed, .func (PySem.W.fnOf "__init__" "Passed.__init__" (defArgs sPassed) (defBody sPassed) (defScope sPassed) .none kVpassed dcpassed pmpassed anpassed cdpassed ctpassed), slpassed⟩)
    (cpassed : PySem.W.codeIn K cdpassed "Passed.__init__" = true)
    (kpassed : PySem.W.keepIn K (.ref fpassed) = true)
    (aeqCP : PySem.W.findIn K (.ref CP) "__eq__" = some (some (.ref freq)))
    (ireq : PySem.W.isFn K (.ref freq) = true)
    (lreq : K.lookup freq = some ⟨ocreq, odreq, .func (PySem.W.fnOf "__eq__" "Row.__eq__" (defArgs sRowEq) (defBody sRowEq) (defScope sRowEq) .none kVreq dcreq pmreq anreq cdreq ctreq), slreq⟩)
    (creq : PySem.W.codeIn K cdreq "Row.__eq__" = true)
    (kreq : PySem.W.keepIn K (.ref freq) = true)
    (nneCP : PySem.W.findIn K (.ref CP) "__ne__" = some (some (.builtin "object.__ne__")))
    (sRCP : PySem.W.subIn K (.ref CP) (.ref CR) = some true)
    (aCF : PySem.W.nsIn K mainGlobals "Failed" = some (some (.ref CF)))
    (pgCF : PySem.W.plainGet K CF Str.empty = true)
    (hdCF : PySem.W.hasDictIn K CF = true)
    (poCF : PySem.W.plainOver K CF = true)
    (saCF : PySem.W.findIn K (.ref CF) "__setattr__" = some (some (.builtin "object.__setattr__")))
    (mkCF : PySem.W.makesIn K CF = true)
    (kcCF : PySem.W.keepIn K (.ref CF) = true)
    (nCF__told : PySem.W.findIn K (.ref CF) "_told" = some none)
    (nCF_kind : PySem.W.findIn K (.ref CF) "kind" = some none)
    (nCF_tool : PySem.W.findIn K (.ref CF) "tool" = some none)
    (nCF_moment : PySem.W.findIn K (.ref CF) "moment" = some none)
    (nCF_by : PySem.W.findIn K (.ref CF) "by" = some none)
    (thaCF : PySem.W.findIn K (.ref CF) "__class__" = some (some (.builtin "object.__class__")))
    (thmCF : PySem.W.mroIn K CF (.type "object") = some true)
    (hclsCF : PySem.W.isClsIn K CF = true)
    (htypCF : PySem.W.typeIn K (.ref CF) = some (.type "type"))
    (afailed : PySem.W.findIn K (.ref CF) "__init__" = some (some (.ref ffailed)))
    (ifailed : PySem.W.isFn K (.ref ffailed) = true)
    (lfailed : K.lookup ffailed = some ⟨ocfailed, odfailed, .func (PySem.W.fnOf "__init__" "Failed.__init__" (defArgs sFailed) (defBody sFailed) (defScope sFailed) .none kVfailed dcfailed pmfailed anfailed cdfailed ctfailed), slfailed⟩)
    (cfailed : PySem.W.codeIn K cdfailed "Failed.__init__" = true)
    (kfailed : PySem.W.keepIn K (.ref ffailed) = true)
    (aeqCF : PySem.W.findIn K (.ref CF) "__eq__" = some (some (.ref freq)))
    (nneCF : PySem.W.findIn K (.ref CF) "__ne__" = some (some (.builtin "object.__ne__")))
    (sRCF : PySem.W.subIn K (.ref CF) (.ref CR) = some true)
    (sPC : PySem.W.subIn K (.ref CP) (.ref C) = some false)
    (sCC : PySem.W.subIn K (.ref C) (.ref C) = some true)
    (nfP : PySem.W.notFirst K C (.ref CP) = true)
    (gG : PySem.W.nsIn K mainGlobals "GREATEST" = some (some (.int 1000000000000000000000000000000 tG)))
    (gL : PySem.W.nsIn K mainGlobals "LONGEST_NAME" = some (some (.int 8 tL)))
    (gA : PySem.W.nsIn K mainGlobals "LETTERS" = some (some (.str letters tA)))
    (gD : PySem.W.nsIn K mainGlobals "DIGITS" = some (some (.str digits tD)))
    (gN : PySem.W.nsIn K mainGlobals "NO_NAMES" = some (some (.ref aNo)))
    (lN : K.lookup aNo = some ⟨.type "tuple", odN, .seq itsN nN, slN⟩)
    (vN : itsN.toList.map strOf? = noNames.map some)
    (gF : PySem.W.nsIn K mainGlobals "FORMS" = some (some (.ref aF)))
    (lF : K.lookup aF = some ⟨.type "dict", none, .dict esF nF, #[]⟩)
    (klF : PySem.W.KeysLit w.params esF.toList)
    (gtbegun : PySem.W.nsIn K aF "begun" = some (some (.ref t_begun)))
    (ltbegun : K.lookup t_begun = some ⟨.type "tuple", odtbegun, .seq itsbegun ntbegun, sltbegun⟩)
    (vtbegun : itsbegun.toList.map strOf? = (formsOf "begun").map some)
    (gtsetby : PySem.W.nsIn K aF "setby" = some (some (.ref t_setby)))
    (ltsetby : K.lookup t_setby = some ⟨.type "tuple", odtsetby, .seq itssetby ntsetby, sltsetby⟩)
    (vtsetby : itssetby.toList.map strOf? = (formsOf "setby").map some)
    (gtfound : PySem.W.nsIn K aF "found" = some (some (.ref t_found)))
    (ltfound : K.lookup t_found = some ⟨.type "tuple", odtfound, .seq itsfound ntfound, sltfound⟩)
    (vtfound : itsfound.toList.map strOf? = (formsOf "found").map some)
    (gttrusted : PySem.W.nsIn K aF "trusted" = some (some (.ref t_trusted)))
    (lttrusted : K.lookup t_trusted = some ⟨.type "tuple", odttrusted, .seq itstrusted nttrusted, slttrusted⟩)
    (vttrusted : itstrusted.toList.map strOf? = (formsOf "trusted").map some)
    (gtpassed : PySem.W.nsIn K aF "passed" = some (some (.ref t_passed)))
    (ltpassed : K.lookup t_passed = some ⟨.type "tuple", odtpassed, .seq itspassed ntpassed, sltpassed⟩)
    (vtpassed : itspassed.toList.map strOf? = (formsOf "passed").map some)
    (gtfailed : PySem.W.nsIn K aF "failed" = some (some (.ref t_failed)))
    (ltfailed : K.lookup t_failed = some ⟨.type "tuple", odtfailed, .seq itsfailed ntfailed, sltfailed⟩)
    (vtfailed : itsfailed.toList.map strOf? = (formsOf "failed").map some)
    (gtagreed : PySem.W.nsIn K aF "agreed" = some (some (.ref t_agreed)))
    (ltagreed : K.lookup t_agreed = some ⟨.type "tuple", odtagreed, .seq itsagreed ntagreed, sltagreed⟩)
    (vtagreed : itsagreed.toList.map strOf? = (formsOf "agreed").map some)
    (gtdiffered : PySem.W.nsIn K aF "differed" = some (some (.ref t_differed)))
    (ltdiffered : K.lookup t_differed = some ⟨.type "tuple", odtdiffered, .seq itsdiffered ntdiffered, sltdiffered⟩)
    (vtdiffered : itsdiffered.toList.map strOf? = (formsOf "differed").map some)
    (gtserved : PySem.W.nsIn K aF "served" = some (some (.ref t_served)))
    (ltserved : K.lookup t_served = some ⟨.type "tuple", odtserved, .seq itsserved ntserved, sltserved⟩)
    (vtserved : itsserved.toList.map strOf? = (formsOf "served").map some)
    (gtbacked : PySem.W.nsIn K aF "backed" = some (some (.ref t_backed)))
    (ltbacked : K.lookup t_backed = some ⟨.type "tuple", odtbacked, .seq itsbacked ntbacked, sltbacked⟩)
    (vtbacked : itsbacked.toList.map strOf? = (formsOf "backed").map some)
    (b_isinstance : PySem.W.nsIn K mainGlobals "isinstance" = some none)
    (b_int : PySem.W.nsIn K mainGlobals "int" = some none)
    (b_bool : PySem.W.nsIn K mainGlobals "bool" = some none)
    (b_str : PySem.W.nsIn K mainGlobals "str" = some none)
    (b_len : PySem.W.nsIn K mainGlobals "len" = some none)
    (b_all : PySem.W.nsIn K mainGlobals "all" = some none)
    (b_range : PySem.W.nsIn K mainGlobals "range" = some none)
    (b_repr : PySem.W.nsIn K mainGlobals "repr" = some none)
    (b_list : PySem.W.nsIn K mainGlobals "list" = some none)
    (b_tuple : PySem.W.nsIn K mainGlobals "tuple" = some none)
    (b_abs : PySem.W.nsIn K mainGlobals "abs" = some none)
    (b_zip : PySem.W.nsIn K mainGlobals "zip" = some none)
    (b_ValueError : PySem.W.nsIn K mainGlobals "ValueError" = some none)
    (aT : PySem.W.nsIn K mainGlobals "TillError" = some (some (.ref CT)))
    (iT : PySem.W.isClsIn K CT = true)
    (tT : PySem.W.typeIn K (.ref CT) = some (.type "type"))
    (eT : PySem.W.subIn K (.ref CT) (.type "BaseException") = some true)
    (sT : PySem.W.subIn K (.ref CT) (.ref CT) = some true)
    (aN : PySem.W.nsIn K mainGlobals "BadName" = some (some (.ref CN)))
    (xN : K.lookup CN = some (excClassObj nmN qN CN NN bsN [.ref CT, .type "ValueError", .type "Exception", .type "BaseException", .type "object"] true snN subN abN colN ddN m0N m1N m2N m3N m5N "ValueError.__new__"))
    (seN : PySem.W.findIn K (.ref CN) "__setattr__" = some (some (.builtin "object.__setattr__")))
    (geN : PySem.W.findIn K (.ref CN) "__getattribute__" = some (some (.builtin "BaseException.__getattribute__")))
    (heN : PySem.W.findIn K (.ref CN) "__getattr__" = some none)
    (neN : PySem.W.findIn K (.ref CN) "name" = some none)
    (aeN : PySem.W.findIn K (.ref CN) "__init__" = some (some (.ref feN)))
    (teN : PySem.W.typeIn K (.ref feN) = some (.type "function"))
    (leN : K.lookup feN = some ⟨oceN, odeN, .func (PySem.W.fnOf "__init__" "BadName.__init__" (defArgs sEN) (defBody sEN) (defScope sEN) .none kVeN dceN pmeN aneN cdeN cteN), sleN⟩)
    (ceN : PySem.W.codeIn K cdeN "BadName.__init__" = true)
    (keN : PySem.W.keepIn K (.ref feN) = true)
    (kkeN : PySem.W.keepIn K (.ref CN) = true)
    (exeN : PySem.W.subIn K (.ref CN) (.type "BaseException") = some true)
    (tyeN : PySem.W.typeIn K (.ref CN) = some (.type "type"))
    (hdeN : PySem.W.hasDictIn K CN = true)
    (iceN : PySem.W.isClsIn K CN = true)
    (veeN : PySem.W.subIn K (.ref CN) (.type "ValueError") = some true)
    (uteN : PySem.W.subIn K (.ref CN) (.ref CT) = some true)
    (caeN : PySem.W.findIn K (.ref CN) "__class__" = some (some (.builtin "object.__class__")))
    (cmeN : PySem.W.mroIn K CN (.type "object") = some true)
    (aM : PySem.W.nsIn K mainGlobals "BadMoment" = some (some (.ref CM)))
    (xM : K.lookup CM = some (excClassObj nmM qM CM NM bsM [.ref CT, .type "ValueError", .type "Exception", .type "BaseException", .type "object"] true snM subM abM colM ddM m0M m1M m2M m3M m5M "ValueError.__new__"))
    (seM : PySem.W.findIn K (.ref CM) "__setattr__" = some (some (.builtin "object.__setattr__")))
    (geM : PySem.W.findIn K (.ref CM) "__getattribute__" = some (some (.builtin "BaseException.__getattribute__")))
    (heM : PySem.W.findIn K (.ref CM) "__getattr__" = some none)
    (neM : PySem.W.findIn K (.ref CM) "moment" = some none)
    (aeM : PySem.W.findIn K (.ref CM) "__init__" = some (some (.ref feM)))
    (teM : PySem.W.typeIn K (.ref feM) = some (.type "function"))
    (leM : K.lookup feM = some ⟨oceM, odeM, .func (PySem.W.fnOf "__init__" "BadMoment.__init__" (defArgs sEM) (defBody sEM) (defScope sEM) .none kVeM dceM pmeM aneM cdeM cteM), sleM⟩)
    (ceM : PySem.W.codeIn K cdeM "BadMoment.__init__" = true)
    (keM : PySem.W.keepIn K (.ref feM) = true)
    (kkeM : PySem.W.keepIn K (.ref CM) = true)
    (exeM : PySem.W.subIn K (.ref CM) (.type "BaseException") = some true)
    (tyeM : PySem.W.typeIn K (.ref CM) = some (.type "type"))
    (hdeM : PySem.W.hasDictIn K CM = true)
    (iceM : PySem.W.isClsIn K CM = true)
    (veeM : PySem.W.subIn K (.ref CM) (.type "ValueError") = some true)
    (uteM : PySem.W.subIn K (.ref CM) (.ref CT) = some true)
    (caeM : PySem.W.findIn K (.ref CM) "__class__" = some (some (.builtin "object.__class__")))
    (cmeM : PySem.W.mroIn K CM (.type "object") = some true)
    (aS : PySem.W.nsIn K mainGlobals "BadSaying" = some (some (.ref CS)))
    (xS : K.lookup CS = some (excClassObj nmS qS CS NS bsS [.ref CT, .type "ValueError", .type "Exception", .type "BaseException", .type "object"] true snS subS abS colS ddS m0S m1S m2S m3S m5S "ValueError.__new__"))
    (seS : PySem.W.findIn K (.ref CS) "__setattr__" = some (some (.builtin "object.__setattr__")))
    (geS : PySem.W.findIn K (.ref CS) "__getattribute__" = some (some (.builtin "BaseException.__getattribute__")))
    (heS : PySem.W.findIn K (.ref CS) "__getattr__" = some none)
    (neS : PySem.W.findIn K (.ref CS) "value" = some none)
    (aeS : PySem.W.findIn K (.ref CS) "__init__" = some (some (.ref feS)))
    (teS : PySem.W.typeIn K (.ref feS) = some (.type "function"))
    (leS : K.lookup feS = some ⟨oceS, odeS, .func (PySem.W.fnOf "__init__" "BadSaying.__init__" (defArgs sES) (defBody sES) (defScope sES) .none kVeS dceS pmeS aneS cdeS cteS), sleS⟩)
    (ceS : PySem.W.codeIn K cdeS "BadSaying.__init__" = true)
    (keS : PySem.W.keepIn K (.ref feS) = true)
    (kkeS : PySem.W.keepIn K (.ref CS) = true)
    (exeS : PySem.W.subIn K (.ref CS) (.type "BaseException") = some true)
    (tyeS : PySem.W.typeIn K (.ref CS) = some (.type "type"))
    (hdeS : PySem.W.hasDictIn K CS = true)
    (iceS : PySem.W.isClsIn K CS = true)
    (veeS : PySem.W.subIn K (.ref CS) (.type "ValueError") = some true)
    (uteS : PySem.W.subIn K (.ref CS) (.ref CT) = some true)
    (caeS : PySem.W.findIn K (.ref CS) "__class__" = some (some (.builtin "object.__class__")))
    (cmeS : PySem.W.mroIn K CS (.type "object") = some true)
    (aE : PySem.W.nsIn K mainGlobals "BadEntry" = some (some (.ref CE)))
    (xE : K.lookup CE = some (excClassObj nmE qE CE NE bsE [.ref CT, .type "ValueError", .type "Exception", .type "BaseException", .type "object"] true snE subE abE colE ddE m0E m1E m2E m3E m5E "ValueError.__new__"))
    (seE : PySem.W.findIn K (.ref CE) "__setattr__" = some (some (.builtin "object.__setattr__")))
    (geE : PySem.W.findIn K (.ref CE) "__getattribute__" = some (some (.builtin "BaseException.__getattribute__")))
    (heE : PySem.W.findIn K (.ref CE) "__getattr__" = some none)
    (neE : PySem.W.findIn K (.ref CE) "at" = some none)
    (aeE : PySem.W.findIn K (.ref CE) "__init__" = some (some (.ref feE)))
    (teE : PySem.W.typeIn K (.ref feE) = some (.type "function"))
    (leE : K.lookup feE = some ⟨oceE, odeE, .func (PySem.W.fnOf "__init__" "BadEntry.__init__" (defArgs sEE) (defBody sEE) (defScope sEE) .none kVeE dceE pmeE aneE cdeE cteE), sleE⟩)
    (ceE : PySem.W.codeIn K cdeE "BadEntry.__init__" = true)
    (keE : PySem.W.keepIn K (.ref feE) = true)
    (kkeE : PySem.W.keepIn K (.ref CE) = true)
    (exeE : PySem.W.subIn K (.ref CE) (.type "BaseException") = some true)
    (tyeE : PySem.W.typeIn K (.ref CE) = some (.type "type"))
    (hdeE : PySem.W.hasDictIn K CE = true)
    (iceE : PySem.W.isClsIn K CE = true)
    (veeE : PySem.W.subIn K (.ref CE) (.type "ValueError") = some true)
    (uteE : PySem.W.subIn K (.ref CE) (.ref CT) = some true)
    (caeE : PySem.W.findIn K (.ref CE) "__class__" = some (some (.builtin "object.__class__")))
    (cmeE : PySem.W.mroIn K CE (.type "object") = some true)
    (uNN : PySem.W.subIn K (.ref CN) (.ref CN) = some true)
    (uNM : PySem.W.subIn K (.ref CN) (.ref CM) = some false)
    (uNE : PySem.W.subIn K (.ref CN) (.ref CE) = some false)
    (uMN : PySem.W.subIn K (.ref CM) (.ref CN) = some false)
    (uMM : PySem.W.subIn K (.ref CM) (.ref CM) = some true)
    (uME : PySem.W.subIn K (.ref CM) (.ref CE) = some false)
    (uEN : PySem.W.subIn K (.ref CE) (.ref CN) = some false)
    (uEM : PySem.W.subIn K (.ref CE) (.ref CM) = some false)
    (uEE : PySem.W.subIn K (.ref CE) (.ref CE) = some true)
    (lcright : K.lookup c_right = some ⟨occright, odcright, .fields vsright, slcright⟩)
    (vcright : (vsright[11]? : Option Value) = some (.ref P_right))
    (nTright : K.lookup P_right = none)
    (lcref : K.lookup c_ref = some ⟨occref, odcref, .fields vsref, slcref⟩)
    (vcref : (vsref[11]? : Option Value) = some (.ref P_ref))
    (nTref : K.lookup P_ref = none)
    (nePP : P_ref ≠ P_right)
    : ∃ (fd : FuncData) (c1 P1 c2 P2 : Addr), PySem.W.tabIn K "_law_rows_right" = some (c1, P1) ∧ K.lookup P1 = none ∧ PySem.W.tabIn K "_law_refused_right" = some (c2, P2) ∧ K.lookup P2 = none ∧ (∀ (s : Shared) (v : Value), BindsTo s fd ⟨[v], []⟩ [("_law_script", v)]) ∧
      ∀ base : Heap, K.In base → base.Ns mainGlobals mg → (∀ q ∈ [(c1, P1), (c2, P2)], TabB base mg q.1 q.2) → FnG l.prog w K mg base CX0 14 fa fd ["_law_script"] (spLaw K (T2 P1 P2)) := by
  have e := hfa.symm.trans (PySem.W.mg_of X G alaw)
  cases e
  have g1 := fun {n : Str} {v : Value} (e : PySem.W.nsIn K mainGlobals n = some (some v)) => PySem.W.mg_of X G e
  have g0 := fun {n : Str} (e : PySem.W.nsIn K mainGlobals n = some none) => PySem.W.mg_none_of X G e
  have F_pen := fun_mk (st := sPen) lpen cpen kpen
  have F_draw := fun_mk (st := sDraw) ldraw cdraw kdraw
  have F_pick := fun_mk (st := sPick) lpick cpick kpick
  have F_heard := fun_mk (st := sHeard) lheard cheard kheard
  have F_parts := fun_mk (st := sParts) lparts cparts kparts
  have F_ref := fun_mk (st := sRef) lref cref kref
  have F_right := fun_mk (st := sRight) lright cright kright
  have F_law := fun_mk (st := sLaw) llaw claw klaw
  have F_whole := fun_mk (st := sWhole) lwhole cwhole kwhole
  have F_moment := fun_mk (st := sMoment) lmoment cmoment kmoment
  have F_name := fun_mk (st := sName) lname cname kname
  have F_check := fun_mk (st := sCheck) lcheck ccheck kcheck
  have F_checked := fun_mk (st := sChecked) lchecked cchecked kchecked
  have F_init := fun_mk (st := sInit) linit cinit kinit
  have F_eq := fun_mk (st := sEq) leq ceq keq
  have F_str := fun_mk (st := sStr) lstr cstr kstr
  have F_rowof := fun_mk (st := sRowOf) lrowof crowof krowof
  have F_ahead := fun_mk (st := sAhead) lahead cahead kahead
  have F_passedp := fun_mk (st := sPassedP) lpassedp cpassedp kpassedp
  have F_failedp := fun_mk (st := sFailedP) lfailedp cfailedp kfailedp
  have F_passed := fun_mk (st := sPassed) lpassed cpassed kpassed
  have F_req := fun_mk (st := sRowEq) lreq creq kreq
  have F_failed := fun_mk (st := sFailed) lfailed cfailed kfailed
  have F_eN := fun_mk (st := sEN) leN ceN keN
  have F_eM := fun_mk (st := sEM) leM ceM keM
  have F_eS := fun_mk (st := sES) leS ceS keS
  have F_eE := fun_mk (st := sEE) leE ceE keE
  have b_pen_ := F_pen.binds (ps := ["_law_script"]) fun _ _ _ _ _ _ us hl => match us, hl with | [_], _ => rfl
  have b_draw_ := F_draw.binds (ps := ["_law_pen_here", "_law_many"]) fun _ _ _ _ _ _ us hl => match us, hl with | [_, _], _ => rfl
  have b_pick_ := F_pick.binds (ps := ["_law_pen_here", "_law_some"]) fun _ _ _ _ _ _ us hl => match us, hl with | [_, _], _ => rfl
  have b_heard_ := F_heard.binds (ps := ["_law_ask"]) fun _ _ _ _ _ _ us hl => match us, hl with | [_], _ => rfl
  have b_parts_ := F_parts.binds (ps := ["_law_pen_here"]) fun _ _ _ _ _ _ us hl => match us, hl with | [_], _ => rfl
  have b_ref_ := F_ref.binds (ps := ["_law_pen_here", "_law_parts_here"]) fun _ _ _ _ _ _ us hl => match us, hl with | [_, _], _ => rfl
  have b_right_ := F_right.binds (ps := ["_law_pen_here", "_law_entry", "_law_parts_here"]) fun _ _ _ _ _ _ us hl => match us, hl with | [_, _, _], _ => rfl
  have b_law_ := F_law.binds (ps := ["_law_script"]) fun _ _ _ _ _ _ us hl => match us, hl with | [_], _ => rfl
  have b_whole_ := F_whole.binds (ps := ["value"]) fun _ _ _ _ _ _ us hl => match us, hl with | [_], _ => rfl
  have b_moment_ := F_moment.binds (ps := ["value"]) fun _ _ _ _ _ _ us hl => match us, hl with | [_], _ => rfl
  have b_name_ := F_name.binds (ps := ["value"]) fun _ _ _ _ _ _ us hl => match us, hl with | [_], _ => rfl
  have b_check_ := F_check.binds (ps := ["value", "form"]) fun _ _ _ _ _ _ us hl => match us, hl with | [_, _], _ => rfl
  have b_checked_ := F_checked.binds (ps := ["kind", "told"]) fun _ _ _ _ _ _ us hl => match us, hl with | [_, _], _ => rfl
  have b_init_ := F_init.binds (ps := ["self", "tool", "moment", "by"]) fun _ _ _ _ _ _ us hl => match us, hl with | [_, _, _, _], _ => rfl
  have b_eq_ := F_eq.binds (ps := ["self", "other"]) fun _ _ _ _ _ _ us hl => match us, hl with | [_, _], _ => rfl
  have b_str_ := F_str.binds (ps := ["self"]) fun _ _ _ _ _ _ us hl => match us, hl with | [_], _ => rfl
  have b_rowof_ := F_rowof.binds (ps := ["self", "word"]) fun _ _ _ _ _ _ us hl => match us, hl with | [_, _], _ => rfl
  have b_ahead_ := F_ahead.binds (ps := ["self", "other"]) fun _ _ _ _ _ _ us hl => match us, hl with | [_, _], _ => rfl
  have b_passedp_ := F_passedp.binds (ps := ["self"]) fun _ _ _ _ _ _ us hl => match us, hl with | [_], _ => rfl
  have b_failedp_ := F_failedp.binds (ps := ["self"]) fun _ _ _ _ _ _ us hl => match us, hl with | [_], _ => rfl
  have b_passed_ := F_passed.binds (ps := ["self", "tool", "moment", "by"]) fun _ _ _ _ _ _ us hl => match us, hl with | [_, _, _, _], _ => rfl
  have b_req_ := F_req.binds (ps := ["self", "other"]) fun _ _ _ _ _ _ us hl => match us, hl with | [_, _], _ => rfl
  have b_failed_ := F_failed.binds (ps := ["self", "tool", "moment", "by"]) fun _ _ _ _ _ _ us hl => match us, hl with | [_, _, _, _], _ => rfl
  have b_eN_ := F_eN.binds (ps := ["self", "name"]) fun _ _ _ _ _ _ us hl => match us, hl with | [_, _], _ => rfl
  have b_eM_ := F_eM.binds (ps := ["self", "moment"]) fun _ _ _ _ _ _ us hl => match us, hl with | [_, _], _ => rfl
  have b_eS_ := F_eS.binds (ps := ["self", "value"]) fun _ _ _ _ _ _ us hl => match us, hl with | [_, _], _ => rfl
  have b_eE_ := F_eE.binds (ps := ["self", "at"]) fun _ _ _ _ _ _ us hl => match us, hl with | [_, _], _ => rfl
  have L_C : Cls K C := ⟨pgC, hdC, poC, saC⟩
  have P_passedp : PropOf K C "passed" ppassedp fpassedp := ⟨apassedp, gpassedp, tpassedp, ⟨_, rpassedp⟩⟩
  have P_failedp : PropOf K C "failed" pfailedp ffailedp := ⟨afailedp, gfailedp, tfailedp, ⟨_, rfailedp⟩⟩
  have L_CP : Cls K CP := ⟨pgCP, hdCP, poCP, saCP⟩
  have L_CF : Cls K CF := ⟨pgCF, hdCF, poCF, saCF⟩
  have RN : Err K CN := ⟨geN, heN, exeN, hdeN, caeN, thn, tht, cmeN⟩
  have ON : OneE K mg "BadName" "name" CN feN _ := ⟨⟨⟨_, _, _, _, _, _, _, _, _, _, _, _, _, _, _, xN, by rfl⟩, seN, exeN, tyeN, kkeN⟩, aeN, teN, g1 aN, neN, RN, b_eN_⟩
  have RM : Err K CM := ⟨geM, heM, exeM, hdeM, caeM, thn, tht, cmeM⟩
  have OM : OneE K mg "BadMoment" "moment" CM feM _ := ⟨⟨⟨_, _, _, _, _, _, _, _, _, _, _, _, _, _, _, xM, by rfl⟩, seM, exeM, tyeM, kkeM⟩, aeM, teM, g1 aM, neM, RM, b_eM_⟩
  have RS : Err K CS := ⟨geS, heS, exeS, hdeS, caeS, thn, tht, cmeS⟩
  have OS : OneE K mg "BadSaying" "value" CS feS _ := ⟨⟨⟨_, _, _, _, _, _, _, _, _, _, _, _, _, _, _, xS, by rfl⟩, seS, exeS, tyeS, kkeS⟩, aeS, teS, g1 aS, neS, RS, b_eS_⟩
  have RE : Err K CE := ⟨geE, heE, exeE, hdeE, caeE, thn, tht, cmeE⟩
  have OE : OneE K mg "BadEntry" "at" CE feE _ := ⟨⟨⟨_, _, _, _, _, _, _, _, _, _, _, _, _, _, _, xE, by rfl⟩, seE, exeE, tyeE, kkeE⟩, aeE, teE, g1 aE, neE, RE, b_eE_⟩
  have T : Ent K mg C := ⟨L_C, nC_tool, nC_moment, nC_by, g1 aC, thaC, thn, tht, thmC, kit_self⟩
  have W : Words K mg := ⟨⟨_, g1 gG⟩, ⟨_, g1 gL⟩, ⟨_, g1 gA⟩, ⟨_, g1 gD⟩, ⟨aNo, g1 gN, fun H => tab_seq lN vN (by decide) H⟩, g0 b_isinstance, g0 b_int, g0 b_bool, g0 b_str, g0 b_len, g0 b_all⟩
  have TF : Forms K w mg aF := ⟨g1 gF, fun kind hk => by
    unfold kinds at hk
    simp only [List.mem_cons, List.not_mem_nil, or_false] at hk
    rcases hk with h | h | h | h | h | h | h | h | h | h <;> subst h
    · exact ⟨t_begun, ⟨esF, nF, _, lF, klF, gtbegun, rfl⟩, fun H => tab_seq ltbegun vtbegun (by decide +kernel) H⟩
    · exact ⟨t_setby, ⟨esF, nF, _, lF, klF, gtsetby, rfl⟩, fun H => tab_seq ltsetby vtsetby (by decide +kernel) H⟩
    · exact ⟨t_found, ⟨esF, nF, _, lF, klF, gtfound, rfl⟩, fun H => tab_seq ltfound vtfound (by decide +kernel) H⟩
    · exact ⟨t_trusted, ⟨esF, nF, _, lF, klF, gttrusted, rfl⟩, fun H => tab_seq lttrusted vttrusted (by decide +kernel) H⟩
    · exact ⟨t_passed, ⟨esF, nF, _, lF, klF, gtpassed, rfl⟩, fun H => tab_seq ltpassed vtpassed (by decide +kernel) H⟩
    · exact ⟨t_failed, ⟨esF, nF, _, lF, klF, gtfailed, rfl⟩, fun H => tab_seq ltfailed vtfailed (by decide +kernel) H⟩
    · exact ⟨t_agreed, ⟨esF, nF, _, lF, klF, gtagreed, rfl⟩, fun H => tab_seq ltagreed vtagreed (by decide +kernel) H⟩
    · exact ⟨t_differed, ⟨esF, nF, _, lF, klF, gtdiffered, rfl⟩, fun H => tab_seq ltdiffered vtdiffered (by decide +kernel) H⟩
    · exact ⟨t_served, ⟨esF, nF, _, lF, klF, gtserved, rfl⟩, fun H => tab_seq ltserved vtserved (by decide +kernel) H⟩
    · exact ⟨t_backed, ⟨esF, nF, _, lF, klF, gtbacked, rfl⟩, fun H => tab_seq ltbacked vtbacked (by decide +kernel) H⟩, g0 b_zip⟩
  have RR : Errs K mg CN CM CS := ⟨⟨_, _, ON, F_eN⟩, ⟨_, _, OM, F_eM⟩, ⟨_, _, OS, F_eS⟩⟩
  have HR : Hrd K mg CT CN CM CE := {
    gT := g1 aT, gN := g1 aN, gM := g1 aM, gS := g1 aE, gV := g0 b_ValueError, isi := g0 b_isinstance, len := g0 b_len
    te := fun C hC => by
      simp only [List.mem_cons, List.not_mem_nil, or_false] at hC
      rcases hC with rfl | rfl | rfl
      · exact ⟨exm_own iT tT eT uteN sT, kit_VE veeN, kit_no iceN tyeN (by decide +kernel), RN⟩
      · exact ⟨exm_own iT tT eT uteM sT, kit_VE veeM, kit_no iceM tyeM (by decide +kernel), RM⟩
      · exact ⟨exm_own iT tT eT uteE sT, kit_VE veeE, kit_no iceE tyeE (by decide +kernel), RE⟩
    nn := kit_self, mm := kit_self, ss := kit_self
    nm := kit_own iceM tyeM uNM uMM, ns := kit_own iceE tyeE uNE uEE, mn := kit_own iceN tyeN uMN uNN, ms := kit_own iceE tyeE uME uEE, sn := kit_own iceN tyeN uEN uNN, sm := kit_own iceM tyeM uEM uMM
    fN := neN, fM := neM, fS := neE }
  have RP : RowK K mg CP CR "Passed" := ⟨L_CP, ⟨L_CP, by simp only [List.forall_mem_cons]; exact ⟨nCP__told, nCP_kind, nCP_tool, nCP_moment, nCP_by, fun _ h => nomatch h⟩⟩, g1 aCP, g1 gR, kit_own icR tyR sRCP sbR, thaCP, thn, tht, thmCP⟩
  have RF : RowK K mg CF CR "Failed" := ⟨L_CF, ⟨L_CF, by simp only [List.forall_mem_cons]; exact ⟨nCF__told, nCF_kind, nCF_tool, nCF_moment, nCF_by, fun _ h => nomatch h⟩⟩, g1 aCF, g1 gR, kit_own icR tyR sRCF sbR, thaCF, thn, tht, thmCF⟩
  have Mk0 : Mk K C finit := ⟨mkC, ainit, iinit, kcC⟩
  have MkP : Mk K CP fpassed := ⟨mkCP, apassed, ipassed, kcCP⟩
  have MkF : Mk K CF ffailed := ⟨mkCF, afailed, ifailed, kcCF⟩
  have NL : EnvL K mg C CP := ⟨g0 b_range, g0 b_repr, g0 b_list, g0 b_tuple, fun T hT => by
    simp only [List.mem_cons, List.not_mem_nil, or_false] at hT
    rcases hT with h | h | h | h | h <;> subst h <;> exact ⟨kit_no hclsC htypC (by decide +kernel), notFirst_ty (by decide +kernel)⟩, kit_own hclsC htypC sPC sCC, nfP⟩
  refine ⟨PySem.W.fnOf "law" "law" (defArgs sLaw) (defBody sLaw) (defScope sLaw) .none kVlaw dclaw pmlaw anlaw cdlaw ctlaw, c_right, P_right, c_ref, P_ref, tab_by aright lright rfl lcright vcright, nTright, tab_by aref lref rfl lcref vcref, nTref, fun s v => .of_eq rfl, fun base _ _ TB => ?_⟩
  have GD := ok_draw (P := l.prog) (w := w) (base := base) F_draw (g0 b_len) (g0 b_int) (g0 b_abs)
  have GPk := ok_pick (P := l.prog) (w := w) (base := base) F_pick (g0 b_len) F_draw b_draw_ (g1 adraw) GD
  have GPen := ok_pen (P := l.prog) (w := w) (base := base) F_pen (g0 b_list)
  have GPa := ok_parts (P := l.prog) (w := w) (base := base) F_parts F_draw b_draw_ (g1 adraw) GD F_pick b_pick_ (g1 apick) GPk
  have GM := ok_moment (P := l.prog) (w := w) (base := base) F_moment W F_whole b_whole_ (g1 awhole)
  have GN := ok_name (P := l.prog) (w := w) (base := base) F_name W
  have GC := ok_check (P := l.prog) (w := w) (base := base) F_check W RR F_moment b_moment_ (g1 amoment) GM F_name b_name_ (g1 aname) GN
  have GK := ok_checked (P := l.prog) (w := w) (base := base) F_checked TF F_check b_check_ (g1 acheck) GC
  have GI := ok_init (P := l.prog) (w := w) (base := base) F_init T F_check b_check_ (g1 acheck) GC
  have GE := ok_eq (P := l.prog) (w := w) (base := base) F_eq W T
  have GS := ok_str (P := l.prog) (w := w) (base := base) F_str T
  have GA := ok_ahead (P := l.prog) (w := w) (base := base) F_ahead T
  have GP0 := ok_Passed (P := l.prog) (w := w) (base := base) F_passed RP.no F_checked b_checked_ (g1 achecked) GK
  have GF0 := ok_Failed (P := l.prog) (w := w) (base := base) F_failed RF.no F_checked b_checked_ (g1 achecked) GK
  have GEP := ok_rowEq (P := l.prog) (w := w) (base := base) (kind := "passed") F_req W RP
  have GEF := ok_rowEq (P := l.prog) (w := w) (base := base) (kind := "failed") F_req W RF
  have GPp := ok_passedP (P := l.prog) (w := w) (base := base) F_passedp T RP MkP b_passed_ GP0
  have GFp := ok_failedP (P := l.prog) (w := w) (base := base) F_failedp T RF MkF b_failed_ GF0
  have GEe := ok_eE (P := l.prog) (w := w) (base := base) F_eE OE
  have GRo := ok_rowOf (P := l.prog) (w := w) (base := base) F_rowof T OE GEe P_passedp b_passedp_ GPp P_failedp b_failedp_ GFp
  have MM : Mths K l.prog w mg base C CP CF CR CN CM CS CE := ⟨W, T, RP, RF, ⟨_, _, MkP, b_passed_, GP0⟩, ⟨_, _, MkF, b_failed_, GF0⟩, ⟨_, _, aeqCP, ireq, b_req_, GEP, nneCP⟩, ⟨_, _, aeqCF, ireq, b_req_, GEF, nneCF⟩,
    ⟨_, _, _, P_passedp, b_passedp_, GPp⟩, ⟨_, _, _, P_failedp, b_failedp_, GFp⟩, ⟨_, _, ⟨arowof, irowof, krowof⟩, b_rowof_, kb_word fun s u w => .of_eq rfl, GRo⟩⟩
  have GRi := ok_right (P := l.prog) (w := w) (base := base) (T := T2 P_right P_ref) F_right rfl (TB _ List.mem_cons_self) (fun _ _ _ => List.mem_cons_self) (t2_right nePP) MM HR (g0 b_repr) F_pick b_pick_ (g1 apick) GPk F_heard b_heard_ (g1 aheard)
  have GRe := ok_ref (P := l.prog) (w := w) (base := base) (T := T2 P_right P_ref) (CS := CS) F_ref rfl (TB _ (List.mem_cons_of_mem _ List.mem_cons_self)) (fun _ _ _ => List.mem_cons_of_mem _ List.mem_cons_self) (t2_ref nePP) T Mk0 b_init_ (kb_btm fun s u b t m => .of_eq rfl) GI HR (g0 b_repr) (g0 b_range) (g0 b_list)
    F_draw b_draw_ (g1 adraw) GD F_pick b_pick_ (g1 apick) GPk F_heard b_heard_ (g1 aheard)
  exact ok_law F_law NL MM F_pen b_pen_ (g1 apen) GPen F_parts b_parts_ (g1 aparts) GPa F_draw b_draw_ (g1 adraw) GD Mk0 b_init_ GI aeq ieq b_eq_ GE nne astr istr b_str_ GS ⟨aahead, iahead, kahead⟩ b_ahead_ (kb_other fun s u w => .of_eq rfl) GA
    F_right b_right_ (g1 aright) GRi F_ref b_ref_ (g1 aref) GRe
theorem walk {l : PySem.W.OpenLaw} {q : Program} {loose : List Str} {XP : (Str → Option Value) → Heap → Prop} {YP : World → Heap → Prop} {d : DefRec} {K : Params → PySem.W.Frag} (hn : l.most = some 63) (hdf : d.params.defaults = []) (hnm : d.name = "law")
    (hrec1 : ((recsOf q).find? (fun e => e.name == ("_law_rows_right" : Str))).isSome = true) (hrec2 : ((recsOf q).find? (fun e => e.name == ("_law_refused_right" : Str))).isSome = true) (hY : ∀ (w : World) (h : Heap), YP w h → (K w.params).In h)
    (F : ∀ (w : World) (mg : Str → Option Value) (fa : Addr) (h : Heap), (K w.params).In h → h.Ns mainGlobals mg → mg "law" = some (.ref fa) →
      ∃ (fd : FuncData) (c1 P1 c2 P2 : Addr), PySem.W.tabIn (K w.params) "_law_rows_right" = some (c1, P1) ∧ (K w.params).lookup P1 = none ∧ PySem.W.tabIn (K w.params) "_law_refused_right" = some (c2, P2) ∧ (K w.params).lookup P2 = none ∧ (∀ (s : Shared) (u : Value), BindsTo s fd ⟨[u], []⟩ [("_law_script", u)]) ∧
        ∀ base : Heap, (K w.params).In base → base.Ns mainGlobals mg → (∀ q ∈ [(c1, P1), (c2, P2)], TabB base mg q.1 q.2) → FnG l.prog w (K w.params) mg base CX0 14 fa fd ["_law_script"] (spLaw (K w.params) (T2 P1 P2))) :
    PySem.W.WalkO q loose XP YP l.row.toRowW d [] (fun f vs => PySem.call f vs) := by
  apply Att.attach_callB hn hdf
  intro w s₀ s₁ mg mb fa o pm cd doc a vs ns G Y _ _ _ hmg hobj hints hlen hbits hg
  have KX := hY w _ Y
  rw [hnm] at hmg
  obtain ⟨fd, c1, P1, c2, P2, ht1, nT1, ht2, nT2, hb, hF⟩ := F w mg fa _ KX G.T.g hmg
  obtain ⟨d1, hd1⟩ := Option.isSome_iff_exists.mp hrec1
  obtain ⟨C1, tb1⟩ := PySem.W.tab_of G.T KX hd1 ht1
  obtain ⟨d2, hd2⟩ := Option.isSome_iff_exists.mp hrec2
  obtain ⟨C2, tb2⟩ := PySem.W.tab_of G.T KX hd2 ht2
  refine law_callTGs (cs := [(c1, P1), (c2, P2)]) KX G.T.g G.T.b G.T.builtins G.T.nolimit hg (fun q hq => ?_) G.T.bmain hobj hints (Nat.le_trans hlen (by decide)) ⟨rfl, by decide, by decide⟩ hF hb (fun H hT hS => ⟨a, ns, rfl, hS, fun q hq => ?_, fun _ => rfl⟩) fun _ _ _ z => z
  · simp only [List.mem_cons, List.not_mem_nil, or_false] at hq
    rcases hq with e | e <;> subst e
    · exact ⟨tb1, nT1, C1⟩
    · exact ⟨tb2, nT2, C2⟩
  · unfold T2 at hq
    simp only [List.mem_cons, List.not_mem_nil, or_false] at hq
    rcases hq with e | e <;> subst e
    · exact TabS.nil (hT (c1, P1) (by simp))
    · exact TabS.nil (hT (c2, P2) (by simp))
end K63

open PySem PySem.W PySem.Calls PyProof.Rows
theorem K63.keepH (H : Hook) {p : Prop} (h : p) : p := h
local macro_rules
  | `(tactic| o_headL $H:term) => `(tactic| exact K63.keepH $H (by assumption))
set_option maxHeartbeats 0 in
theorem K63.dummy (h : OpenRow.Holds (OpenLaw.row PySem.Challenge.rw_soundtill_k63_entries_made)) : OpenRow.Holds (OpenLaw.row PySem.Challenge.rw_soundtill_k63_entries_made) := by
  k_headL
abbrev K63.R : OpenRow := OpenLaw.row PySem.Challenge.rw_soundtill_k63_entries_made
def K63.q : Program := view K63.R.prog [0, 2, 3, 4, 5, 6, 7, 9, 10, 11, 12, 13, 14, 15, 16, 17, 18, 19, 20, 21, 22, 23, 24, 25, 27, 28, 29, 30, 31, 32, 33, 34, 35, 36, 37, 38, 39, 40, 41, 42, 43, 44, 46, 47, 49, 50, 52, 53, 54, 55, 56, 57, 58, 59]
def K63.loose : List PySem.Str := [PySem.Str.ofString "FORMS", PySem.Str.ofString "Row", PySem.Str.ofString "SetBy", PySem.Str.ofString "Entry"]
def K63.as : List Addr := [2, 3, 15, 17, 18, 20, 21, 22, 29, 30, 31, 32, 35, 42, 44, 45, 47, 48, 49, 50, 51, 54, 61, 63, 64, 66, 67, 68, 69, 70, 73, 80, 82, 83, 85, 86, 87, 88, 89, 92, 99, 101, 102, 104, 105, 106, 107, 108, 111, 118, 120, 121, 123, 124, 125, 126, 127, 130, 131, 133, 134, 136, 137, 138, 140, 141, 143, 144, 145, 148, 149, 150, 152, 153, 155, 156, 157, 160, 161, 162, 164, 165, 167, 168, 169, 171, 172, 174, 175, 176, 178, 179, 181, 182, 183, 186, 187, 188, 190, 191, 193, 194, 195, 197, 198, 200, 201, 202, 203, 204, 205, 206, 207, 208, 209, 210, 211, 212, 213, 215, 216, 218, 219, 227, 228, 230, 231, 233, 234, 235, 236, 237, 238, 240, 241, 243, 244, 245, 246, 248, 249, 251, 252, 253, 254, 256, 257, 259, 260, 261, 262, 265, 266, 267, 269, 270, 272, 273, 274, 277, 278, 279, 281, 282, 284, 285, 286, 288, 289, 291, 292, 293, 296, 297, 298, 299, 300, 301, 302, 305, 312, 313, 314, 317, 324, 325, 326, 329, 336, 338, 339, 341, 342, 343, 344, 345, 348, 355, 357, 358, 360, 361, 362, 364, 365, 367, 368, 369, 370, 371, 374, 381, 383, 384, 386, 387, 388, 390, 391, 393, 394, 395, 396, 397, 400, 407, 409, 410, 412, 413, 414, 416, 417, 419, 420, 421, 422, 423, 426, 433, 435, 436, 438, 439, 440, 442, 443, 445, 446, 447, 448, 449, 452, 459, 461, 462, 464, 465, 466, 468, 469, 471, 472, 473, 474, 475, 478, 485, 487, 488, 490, 491, 492, 494, 495, 497, 498, 499, 500, 501, 504, 507, 512, 513, 515, 516, 518, 519, 520, 522, 523, 525, 526, 527, 528, 529, 532, 535, 540, 541, 543, 544, 546, 547, 548, 550, 551, 553, 554, 555, 556, 557, 560, 563, 568, 569, 571, 572, 574, 575, 576, 578, 579, 581, 582, 583, 584, 585, 588, 591, 596, 597, 599, 600, 602, 603, 604, 606, 607, 609, 610, 611, 612, 613, 616, 618, 619, 621, 622, 623, 625, 626, 628, 629, 630, 633, 634, 635, 637, 638, 640, 641, 642, 650, 652, 653, 655, 656, 657, 659, 660, 662, 663, 664, 665, 666, 667, 669, 670, 672, 673, 674, 675, 677, 678, 680, 681, 682, 683, 685, 686, 688, 689, 690, 692, 693, 695, 696, 697, 699, 700, 702, 703, 704, 706, 707, 709, 710, 711, 712, 713, 714, 715, 718, 720, 721, 723, 724, 725, 727, 728, 730, 731, 732, 734, 735, 737, 738, 739, 741, 742, 744, 745, 746, 748, 749, 751, 752, 753, 755, 756, 758, 759, 760, 762, 763, 765, 766, 767, 770, 771]
theorem K63.as_eq (P : Params) : K63.as = (K63.dummy.heap_1 P).map (·.1) := by kernel_rfl
def K63.Run (w : World) : Prop := ∀ os : OsState, (HeadRun.endF (HeadRun.stepQ (HeadRun.denQ HeadRun.tabQ) K63.R.prog w) 15300 K63.R.prog w os).map (fun s => (HeadRun.looksF K63.R.prog (boot_heap w.params) s.abs, HeadRun.seenQ K63.q K63.loose (importedModules K63.R.prog.main.body) (fun s => xlAt K63.q [] s && recOk (RowW.records K63.R.toRowW) s) s.abs, K63.as.map (HeadRun.getT s))) = some (true, openGood K63.q K63.loose, (K63.dummy.heap_1 w.params).map fun x => some x.2)

open PySem PySem.W PySem.Calls PyProof.Rows
theorem K63.runF (w : World) : K63.Run (w.withFollow "special-get-raises" false) := by
  intro os
  kernel_rfl
theorem K63.runT (w : World) : K63.Run (w.withFollow "special-get-raises" true) := by
  intro os
  kernel_rfl
theorem K63.byRowAll (row : String) {P : World → Prop} (hf : ∀ w : World, P (w.withFollow row false)) (ht : ∀ w : World, P (w.withFollow row true)) : ∀ w, P w := fun w => byRow2 row hf ht w

open PySem PySem.W PySem.Calls PyProof.Rows
noncomputable def K63.Hk : Hook := kHook K63.dummy.heap_1 K63.as K63.as_eq
theorem K63.left : LeftO K63.R.prog K63.q K63.loose (fun s => xlAt K63.q [] s && recOk (RowW.records K63.R.toRowW) s) (Hook.obs K63.Hk) (Hook.val K63.Hk) 16000 true :=
  HeadRun.left_oneK (M := 15300) (by kernel_rfl) (by rfl) (fun s => by kernel_rfl) (by rfl) (K63.byRowAll "special-get-raises" K63.runF K63.runT)

set_option maxRecDepth 100000 in
set_option maxHeartbeats 0 in
theorem PySem.Challenge.cw_soundtill_k63_entries_made_holds : PySem.Challenge.rw_soundtill_k63_entries_made.Holds := by
  w_on; o_law
  refine PySem.W.holds_open (r := K63.R) (q := K63.q) (loose := K63.loose) (Xt := fun s => xlAt K63.q [] s && recOk (RowW.records K63.R.toRowW) s) (XP := XL K63.q []) (Yf := Hook.obs (kHook K63.dummy.heap_1 K63.as K63.as_eq)) (Ya := Hook.val (kHook K63.dummy.heap_1 K63.as K63.as_eq)) (YP := Hook.says (kHook K63.dummy.heap_1 K63.as K63.as_eq)) (N := 16000) K63.left (Hook.of (kHook K63.dummy.heap_1 K63.as K63.as_eq)) (Hook.keeps (kHook K63.dummy.heap_1 K63.as K63.as_eq)) (fun s e => xl_of s (Bool.and_eq_true_iff.mp e).1) XL.keeps (by rfl) (by rfl) (by rfl) (fun s e => recFacts_of (Bool.and_eq_true_iff.mp e).2) (by rfl) (by first | assumption | decide +kernel) (by decide +kernel) ⟨rfl, rfl, rfl, rfl, rfl, by decide +kernel⟩ ?hw ?hc
  (case hw => w_witness2)
  k_fill
  refine K63.walk (l := PySem.Challenge.rw_soundtill_k63_entries_made) rfl rfl rfl (by decide +kernel) (by decide +kernel) (fun w h Y => PySem.W.kIn_of Y) ?F
  case F =>
    intro w mg fa h KX G hmg
    refine' K63.all_mk KX G hmg ?apen ?lpen ?cpen ?kpen ?adraw ?ldraw ?cdraw ?kdraw ?apick ?lpick ?cpick ?kpick ?aheard ?lheard ?cheard ?kheard ?aparts ?lparts ?cparts ?kparts ?aref ?lref ?cref ?kref ?aright ?lright ?cright ?kright ?alaw ?llaw ?claw ?klaw ?awhole ?lwhole ?cwhole ?kwhole ?amoment ?lmoment ?cmoment ?kmoment ?aname ?lname ?cname ?kname ?acheck ?lcheck ?ccheck ?kcheck ?achecked ?lchecked ?cchecked ?kchecked ?aC ?pgC ?hdC ?poC ?saC ?mkC ?kcC ?nC_tool ?nC_moment ?nC_by ?thn ?tht ?thaC ?thmC ?hclsC ?htypC ?ainit ?iinit ?linit ?cinit ?kinit ?aeq ?ieq ?leq ?ceq ?keq ?astr ?istr ?lstr ?cstr ?kstr ?arowof ?irowof ?lrowof ?crowof ?krowof ?aahead ?iahead ?lahead ?cahead ?kahead ?nne ?apassedp ?gpassedp ?tpassedp ?rpassedp ?lpassedp ?cpassedp ?kpassedp ?afailedp ?gfailedp ?tfailedp ?rfailedp ?lfailedp ?cfailedp ?kfailedp ?gR ?icR ?tyR ?sbR ?aCP ?pgCP ?hdCP ?poCP ?saCP ?mkCP ?kcCP ?nCP__told ?nCP_kind ?nCP_tool ?nCP_moment ?nCP_by ?thaCP ?thmCP ?hclsCP ?htypCP ?apassed ?ipassed ?lpassed ?cpassed ?kpassed ?aeqCP ?ireq ?lreq ?creq ?kreq ?nneCP ?sRCP ?aCF ?pgCF ?hdCF ?poCF ?saCF ?mkCF ?kcCF ?nCF__told ?nCF_kind ?nCF_tool ?nCF_moment ?nCF_by ?thaCF ?thmCF ?hclsCF ?htypCF ?afailed ?ifailed ?lfailed ?cfailed ?kfailed ?aeqCF ?nneCF ?sRCF ?sPC ?sCC ?nfP ?gG ?gL ?gA ?gD ?gN ?lN ?vN ?gF ?lF ?klF ?gtbegun ?ltbegun ?vtbegun ?gtsetby ?ltsetby ?vtsetby ?gtfound ?ltfound ?vtfound ?gttrusted ?lttrusted ?vttrusted ?gtpassed ?ltpassed ?vtpassed ?gtfailed ?ltfailed ?vtfailed ?gtagreed ?ltagreed ?vtagreed ?gtdiffered ?ltdiffered ?vtdiffered ?gtserved ?ltserved ?vtserved ?gtbacked ?ltbacked ?vtbacked ?b_isinstance ?b_int ?b_bool ?b_str ?b_len ?b_all ?b_range ?b_repr ?b_list ?b_tuple ?b_abs ?b_zip ?b_ValueError ?aT ?iT ?tT ?eT ?sT ?aN ?xN ?seN ?geN ?heN ?neN ?aeN ?teN ?leN ?ceN ?keN ?kkeN ?exeN ?tyeN ?hdeN ?iceN ?veeN ?uteN ?caeN ?cmeN ?aM ?xM ?seM ?geM ?heM ?neM ?aeM ?teM ?leM ?ceM ?keM ?kkeM ?exeM ?tyeM ?hdeM ?iceM ?veeM ?uteM ?caeM ?cmeM ?aS ?xS ?seS ?geS ?heS ?neS ?aeS ?teS ?leS ?ceS ?keS ?kkeS ?exeS ?tyeS ?hdeS ?iceS ?veeS ?uteS ?caeS ?cmeS ?aE ?xE ?seE ?geE ?heE ?neE ?aeE ?teE ?leE ?ceE ?keE ?kkeE ?exeE ?tyeE ?hdeE ?iceE ?veeE ?uteE ?caeE ?cmeE ?uNN ?uNM ?uNE ?uMN ?uMM ?uME ?uEN ?uEM ?uEE ?lcright ?vcright ?nTright ?lcref ?vcref ?nTref ?nePP
    (case apen => k_is)
    (case lpen => k_is)
    (case cpen => k_is)
    (case kpen => k_is)
    (case adraw => k_is)
    (case ldraw => k_is)
    (case cdraw => k_is)
    (case kdraw => k_is)
    (case apick => k_is)
    (case lpick => k_is)
    (case cpick => k_is)
    (case kpick => k_is)
    (case aheard => k_is)
    (case lheard => k_is)
    (case cheard => k_is)
    (case kheard => k_is)
    (case aparts => k_is)
    (case lparts => k_is)
    (case cparts => k_is)
    (case kparts => k_is)
    (case aref => k_is)
    (case lref => k_is)
    (case cref => k_is)
    (case kref => k_is)
    (case aright => k_is)
    (case lright => k_is)
    (case cright => k_is)
    (case kright => k_is)
    (case alaw => k_is)
    (case llaw => k_is)
    (case claw => k_is)
    (case klaw => k_is)
    (case awhole => k_is)
    (case lwhole => k_is)
    (case cwhole => k_is)
    (case kwhole => k_is)
    (case amoment => k_is)
    (case lmoment => k_is)
    (case cmoment => k_is)
    (case kmoment => k_is)
    (case aname => k_is)
    (case lname => k_is)
    (case cname => k_is)
    (case kname => k_is)
    (case acheck => k_is)
    (case lcheck => k_is)
    (case ccheck => k_is)
    (case kcheck => k_is)
    (case achecked => k_is)
    (case lchecked => k_is)
    (case cchecked => k_is)
    (case kchecked => k_is)
    (case aC => k_is)
    (case pgC => k_is)
    (case hdC => k_is)
    (case poC => k_is)
    (case saC => k_is)
    (case mkC => k_is)
    (case kcC => k_is)
    (case nC_tool => k_is)
    (case nC_moment => k_is)
    (case nC_by => k_is)
    (case thn => k_is)
    (case tht => k_is)
    (case thaC => k_is)
    (case thmC => k_is)
    (case hclsC => k_is)
    (case htypC => k_is)
    (case ainit => k_is)
    (case iinit => k_is)
    (case linit => k_is)
    (case cinit => k_is)
    (case kinit => k_is)
    (case aeq => k_is)
    (case ieq => k_is)
    (case leq => k_is)
    (case ceq => k_is)
    (case keq => k_is)
    (case astr => k_is)
    (case istr => k_is)
    (case lstr => k_is)
    (case cstr => k_is)
    (case kstr => k_is)
    (case arowof => k_is)
    (case irowof => k_is)
    (case lrowof => k_is)
    (case crowof => k_is)
    (case krowof => k_is)
    (case aahead => k_is)
    (case iahead => k_is)
    (case lahead => k_is)
    (case cahead => k_is)
    (case kahead => k_is)
    (case nne => k_is)
    (case apassedp => k_is)
    (case gpassedp => k_is)
    (case tpassedp => k_is)
    (case rpassedp => k_is)
    (case lpassedp => k_is)
    (case cpassedp => k_is)
    (case kpassedp => k_is)
    (case afailedp => k_is)
    (case gfailedp => k_is)
    (case tfailedp => k_is)
    (case rfailedp => k_is)
    (case lfailedp => k_is)
    (case cfailedp => k_is)
    (case kfailedp => k_is)
    (case gR => k_is)
    (case icR => k_is)
    (case tyR => k_is)
    (case sbR => k_is)
    (case aCP => k_is)
    (case pgCP => k_is)
    (case hdCP => k_is)
    (case poCP => k_is)
    (case saCP => k_is)
    (case mkCP => k_is)
    (case kcCP => k_is)
    (case nCP__told => k_is)
    (case nCP_kind => k_is)
    (case nCP_tool => k_is)
    (case nCP_moment => k_is)
    (case nCP_by => k_is)
    (case thaCP => k_is)
    (case thmCP => k_is)
    (case hclsCP => k_is)
    (case htypCP => k_is)
    (case apassed => k_is)
    (case ipassed => k_is)
    (case lpassed => k_is)
    (case cpassed => k_is)
    (case kpassed => k_is)
    (case aeqCP => k_is)
    (case ireq => k_is)
    (case lreq => k_is)
    (case creq => k_is)
    (case kreq => k_is)
    (case nneCP => k_is)
    (case sRCP => k_is)
    (case aCF => k_is)
    (case pgCF => k_is)
    (case hdCF => k_is)
    (case poCF => k_is)
    (case saCF => k_is)
    (case mkCF => k_is)
    (case kcCF => k_is)
    (case nCF__told => k_is)
    (case nCF_kind => k_is)
    (case nCF_tool => k_is)
    (case nCF_moment => k_is)
    (case nCF_by => k_is)
    (case thaCF => k_is)
    (case thmCF => k_is)
    (case hclsCF => k_is)
    (case htypCF => k_is)
    (case afailed => k_is)
    (case ifailed => k_is)
    (case lfailed => k_is)
    (case cfailed => k_is)
    (case kfailed => k_is)
    (case aeqCF => k_is)
    (case nneCF => k_is)
    (case sRCF => k_is)
    (case sPC => k_is)
    (case sCC => k_is)
    (case nfP => k_is)
    (case gG => k_is)
    (case gL => k_is)
    (case gA => k_is)
    (case gD => k_is)
    (case gN => k_is)
    (case lN => k_is)
    (case vN => rfl)
    (case gF => k_is)
    (case lF => k_is)
    (case klF => exact ⟨⟨_, _, rfl, rfl⟩, ⟨_, _, rfl, rfl⟩, ⟨_, _, rfl, rfl⟩, ⟨_, _, rfl, rfl⟩, ⟨_, _, rfl, rfl⟩, ⟨_, _, rfl, rfl⟩, ⟨_, _, rfl, rfl⟩, ⟨_, _, rfl, rfl⟩, ⟨_, _, rfl, rfl⟩, ⟨_, _, rfl, rfl⟩, trivial⟩)
    (case gtbegun => k_is)
    (case ltbegun => k_is)
    (case vtbegun => rfl)
    (case gtsetby => k_is)
    (case ltsetby => k_is)
    (case vtsetby => rfl)
    (case gtfound => k_is)
    (case ltfound => k_is)
    (case vtfound => rfl)
    (case gttrusted => k_is)
    (case lttrusted => k_is)
    (case vttrusted => rfl)
    (case gtpassed => k_is)
    (case ltpassed => k_is)
    (case vtpassed => rfl)
    (case gtfailed => k_is)
    (case ltfailed => k_is)
    (case vtfailed => rfl)
    (case gtagreed => k_is)
    (case ltagreed => k_is)
    (case vtagreed => rfl)
    (case gtdiffered => k_is)
    (case ltdiffered => k_is)
    (case vtdiffered => rfl)
    (case gtserved => k_is)
    (case ltserved => k_is)
    (case vtserved => rfl)
    (case gtbacked => k_is)
    (case ltbacked => k_is)
    (case vtbacked => rfl)
    (case b_isinstance => k_is)
    (case b_int => k_is)
    (case b_bool => k_is)
    (case b_str => k_is)
    (case b_len => k_is)
    (case b_all => k_is)
    (case b_range => k_is)
    (case b_repr => k_is)
    (case b_list => k_is)
    (case b_tuple => k_is)
    (case b_abs => k_is)
    (case b_zip => k_is)
    (case b_ValueError => k_is)
    (case aT => k_is)
    (case iT => k_is)
    (case tT => k_is)
    (case eT => k_is)
    (case sT => k_is)
    (case aN => k_is)
    (case xN => k_is)
    (case seN => k_is)
    (case geN => k_is)
    (case heN => k_is)
    (case neN => k_is)
    (case aeN => k_is)
    (case teN => k_is)
    (case leN => k_is)
    (case ceN => k_is)
    (case keN => k_is)
    (case kkeN => k_is)
    (case exeN => k_is)
    (case tyeN => k_is)
    (case hdeN => k_is)
    (case iceN => k_is)
    (case veeN => k_is)
    (case uteN => k_is)
    (case caeN => k_is)
    (case cmeN => k_is)
    (case aM => k_is)
    (case xM => k_is)
    (case seM => k_is)
    (case geM => k_is)
    (case heM => k_is)
    (case neM => k_is)
    (case aeM => k_is)
    (case teM => k_is)
    (case leM => k_is)
    (case ceM => k_is)
    (case keM => k_is)
    (case kkeM => k_is)
    (case exeM => k_is)
    (case tyeM => k_is)
    (case hdeM => k_is)
    (case iceM => k_is)
    (case veeM => k_is)
    (case uteM => k_is)
    (case caeM => k_is)
    (case cmeM => k_is)
    (case aS => k_is)
    (case xS => k_is)
    (case seS => k_is)
    (case geS => k_is)
    (case heS => k_is)
    (case neS => k_is)
    (case aeS => k_is)
    (case teS => k_is)
    (case leS => k_is)
    (case ceS => k_is)
    (case keS => k_is)
    (case kkeS => k_is)
    (case exeS => k_is)
    (case tyeS => k_is)
    (case hdeS => k_is)
    (case iceS => k_is)
    (case veeS => k_is)
    (case uteS => k_is)
    (case caeS => k_is)
    (case cmeS => k_is)
    (case aE => k_is)
    (case xE => k_is)
    (case seE => k_is)
    (case geE => k_is)
    (case heE => k_is)
    (case neE => k_is)
    (case aeE => k_is)
    (case teE => k_is)
    (case leE => k_is)
    (case ceE => k_is)
    (case keE => k_is)
    (case kkeE => k_is)
    (case exeE => k_is)
    (case tyeE => k_is)
    (case hdeE => k_is)
    (case iceE => k_is)
    (case veeE => k_is)
    (case uteE => k_is)
    (case caeE => k_is)
    (case cmeE => k_is)
    (case uNN => k_is)
    (case uNM => k_is)
    (case uNE => k_is)
    (case uMN => k_is)
    (case uMM => k_is)
    (case uME => k_is)
    (case uEN => k_is)
    (case uEM => k_is)
    (case uEE => k_is)
    (case lcright => k_is)
    (case vcright => rfl)
    (case nTright => first | kernel_rfl | rfl)
    (case lcref => k_is)
    (case vcref => rfl)
    (case nTref => first | kernel_rfl | rfl)
    (case nePP => decide)
