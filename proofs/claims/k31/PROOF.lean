import PyProof.Rows.All
import Wide.All
import OpenK.AllK
import Wide.FinOn
import HandS.ForMost
import HandS.OwnEq
import HandS.IsInst
import HandS.Wide
import HandS.EndBits
import HandS.Property
import KE.LtData
import HandS.NamedTupSort
import HandS.Exc
import HandS.ExcInit
import HandS.ExcIs
import HandS.ExcField
import HandS.TryOnly
import HandS.Lambda
import HandS.ClsMeth
import HandS.MakeKwOnly
import KE.KOpsOwn
import HandS.WordsExc
import HandS.WordsDict
import HandS.Codes
import HandS.Walk
import KE.KCallOwn
import HandS.FStr
import PyProof.FString5
import HandS.Iter
import KE.GoesEnum
import KE.GoesMore
import HandS.Star
import HandS.SetFor
import HandS.Strs
import HandS.Style
import HandS.List
import KE.KRevSl
import PyProof.ReprRoads
import HandS.Words
import PyProof.StrLawsRepr
import PyProof.ListNew
import PyProof.Conv_bool
import OpenK.KOps
import HandS.Set
import PyProof.Rows.SortShellAny
import PyProof.Rows.StrMeet
import HandS.RaiseMore
import PyProof.NeKinds
import PyProof.EqAt
import HandS.Flow
import HandS.EndTab
import OpenK.KMeth
import PySem.Challenge.RW_soundtill_k31_steps_and_chains_made
set_option Elab.async false
set_option linter.all false
set_option maxRecDepth 100000
set_option maxHeartbeats 8000000
/-! So: rules of our own over the hand layer. Runs whose guards are known (for repr), repr of data, == and != by an own __eq__ with both answers, < of data, a method's call with keywords. -/
namespace So
open PySem PySem.Spec PyProof.Rows L2

/-! ### repr of data -/
mutual
theorem dp_noDict {K : PySem.W.Frag} {H : Hp} : ∀ (d : PyData) (v : V), Dp K H v d → d.hasDict = false
  | .none, _, _ => rfl
  | .bool _, _, _ => rfl
  | .int _, _, _ => rfl
  | .str _, _, _ => rfl
  | .list ds, _, h => by
    cases h with
    | lst _ ha => simpa [PyData.hasDict] using dp_noDictAll ds _ ha
  | .tuple ds, _, h => by
    cases h with
    | tup _ ha => simpa [PyData.hasDict] using dp_noDictAll ds _ ha
  | .dict _, _, h => by cases h
theorem dp_noDictAll {K : PySem.W.Frag} {H : Hp} : ∀ (ds : List PyData) (vs : List V), DpAll K H vs ds → PyData.hasDictAll ds = false
  | [], _, _ => rfl
  | d :: ds, _, h => by
    cases h with
    | cons h1 h2 => simp [PyData.hasDictAll, dp_noDict d _ h1, dp_noDictAll ds _ h2]
end

/-- repr(x): what it asks -/
def rRepr (K : PySem.W.Frag) : List V → Hp → VK → Prop := fun xs H Q => ∃ v d, xs = [v] ∧ Dp K H v d ∧ d.showable = true ∧ d.depth ≤ 60 ∧ d.shown.length ≤ sizeLine ∧ Q (.str d.shown) H
section
variable {X : Cx}
theorem call_reprD (hg : X.A.guards = some []) (hu : X.A.units + 64 < cLine) : CallR X (.builtin "repr") (rRepr X.K) := by
  intro pins s σ H xs us Q I r h
  obtain ⟨v, d, rfl, hd, hs, hdep, hz, q⟩ := h
  obtain ⟨u, rfl, rv⟩ := vals1 r
  obtain ⟨as, rd⟩ := Dp.reads I d v u hd rv
  have nd : d.hasDict = false := dp_noDict d v hd
  cases v with
  | ref a =>
    cases rv
    refine repr_of_reads' rd hs (fun z => by rw [nd] at z; cases z) hg (by omega) (fun _ _ e => e) (fun h' t tk k => ?_) hz
    exact ⟨.str d.shown, H, I.kept k, ⟨t, rfl⟩, q⟩
  | non =>
    cases hd
    cases rv
    exact PySem.P.repr_of_none ⟨.str _, H, I.tok _, ⟨_, rfl⟩, q⟩
  | bl b =>
    cases hd
    cases rv
    refine PySem.P.repr_of_bool ⟨.str (PyData.shown (.bool b)), H, I.tok _, ⟨s.toks, ?_⟩, q⟩
    cases b <;> rfl
  | int i =>
    cases hd
    obtain ⟨t, rfl⟩ := rv
    exact PySem.P.repr_of_int (by simpa [PyData.showable] using hs) ⟨.str _, H, I.tok _, ⟨_, rfl⟩, q⟩
  | str x =>
    cases hd
    obtain ⟨t, rfl⟩ := rv
    exact PySem.P.repr_of_str ⟨.str _, H, I.tok _, ⟨_, rfl⟩, q⟩ hz
  | byt b => cases hd
  | flt b => cases hd
  | ty n => cases hd

/-! ### < of data -/
def rLtD (K : PySem.W.Frag) : R2 := fun x y H Q => ∃ d e, Dp K H x d ∧ Dp K H y e ∧ PySem.W.alike d e = true ∧ d ≠ .none ∧ d.depth ≤ 60 ∧ Q (.bl (PySem.W.dataLt d e)) H
theorem op_ltD (hu : X.A.units + 64 < cLine) : OpR X (compareOp .Lt) (rLtD X.K) := by
  intro pins s σ H x y v u Q I rx ry h
  obtain ⟨d, e, hd, he, al, nn, dep, q⟩ := h
  obtain ⟨as, r1⟩ := Dp.reads I d x v hd rx
  obtain ⟨bs, r2⟩ := Dp.reads I e y u he ry
  have hm : min d.depth e.depth ≤ d.depth := Nat.min_le_left _ _
  exact PySem.W.rcLt_alike d e X.A s v u as bs r1 r2 al nn (by omega) _ _ _ _ ⟨.bl _, H, I, rfl, q⟩
end
end So

namespace So
open PySem PySem.Spec PyProof.Rows L2

/-! ### == and != by an own __eq__, both answers -/
/-- x is an instance of C, y of a type that is no class below C; the own __eq__ answers b -/
def rOwn (C : Addr) (K : PySem.W.Frag) (sp : Sp) (E : XK) (g : Bool → Bool) : R2 := fun x y H Q => ∃ a dx fs t, x = .ref a ∧ H a = some (.ins C dx fs) ∧ TyX K H y t ∧ PySem.W.notFirst K C t = true ∧
  sp [.ref a, y] H (fun v H' => ∃ b, v = .bl b ∧ Q (.bl (g b)) H') E
section
variable {X : Cx} {CX : CXT} {k : Nat} {C f : Addr} {fd : FuncData} {ps : List Str} {sp : Sp} {E : XK}
/-- what is wanted of a comparison's answer -/
def BlP (X : Cx) (pins : List (Addr × Obj)) (σ : L2.St) (g : Bool → Bool) (Q : VK) (v : Value) (s' : Shared) : Prop := ∃ b H', v = .bool b ∧ Inv X pins σ H' s' ∧ Q (.bl (g b)) H'
theorem run_eq {pins : List (Addr × Obj)} {s : Shared} {σ : L2.St} {H : Hp} {a dx : Addr} {fs : List (Str × V)} {y : V} {u : Value} {Q : VK} {g : Bool → Bool} {A : Around} (F : FnOk X.prog X.w X.K X.mg X.base CX k f fd ps sp) (hb : Binds X.K fd ps [])
    (hx : Passes CX X E) (hr : Room k A) (hf : A.frames = X.A.frames) (I : Inv X pins σ H s) (ry : RelV y u) (h : sp [.ref a, y] H (fun v H' => ∃ b, v = .bl b ∧ Q (.bl (g b)) H') E) :
    wpAny (model X.prog X.w) A (call (.ref f) [.ref a, u]) (fun v s' => BlP X pins σ g Q v s') X.xe s := by
  have e0 : Env0 X.prog X.w X.K X.mg X.base A X.stack s H := by
    have e := I.env0
    exact ⟨hf.trans e.frames, e.mod, e.bs, e.bsz, e.funs, e.frf, e.hok, e.bare⟩
  have hl : ([Value.ref a, u] ++ ([] : List Value)).length = ps.length := (F.len _ _ _ _ h : [V.ref a, y].length = ps.length)
  refine wpAny_call (codeAny_mono (F.run A X.stack s H ⟨[.ref a, u], []⟩ ([.ref a, u] ++ []) [.ref a, y] _ E hr e0 (hb s [.ref a, u] I.kIn hl) (.cons rfl (.cons ry .nil)) h) fun r s' hq => ?_)
  cases r with
  | error e => exact hx pins σ H s e s' I hq
  | ok fl =>
    cases fl with
    | ret w =>
      obtain ⟨z, H', I', rz, b, ez, q⟩ := I.after hq
      subst ez
      cases rz
      exact ⟨b, H', rfl, I', q⟩
    | next => exact False.elim hq
    | brk => exact False.elim hq
    | cont => exact False.elim hq

theorem op_eqOwn (F : FnOk X.prog X.w X.K X.mg X.base CX k f fd ps sp) (hs : PySem.W.findIn X.K (.ref C) "__eq__" = some (some (.ref f))) (hf : PySem.W.isFn X.K (.ref f) = true) (hb : Binds X.K fd ps []) (hx : Passes CX X E) (hr : Room k X.A) :
    OpR X (compareOp .Eq) (rOwn C X.K sp E id) := by
  intro pins s σ H x y v u Q I rx ry h
  obtain ⟨a, dx, fs, t, rfl, ha, ty, nf, q⟩ := h
  cases rx
  obtain ⟨mA, J, _⟩ := ins_get I.hok ha
  obtain ⟨od, J, _⟩ := J.look
  obtain ⟨P, Z, p, _⟩ := kit_of I ry ty
  obtain ⟨m, hF⟩ := I.fr
  show wpAny _ _ (richCompare .Eq (.ref a) u) _ _ s
  refine PySem.W.cmp_K (op := .Eq) (tb := t) hr.units0 hF I.ok.mod.kin J (Z.ty _ _ I.kIn p) nf hs hf ?_
  refine wpAny_mono (run_eq (dx := dx) (fs := fs) F hb hx hr rfl I ry q) (fun w s' z => ?_) fun _ _ z => z
  obtain ⟨b, H', rfl, I', q'⟩ := z
  exact ⟨.bl b, H', I', rfl, q'⟩

/-- != where the class has an own __eq__ and object's __ne__ -/
theorem op_neOwn (F : FnOk X.prog X.w X.K X.mg X.base CX k f fd ps sp) (hs : PySem.W.findIn X.K (.ref C) "__eq__" = some (some (.ref f))) (hf : PySem.W.isFn X.K (.ref f) = true) (hb : Binds X.K fd ps []) (hx : Passes CX X E) (hr : Room (k + 1) X.A)
    (hn : PySem.W.findIn X.K (.ref C) "__ne__" = some (some (.builtin "object.__ne__"))) (hm : PySem.W.mroIn X.K C (.type "object") = some true) : OpR X (compareOp .NotEq) (rOwn C X.K sp E not) := by
  intro pins s σ H x y v u Q I rx ry h
  obtain ⟨a, dx, fs, t, rfl, ha, ty, nf, q⟩ := h
  cases rx
  obtain ⟨mA, J, _⟩ := ins_get I.hok ha
  obtain ⟨od, J, _⟩ := J.look
  obtain ⟨P, Z, p, _⟩ := kit_of I ry ty
  have KI := I.kIn
  have hb' := Z.ty (model X.prog X.w) _ I.kIn p
  have hu : X.A.units < cLine := hr.units0
  show wpAny _ _ (richCompare .NotEq (.ref a) u) _ _ s
  have one : wpAny (model X.prog X.w) X.A (tryCompare (.ref a) "__ne__" u) (fun r s' => ∃ v, r = some v ∧ EP X pins σ Q v s') X.xe s := by
    unfold tryCompare
    refine wpAny_bind (NtL.csib (J.type.andThen (PySem.W.looks_findIn KI hn)) (PySem.F.cmp_object.ne.bind _) (wpAny_call (codeAny_call_builtin PySem.F.cmp_object.ne.plain PySem.F.cmpEntry_ne (PySem.W.check_slot PySem.F.cmpKind_ne PySem.F.cmpSplit_ne (J.type.andThen (PySem.W.looks_mroIn KI hm)) (PySem.F.cmpArgs_ne _ _) ?_))))
    unfold Builtin.«object.__ne__»
    refine wpAny_bind (wpAny_of_eq (a := ((Value.ref a : Value), [u])) (by first | rfl | (simp only [slotArgs]; rfl)) ?_)
    refine wpAny_bind (wpAny_cRoomFor (by show X.A.units + 1 < cLine; have := hr.units; omega) ?_)
    refine wpAny_bind (PySem.W.ifBound_K KI J hs hf (wpAny_mono (run_eq (dx := dx) (fs := fs) F hb hx hr.in1 rfl I ry q) (fun w s' z => ?_) fun _ _ z => z))
    obtain ⟨b, H', rfl, I', q'⟩ := z
    refine wpAny_bind (wpAny_truthy_bool ?_)
    refine wpAny_pure ?_
    exact wpAny_pure ⟨_, rfl, .bl (!b), H', I', rfl, q'⟩
  unfold richCompare
  simp only [oneThing_ref]
  refine wpAny_holding (wpAny_bind (wpAny_cRoomFor hu ?_))
  refine wpAny_bind (J.type.here (wpAny_bind (hb'.here ?_)))
  have fin : wpAny (model X.prog X.w) X.A (tryCompare (.ref a) "__ne__" u) (fun r s' => ∃ v, r = some v ∧ EP X pins σ Q v s') X.xe s := one
  split
  · rename_i z
    have e : PySem.W.subIn X.K t (.ref C) = some false := by
      rcases Bool.or_eq_true_iff.mp nf with e | e
      · rw [beq_iff_eq.mp e] at z; simp at z
      · exact beq_iff_eq.mp e
    refine wpAny_bind ((PySem.W.looks_subIn KI e).here ?_)
    simp only [Bool.false_eq_true, if_false]
    exact wpAny_bind (wpAny_mono fin (fun r s' z => by obtain ⟨v, rfl, hq⟩ := z; exact wpAny_pure hq) fun _ _ e => e)
  · refine wpAny_bind (wpAny_pure ?_)
    simp only [Bool.false_eq_true, if_false]
    exact wpAny_bind (wpAny_mono fin (fun r s' z => by obtain ⟨v, rfl, hq⟩ := z; exact wpAny_pure hq) fun _ _ e => e)
end
end So

namespace So
open PySem PySem.Spec PyProof.Rows L2

/-! ### runs in which no repr is under way -/
/-- as FnOk, where no repr is under way at the call -/
structure FnG (P : Program) (w : World) (K : PySem.W.Frag) (mg : Str → Option Value) (base : Heap) (CX : CXT) (k : Nat) (f : Addr) (fd : FuncData) (ps : List Str) (sp : Sp) : Prop where
  lenG : ∀ (vs : List V) (H : Hp) (Q : VK) (E : XK), sp vs H Q E → vs.length = ps.length
  runG : ∀ (A : Around) (outer : List Env) (s : Shared) (H : Hp) (args : Args) (us : List Value) (vs : List V) (Q : VK) (E : XK), A.guards = some [] → Room k A → Env0 P w K mg base A outer s H →
    BindsTo s fd args (ps.zip us) → Vals vs us → sp vs H Q E → codeAny (model P w) A (.call (.ref f) args) (CR CX outer P w H s Q E) s
section
variable {P : Program} {w : World} {K : PySem.W.Frag} {mg : Str → Option Value} {base : Heap} {CX : CXT} {sp : Sp} {fd : FuncData} {ps N : List Str} {k : Nat} {f : Addr}
theorem FnG.ofOk (F : FnOk P w K mg base CX k f fd ps sp) : FnG P w K mg base CX k f fd ps sp :=
  ⟨F.len, fun A outer s H args us vs Q E _ => F.run A outer s H args us vs Q E⟩
/-- a def by its body, as the layer's rule, the guards told -/
theorem fnG_of {x qual : Str} {st : Stmt} (F : Fun K x qual st f fd) (S : FnScope N ps (defScope st)) (len : ∀ vs H Q E, sp vs H Q E → vs.length = ps.length)
    (hbody : ∀ (cdv : Value) (A : Around) (outer : List Env) (s : Shared) (H : Hp) (vs : List V) (Q : VK) (E : XK), A.guards = some [] → Room k (A.deeper (envOfC qual (defScope st) s.heap.objs.size f cdv)) → sp vs H Q E →
      ∃ t, PSs (cxOf CX P w K mg base N qual (defScope st) f cdv A outer s H E).nox (defBody st) t ∧ t { nx := fun _ H' => Q .non H', rt := Q } (start N vs) H) : FnG P w K mg base CX (k + 1) f fd ps sp := by
  obtain ⟨oc, od, kV, doc, pm, an, cdv, ct, osl, rfl, lk, hcd⟩ := F.ex
  constructor
  · exact len
  intro A outer s H args us vs Q E hg hr e0 hb r hsp
  have old : ∀ b o, base.get? b = some o → s.heap.get? b = some o := fun b o e => (e0.bs b o e).1
  have KX := e0.mod.kin.keeps old
  have lim := e0.mod.nolimit.keeps old
  refine codeAny_call_function hr.depth (KX _ _ lk) rfl S.co S.gen rfl (PySem.W.codeRec_of KX hcd) (hb _ _ _ _ ?_)
  refine wpAny_newFunctionEnv_cells S.kind (fun y hy => ?_) fun env he s1 x => ?_
  · rcases S.par y.1 (List.of_mem_zip (show (y.1, y.2) ∈ ps.zip us from hy)).1 with q | q
    · exact Or.inl q
    · exact Or.inr (And.intro q (PySem.W.cellsFrom_some _ _ _ (Or.inl q)))
  subst he
  refine And.intro (lim.keeps x.toInCall.keep) (codeAny_func ?_)
  obtain ⟨t, ht, hq⟩ := hbody cdv A outer s H vs Q E hg (hr.deeper _) hsp
  refine wpAny_mono (ht.nox.run [] s1 (start N vs) H _ (inv_start S hr.hd e0 (len _ _ _ _ hsp) r x) hq) (fun fl s' hs => ?_) fun _ _ hs => hs
  match fl, hs with
  | .ret u, ⟨v, σ', H', J, rv, q⟩ => exact ⟨v, H', J.os, J.bare, J.base, J.hok, rv, q⟩
  | .next, ⟨σ', H', J, q⟩ => exact ⟨V.non, H', J.os, J.bare, J.base, J.hok, rfl, q⟩
  | .brk, ⟨_, _, _, q⟩ => exact q.elim
  | .cont, ⟨_, _, _, q⟩ => exact q.elim
end

/-! ### calls -/
section
variable {X : Cx} {CX : CXT} {k : Nat} {f C : Addr} {fd : FuncData} {ps ks : List Str} {sp : Sp} {E : XK} {x m : Str} {p pos apos : Pos} {e o : Expr} {es : List Expr} {kws : List Keyword} {ta : TE} {t tk : TA} {dvs : List V} {ds : List Value}
theorem run_fnG {pins : List (Addr × Obj)} {σ : L2.St} {H : Hp} {s : Shared} {Q : VK} {us : List Value} {vs : List V} (F : FnG X.prog X.w X.K X.mg X.base CX k f fd ps sp) (hg : X.A.guards = some []) (hr : Room k X.A) (hb : Binds X.K fd ps ds) (hd : Vals dvs ds)
    (hx : Passes CX X E) (I : Inv X pins σ H s) (r : Vals vs us) (h : sp (vs ++ dvs) H Q E) : wpAny (model X.prog X.w) X.A (call (.ref f) us) (EP X pins σ Q) X.xe s := by
  have r2 := r.append hd
  have hl : (us ++ ds).length = ps.length := r2.length.symm.trans (F.lenG _ _ _ _ h)
  refine wpAny_call (codeAny_mono (F.runG X.A X.stack s H ⟨us, []⟩ (us ++ ds) (vs ++ dvs) Q E hg hr I.env0 (hb s us I.kIn hl) r2 h) fun r s' hq => ?_)
  match r, hq with
  | .error e, hq => exact hx pins σ H s e s' I hq
  | .ok (.ret u), hq => exact I.after hq
  | .ok .next, hq => exact hq.elim
  | .ok .brk, hq => exact hq.elim
  | .ok .cont, hq => exact hq.elim
/-- f(e, ..), f by FnG -/
theorem pe_callG (F : FnG X.prog X.w X.K X.mg X.base CX k f fd ps sp) (hg : X.A.guards = some []) (hr : Room k X.A) (hgl : Gl X x) (hm : X.mg x = some (.ref f)) (hk : PySem.W.keepIn X.K (.ref f) = true) (hb : Binds X.K fd ps ds) (hd : Vals dvs ds) (hx : Passes CX X E)
    (ha : PA X (e :: es) t) (hdb : (x == ("__debug__" : Str)) = false := by decide) (he : starEach (e :: es) X.env = (false, eval e X.env) :: starEach es X.env := by rfl) (hpl : (backTo pos (starEach es X.env)).any (·.1) = false := by rfl) :
    PE X (.Call (.Name x p) (e :: es) [] pos) (tCall sp dvs E t) := by
  constructor
  intro pins s σ H Q I h
  refine wpAny_Call_Name_kw (ld_glob I hgl hm (PySem.W.callWith_K (h₀ := X.base) I.ok.mod.kin hk (thn (ha.run pos pins s σ H _ I h) fun us s1 q => ?_) he hpl) hdb)
  obtain ⟨vs, H1, I1, r, q⟩ := q
  exact ⟨I1.kIn, run_fnG F hg hr hb hd hx I1 r q⟩
/-- o.m(k = v, ..): keywords alone -/
theorem pe_methK {g : List Value → List Value → List Value} {gV : List V → List V → List V} {pl : Sem Bool} (he : PE X o ta) (c : Cls X.K C) (hm : Meth X.K C m f) (F : FnOk X.prog X.w X.K X.mg X.base CX k f fd ps sp) (hr : Room k X.A) (hb : KBinds X.K fd ps ks g gV)
    (hx : Passes CX X E) (hkw : PK X kws tk) (hall : (backToKw pos (keywordEach kws X.env)).all (·.1.isSome) = true := by rfl) (hks : (backToKw pos (keywordEach kws X.env)).filterMap (·.1) = ks := by rfl)
    (hpl : ((backTo pos (starEach [] X.env)).any (·.1) || (backToKw pos (keywordEach kws X.env)).any (·.1.isNone)) = false := by rfl)
    (ht : eval (.Call (.Attribute o m apos) [] kws pos) X.env = (do
      let ov ← eval o X.env
      standAt apos.atName
      let fx ← holding [ov] (getMethod ov m pl)
      callWith pos fx.1 fx.2 (backTo pos (starEach [] X.env)) (backToKw pos (keywordEach kws X.env))) := by rfl) :
    PE X (.Call (.Attribute o m apos) [] kws pos) (fun σ H Q => ta σ H fun x H1 => ∃ a dx fs, x = .ref a ∧ H1 a = some (.ins C dx fs) ∧ fs.lookup m = none ∧ tk σ H1 fun zs H2 => sp (gV [x] zs) H2 Q E) := by
  constructor
  intro pins s σ H Q I h
  refine PySem.W.methodCall_KW (pl := pl) (thn (he.run pins s σ H _ I h) fun u s1 z => ?_) ht
  obtain ⟨x, H1, I1, rx, a, dx, fs, ex, ea, l, q⟩ := z
  subst ex
  cases rx
  refine getmeth_ok I1 ea c hm l ?_
  refine PySem.W.callWith_KW0 (first := [.ref a]) (h₀ := X.base) I.ok.mod.kin hm.kp hall (thn (hkw.run pos pins s1 σ H1 _ I1 q) fun ws s2 z => ?_) hpl
  obtain ⟨zs, H2, I2, rz, q2⟩ := z
  refine ⟨I2.kIn, ?_⟩
  rw [hks]
  exact run_fnk (us := [.ref a]) (vs := [.ref a]) F hr hb hx I2 (.cons rfl .nil) rz q2
end

/-! ### the end of a law -/
theorem law_callG {P : Program} {w : World} {K : PySem.W.Frag} {mg mb : Str → Option Value} {CX : CXT} {k : Nat} {fa a : Addr} {fd : FuncData} {x : Str} {sp : Sp} {s₁ : Shared} {vs : List Value} {ns : List Int}
    (KX : K.In s₁.heap) (hns : s₁.heap.Ns mainGlobals mg) (hb : s₁.heap.Ns builtinsNs mb) (hbb : ∀ x : Str, x ≠ "__name__" → mb x = bootBuiltins x) (hlim : s₁.heap.NoLimit) (hg : s₁.gens = #[])
    (ha : s₁.heap.get? a = some { cls := .type "list", data := .seq vs.toArray }) (hi : IntsAre vs ns) (hl : ns.length ≤ sizeLine) (hr : Room k callerA)
    (F : ∀ base : Heap, K.In base → base.Ns mainGlobals mg → FnG P w K mg base CX k fa fd [x] sp) (hbind : ∀ (s : Shared) (u : Value), BindsTo s fd ⟨[u], []⟩ [(x, u)])
    (hsp : ∀ H : Hp, Only H → SqL K H a (ns.map V.int) → sp [.ref a] H (fun v _ => v = .bl true) fun _ _ _ => False)
    (hCX : ∀ H e s', CX [] H s₁ (fun _ _ _ => False) e s' → False) :
    codeAny (model P w) callerA (.call (.ref fa) ⟨[.ref a], []⟩) (fun r s' => r = .ok (.ret (.bool true)) ∧ OldK s₁.heap s'.heap ∧ s'.os = s₁.os ∧ AllBare s'.gens) s₁ := by
  -- the call itself, for a heap in which the script alone may be tracked
  have go : ∀ H : Hp, Only H → SqL K H a (ns.map V.int) → HOk P w H s₁.heap → (∀ b u, H b = some u → b = a ∧ K.lookup a = none) →
      codeAny (model P w) callerA (.call (.ref fa) ⟨[.ref a], []⟩) (fun r s' => r = .ok (.ret (.bool true)) ∧ OldK s₁.heap s'.heap ∧ s'.os = s₁.os ∧ AllBare s'.gens) s₁ := by
    intro H hO hS hok hA
    have free : ∀ b : Addr, (b ≠ a ∨ K.lookup a ≠ none) → H b = none := by
      intro b z
      cases q : H b with
      | none => rfl
      | some u => exact (z.elim (fun z => z (hA b u q).1) fun z => z (hA b u q).2).elim
    have notSeq : ∀ {b : Addr} {m : Str → Option Value}, s₁.heap.Ns b m → b ≠ a := by
      rintro b m ⟨o, es, ep, e, d, _⟩ rfl
      rw [ha] at e
      cases e
      cases d
    have inH : ∀ {b : Addr} {m : Str → Option Value}, s₁.heap.Ns b m → (hidT s₁.heap H).Ns b m := by
      intro b m n
      have nb := free b (Or.inl (notSeq n))
      obtain ⟨o, es, ep, e, r⟩ := n
      exact ⟨o, es, ep, hidT_get e nb, r⟩
    have kin : K.In (hidT s₁.heap H) := by
      intro b o e
      refine hidT_get (KX b o e) ?_
      by_cases hb : b = a
      · exact free b (Or.inr (by rw [← hb, e]; exact fun z => nomatch z))
      · exact free b (Or.inl hb)
    have lim2 : (hidT s₁.heap H).NoLimit := by
      obtain ⟨mc, h1, h2⟩ := hlim
      exact ⟨mc, inH h1, h2⟩
    have e0 : Env0 P w K mg (hidT s₁.heap H) callerA [] s₁ H := by
      refine ⟨rfl, ⟨kin, inH hns, ⟨mb, inH hb, hbb⟩, lim2⟩, fun b o e => of_hidT e, Nat.le_of_eq (hidT_size _ _), True.intro, ?_, hok, .of_eq hg⟩
      intro b hb
      cases hb
    refine codeAny_mono ((F _ kin (inH hns)).runG callerA [] s₁ H ⟨[.ref a], []⟩ [.ref a] [.ref a] _ _ rfl hr e0 (hbind s₁ (.ref a)) (.cons rfl .nil) (hsp H hO hS)) fun r s' h => ?_
    match r, h with
    | .error e, h => exact (hCX H e s' h).elim
    | .ok .next, h => exact h.elim
    | .ok .brk, h => exact h.elim
    | .ok .cont, h => exact h.elim
    | .ok (.ret u), ⟨v, H', os, bare, un, hok', rv, q⟩ =>
      have q2 : v = .bl true := q
      subst q2
      cases rv
      refine ⟨rfl, OldK.of_keep (fun b o e => ?_), os, bare⟩
      rcases hO b with z | ⟨ob, xs, z⟩
      · exact un.keep b o e z (fun z => nomatch z) (fun z => nomatch z)
      · have z1 := (hok b _ z).1
        have z2 := (hok' b _ (un.frzs b ob _ z)).1
        rw [z1] at e
        rw [z2, e]
  have rv := vals_ints hi
  have hlen : (ns.map V.int).length ≤ sizeLine := by rw [List.length_map]; exact hl
  cases hk : K.lookup a with
  | some o =>
    have e := KX a o hk
    rw [ha] at e
    cases e
    exact go (fun _ => none) (fun _ => Or.inl rfl) (Or.inr ⟨_, vs.toArray, _, hk, rfl, rfl, rfl, by rw [List.size_toArray, hi.length]; exact hl, by simpa using rv⟩) (fun b u z => nomatch z) fun b u z => nomatch z
  | none =>
    have at_ : ∀ b u, (if b = a then some (HO.frz { cls := .type "list", data := .seq vs.toArray } (.lst (ns.map V.int))) else none) = some u → b = a ∧ u = .frz { cls := .type "list", data := .seq vs.toArray } (.lst (ns.map V.int)) := by
      intro b u z
      split at z
      · rename_i hb
        exact ⟨hb, (Option.some.inj z).symm⟩
      · cases z
    refine go (fun b => if b = a then some (.frz { cls := .type "list", data := .seq vs.toArray } (.lst (ns.map V.int))) else none) (fun b => ?_) (Or.inl (Or.inr ⟨_, if_pos rfl⟩)) (fun b u z => ?_) fun b u z => ⟨(at_ b u z).1, hk⟩
    · by_cases hb : b = a
      · exact Or.inr ⟨_, _, if_pos hb⟩
      · exact Or.inl (if_neg hb)
    · obtain ⟨rfl, rfl⟩ := at_ b u z
      exact ⟨ha, hlen, vs, _, rv, ha⟩

theorem walk_ofG {l : PySem.W.OpenLaw} {n k : Nat} {q : Program} {loose : List Str} {XP : (Str → Option Value) → Heap → Prop} {YP : World → Heap → Prop} {d : DefRec} {K : Params → PySem.W.Frag} {CX : World → CXT} {sp : World → Sp} {x : Str}
    (hn : l.most = some n) (hn2 : n ≤ sizeLine) (hdf : d.params.defaults = []) (hr : Room k callerA) (hY : ∀ (w : World) (h : Heap), YP w h → (K w.params).In h)
    (F : ∀ (w : World) (mg : Str → Option Value) (fa : Addr) (h : Heap), (K w.params).In h → h.Ns mainGlobals mg → mg d.name = some (.ref fa) →
      ∃ fd : FuncData, (∀ (s : Shared) (u : Value), BindsTo s fd ⟨[u], []⟩ [(x, u)]) ∧ ∀ base : Heap, (K w.params).In base → base.Ns mainGlobals mg → FnG l.prog w (K w.params) mg base (CX w) k fa fd [x] (sp w))
    (hsp : ∀ (w : World) (H : Hp) (a : Addr) (ns : List Int), ns.length ≤ n → (∀ z ∈ ns, Builtin.Int.intBits z ≤ 1048576) → Only H → SqL (K w.params) H a (ns.map V.int) → sp w [.ref a] H (fun v _ => v = .bl true) fun _ _ _ => False)
    (hCX : ∀ (w : World) (H : Hp) (s : Shared) (e : Value) (s' : Shared), CX w [] H s (fun _ _ _ => False) e s' → False) :
    PySem.W.WalkO q loose XP YP l.row.toRowW d [] (fun f vs => PySem.call f vs) := by
  apply Att.attach_callB hn hdf
  intro w s₀ s₁ mg mb fa o pm cd doc a vs ns G Y _ _ _ hmg hobj hints hlen hbits hg
  obtain ⟨fd, hb, hF⟩ := F w mg fa _ (hY w _ Y) G.T.g hmg
  exact law_callG (hY w _ Y) G.T.g G.T.b G.T.builtins G.T.nolimit hg hobj hints (Nat.le_trans hlen hn2) hr hF hb (fun H hO hS => hsp w H a ns hlen hbits hO hS) fun H e s' => hCX w H s₁ e s'
end So

namespace So
open PySem PySem.Spec PyProof.Rows L2
section
variable {K : PySem.W.Frag} {C : Addr}
theorem kit_self : PySem.W.kitOne K (.ref C) (.ref C) = some true := by
  unfold PySem.W.kitOne
  rw [if_pos]
  simp
/-- no built-in type stands below an own class -/
theorem sub_ty {T : String} (h : (fastBuiltinMro T).map (fun l => l.all fun v => match v with | .type _ => true | _ => false) = some true) : PySem.W.subIn K (.type T) (.ref C) = some false := by
  show (fastBuiltinMro T).map (·.contains (.ref C)) = some false
  cases e : fastBuiltinMro T with
  | none => rw [e] at h; cases h
  | some l =>
    rw [e] at h
    have h2 : (l.all fun v => match v with | .type _ => true | _ => false) = true := Option.some.inj h
    show some (l.contains (.ref C)) = some false
    congr 1
    cases c : l.contains (.ref C) with
    | false => rfl
    | true =>
      have m : (Value.ref C) ∈ l := by simpa using c
      have := List.all_eq_true.mp h2 _ m
      cases this
theorem notFirst_ty {T : String} (h : (fastBuiltinMro T).map (fun l => l.all fun v => match v with | .type _ => true | _ => false) = some true) : PySem.W.notFirst K C (.type T) = true := by
  unfold PySem.W.notFirst
  rw [sub_ty h]
  simp
theorem kit_no {T : String} (hc : PySem.W.isClsIn K C = true) (ht : PySem.W.typeIn K (.ref C) = some (.type "type")) (h : (fastBuiltinMro T).map (fun l => l.all fun v => match v with | .type _ => true | _ => false) = some true) : PySem.W.kitOne K (.type T) (.ref C) = some false := by
  unfold PySem.W.kitOne PySem.W.kitCls
  unfold PySem.W.isClsIn at hc
  have hb : ((PySem.W.clsIn K C).isSome && PySem.W.typeIn K (.ref C) == some (.type "type")) = true := by
    rw [hc, ht]
    simp
  have sb := sub_ty (K := K) (C := C) h
  simp [hb, sb]
end
end So

/-! So, on: exceptions that are kept as values. -/
namespace So
open PySem PySem.Spec PyProof.Rows L2
/-- an exception object of the class cls, its dict at d, that stands at a and is nobody's news -/
def Xo (cls : Value) (d : Option Addr) (a : Addr) : HO := .ext fun h => ∃ (oe : Obj) (vs : Array Value), h.get? a = some oe ∧ Zc cls d oe ∧ oe.data = .fields vs
theorem xo_ok {P : Program} {w : World} {H : Hp} {h : Heap} {a : Addr} {cls : Value} {d : Option Addr} {oe : Obj} {vs : Array Value} (e : h.get? a = some oe) (z : Zc cls d oe) (f : oe.data = .fields vs) : ObjOk P w H h a (Xo cls d a) := by
  refine ⟨⟨oe, vs, e, z, f⟩, ⟨oe, e⟩, ?_⟩
  rintro h1 h2 ⟨o, v, q, r⟩ k
  exact ⟨o, v, k o q, r⟩
theorem xo_at {P : Program} {w : World} {H : Hp} {h : Heap} {a : Addr} {cls : Value} {d : Option Addr} (hok : HOk P w H h) (e : H a = some (Xo cls d a)) : ∃ (oe : Obj) (vs : Array Value), h.get? a = some oe ∧ Zc cls d oe ∧ oe.data = .fields vs := by
  have x : ObjOk P w H h a (.ext fun h => ∃ (oe : Obj) (vs : Array Value), h.get? a = some oe ∧ Zc cls d oe ∧ oe.data = .fields vs) := hok a _ e
  exact x.1
section
variable {X : Cx} {pins : List (Addr × Obj)} {σ : L2.St} {H : Hp} {s sI : Shared} {a : Addr} {cls : Value} {d : Option Addr} {oe : Obj} {vs : Array Value}
/-- an exception that has landed is tracked from now on -/
theorem track (J : Inv X pins σ H sI) (hex : X.ex = []) (hI : sI.heap.get? a = none) (I : Inv X pins σ H s) (he : s.heap.get? a = some oe) (hz : Zc cls d oe) (hd : oe.data = .fields vs) (na : H a = none) (nL : a ≠ X.env.locals) :
    Inv X pins σ (upd H a (Xo cls d a)) s := by
  have h0 : ∀ b o, X.s_0.heap.get? b = some o → b ≠ a := by
    rintro b o e rfl
    obtain ⟨o', e'⟩ := J.base.there b o e (by rw [hex]; exact fun z => nomatch z)
    rw [hI] at e'
    cases e'
  have hs : ∀ {b : Addr} {u : HO}, H b = some u → (upd H a (Xo cls d a)) b = some u := fun e => (upd_ne (ne_of_none e na)).trans e
  refine ⟨I.ok, I.os, I.bare, ⟨I.base.keep, I.base.slot, fun b o e n hx => (upd_ne (h0 b o e)).trans (I.base.free b o e n hx), I.base.there, fun b xs q => hs (I.base.tups b xs q), fun b o u q => hs (I.base.frzs b o u q), fun b ps q => ?_⟩,
    I.loc, I.cell, (upd_ne nL.symm).trans I.free, fun x c e => ?_, fun p hp => ?_, fun b u e => ?_, I.len⟩
  · obtain ⟨m, q'⟩ := I.base.tbls b ps q
    exact ⟨m, hs q'⟩
  · refine (upd_ne ?_).trans (I.freeC x c e)
    rintro rfl
    obtain ⟨v, o, ho, hc⟩ := I.cell x c e
    rw [he] at ho
    cases ho
    rw [hd] at hc
    cases hc
  · obtain ⟨p1, p2, p3, p4, p5⟩ := I.pin p hp
    refine ⟨p1, (upd_ne ?_).trans p2, p3, p4, p5⟩
    intro z
    have := (J.pin p hp).1
    rw [z, hI] at this
    cases this
  · by_cases hb : b = a
    · subst hb
      rw [upd_same] at e
      cases e
      exact xo_ok he hz hd
    · rw [upd_ne hb] at e
      exact (I.hok b u e).stay (fun _ _ _ q => q) (fun c q => hs q) fun c xs q => hs q
end

/-! ### try: body, except x as n: suite, the exception kept as a value -/
/-- what such a clause wishes of an exception of the body -/
def wKeep (K : PySem.W.Frag) (c : Value) (i : Nat) (ts : TS) (Wout : WX) (D : Ends) : WX := fun cls d σ H =>
  ∃ b, PySem.W.exmOne K cls c = some b ∧ (b = true → ∀ a, H a = none → ts { nx := fun σ' H' => D.nx (σ'.set i none) H', rt := D.rt, bk := fun σ' H' => D.bk (σ'.set i none) H', ct := fun σ' H' => D.ct (σ'.set i none) H' } (σ.set i (some (.ref a))) (upd H a (Xo cls d a))) ∧
    (b = false → Wout cls d σ H)
section
variable {X : Cx} {x n : Str} {c : Value} {i : Nat} {body suite : List Stmt} {b₀ : Stmt} {np pos pos' : Pos} {tb : WX → TS} {ts : TS} {Wout : WX}
theorem ps_try_keep (hs : X.stack = X.env :: X.outer) (hf : X.env.frame = some X.env.locals) (hex : X.ex = []) (hN : X.N.Nodup) (hi : X.N[i]? = some n) (hln : X.env.kindOf n = some .local) (hc : Names X x c) (tk : Takes X Wout)
    (hb : ∀ (W : WX) (pn : List (Addr × Obj)) (xe : Value → Shared → Prop), Takes (X.tr pn xe) W → PassesOwn (model X.prog X.w) X.A X.env xe → PSs (X.tr pn xe) body (tb W))
    (hsu : ∀ (a : Addr) (pn : List (Addr × Obj)), PSs (X.suite a pn) (b₀ :: suite) ts) :
    PS X (.Try body [.ExceptHandler (some (.Name x np)) (some n) (b₀ :: suite) pos'] [] [] pos) (fun D σ H => tb (wKeep X.K c i ts Wout D) D σ H) := by
  constructor
  intro pins s σ H D I h
  have ok := I.ok
  have hfr : X.A.frames = some (X.env :: X.outer) := ok.frames.trans (congrArg some hs)
  refine wpAny_Try_except (wpAny_mono ((hb (wKeep X.K c i ts Wout D) (X.pn ++ pins) (fun e s₁ => wpAny (model X.prog X.w) X.A (noteFrame e X.env) (fun _ s₂ => wpAny (model X.prog X.w) X.A (setFlight e none) (fun _ s₃ =>
    wpAny (model X.prog X.w) X.A (handleBy e X.env [.ExceptHandler (some (.Name x np)) (some n) (b₀ :: suite) pos']) (SP X pins D) X.xe s₃) X.xe s₂) X.xe s₁) (fun u s' xx => ?_) PassesOwn.looking).run [] s σ H D (I.toTry _) h) (fun f s1 hsp => ?_) fun e s1 he => he)
  · obtain ⟨a, B, sI, pins', σ', H', cls, d, rfl, J', nb, up, sky, na, os, ag, b, hb1, hyes, hno⟩ := xx
    have J : Inv X pins σ' H' sI := J'.ofTry ok
    have sky' : Sky B (X.env :: X.outer) a (Zc cls d) X.env.locals s'.heap := hs ▸ sky
    refine Sky.land Zc.steady hfr hf sky' fun h3 fl3 up3 => ?_
    have J3 : Inv X pins σ' H' { s' with heap := h3 } := J.landed nb fl3.1 (up.trans up3) os ag
    obtain ⟨oe3, vs3, he3, hz3, hd3⟩ := fl3.there
    have nfr : a ∉ frs (X.env :: X.outer) := fun hm => by
      obtain ⟨_, o', e', hnf⟩ := fl3.2.2.1.mem hm
      rw [he3] at e'
      cases e'
      exact hnf _ hd3
    have nL : a ≠ X.env.locals := fun z => nfr (by
      refine List.mem_filterMap.mpr ⟨X.env, List.mem_cons_self, ?_⟩
      rw [hf, z])
    have hBa : B.get? a = none := fl3.2.1
    have hIa : sI.heap.get? a = none := by
      cases e : sI.heap.get? a with
      | none => rfl
      | some o =>
        have := nb a o e (by rw [hs]; exact nfr)
        rw [hBa] at this
        cases this
    refine wpAny_handleBy_cons (codeAny_handlers_test ?_) (by intro q; cases q)
    have LT : PySem.W.Looks (model X.prog X.w) h3 (typeOf (.ref a)) cls := by
      intro A Q E s k q
      refine wpAny_typeOf_ref (k _ _ he3) ?_
      rw [hz3.1]
      exact q
    have LM := PySem.W.exm_one (M := model X.prog X.w) (J3.kIn) LT hb1
    have S0 : ∀ {h4 : Heap}, Inv X pins σ' H' { s' with heap := h4 } → ∀ {o : Obj} {v : Array Value}, h4.get? a = some o → Zc cls d o → o.data = .fields v → Inv (X.suite a (X.pn ++ pins)) [] σ' (upd H' a (Xo cls d a)) { s' with heap := h4 } := by
      intro h4 J4 o v e z dt
      have T := track J hex hIa J4 e z dt na nL
      exact ⟨T.ok.suite _ _, T.os, T.bare, T.base, T.loc, T.cell, T.free, T.freeC, fun p hp => T.pin p (by rwa [List.append_nil] at hp), T.hok, T.len⟩
    have S3 := S0 J3 he3 hz3 hd3
    have test : ∀ {Q : Value → Shared → Prop} {E : Value → Shared → Prop}, Q c { s' with heap := h3 } → wpAny (model X.prog X.w) (X.A.mark (some (.ref a))) (eval (.Name x np) X.env) Q E { s' with heap := h3 } := by
      intro Q E q
      rcases hc with ⟨hg, hdbg, hm | ⟨hm, hv, hnn⟩⟩
      · exact ld_glob (X := X.suite a (X.pn ++ pins)) S3 hg hm q hdbg
      · exact ld_blt (X := X.suite a (X.pn ++ pins)) S3 hg hm hv q hnn hdbg
    refine test (LM.here ?_)
    cases b with
    | true =>
      refine codeAny_handlers_suite_as (HandSPX.lands_againZ fl3 fun h4 fl4 up4 => ?_)
      have J4 : Inv X pins σ' H' { s' with heap := h4 } := J.landed nb fl4.1 ((up.trans up3).trans up4) os ag
      obtain ⟨oe4, vs4, he4, hz4, hd4⟩ := fl4.there
      have S4 := S0 J4 he4 hz4 hd4
      refine store_ok (X := X.suite a (X.pn ++ pins)) (v := .ref a) S4 hN hi (.inl hln) rfl (fun s5 S5 => ?_) (.inr hln)
      refine wpAny_mono ((hsu a (X.pn ++ pins)).run [] s5 _ _ _ S5 (hyes rfl a na)) (fun f s6 hsp => ?_) (fun _ _ z => z.elim)
      have out : ∀ {σ6 : L2.St} {H6 : Hp}, Inv (X.suite a (X.pn ++ pins)) [] σ6 H6 s6 → Inv X pins σ6 H6 s6 := fun S6 =>
        ⟨ok, S6.os, S6.bare, S6.base, S6.loc, S6.cell, S6.free, S6.freeC, fun p hp => S6.pin p (List.mem_append_left _ hp), S6.hok, S6.len⟩
      match f, hsp with
      | .next, ⟨σ6, H6, S6, q6⟩ => exact gone_ok (out S6) hN hi hln fun s7 J7 => ⟨_, _, J7, q6⟩
      | .brk, ⟨σ6, H6, S6, q6⟩ => exact gone_ok (out S6) hN hi hln fun s7 J7 => ⟨_, _, J7, q6⟩
      | .cont, ⟨σ6, H6, S6, q6⟩ => exact gone_ok (out S6) hN hi hln fun s7 J7 => ⟨_, _, J7, q6⟩
      | .ret u, ⟨v6, σ6, H6, S6, r6, q6⟩ => exact gone_ok (out S6) hN hi hln fun s7 J7 => ⟨_, _, _, J7, r6, q6⟩
    | false =>
      refine wpAny_handleBy_nil ?_
      obtain ⟨_, _, _, oe, vs, T, _, _, he, _, hd, h1, _⟩ := id fl3
      unfold PySem.passOn
      refine wpAny_bind (wpAny_field he hd h1 ?_)
      have nn : ¬ ((Value.ref T == Value.none) = true) := by simp
      rw [if_neg nn]
      have fin : wpAny (model X.prog X.w) X.A (setFlight (.ref a) X.env.frame) (fun _ s4 => wpAny (model X.prog X.w) X.A (throw (.ref a) : Sem Flow) (SP X pins D) X.xe s4) X.xe { s' with heap := h3 } := by
        rw [hf]
        refine HandSPX.setFlight_upZ fl3 fun h4 hh4 up4 => wpAny_throw (tk _ _ ⟨a, B, sI, pins, σ', H', cls, d, rfl, J, nb, (up.trans up3).trans up4, ?_, na, os, ag, hno rfl⟩)
        exact Or.inr (Or.inr (hs ▸ hh4))
      first
        | exact wpAny_bind (wpAny_pure (wpAny_bind fin))
        | exact wpAny_bind fin
  · match f, hsp with
    | .next, ⟨σ', H', J', q⟩ => exact wpAny_execs_nil ⟨σ', H', J'.ofTry ok, q⟩
    | .brk, ⟨σ', H', J', q⟩ => exact ⟨σ', H', J'.ofTry ok, q⟩
    | .cont, ⟨σ', H', J', q⟩ => exact ⟨σ', H', J'.ofTry ok, q⟩
    | .ret u, ⟨v, σ', H', J', r, q⟩ => exact ⟨v, σ', H', J'.ofTry ok, r, q⟩
end
end So

namespace So
open PySem PySem.Spec PyProof.Rows L2
/-- what an error class of the program's own says of its instances -/
structure Err (K : PySem.W.Frag) (C : Addr) : Prop where
  ga : PySem.W.findIn K (.ref C) "__getattribute__" = some (some (.builtin "BaseException.__getattribute__"))
  gg : PySem.W.findIn K (.ref C) "__getattr__" = some none
  exC : PySem.W.subIn K (.ref C) (.type "BaseException") = some true
  hdC : PySem.W.hasDictIn K C = true
  ca : PySem.W.findIn K (.ref C) "__class__" = some (some (.builtin "object.__class__"))
  cn : PySem.W.specialIn K (.builtin "object.__class__") "__get__" = some (some (.builtin "getset_descriptor.__get__"))
  ct : PySem.W.takesIn K (.builtin "object.__class__") = some true
  cm : PySem.W.mroIn K C (.type "object") = some true
section
variable {X : Cx}
/-- e.n, e an exception that is kept -/
theorem pe_xo {C : Addr} {e : Expr} {te : TE} {pos : Pos} {n : Str} (T : Err X.K C) (hno : PySem.W.findIn X.K (.ref C) n = some none) (he : PE X e te) (hb : attributeBase e n X.env (eval e X.env) = eval e X.env := by rfl) :
    PE X (.Attribute e n pos) (fun σ H Q => te σ H fun x H1 => ∃ (a dd : Addr) (fs : List (Str × V)) (v : V), x = .ref a ∧ H1 a = some (Xo (.ref C) (some dd) a) ∧ H1 dd = some (.xd fs) ∧ fs.lookup n = some v ∧ Q v H1) := by
  constructor
  intro pins s σ H Q I h
  refine attr_of hb (thn (he.run pins s σ H _ I h) fun u s1 hh => ?_)
  obtain ⟨x, H1, I1, rx, a, dd, fs, v, rfl, ha, ea, l, q⟩ := hh
  cases rx
  obtain ⟨oe, vs, hg, hz, hd⟩ := xo_at I1.hok ha
  obtain ⟨mA, hns, hr⟩ := (show ObjOk X.prog X.w H1 s1.heap dd (.xd fs) from I1.hok dd _ ea)
  obtain ⟨od, ho, hl⟩ := lookIn_ns hns
  have hrn := hr n
  rw [l] at hrn
  obtain ⟨u, hu, ru⟩ := RelO.some_of hrn
  have nc : PySem.W.notCls oe = true := by
    unfold PySem.W.notCls
    rw [hd]
  have J : PySem.W.InstAt s1.heap a oe C (some od) := by
    refine ⟨hg, hz.1, nc, ?_⟩
    rw [hz.2]
    exact ho
  have fo := PySem.W.findObj_own (K := X.K) (C := C) (od := od) (name := n) (v := u) T.hdC hno rfl (by rw [hl, hu])
  exact HandSPX.exc_get I1.kIn J T.ga T.gg T.exC fo (handed_of ru) ⟨v, H1, I1.tok _, ru, q⟩
end
/-! ### isinstance of a kept exception -/
section
open PySem.W PySem.Calls
variable {prog : Program} {w : World} {A : Around} {E : Value → Shared → Prop} {K : Frag} {x D : Addr} {ox : Obj} {od : Option Obj}
theorem err_class {Q : Option Value → Shared → Prop} (T : Err K D) (hp : Heap) (g : Array GenState) (dr : Drawn) (t : Nat) (os : OsState) (X : K.In hp) (I : InstAt hp x ox D od)
    (h : Q (some (.ref D)) ⟨hp, g, dr, t + 1, os⟩) : wpAny (model prog w) A (getAttr? (.ref x) "__class__") Q E ⟨hp, g, dr, t, os⟩ := by
  have isc : (clsIn K D).isSome = true := by
    obtain ⟨cd, hc, _⟩ := any_some T.hdC
    rw [hc]
    rfl
  have hf : findObj K D od "__class__" = some (.bind (.builtin "getset_descriptor.__get__") (.builtin "object.__class__")) := by
    cases od with
    | none => exact findObj_dataN isc T.ca T.cn T.ct
    | some o => exact findObj_data isc T.ca T.cn T.ct
  have k0 := I.type (M := model prog w)
  have k1 := looks_findIn (M := model prog w) X T.ga
  have k2 := looks_findIn (M := model prog w) X T.gg
  have k3 := looks_find (M := model prog w) X I hf
  have below : Looks (model prog w) hp (isInstance (.ref x) (.type "BaseException")) true := k0.andThen (looks_subIn X T.exC)
  have ne : (Value.builtin "BaseException.__getattribute__" == Value.builtin "object.__getattribute__") = false := by decide +kernel
  have both : (onTheHeap (Value.ref D) && Value.builtin "BaseException.__getattribute__" == Value.builtin "object.__getattribute__") = false := by
    rw [ne]
    exact Bool.and_false _
  have own : onTheHeap (Value.ref D) = true := rfl
  have noheap : (false && onTheHeap (Value.builtin "BaseException.__getattribute__")) = false := rfl
  unfold getAttr? getAttrBy? getAttrBy
  apply wpAny_bind
  apply wpAny_mkText
  apply wpAny_bind
  apply wpAny_attempt
  apply wpAny_holding
  apply wpAny_bind
  apply k0.at
  apply wpAny_bind
  apply k1.at
  show wpAny _ _ (ite ((onTheHeap (Value.ref D) && Value.builtin "BaseException.__getattribute__" == Value.builtin "object.__getattribute__") = true) _ _) _ _ _
  rw [both, if_neg (by decide)]
  unfold getAttrByItsOwn hookBefore
  apply wpAny_bind
  rw [if_pos own]
  apply k2.at
  apply wpAny_bind
  apply wpAny_attempt
  apply wpAny_holding
  unfold callGetattribute
  rw [noheap, if_neg (by decide)]
  unfold boundAndCalled
  rw [F.excAttr_ValueError.ga.bind (.ref x)]
  apply wpAny_bind
  apply wpAny_pure
  show wpAny _ _ (call (.builtin "BaseException.__getattribute__") [.ref x, .str "__class__" t]) _ _ _
  apply wpAny_call
  refine codeAny_call_builtin F.excAttr_ValueError.ga.plain F.entry_bexc_ga (@check_slot (model prog w) _ _ ⟨hp, g, dr, t + 1, os⟩ "BaseException.__getattribute__" "BaseException" "__getattribute__" (.ref x) [.str "__class__" t] [] _ (by decide +kernel) (by decide +kernel) below (F.args_bexc_ga (.ref x) (.str "__class__" t)) ?_)
  unfold Builtin.«object.__getattribute__»
  apply wpAny_bind
  refine wpAny_of_eq (a := ((Value.ref x : Value), [Value.str "__class__" t])) (by first | rfl | (simp only [slotArgs]; rfl)) ?_
  apply wpAny_bind
  apply wpAny_pure
  apply wpAny_bind
  apply k0.at
  apply wpAny_bind
  apply k3.at
  show wpAny _ _ (holding [Value.builtin "object.__class__"] (call (.builtin "getset_descriptor.__get__") [.builtin "object.__class__", .ref x, .ref D]) >>= ret) _ _ _
  apply wpAny_bind
  apply wpAny_holding
  apply wpAny_call
  refine class_get (s := ⟨hp, g, dr, t + 1, os⟩) (ox := ox) (od := od) X I T.cm (wpAny_pure ?_)
  show wpAny _ _ (handedOut (.ref D)) _ _ _
  rw [handedOut_of (v := .ref D) rfl]
  first
    | exact wpAny_pure (wpAny_pure h)
    | exact wpAny_pure h
    | exact wpAny_pure (wpAny_bind (wpAny_pure (wpAny_pure h)))
theorem kitx_err (T : Err K D) : KitX K (.ref x) (.ref D) (fun h => ∃ ox od, InstAt h x ox D od) where
  ty := fun _ _ _ ⟨_, _, I⟩ => I.type
  it := fun _ _ X _ => by
    obtain ⟨cd, hc, _⟩ := any_some T.hdC
    unfold clsIn at hc
    split at hc
    · rename_i ho
      intro A' Q' E' s' k q
      unfold isType loadHead
      exact wpAny_bind (wpAny_loadPart (k _ _ (X _ _ ho)) (wpAny_pure q))
    · cases hc
  ne := fun h tp dd its n sl X htp => by
    cases q : (Value.ref D == Value.ref tp) with
    | false => rfl
    | true =>
      have e : D = tp := Value.ref.inj (beq_iff_eq.mp q)
      subst e
      obtain ⟨cd, hc, _⟩ := any_some T.hdC
      unfold clsIn at hc
      split at hc
      · rename_i ho
        have z := (X _ _ ho).symm.trans htp
        cases z
      · cases hc
  ca := fun {prog w A E Q s} X I k => by
    obtain ⟨ox, od, I⟩ := I
    obtain ⟨hp, g, dr, t, os⟩ := s
    exact err_class T hp g dr t os X I k
end
section
variable {X : Cx}
/-- isinstance(e, c), e a kept exception, c one class -/
theorem call_isXo : CallR X (.builtin "isinstance") (fun xs H Q => ∃ (a D dd : Addr) (fs : List (Str × V)) (c : V) (u : Value) (b : Bool), xs = [.ref a, c] ∧ H a = some (Xo (.ref D) (some dd) a) ∧ H dd = some (.xd fs) ∧ Err X.K D ∧ ClsV c u ∧ PySem.W.kitOne X.K (.ref D) u = some b ∧ Q (.bl b) H) := by
  intro pins s σ H xs us Q I r h
  obtain ⟨a, D, dd, fs, c, u, b, rfl, ha, hd, T, cv, e, q⟩ := h
  obtain ⟨u1, u2, rfl, r1, r2⟩ := vals2 r
  cases r1
  have e2 := cv.eq r2
  subst e2
  obtain ⟨oe, vs, hg, hz, hdat⟩ := xo_at I.hok ha
  obtain ⟨mA, hns, _⟩ := (show ObjOk X.prog X.w H s.heap dd (.xd fs) from I.hok dd _ hd)
  obtain ⟨od, ho, _⟩ := lookIn_ns hns
  have nc : PySem.W.notCls oe = true := by
    unfold PySem.W.notCls
    rw [hdat]
  have J : PySem.W.InstAt s.heap a oe D (some od) := by
    refine ⟨hg, hz.1, nc, ?_⟩
    rw [hz.2]
    exact ho
  exact PySem.W.kia_one (kitx_err T) I.kIn ⟨oe, some od, J⟩ e (fun z => nomatch z) fun tk => ⟨.bl b, H, I.tok tk, rfl, q⟩
end
end So

namespace So
open PySem PySem.Spec PyProof.Rows L2
/-- C.m is a static method: its record at p, its def at g -/
structure Sta (K : PySem.W.Frag) (C : Addr) (mc : Value) (m : Str) (p g : Addr) : Prop where
  rd : PySem.W.readsIn K C mc = true
  ga : PySem.W.specialIn K (.ref C) "__getattribute__" = some (some (.builtin "type.__getattribute__"))
  at_ : PySem.W.findCls K (.ref C) mc m = some (.get (.builtin "staticmethod.__get__") (.ref p) .none (.ref C))
  rc : ∃ rest, PySem.W.recIn K p "staticmethod" = some (.ref g :: rest)
  kp : PySem.W.keepIn K (.ref g) = true
section
variable {X : Cx} {CX : CXT} {k : Nat} {C f p0 : Addr} {mc : Value} {fd : FuncData} {ps ks : List Str} {sp : Sp} {E : XK} {m : Str} {pos apos : Pos} {e o : Expr} {es : List Expr} {kws : List Keyword} {ta : TE} {t tk : TA}
theorem getsta_ok {pins : List (Addr × Obj)} {σ : L2.St} {H : Hp} {s : Shared} {pl : Sem Bool} {A : Around} {E' : Value → Shared → Prop} {Q : Value × List Value → Shared → Prop} (I : Inv X pins σ H s) (S : Sta X.K C mc m p0 f) (h : ∀ s', Inv X pins σ H s' → Q (.ref f, []) s') :
    wpAny (model X.prog X.w) A (getMethod (.ref C) m pl) Q E' s := by
  obtain ⟨rest, hp⟩ := S.rc
  refine PySem.W.method_cls I.kIn S.ga (PySem.W.cls_bind I.kIn S.rd S.at_ (wpAny_call (PySem.W.sm_get (s := { s with toks := s.toks + 1 }) I.kIn hp (PySem.W.handed_on rfl ?_))))
  exact h _ (I.tok _)
/-- C.m(e, ..), m static -/
theorem pe_sta {pl : Sem Bool} (he : PE X o ta) (S : Sta X.K C mc m p0 f) (F : FnOk X.prog X.w X.K X.mg X.base CX k f fd ps sp) (hr : Room k X.A) (hb : Binds X.K fd ps []) (hx : Passes CX X E) (ha : PA X (e :: es) t)
    (hst : starEach (e :: es) X.env = (false, eval e X.env) :: starEach es X.env := by rfl) (hpl : (backTo pos (starEach es X.env)).any (·.1) = false := by rfl)
    (ht : eval (.Call (.Attribute o m apos) (e :: es) [] pos) X.env = (do
      let ov ← eval o X.env
      standAt apos.atName
      let fx ← holding [ov] (getMethod ov m pl)
      callWith pos fx.1 fx.2 (backTo pos (starEach (e :: es) X.env)) (backToKw pos (keywordEach [] X.env))) := by rfl) :
    PE X (.Call (.Attribute o m apos) (e :: es) [] pos) (fun σ H Q => ta σ H fun x H1 => x = .ref C ∧ t σ H1 fun vs H2 => sp vs H2 Q E) := by
  constructor
  intro pins s σ H Q I h
  refine PySem.W.methodCall_KW (pl := pl) (thn (he.run pins s σ H _ I h) fun u s1 z => ?_) ht
  obtain ⟨x, H1, I1, rx, rfl, q⟩ := z
  cases rx
  refine getsta_ok I1 S fun s2 I2 => PySem.W.callWith_K (first := []) (h₀ := X.base) I2.ok.mod.kin S.kp (thn (ha.run pos pins s2 σ H1 _ I2 q) fun us s3 z => ?_) hst hpl
  obtain ⟨vs, H2, I3, r, q2⟩ := z
  refine ⟨I3.kIn, ?_⟩
  have q3 : sp (vs ++ []) H2 Q E := by
    rw [List.append_nil]
    exact q2
  exact run_fn F hr hb .nil hx I3 r q3
/-- C.m(k = v, ..), m static, keywords alone -/
theorem pe_staK {g : List Value → List Value → List Value} {gV : List V → List V → List V} {pl : Sem Bool} (he : PE X o ta) (S : Sta X.K C mc m p0 f) (F : FnOk X.prog X.w X.K X.mg X.base CX k f fd ps sp) (hr : Room k X.A) (hb : KBinds X.K fd ps ks g gV) (hx : Passes CX X E)
    (hkw : PK X kws tk) (hall : (backToKw pos (keywordEach kws X.env)).all (·.1.isSome) = true := by rfl) (hks : (backToKw pos (keywordEach kws X.env)).filterMap (·.1) = ks := by rfl)
    (hpl : ((backTo pos (starEach [] X.env)).any (·.1) || (backToKw pos (keywordEach kws X.env)).any (·.1.isNone)) = false := by rfl)
    (ht : eval (.Call (.Attribute o m apos) [] kws pos) X.env = (do
      let ov ← eval o X.env
      standAt apos.atName
      let fx ← holding [ov] (getMethod ov m pl)
      callWith pos fx.1 fx.2 (backTo pos (starEach [] X.env)) (backToKw pos (keywordEach kws X.env))) := by rfl) :
    PE X (.Call (.Attribute o m apos) [] kws pos) (fun σ H Q => ta σ H fun x H1 => x = .ref C ∧ tk σ H1 fun zs H2 => sp (gV [] zs) H2 Q E) := by
  constructor
  intro pins s σ H Q I h
  refine PySem.W.methodCall_KW (pl := pl) (thn (he.run pins s σ H _ I h) fun u s1 z => ?_) ht
  obtain ⟨x, H1, I1, rx, rfl, q⟩ := z
  cases rx
  refine getsta_ok I1 S fun s2 I2 => PySem.W.callWith_KW0 (first := []) (h₀ := X.base) I2.ok.mod.kin S.kp hall (thn (hkw.run pos pins s2 σ H1 _ I2 q) fun ws s3 z => ?_) hpl
  obtain ⟨zs, H2, I3, rz, q2⟩ := z
  refine ⟨I3.kIn, ?_⟩
  rw [hks]
  exact run_fnk (us := []) (vs := []) F hr hb hx I3 .nil rz q2
/-- ~o by an own __invert__ -/
theorem un_invOwn (F : FnOk X.prog X.w X.K X.mg X.base CX k f fd ps sp) (hs : PySem.W.findIn X.K (.ref C) "__invert__" = some (some (.ref f))) (hf : PySem.W.isFn X.K (.ref f) = true) (hb : Binds X.K fd ps []) (hx : Passes CX X E) (hr : Room k X.A) :
    UnR X (unaryOp .Invert) (fun x H Q => ∃ a dx fs, x = .ref a ∧ H a = some (.ins C dx fs) ∧ sp [.ref a] H Q E) := by
  intro pins s σ H x v Q I rx h
  obtain ⟨a, dx, fs, rfl, ha, q⟩ := h
  cases rx
  obtain ⟨mA, J, _⟩ := ins_get I.hok ha
  obtain ⟨od, J, _⟩ := J.look
  obtain ⟨m, hF⟩ := I.fr
  refine PySem.W.ksp_inv hF I.ok.mod.kin J hs hf ?_
  exact run_fn (us := [.ref a]) (vs := [.ref a]) F hr hb .nil hx I (.cons rfl .nil) q
end
end So

namespace So
open PySem PySem.Spec PyProof.Rows L2
/-! ### own errors with one field -/
/-- the __init__ of such an error: the field is what was passed -/
def spOneE (C : Addr) (n : Str) : Sp := fun vs H Q _ => ∃ (a : Addr) (v : V), vs = [.ref a, v] ∧ H a = some (exo a C none) ∧ ∀ dx, H dx = none → dx ≠ a → Q .non (upd (upd H dx (exd dx [(n, v)])) a (exo a C (some dx)))
/-- what the top says of such an error: its class at C, named x, its field n, its __init__ at f -/
structure OneE (K : PySem.W.Frag) (mg : Str → Option Value) (x n : Str) (C f : Addr) (fd : FuncData) : Prop where
  T : OexC K C
  iC : PySem.W.findIn K (.ref C) "__init__" = some (some (.ref f))
  tI : PySem.W.typeIn K (.ref f) = some (.type "function")
  mgC : mg x = some (.ref C)
  no : PySem.W.findIn K (.ref C) n = some none
  err : Err K C
  hb : Binds K fd ["self", n] []
/-- behind C(v) -/
theorem mkOne {C : Addr} {n : Str} {vs : List V} {v : V} {H1 : Hp} {Q : XK} (e : vs = [v]) (h : ∀ d H', Same H1 H' → H1 d = none → H' d = some (.xd [(n, v)]) → Q (.ref C) (some d) H') :
    vs.length ≤ 1000 ∧ ∀ a, H1 a = none → spOneE C n (.ref a :: (vs ++ [])) (upd H1 a (exo a C none))
      (fun v H2 => v = .non ∧ ∃ (d : Addr) (fs : List (Str × V)), H2 a = some (exo a C (some d)) ∧ H2 d = some (exd d fs) ∧ H1 d = none ∧ Q (.ref C) (some d) (upd (del H2 a) d (.xd fs))) (fun _ _ _ => False) := by
  subst e
  refine ⟨by show 1 ≤ 1000; decide, fun a ha => ⟨a, v, rfl, upd_same, fun dx hdx ne => ⟨rfl, dx, [(n, v)], upd_same, ?_, ?_, h dx _ (fun b o hb => ?_) ?_ upd_same⟩⟩⟩
  · rw [upd_ne ne, upd_same]
  · rw [upd_ne ne] at hdx
    exact hdx
  · rw [upd_ne ne] at hdx
    have hba : b ≠ a := ne_of_none hb ha
    have hbd : b ≠ dx := ne_of_none hb hdx
    rw [upd_ne hbd, del_ne hba, upd_ne hba, upd_ne hbd, upd_ne hba]
    exact hb
  · rw [upd_ne ne] at hdx
    exact hdx
section
variable {X : Cx} {x n : Str} {C f : Addr} {fd : FuncData} {ta : TA} {e : Expr} {p pos pos2 : Pos}
theorem pmk_one (O : OneE X.K X.mg x n C f fd) (F : FnOk X.prog X.w X.K X.mg X.base CX0 1 f fd ["self", n] (spOneE C n)) (hr : Room 2 X.A) (hg : Gl X x) (ha : PA X [e] ta)
    (hdb : (x == ("__debug__" : Str)) = false := by decide) (he : starEach [e] X.env = (false, eval e X.env) :: starEach [] X.env := by rfl) (hpl : (backTo pos (starEach [] X.env)).any (·.1) = false := by rfl) :
    PMk X (.Call (.Name x p) [e] [] pos) (tMkO C (spOneE C n) [] ta) :=
  pmk_oex O.T O.iC O.tI F hr O.hb .nil (fun _ _ _ _ _ _ _ h => h.elim) hg O.mgC ha hdb he hpl
/-- raise C(e) -/
theorem ps_raiseOne {W : WX} (O : OneE X.K X.mg x n C f fd) (F : FnOk X.prog X.w X.K X.mg X.base CX0 1 f fd ["self", n] (spOneE C n)) (hc : X.calm = true) (hr : Room 2 X.A) (tk : Takes X W) (hg : Gl X x) (ha : PA X [e] ta)
    (hdb : (x == ("__debug__" : Str)) = false := by decide) (he : starEach [e] X.env = (false, eval e X.env) :: starEach [] X.env := by rfl) (hpl : (backTo pos (starEach [] X.env)).any (·.1) = false := by rfl) :
    PS X (.Raise (some (.Call (.Name x p) [e] [] pos)) none pos2) (fun _ σ H => tMkO C (spOneE C n) [] ta σ H fun cls d H' => W cls d σ H') := ps_raise hc tk (pmk_one O F hr hg ha hdb he hpl)
end

/-! ### repr of data, of a tuple of a text and an empty dict -/
section
variable {X : Cx}
theorem call_reprT (hg : X.A.guards = some []) (hu : X.A.units + 64 < cLine) : CallR X (.builtin "repr") (fun xs H Q => ∃ (r a : Addr) (w : Str), xs = [.ref r] ∧ SqT X.K H r [.str w, .ref a] ∧ H a = some (.dK []) ∧ (PyData.tuple [.str w, .dict []]).shown.length ≤ sizeLine ∧ Q (.str (PyData.tuple [.str w, .dict []]).shown) H) := by
  intro pins s σ H xs us Q I r h
  obtain ⟨rr, a, w, rfl, ht, ha, hz, q⟩ := h
  obtain ⟨u, rfl, rv⟩ := vals1 r
  cases rv
  obtain ⟨its, rw', ⟨o, ho, hc, n, hd⟩, _⟩ := I.tuple ht
  obtain ⟨hz2, hsm, vs, hk, hD⟩ : ([] : List (Key × V)).length ≤ sizeLine ∧ (a == sysModules) = false ∧ ∃ vs, KV [] vs ∧ s.heap.DictOf (mixKind X.prog X.w) a vs := I.hok a _ ha
  obtain ⟨u1, u2, rfl, r1, r2⟩ := vals2 rw'
  obtain ⟨t1, rfl⟩ := r1
  cases r2
  obtain ⟨o2, es, ep, e1, e2, e3, _, e5, _⟩ := hD
  cases hk
  have es0 : es.toList = [] := by
    cases h : es.toList with
    | nil => rfl
    | cons y ys =>
      rw [h] at e5
      cases e5
  have rdD : Reads s.heap (.ref a) (.dict []) (a :: [] ++ []) := Reads.dict (kvs := []) e1 e2.1 e3 (by rw [es0]; exact ReadsAll.nil) (by rw [es0]; exact ReadsAll.nil)
  have rd : Reads s.heap (.ref rr) (.tuple [.str w, .dict []]) ([] ++ ((a :: [] ++ []) ++ [])) := Reads.tuple ho hc hd (ReadsAll.cons (Reads.str w t1) (ReadsAll.cons rdD ReadsAll.nil))
  refine repr_of_reads' rd rfl (fun _ z => ?_) hg (by show X.A.units + (2 + 1) < cLine; omega) (fun _ _ e => e) (fun h' t tk k => ?_) hz
  · have : sysModules = a := by simpa using z
    rw [this] at hsm
    simp at hsm
  · exact ⟨.str _, H, I.kept k, ⟨t, rfl⟩, q⟩
theorem CallR.or {b : Value} {r r' : List V → Hp → VK → Prop} (h : CallR X b r) (h' : CallR X b r') : CallR X b (fun xs H Q => r xs H Q ∨ r' xs H Q) := by
  intro pins s σ H xs us Q I rv q
  exact q.elim (h pins s σ H xs us Q I rv) (h' pins s σ H xs us Q I rv)
end
end So

namespace K31
open PySem PySem.Spec PyProof.Rows L2 So
/-! ### the text -/
def topS (i : Nat) : Stmt := PySem.Challenge.pw_soundtill_k31_steps_and_chains_made.main.body.getD i (.Pass ⟨0, 0, 0, 0⟩)
abbrev sPen : Stmt := topS 32
abbrev sDraw : Stmt := topS 33
abbrev sPick : Stmt := topS 34
theorem scPen : FnScope ["_law_script"] ["_law_script"] (defScope sPen) := ⟨rfl, rfl, rfl, by decide +kernel, rfl, by decide +kernel, by decide +kernel⟩
theorem scDraw : FnScope ["_law_pen_here", "_law_many", "_law_digit", "_law_at", "_law_cell", "_law_great", "_law_mixed"] ["_law_pen_here", "_law_many"] (defScope sDraw) := ⟨rfl, rfl, rfl, by decide +kernel, rfl, by decide +kernel, by decide +kernel⟩
theorem scPick : FnScope ["_law_pen_here", "_law_some"] ["_law_pen_here", "_law_some"] (defScope sPick) := ⟨rfl, rfl, rfl, by decide +kernel, rfl, by decide +kernel, by decide +kernel⟩

/-! ### the pen -/
/-- the pen at p: the cells at l, how many were begun, what is left of a great one -/
structure Pen (H : Hp) (p l : Addr) (ns : List Int) (n : Nat) (g : Int) : Prop where
  pen : H p = some (.lst [.ref l, .int n, .int g])
  cells : H l = some (.lst (ns.map V.int))
  left : 0 ≤ g
/-- all that was tracked beside p is as it was -/
def Off (p : Addr) (H H' : Hp) : Prop := ∀ b o, b ≠ p → H b = some o → H' b = some o
theorem Off.refl {p : Addr} {H : Hp} : Off p H H := fun _ _ _ e => e
theorem Off.trans {p : Addr} {H H1 H2 : Hp} (a : Off p H H1) (b : Off p H1 H2) : Off p H H2 := fun c o n e => b c o n (a c o n e)
theorem Off.upd {p : Addr} {H H1 : Hp} {o : HO} (a : Off p H H1) : Off p H (upd H1 p o) := fun c u n e => by
  rw [upd_ne n]
  exact a c u n e
theorem Off.new {p q : Addr} {H H1 : Hp} {o : HO} (a : Off p H H1) (h : H1 q = none) : Off p H (L2.upd H1 q o) := fun c u n e => by
  have e1 := a c u n e
  rw [upd_ne (ne_of_none e1 h)]
  exact e1
theorem dp_ints {K : PySem.W.Frag} {H : Hp} : ∀ ns : List Int, DpAll K H (ns.map V.int) (ns.map PyData.int)
  | [] => .nil
  | n :: r => .cons (.int n) (dp_ints r)
theorem depth_ints : ∀ ns : List Int, PyData.depthAll (ns.map PyData.int) ≤ 1
  | [] => by simp [PyData.depthAll]
  | n :: r => by
    have h := depth_ints r
    simp only [List.map_cons, PyData.depthAll, PyData.depth]
    omega
theorem shaped_ints (ns : List Int) : SeqAt.shaped (.list (ns.map PyData.int)) = true := by
  unfold SeqAt.shaped
  rw [Bool.and_eq_true]
  have hd := depth_ints ns
  refine ⟨?_, decide_eq_true ?_⟩
  · show PyData.canLay0 _ = true
    simp only [PyData.canLay0]
    induction ns with
    | nil => rfl
    | cons a r ih => simpa [PyData.canLayAll0, PyData.canLay0] using ih (depth_ints r)
  · simp only [PyData.depth]
    omega
theorem Pen.apart {H : Hp} {p l : Addr} {ns : List Int} {n : Nat} {g : Int} (h : Pen H p l ns n g) : l ≠ p := by
  refine ne_of h.cells h.pen (fun z => ?_)
  injection z with z
  cases ns with
  | nil => cases z
  | cons a r => cases z
theorem eqv_nil (ds : List PyData) : PyData.eqv (.list ds) (.list []) = ds.isEmpty := by
  cases ds <;> simp [PyData.eqv, PyData.eqvAll]
section
variable {P : Program} {w : World} {K : PySem.W.Frag} {mg : Str → Option Value} {base : Heap}
def spDraw : Sp := fun vs H Q _ => ∃ (p l : Addr) (ns : List Int) (n : Nat) (g many : Int), vs = [.ref p, .int many] ∧ Pen H p l ns n g ∧ n < 1000000 ∧ 0 < many ∧ many.natAbs < 2 ^ 200 ∧
  ∀ (d : Int) (n' : Nat) (g' : Int) (H' : Hp), 0 ≤ d → d < many → n' ≤ n + 1 → Off p H H' → Pen H' p l ns n' g' → Q (.int d) H'
theorem ok_draw {f : Addr} {fd : FuncData} (F : Fun K "_law_draw" "_law_draw" sDraw f fd) (ml : mg "len" = none) (mi : mg "int" = none) (ma : mg "abs" = none) : FnOk P w K mg base CX0 1 f fd ["_law_pen_here", "_law_many"] spDraw := by
  refine F.ok scDraw (fun vs H Q E h => ?_) (fun cdv A outer s H vs Q E hr h => ?_)
  · obtain ⟨p, l, ns, n, g, many, rfl, _⟩ := h
    rfl
  · obtain ⟨p, l, ns, n, g, many, rfl, hp, hn, hm, hm2, q⟩ := h
    refine ⟨_, pss_cons (ps_if (pt_cmpR op_gt (pe_ix ix_list (pv 0) pe_int (fun _ _ => rfl)) pe_int (nomark _))
        (pss_cons (ps_set (i := 2) scDraw.nd rfl (.inl rfl) (pe_op op_mod (pe_callTy call_int1 (by rfl) mi (by decide +kernel) (pa_cons (pe_ix ix_list (pv 0) pe_int (fun _ _ => rfl)) pa_nil)) (pv 1)))
        (pss_cons (ps_asg (pe_op op_fdivW (pe_callTy call_int1 (by rfl) mi (by decide +kernel) (pa_cons (pe_ix ix_list (pv 0) pe_int (fun _ _ => rfl)) pa_nil)) (pv 1)) (pg_sub (pv 0) pe_int set_list))
        (pss_one (ps_ret (pv 2))))) pss_nil)
      (pss_cons (ps_set (i := 3) scDraw.nd rfl (.inl rfl) (pe_ix ix_list (pv 0) pe_int (fun _ _ => rfl)))
      (pss_cons (ps_asg (pe_op op_add (pv 3) pe_int) (pg_sub (pv 0) pe_int set_list))
      (pss_cons (ps_set (i := 4) scDraw.nd rfl (.inl rfl) (pe_op op_add (pe_op op_mul pe_int (pv 3)) pe_int))
      (C8.pss_cut (ps_if (pt_cmpR (op_neD (by have := hr.units; exact this)) (pe_ix ix_list (pv 0) pe_int (fun _ _ => rfl)) (pe_lst pa_nil) (nomark _))
        (pss_one (ps_set (i := 4) scDraw.nd rfl (.inl rfl) (pe_ix ix_list (pe_ix ix_list (pv 0) pe_int (fun _ _ => rfl)) (pe_op op_mod (pe_callTy call_int1 (by rfl) mi (by decide +kernel) (pa_cons (pv 3) pa_nil)) (pe_callB call_len_seq (by rfl) ml PySem.boot_len (pa_cons (pe_ix ix_list (pv 0) pe_int (fun _ _ => rfl)) pa_nil))) (fun _ _ => rfl)))) pss_nil)
      (pss_cons (ps_if (PW.pt (pw_and (pt_cmpR op_lt (pv 3) (pe_callB call_len_seq (by rfl) ml PySem.boot_len (pa_cons (pe_ix ix_list (pv 0) pe_int (fun _ _ => rfl)) pa_nil)) (nomark _))
            (pw_and1 (pt_cmpR op_ge (pe_callB call_abs (by rfl) ma (by decide +kernel) (pa_cons (pv 4) pa_nil)) (pe_op op_pow pe_int pe_int) (nomark _)))))
        (pss_cons (ps_set (i := 5) scDraw.nd rfl (.inl rfl) (pe_op op_add (pe_op op_mul pe_int (pe_op op_sub (pe_callB call_abs (by rfl) ma (by decide +kernel) (pa_cons (pv 4) pa_nil)) (pe_op op_pow pe_int pe_int)))
            (pe_callTy call_int1 (by rfl) mi (by decide +kernel) (pa_cons (pe_cmpR op_lt (pv 4) pe_int (nomark _)) pa_nil))))
        (pss_cons (ps_asg (pe_op op_fdivW (pe_callTy call_int1 (by rfl) mi (by decide +kernel) (pa_cons (pv 5) pa_nil)) (pv 1)) (pg_sub (pv 0) pe_int set_list))
        (pss_one (ps_ret (pe_op op_mod (pe_callTy call_int1 (by rfl) mi (by decide +kernel) (pa_cons (pv 5) pa_nil)) (pv 1)))))) pss_nil)
      (pss_cons (ps_set (i := 6) scDraw.nd rfl (.inl rfl) (pe_op op_mod (pe_callTy call_int1 (by rfl) mi (by decide +kernel) (pa_cons
          (pe_op op_pow (pe_op op_add (pe_op op_add (pe_op op_mod (pe_callTy call_int1 (by rfl) mi (by decide +kernel) (pa_cons (pv 4) pa_nil)) pe_int) (pe_op op_mul pe_int (pv 3))) pe_int) pe_int) pa_nil)) pe_int))
      (pss_cons (ps_set (i := 6) scDraw.nd rfl (.inl rfl) (pe_op op_mod (pe_callTy call_int1 (by rfl) mi (by decide +kernel) (pa_cons
          (pe_op op_pow (pe_op op_add (pe_op op_add (pe_op op_mul (pv 6) (pe_op op_add (pe_op op_mul pe_int (pv 3)) pe_int)) (pe_op op_mul (pe_op op_mul pe_int (pv 3)) (pv 3))) pe_int) pe_int) pa_nil)) pe_int))
      (pss_one (ps_ret (pe_op op_mod (pe_callTy call_int1 (by rfl) mi (by decide +kernel) (pa_cons (pe_op op_fdiv (pv 6) pe_int) pa_nil)) (pv 1))))))))))), ?_⟩
    have hP : SqL K H p [.ref l, .int n, .int g] := SqL.of hp.pen
    refine ⟨_, rfl, p, _, 2, _, rfl, rfl, hP, atI_nat (j := 2) rfl, _, _, rfl, rfl, _, rfl, ite2 (fun e => ?_) (fun e => ?_)⟩
    · refine ⟨_, rfl, p, _, 2, _, rfl, rfl, hP, atI_nat (j := 2) rfl, .inl ⟨_, rfl, _, rfl, _, _, rfl, rfl, hm, ?_⟩⟩
      refine ⟨_, rfl, p, _, 2, _, rfl, rfl, hP, atI_nat (j := 2) rfl, .inl ⟨_, rfl, _, rfl, _, _, rfl, rfl, wide_div hm hm2 (by decide) (by decide), _, rfl, p, _, 2, 2, rfl, rfl, hp.pen, rfl, ?_⟩⟩
      refine ⟨_, rfl, q _ n (g / many) _ (Int.emod_nonneg _ (Int.ne_of_gt hm)) (Int.emod_lt_of_pos _ hm) (by omega) Off.refl.upd ⟨upd_same, (upd_ne hp.apart).trans hp.cells, Int.ediv_nonneg hp.left (Int.le_of_lt hm)⟩⟩
    · refine ⟨_, rfl, p, _, 1, _, rfl, rfl, hP, atI_nat (j := 1) rfl, ?_⟩
      refine ⟨_, rfl, _, _, rfl, rfl, _, rfl, p, _, 1, 1, rfl, rfl, hp.pen, rfl, ?_⟩
      have hP1 : (upd H p (.lst [.ref l, .int (n + 1), .int g])) p = some (.lst [.ref l, .int (n + 1), .int g]) := upd_same
      have hL1 : (upd H p (.lst [.ref l, .int (n + 1), .int g])) l = some (.lst (ns.map V.int)) := (upd_ne hp.apart).trans hp.cells
      have hO1 : Off p H (upd H p (.lst [.ref l, .int (n + 1), .int g])) := Off.refl.upd
      refine ⟨_, rfl, _, _, rfl, rfl, .inl ⟨by decide, by decide⟩, _, _, rfl, rfl, ?_⟩
      refine ⟨fun σ' H2 => ∃ c : Int, σ' = [some (.ref p), some (.int many), none, some (.int n), some (.int c), none, none] ∧ H2 p = some (.lst [.ref l, .int (n + 1), .int g]) ∧ H2 l = some (.lst (ns.map V.int)) ∧ Off p H H2, ?_, ?_⟩
      · refine ⟨_, rfl, p, _, 0, _, rfl, rfl, SqL.of hP1, atI_nat (j := 0) rfl, Nat.zero_le _, fun z hz => ?_⟩
        have hP2 := (upd_ne (o := .lst []) (ne_of_none hP1 hz)).trans hP1
        have hL2 := (upd_ne (o := .lst []) (ne_of_none hL1 hz)).trans hL1
        refine ⟨.list (ns.map PyData.int), .list [], .lst (SqL.of hL2) (dp_ints ns), .lst (SqL.of upd_same) .nil, shaped_ints ns, by decide, _, rfl, ite2 (fun e1 => ?_) (fun e1 => ?_)⟩
        · rw [eqv_nil] at e1
          have hlen : 0 < ns.length := by
            cases ns with
            | nil => cases e1
            | cons a r => exact Nat.succ_pos _
          have hlt : n % ns.length < ns.length := Nat.mod_lt _ hlen
          refine ⟨_, rfl, p, _, 0, _, rfl, rfl, SqL.of hP2, atI_nat (j := 0) rfl, _, rfl, .inl ⟨_, rfl, _, rfl, p, _, 0, _, rfl, rfl, SqL.of hP2, atI_nat (j := 0) rfl, l, _, rfl, .inl (SqL.of hL2), _, _, rfl, rfl, (by rw [List.length_map]; omega), l, _, _, .int ns[n % ns.length], rfl, rfl, SqL.of hL2, ?_, ?_⟩⟩
          · have e2 : ((n : Int) % (((ns.map V.int).length : Nat) : Int)) = ((n % ns.length : Nat) : Int) := by
              rw [List.length_map]
              exact (Int.natCast_emod n ns.length).symm
            rw [e2]
            refine atI_nat ?_
            rw [List.getElem?_map, List.getElem?_eq_getElem hlt]
            rfl
          · exact ⟨_, rfl, hP2, hL2, hO1.new hz⟩
        · exact ⟨_, rfl, hP2, hL2, hO1.new hz⟩
      · rintro σ' H2 ⟨c, rfl, hP2, hL2, hO2⟩
        have hmix : ∀ t : Int, 0 ≤ t % many ∧ t % many < many := fun t => ⟨Int.emod_nonneg _ (Int.ne_of_gt hm), Int.emod_lt_of_pos _ hm⟩
        have bm : ∀ Y : Int, 0 ≤ Y % 2147483629 ∧ Y % 2147483629 < 2147483629 := fun Y => ⟨Int.emod_nonneg _ (by decide), Int.emod_lt_of_pos _ (by decide)⟩
        have bd : ∀ Y : Int, -(2 ^ 64) < Y % 2147483629 ∧ Y % 2147483629 < 2 ^ 64 := fun Y => by
          have := bm Y
          omega
        have key : ∀ Y : Int, ((Y % 2147483629) * (2 * (n : Int) + 41) + 44017 * (n : Int) * (n : Int) + 13).natAbs < 2 ^ 64 := by
          intro Y
          have b2 := bm Y
          revert b2
          generalize Y % 2147483629 = m1
          intro b2
          have b3 : 0 ≤ m1 * (2 * (n : Int) + 41) ∧ m1 * (2 * (n : Int) + 41) ≤ 2147483629 * 2000041 := ⟨Int.mul_nonneg b2.1 (by omega), Int.mul_le_mul (by omega) (by omega) (by omega) (by decide)⟩
          have b4 : 0 ≤ 44017 * (n : Int) * (n : Int) ∧ 44017 * (n : Int) * (n : Int) ≤ (44017 * 1000000) * 1000000 := ⟨Int.mul_nonneg (by omega) (by omega), Int.mul_le_mul (by omega) (by omega) (by omega) (by decide)⟩
          omega
        refine ⟨_, rfl, _, rfl, p, _, 0, _, rfl, rfl, SqL.of hP2, atI_nat (j := 0) rfl, l, _, rfl, .inl (SqL.of hL2), _, _, rfl, rfl, _, rfl, ite2 (fun e1 => ⟨_, rfl, _, rfl, _, _, rfl, rfl, ⟨by decide, by decide, by decide⟩, _, _, rfl, rfl, _, rfl, ite2 (fun e2 => ?great) (fun e2 => ?late)⟩) (fun e1 => ?small)⟩
        case great =>
          have e3 : (10 : Int) ^ (18 : Int).toNat ≤ (if c < 0 then -c else c) := of_decide_eq_true e2
          refine ⟨_, rfl, _, rfl, _, _, rfl, rfl, ⟨by decide, by decide, by decide⟩, _, _, rfl, rfl, _, _, rfl, rfl, .inl ⟨by decide, by decide⟩, _, rfl, _, _, rfl, rfl, .inr ⟨_, rfl, _, _, rfl, rfl, ?_⟩⟩
          have hG : ∀ k : Bool, 0 ≤ 2 * ((if c < 0 then -c else c) - (10 : Int) ^ (18 : Int).toNat) + (if k = true then (1 : Int) else 0) := by
            intro k
            have : (0 : Int) ≤ (if k = true then (1 : Int) else 0) := by cases k <;> decide
            omega
          have hG1 := hG (decide (c < 0))
          refine ⟨_, rfl, .inl ⟨_, rfl, _, rfl, _, _, rfl, rfl, wide_div hm hm2 (by decide) (by decide), _, rfl, p, _, 2, 2, rfl, rfl, hP2, rfl, ?_⟩⟩
          exact ⟨_, rfl, .inl ⟨_, rfl, _, rfl, _, _, rfl, rfl, hm, q _ (n + 1) _ _ (hmix _).1 (hmix _).2 (Nat.le_refl _) hO2.upd ⟨upd_same, (upd_ne (Pen.apart ⟨hP2, hL2, hp.left⟩)).trans hL2, Int.ediv_nonneg hG1 (Int.le_of_lt hm)⟩⟩⟩
        all_goals
          have b1 : 0 ≤ c % 2147483549 ∧ c % 2147483549 < 2147483549 := ⟨Int.emod_nonneg _ (by decide), Int.emod_lt_of_pos _ (by decide)⟩
          refine ⟨_, rfl, .inl ⟨_, rfl, _, _, rfl, rfl, (by decide : (0 : Int) < 2147483549), _, rfl, _, _, rfl, rfl, .inl ⟨by decide, by decide⟩, _, _, rfl, rfl, _, _, rfl, rfl, _, _, rfl, rfl, ⟨by decide, by decide, ?_⟩, .inl ⟨_, rfl, _, _, rfl, rfl, (by decide : (0 : Int) < 2147483629), ?_⟩⟩⟩
          · omega
          refine ⟨_, rfl, _, rfl, _, _, rfl, rfl, .inl ⟨by decide, by decide⟩, _, _, rfl, rfl, _, _, rfl, rfl, .inl (bd _), _, rfl, _, _, rfl, rfl, .inl ⟨by decide, by decide⟩, _, rfl, _, _, rfl, rfl, .inr ⟨?_, ?_⟩, _, _, rfl, rfl, _, _, rfl, rfl, _, _, rfl, rfl, ⟨by decide, by decide, key _⟩, .inl ⟨_, rfl, _, _, rfl, rfl, (by decide : (0 : Int) < 2147483587), ?_⟩⟩
          · omega
          · omega
          exact ⟨_, rfl, _, _, rfl, rfl, ⟨by decide, by decide⟩, .inl ⟨_, rfl, _, rfl, _, _, rfl, rfl, hm, q _ (n + 1) g H2 (hmix _).1 (hmix _).2 (Nat.le_refl _) hO2 ⟨hP2, hL2, hp.left⟩⟩⟩


/-- one of a list's things, one of a text's signs -/
def spPick (K : PySem.W.Frag) : Sp := fun vs H Q _ => ∃ (p l : Addr) (ns : List Int) (n : Nat) (g : Int) (y : V), vs = [.ref p, y] ∧ Pen H p l ns n g ∧ n < 1000000 ∧
  ((∃ (q : Addr) (xs : List V), y = .ref q ∧ q ≠ p ∧ H q = some (.lst xs) ∧ 0 < xs.length ∧ xs.length ≤ 1000 ∧
    ∀ (v : V) (n' : Nat) (g' : Int) (H' : Hp), v ∈ xs → n' ≤ n + 1 → Off p H H' → Pen H' p l ns n' g' → Q v H') ∨
   (∃ z : Str, y = .str z ∧ 0 < z.length ∧ z.length ≤ 1000 ∧
    ∀ (c : Nat) (n' : Nat) (g' : Int) (H' : Hp), c ∈ z.cps.toList → n' ≤ n + 1 → Off p H H' → Pen H' p l ns n' g' → Q (.str (⟨#[c]⟩)) H'))
theorem ok_pick {f fD : Addr} {fd fdD : FuncData} (F : Fun K "_law_pick" "_law_pick" sPick f fd) (ml : mg "len" = none) (FD : Fun K "_law_draw" "_law_draw" sDraw fD fdD) (bD : Binds K fdD ["_law_pen_here", "_law_many"] []) (gD : mg "_law_draw" = some (.ref fD))
    (GD : FnOk P w K mg base CX0 1 fD fdD ["_law_pen_here", "_law_many"] spDraw) : FnOk P w K mg base CX0 2 f fd ["_law_pen_here", "_law_some"] (spPick K) := by
  refine F.ok scPick (fun vs H Q E h => ?_) (fun cdv A outer s H vs Q E hr h => ?_)
  · obtain ⟨p, l, ns, n, g, y, rfl, _⟩ := h
    rfl
  · obtain ⟨p, l, ns, n, g, y, rfl, hp, hn, k⟩ := h
    refine ⟨_, pss_one (ps_ret (pe_ix (ix_list.or ix_str) (pv 1) (pe_call GD hr (by rfl) gD FD.kp bD .nil pass0 (pa_cons (pv 0) (pa_cons (pe_callB (So.CallR.or call_len_seq call_len_str) (by rfl) ml PySem.boot_len (pa_cons (pv 1) pa_nil)) pa_nil))) (fun _ _ => rfl))), ?_⟩
    rcases k with ⟨q, xs, rfl, hne, hq, h0, h1, k⟩ | ⟨z, rfl, h0, h1, k⟩
    · refine ⟨_, rfl, _, rfl, _, rfl, .inl ⟨q, _, rfl, .inl (SqL.of hq), p, l, ns, n, g, _, rfl, hp, hn, by omega, ?_, ?_⟩⟩
      · have : ((xs.length : Nat) : Int).natAbs = xs.length := Int.natAbs_natCast _
        rw [this]
        exact Nat.lt_of_le_of_lt h1 (by decide)
      · intro d n' g' H' d0 d1 hn' off pen
        obtain ⟨j, rfl⟩ : ∃ j : Nat, d = j := ⟨d.toNat, by omega⟩
        have hlt : j < xs.length := by omega
        exact .inl ⟨q, xs, j, xs[j], rfl, rfl, SqL.of (off q _ hne hq), atI_nat (List.getElem?_eq_getElem hlt), k _ n' g' H' (List.getElem_mem hlt) hn' off pen⟩
    · refine ⟨_, rfl, _, rfl, _, rfl, .inr ⟨z, rfl, Nat.le_trans h1 (by decide), p, l, ns, n, g, _, rfl, hp, hn, by omega, ?_, ?_⟩⟩
      · have : ((z.length : Nat) : Int).natAbs = z.length := Int.natAbs_natCast _
        rw [this]
        exact Nat.lt_of_le_of_lt h1 (by decide)
      · intro d n' g' H' d0 d1 hn' off pen
        obtain ⟨j, rfl⟩ : ∃ j : Nat, d = j := ⟨d.toNat, by omega⟩
        have hz : z.length = z.cps.toList.length := Array.length_toList.symm
        have hlt : j < z.cps.toList.length := by omega
        exact .inr ⟨z, j, z.cps.toList[j], rfl, rfl, Nat.le_trans h1 (by decide), atI_nat (List.getElem?_eq_getElem hlt), k _ n' g' H' (List.getElem_mem hlt) hn' off pen⟩
theorem Pen.new {H : Hp} {p l q : Addr} {ns : List Int} {n : Nat} {g : Int} {o : HO} (h : Pen H p l ns n g) (hq : H q = none) : Pen (upd H q o) p l ns n g :=
  ⟨(upd_ne (ne_of_none h.pen hq)).trans h.pen, (upd_ne (ne_of_none h.cells hq)).trans h.cells, h.left⟩
end
end K31

namespace K31
open PySem PySem.Spec PyProof.Rows L2 So
abbrev sWhole : Stmt := topS 15
abbrev sMoment : Stmt := topS 16
abbrev sName : Stmt := topS 17
abbrev sCheck : Stmt := topS 18
abbrev sWordOf : Stmt := topS 25
theorem scWhole : FnScope ["value"] ["value"] (defScope sWhole) := ⟨rfl, rfl, rfl, by decide +kernel, rfl, by decide +kernel, by decide +kernel⟩
theorem scMoment : FnScope ["value"] ["value"] (defScope sMoment) := ⟨rfl, rfl, rfl, by decide +kernel, rfl, by decide +kernel, by decide +kernel⟩
theorem scName : FnScope ["value", "sign"] ["value"] (defScope sName) := ⟨rfl, rfl, rfl, by decide +kernel, rfl, by decide +kernel, by decide +kernel⟩
theorem scCheck : FnScope ["value", "form"] ["value", "form"] (defScope sCheck) := ⟨rfl, rfl, rfl, by decide +kernel, rfl, by decide +kernel, by decide +kernel⟩
theorem scWordOf : FnScope ["value"] ["value"] (defScope sWordOf) := ⟨rfl, rfl, rfl, by decide +kernel, rfl, by decide +kernel, by decide +kernel⟩
/-! ### what a name is -/
def letters : Str := "abcdefghijklmnopqrstuvwxyz"
def digits : Str := "0123456789"
def noNames : List Str := ["begun", "setby", "found", "trusted", "passed", "failed", "agreed", "differed", "served", "backed", "sound", "unsound", "sure", "never", "open", "none", "record", "lot", "menu", "wanted"]
def isAln (c : Nat) : Bool := decide (c ∈ (letters ++ digits).cps.toList)
def isName (z : Str) : Bool := decide (1 ≤ z.length) && decide (z.length ≤ 8) && !(noNames.contains z) && decide (z.cps.toList.headD 0 ∈ letters.cps.toList) && z.cps.toList.all isAln
/-- the module's names that the words of the package read -/
structure Words (K : PySem.W.Frag) (mg : Str → Option Value) : Prop where
  greatest : ∃ t, mg "GREATEST" = some (.int 1000000000000000000000000000000 t)
  longest : ∃ t, mg "LONGEST_NAME" = some (.int 8 t)
  letters : ∃ t, mg "LETTERS" = some (.str letters t)
  digits : ∃ t, mg "DIGITS" = some (.str digits t)
  noNames : ∃ a, mg "NO_NAMES" = some (.ref a) ∧ ∀ H : Hp, SqT K H a (noNames.map V.str)
  isi : mg "isinstance" = none
  int : mg "int" = none
  bool : mg "bool" = none
  str : mg "str" = none
  len : mg "len" = none
  all : mg "all" = none
section
variable {P : Program} {w : World} {K : PySem.W.Frag} {mg : Str → Option Value} {base : Heap}
theorem kit_int_int : PySem.W.kitOne K (.type "int") (.type "int") = some true := kit_ty (by decide +kernel)
theorem kit_int_bool : PySem.W.kitOne K (.type "int") (.type "bool") = some false := kit_ty (by decide +kernel)
theorem kit_str_str : PySem.W.kitOne K (.type "str") (.type "str") = some true := kit_ty (by decide +kernel)
theorem kit_bool_bool : PySem.W.kitOne K (.type "bool") (.type "bool") = some true := kit_ty (by decide +kernel)
/-- is_whole of an int -/
def spWhole : Sp := fun vs H Q _ => ∃ i : Int, vs = [.int i] ∧ Q (.bl true) H
theorem ok_whole {f : Addr} {fd : FuncData} (F : Fun K "is_whole" "is_whole" sWhole f fd) (W : Words K mg) : FnOk P w K mg base CX0 1 f fd ["value"] spWhole := by
  refine F.ok scWhole (fun vs H Q E h => ?_) (fun cdv A outer s H vs Q E hr h => ?_)
  · obtain ⟨i, rfl, _⟩ := h
    rfl
  · obtain ⟨i, rfl, q⟩ := h
    refine ⟨_, pss_one (ps_ret (pe_and (pe_callB call_isi (by rfl) W.isi (by decide +kernel) (pa_cons (pv 0) (pa_cons (pe_bltn (v := .ty "int") (by rfl) W.int (by decide +kernel) rfl) pa_nil)))
      (pe_one (pe_not (pe_callB call_isi (by rfl) W.isi (by decide +kernel) (pa_cons (pv 0) (pa_cons (pe_bltn (v := .ty "bool") (by rfl) W.bool (by decide +kernel) rfl) pa_nil))))))), ?_⟩
    refine ⟨_, rfl, _, _, _, _, true, rfl, .ty "int", .base (.int i), kit_int_int, true, rfl, iteT ?_⟩
    exact ⟨_, rfl, _, _, _, _, false, rfl, .ty "bool", .base (.int i), kit_int_bool, _, rfl, q⟩
/-- is_moment of an int -/
def spMoment : Sp := fun vs H Q _ => ∃ i : Int, vs = [.int i] ∧ Q (.bl (decide (0 ≤ i ∧ i ≤ 1000000000000000000000000000000))) H
theorem ok_moment {f fW : Addr} {fd fdW : FuncData} (F : Fun K "is_moment" "is_moment" sMoment f fd) (W : Words K mg) (FW : Fun K "is_whole" "is_whole" sWhole fW fdW) (bW : Binds K fdW ["value"] []) (gW : mg "is_whole" = some (.ref fW)) :
    FnOk P w K mg base CX0 2 f fd ["value"] spMoment := by
  have GW : FnOk P w K mg base CX0 1 fW fdW ["value"] spWhole := ok_whole FW W
  refine F.ok scMoment (fun vs H Q E h => ?_) (fun cdv A outer s H vs Q E hr h => ?_)
  · obtain ⟨i, rfl, _⟩ := h
    rfl
  · obtain ⟨i, rfl, q⟩ := h
    obtain ⟨tG, hG⟩ := W.greatest
    refine ⟨_, pss_one (ps_ret (pe_and (pe_call GW hr (by rfl) gW FW.kp bW .nil pass0 (pa_cons (pv 0) pa_nil)) (pe_one (pe_chain op_le op_le pe_int (pv 0) (pe_glob (v := .int 1000000000000000000000000000000) rfl hG ⟨_, rfl⟩))))), ?_⟩
    refine ⟨_, rfl, i, rfl, true, rfl, iteT ?_⟩
    refine ⟨_, rfl, _, _, rfl, rfl, _, rfl, ite2 (fun e => ?_) (fun e => ?_)⟩
    · have e' : 0 ≤ i := of_decide_eq_true e
      refine ⟨_, _, rfl, rfl, ?_⟩
      have : decide (0 ≤ i ∧ i ≤ 1000000000000000000000000000000) = decide (i ≤ 1000000000000000000000000000000) := by simp [e']
      rw [this] at q
      exact q
    · have e' : ¬ 0 ≤ i := fun z => e (decide_eq_true z)
      have : decide (0 ≤ i ∧ i ≤ 1000000000000000000000000000000) = false := by simp [e']
      rw [this] at q
      exact q

theorem inV_strs (z : Str) : ∀ l : List Str, inV (.str z) (l.map V.str) = l.contains z
  | [] => rfl
  | x :: r => by
    have h := inV_strs z r
    have e : eqV (.str x) (.str z) = (z == x) := Bool.beq_comm (a := x) (b := z)
    show (eqV (.str x) (.str z) || inV (.str z) (r.map V.str)) = _
    rw [h, e, List.contains_cons]
theorem flat_strs (l : List Str) : (l.map V.str).all flatV = true := by
  rw [List.all_map]
  exact List.all_eq_true.mpr fun _ _ => rfl
theorem Same.over {H H1 : Hp} {D : Addr} {o : HO} (s : Same H H1) (h : H D = none) : Same H (upd H1 D o) := fun b u e => by
  rw [upd_ne (ne_of_none e h)]
  exact s b u e
/-- is_name of a text -/
def spName : Sp := fun vs H Q _ => ∃ z : Str, vs = [.str z] ∧ z.length ≤ 2000 ∧ ∀ H', Same H H' → Q (.bl (isName z)) H'
theorem ok_name {f : Addr} {fd : FuncData} (F : Fun K "is_name" "is_name" sName f fd) (W : Words K mg) : FnOk P w K mg base CX0 1 f fd ["value"] spName := by
  refine F.ok scName (fun vs H Q E h => ?_) (fun cdv A outer s H vs Q E hr h => ?_)
  · obtain ⟨i, rfl, _⟩ := h
    rfl
  · obtain ⟨z, rfl, hz, q⟩ := h
    obtain ⟨tL, hL⟩ := W.longest
    obtain ⟨tA, hA⟩ := W.letters
    obtain ⟨tD, hD⟩ := W.digits
    obtain ⟨aN, gN, hN⟩ := W.noNames
    have gA : ∀ {X : Cx}, X.mg = mg → True := fun _ => trivial
    refine ⟨_, pss_cons (ps_if (PW.pt (pw_or (pt_not (pt_val (pe_callB call_isi (by rfl) W.isi (by decide +kernel) (pa_cons (pv 0) (pa_cons (pe_bltn (v := .ty "str") (by rfl) W.str (by decide +kernel) rfl) pa_nil)))))
        (pw_or (pt_not (pt_chain op_le op_le pe_int (pe_callB call_len_str (by rfl) W.len PySem.boot_len (pa_cons (pv 0) pa_nil)) (pe_glob (v := .int 8) rfl hL ⟨_, rfl⟩)))
          (pw_or1 (pt_cmpR op_in_seq (pv 0) (pe_glob (v := .ref aN) rfl gN rfl) (by rfl))))))
        (pss_one (ps_ret pe_bl)) pss_nil)
      (pss_one (ps_ret (pe_and (pe_cmpR op_in_sign (pe_ix ix_str (pv 0) pe_int (fun _ _ => rfl)) (pe_glob (v := .str letters) rfl hA ⟨_, rfl⟩) (by rfl))
        (pe_one (pe_callB (cr_all rfl) (by rfl) W.all (by decide +kernel) (pa_cons (pe_lc (own := [("sign", 1)]) (g := gName 1) (tt := tYes) rfl scName.nd (pi_str (pv 0)) (blkOk_by (N := ["value", "sign"]) (sc := defScope sName) (by decide +kernel))
          (fun _ _ _ _ _ => pg_name (i := 1) scName.nd rfl (Or.inl rfl)) (fun _ _ _ _ _ => pts_nil)
          (fun _ _ _ _ _ => pe_cmpR op_in_sign (pv 1) (pe_op op_add_str (pe_glob (v := .str letters) rfl hA ⟨_, rfl⟩) (pe_glob (v := .str digits) rfl hD ⟨_, rfl⟩)) (by rfl))) pa_nil)))))), ?_⟩
    have hzl : z.length ≤ sizeLine := Nat.le_trans hz (by decide)
    refine ⟨_, rfl, _, _, _, _, true, rfl, .ty "str", .base (.str z), kit_str_str, true, rfl, iteF ?_⟩
    have no : isName z = false → Q (.bl false) H := fun e => by
      have := q H (Same.refl H)
      rw [e] at this
      exact this
    refine ⟨_, rfl, _, rfl, hzl, _, _, rfl, rfl, _, rfl, ite2 (fun c1 => ?_) (fun c1 => ⟨_, rfl, iteT (no ?_)⟩)⟩
    case refine_2 =>
      have c1' : ¬ (1 : Int) ≤ ((z.length : Nat) : Int) := fun e => c1 (decide_eq_true e)
      unfold isName
      rw [show decide (1 ≤ z.length) = false from decide_eq_false (by omega)]
      rfl
    have c1' : (1 : Int) ≤ ((z.length : Nat) : Int) := of_decide_eq_true c1
    refine ⟨_, _, rfl, rfl, _, rfl, ?_⟩
    by_cases c2 : ((z.length : Nat) : Int) ≤ 8
    case neg =>
      rw [decide_eq_false c2]
      refine iteT (no ?_)
      unfold isName
      rw [show decide (z.length ≤ 8) = false from decide_eq_false (by omega), Bool.and_false]
      rfl
    rw [decide_eq_true c2]
    refine iteF ⟨_, rfl, aN, _, rfl, .inr (hN H), rfl, flat_strs _, ?_⟩
    refine ⟨_, rfl, ?_⟩
    rw [show inV (.str z) (noNames.map V.str) = noNames.contains z from inV_strs z noNames]
    cases c3 : noNames.contains z with
    | true =>
      refine iteT (no ?_)
      unfold isName
      rw [c3, Bool.not_true, Bool.and_false]
      rfl
    | false =>
      refine iteF ?_
      have hz0 : 0 < z.cps.toList.length := by
        have : z.length = z.cps.toList.length := Array.length_toList.symm
        omega
      obtain ⟨c0, cr, hc⟩ : ∃ c0 cr, z.cps.toList = c0 :: cr := by
        cases e : z.cps.toList with
        | nil => rw [e] at hz0; cases hz0
        | cons a r => exact ⟨a, r, rfl⟩
      have e1 : decide (1 ≤ z.length) = true := decide_eq_true (by omega)
      have e2 : decide (z.length ≤ 8) = true := decide_eq_true (by omega)
      have e3 : isName z = (decide (c0 ∈ letters.cps.toList) && z.cps.toList.all isAln) := by
        unfold isName
        rw [e1, e2, c3, hc]
        rfl
      refine ⟨_, rfl, _, _, c0, rfl, rfl, hzl, ?_, _, _, rfl, rfl, _, rfl, ite2 (fun c4 => ?_) (fun c4 => ?_)⟩
      · rw [hc]
        exact atI_nat (j := 0) rfl
      · refine ⟨_, rfl, _, rfl, fun D hD => lc_it walk_str (fun i H' => H' D = some (.lst ((z.cps.toList.take i).map fun c => V.bl (isAln c))) ∧ Same H H') ⟨?_, ?_⟩ (fun _ _ _ _ => trivial) ?_ ?_⟩
        · exact upd_same
        · exact Same.over (Same.refl H) hD
        · rintro i x H1 H2 hi ⟨h1, s1⟩ ⟨rfl, c, hc1, rfl⟩
          have hc2 : z.cps.toList[i]? = some c := by
            rw [Array.getElem?_toList]
            exact hc1
          refine ⟨rfl, _, rfl, _, _, rfl, rfl, by decide, c, _, rfl, rfl, _, h1, ?_, ?_, Same.over s1 hD⟩
          · rw [List.length_map, List.length_take]
            have : z.cps.toList.length = z.length := Array.length_toList
            exact Nat.lt_of_le_of_lt (Nat.le_trans (Nat.min_le_right _ _) (by omega)) (by decide : 2000 < sizeLine)
          · rw [upd_same, List.take_add_one, hc2, List.map_append]
            rfl
        · rintro H1 ⟨h1, s1⟩
          refine ⟨D, z.cps.toList.map isAln, rfl, SqL.of ?_, ?_⟩
          · rw [h1, List.take_of_length_le (by rw [Array.length_toList]; exact Nat.le_refl _), List.map_map]
            rfl
          · have := q H1 s1
            rw [e3, show decide (c0 ∈ letters.cps.toList) = true from c4, Bool.true_and] at this
            rw [List.all_map]
            exact this
      · refine no ?_
        rw [e3]
        have : decide (c0 ∈ letters.cps.toList) = false := by
          cases h : decide (c0 ∈ letters.cps.toList) with
          | true => exact absurd h c4
          | false => rfl
        rw [this]
        rfl
end
end K31

namespace K31
open PySem PySem.Spec PyProof.Rows L2 So
section
variable {P : Program} {w : World} {K : PySem.W.Frag} {mg : Str → Option Value} {base : Heap}
theorem notS {a b : Str} (h : a ≠ b) : ¬ (decide (V.str a = V.str b) = true) := fun e => h (V.str.inj (of_decide_eq_true e))
/-- check_form of what has the form -/
def spCheck : Sp := fun vs H Q _ => ∃ (v : V) (form : Str), vs = [v, .str form] ∧
  ((form = "name" ∧ ∃ z : Str, v = .str z ∧ z.length ≤ 2000 ∧ isName z = true) ∨ (form = "moment" ∧ ∃ i : Int, v = .int i ∧ 0 ≤ i ∧ i ≤ 1000000000000000000000000000000) ∨ (form = "truth" ∧ ∃ b : Bool, v = .bl b)) ∧ ∀ H', Same H H' → Q .non H'
theorem ok_check {f fM fN : Addr} {fd fdM fdN : FuncData} (F : Fun K "check_form" "check_form" sCheck f fd) (W : Words K mg) (FM : Fun K "is_moment" "is_moment" sMoment fM fdM) (bM : Binds K fdM ["value"] []) (gM : mg "is_moment" = some (.ref fM))
    (GM : FnOk P w K mg base CX0 2 fM fdM ["value"] spMoment) (FN : Fun K "is_name" "is_name" sName fN fdN) (bN : Binds K fdN ["value"] []) (gN : mg "is_name" = some (.ref fN)) (GN : FnOk P w K mg base CX0 1 fN fdN ["value"] spName) :
    FnOk P w K mg base CX0 3 f fd ["value", "form"] spCheck := by
  refine F.ok scCheck (fun vs H Q E h => ?_) (fun cdv A outer s H vs Q E hr h => ?_)
  · obtain ⟨v, form, rfl, _⟩ := h
    rfl
  · obtain ⟨v, form, rfl, hf, q⟩ := h
    have hr1 : Room 1 _ := hr.mono (by decide)
    refine ⟨_, pss_cons (ps_if (PW.pt (pw_and (pt_cmpR op_eq (pv 1) pe_str (nomark _)) (pw_and1 (pt_not (pt_val (pe_call GN hr1 (by rfl) gN FN.kp bN .nil pass0 (pa_cons (pv 0) pa_nil))))))) (pss_one ps_never) pss_nil)
      (pss_cons (ps_if (PW.pt (pw_and (pt_cmpR op_eq (pv 1) pe_str (nomark _)) (pw_and1 (pt_not (pt_val (pe_call GM hr (by rfl) gM FM.kp bM .nil pass0 (pa_cons (pv 0) pa_nil))))))) (pss_one ps_never) pss_nil)
      (pss_cons (ps_if (PW.pt (pw_and (pt_cmpR op_eq (pv 1) pe_str (nomark _)) (pw_and1 (pt_not (PW.pt (pw_and (pt_val (pe_call GM hr (by rfl) gM FM.kp bM .nil pass0 (pa_cons (pv 0) pa_nil))) (pw_and1 (pt_cmpR op_gt (pv 0) pe_int (nomark _))))))))) (pss_one ps_never) pss_nil)
      (pss_one (ps_if (PW.pt (pw_and (pt_cmpR op_eq (pv 1) pe_str (nomark _)) (pw_and1 (pt_not (pt_val (pe_callB call_isi (by rfl) W.isi (by decide +kernel) (pa_cons (pv 0) (pa_cons (pe_bltn (v := .ty "bool") (by rfl) W.bool (by decide +kernel) rfl) pa_nil))))))))
        (pss_one ps_never) pss_nil)))), ?_⟩
    rcases hf with ⟨rfl, z, rfl, hz, hn⟩ | ⟨rfl, i, rfl, h0, h1⟩ | ⟨rfl, b, rfl⟩
    · refine ⟨_, rfl, rfl, _, rfl, ite2 (fun _ => ?_) (fun e => absurd (decide_eq_true rfl) e)⟩
      refine ⟨_, rfl, z, rfl, hz, fun H1 s1 => ⟨_, rfl, ?_⟩⟩
      rw [hn]
      refine iteF ?_
      refine ⟨_, rfl, rfl, _, rfl, ite2 (fun e => absurd e (notS (by decide +kernel))) (fun _ => ?_)⟩
      refine ⟨_, rfl, rfl, _, rfl, ite2 (fun e => absurd e (notS (by decide +kernel))) (fun _ => ?_)⟩
      refine ⟨_, rfl, rfl, _, rfl, ite2 (fun e => absurd e (notS (by decide +kernel))) (fun _ => ?_)⟩
      exact q H1 s1
    · refine ⟨_, rfl, rfl, _, rfl, ite2 (fun e => absurd e (notS (by decide +kernel))) (fun _ => ?_)⟩
      refine ⟨_, rfl, rfl, _, rfl, ite2 (fun _ => ?_) (fun e => absurd (decide_eq_true rfl) e)⟩
      refine ⟨_, rfl, i, rfl, _, rfl, ?_⟩
      rw [decide_eq_true (show 0 ≤ i ∧ i ≤ 1000000000000000000000000000000 from ⟨h0, h1⟩)]
      refine iteF ?_
      refine ⟨_, rfl, rfl, _, rfl, ite2 (fun e => absurd e (notS (by decide +kernel))) (fun _ => ?_)⟩
      refine ⟨_, rfl, rfl, _, rfl, ite2 (fun e => absurd e (notS (by decide +kernel))) (fun _ => ?_)⟩
      exact q H (Same.refl H)
    · refine ⟨_, rfl, rfl, _, rfl, ite2 (fun e => absurd e (notS (by decide +kernel))) (fun _ => ?_)⟩
      refine ⟨_, rfl, rfl, _, rfl, ite2 (fun e => absurd e (notS (by decide +kernel))) (fun _ => ?_)⟩
      refine ⟨_, rfl, rfl, _, rfl, ite2 (fun e => absurd e (notS (by decide +kernel))) (fun _ => ?_)⟩
      refine ⟨_, rfl, rfl, _, rfl, ite2 (fun _ => ?_) (fun e => absurd (decide_eq_true rfl) e)⟩
      refine ⟨_, rfl, _, _, _, _, true, rfl, .ty "bool", .base (.bl b), kit_bool_bool, true, rfl, ?_⟩
      exact q H (Same.refl H)
def wordOf (b : Bool) : Str := if b then "sound" else "unsound"
/-- word_of of a truth -/
def spWordOf : Sp := fun vs H Q _ => ∃ b : Bool, vs = [.bl b] ∧ Q (.str (wordOf b)) H
theorem ok_wordOf {f : Addr} {fd : FuncData} (F : Fun K "word_of" "word_of" sWordOf f fd) (W : Words K mg) : FnOk P w K mg base CX0 1 f fd ["value"] spWordOf := by
  refine F.ok scWordOf (fun vs H Q E h => ?_) (fun cdv A outer s H vs Q E hr h => ?_)
  · obtain ⟨b, rfl, _⟩ := h
    rfl
  · obtain ⟨b, rfl, q⟩ := h
    refine ⟨_, pss_cons (ps_if (pt_val (pe_callB call_isi (by rfl) W.isi (by decide +kernel) (pa_cons (pv 0) (pa_cons (pe_bltn (v := .ty "bool") (by rfl) W.bool (by decide +kernel) rfl) pa_nil))))
      (pss_one (ps_ret (pe_ifExp (pt_val (pv 0)) pe_str pe_str))) pss_nil) (pss_one (ps_ret (pe_callTy call_str_int (by rfl) W.str (by decide +kernel) (pa_cons (pv 0) pa_nil)))), ?_⟩
    refine ⟨_, rfl, _, _, _, _, true, rfl, .ty "bool", .base (.bl b), kit_bool_bool, true, rfl, iteT ?_⟩
    refine ⟨_, rfl, b, rfl, ?_⟩
    cases b with
    | true => exact iteT q
    | false => exact iteF q
end
end K31

namespace K31
open PySem PySem.Spec PyProof.Rows L2 So
abbrev sInit : Stmt := inClass (topS 27) 1
abbrev sPoint : Stmt := inClass (topS 27) 5
abbrev sEq : Stmt := inClass (topS 27) 9
abbrev sAhead : Stmt := inClass (topS 27) 10
abbrev sStr : Stmt := inClass (topS 27) 11
theorem scInit : FnScope ["self", "tool", "moment", "is_sound"] ["self", "tool", "moment", "is_sound"] (defScope sInit) := ⟨rfl, rfl, rfl, by decide +kernel, rfl, by decide +kernel, by decide +kernel⟩
theorem scPoint : FnScope ["self"] ["self"] (defScope sPoint) := ⟨rfl, rfl, rfl, by decide +kernel, rfl, by decide +kernel, by decide +kernel⟩
theorem scEq : FnScope ["self", "other"] ["self", "other"] (defScope sEq) := ⟨rfl, rfl, rfl, by decide +kernel, rfl, by decide +kernel, by decide +kernel⟩
theorem scAhead : FnScope ["self", "other"] ["self", "other"] (defScope sAhead) := ⟨rfl, rfl, rfl, by decide +kernel, rfl, by decide +kernel, by decide +kernel⟩
theorem scStr : FnScope ["self"] ["self"] (defScope sStr) := ⟨rfl, rfl, rfl, by decide +kernel, rfl, by decide +kernel, by decide +kernel⟩
/-- the attributes of a saying -/
def sf (z : Str) (m : Int) (b : Bool) : List (Str × V) := [("tool", .str z), ("moment", .int m), ("is_sound", .bl b)]
theorem sf_put (z : Str) (m : Int) (b : Bool) : putF "is_sound" (.bl b) (putF "moment" (.int m) (putF "tool" (.str z) [])) = sf z m b := by
  have e1 : ¬ (("tool" : Str) = "moment") := by decide +kernel
  have e2 : ¬ (("tool" : Str) = "is_sound") := by decide +kernel
  have e3 : ¬ (("moment" : Str) = "is_sound") := by decide +kernel
  simp [putF, sf, e1, e2, e3]
theorem sf_tool (z : Str) (m : Int) (b : Bool) : (sf z m b).lookup ("tool" : Str) = some (.str z) := by
  simp [sf, List.lookup]
theorem sf_moment (z : Str) (m : Int) (b : Bool) : (sf z m b).lookup ("moment" : Str) = some (.int m) := by
  have e1 : (("moment" : Str) == "tool") = false := by decide +kernel
  simp [sf, List.lookup, e1]
theorem sf_sound (z : Str) (m : Int) (b : Bool) : (sf z m b).lookup ("is_sound" : Str) = some (.bl b) := by
  have e1 : (("is_sound" : Str) == "tool") = false := by decide +kernel
  have e2 : (("is_sound" : Str) == "moment") = false := by decide +kernel
  simp [sf, List.lookup, e1, e2]
theorem sf_no (z : Str) (m : Int) (b : Bool) {f : Str} (h1 : (f == "tool") = false) (h2 : (f == "moment") = false) (h3 : (f == "is_sound") = false) : (sf z m b).lookup f = none := by
  simp [sf, List.lookup, h1, h2, h3]
/-- what the top says of the class Saying, at C -/
structure Say (K : PySem.W.Frag) (mg : Str → Option Value) (C : Addr) : Prop where
  cl : Cls K C
  nT : NoAttr K C "tool"
  nM : NoAttr K C "moment"
  nS : NoAttr K C "is_sound"
  mgC : mg "Saying" = some (.ref C)
  ha : PySem.W.findIn K (.ref C) "__class__" = some (some (.builtin "object.__class__"))
  hn : PySem.W.specialIn K (.builtin "object.__class__") "__get__" = some (some (.builtin "getset_descriptor.__get__"))
  htk : PySem.W.takesIn K (.builtin "object.__class__") = some true
  hm : PySem.W.mroIn K C (.type "object") = some true
  me : PySem.W.kitOne K (.ref C) (.ref C) = some true
  no : ∀ T, T ∈ ["tuple", "str", "NoneType", "int", "bool", "list"] → PySem.W.kitOne K (.type T) (.ref C) = some false ∧ PySem.W.notFirst K C (.type T) = true
/-- at a stands the saying (z, m, b) -/
def At (C : Addr) (H : Hp) (a : Addr) (z : Str) (m : Int) (b : Bool) : Prop := ∃ dx, H a = some (.ins C dx (sf z m b))
section
variable {P : Program} {w : World} {K : PySem.W.Frag} {mg : Str → Option Value} {base : Heap}
def spInit (C : Addr) : Sp := fun vs H Q _ => ∃ (x dx : Addr) (z : Str) (m : Int) (b : Bool), vs = [.ref x, .str z, .int m, .bl b] ∧ H x = some (.ins C dx []) ∧ z.length ≤ 2000 ∧ isName z = true ∧ 0 ≤ m ∧ m ≤ 1000000000000000000000000000000 ∧
  ∀ H', Off x H H' → H' x = some (.ins C dx (sf z m b)) → Q .non H'
theorem ok_init {f C fC : Addr} {fd fdC : FuncData} (F : Fun K "__init__" "Saying.__init__" sInit f fd) (T : Say K mg C) (FC : Fun K "check_form" "check_form" sCheck fC fdC) (bC : Binds K fdC ["value", "form"] []) (gC : mg "check_form" = some (.ref fC))
    (GC : FnOk P w K mg base CX0 3 fC fdC ["value", "form"] spCheck) : FnOk P w K mg base CX0 4 f fd ["self", "tool", "moment", "is_sound"] (spInit C) := by
  refine F.ok scInit (fun vs H Q E h => ?_) (fun cdv A outer s H vs Q E hr h => ?_)
  · obtain ⟨x, dx, z, m, b, rfl, _⟩ := h
    rfl
  · obtain ⟨x, dx, z, m, b, rfl, hx, hz, hnm, h0, h1, q⟩ := h
    refine ⟨_, pss_cons (ps_expr (pe_call GC hr (by rfl) gC FC.kp bC .nil pass0 (pa_cons (pv 1) (pa_cons pe_str pa_nil))))
      (pss_cons (ps_expr (pe_call GC hr (by rfl) gC FC.kp bC .nil pass0 (pa_cons (pv 2) (pa_cons pe_str pa_nil))))
      (pss_cons (ps_expr (pe_call GC hr (by rfl) gC FC.kp bC .nil pass0 (pa_cons (pv 3) (pa_cons pe_str pa_nil))))
      (pss_cons (ps_fld (pv 0) (pv 1) rfl) (pss_cons (ps_fld (pv 0) (pv 2) rfl) (pss_one (ps_fld (pv 0) (pv 3) rfl)))))), ?_⟩
    refine ⟨_, rfl, _, _, rfl, .inl ⟨rfl, z, rfl, hz, hnm⟩, fun H1 s1 => ?_⟩
    refine ⟨_, rfl, _, _, rfl, .inr (.inl ⟨rfl, m, rfl, h0, h1⟩), fun H2 s2 => ?_⟩
    refine ⟨_, rfl, _, _, rfl, .inr (.inr ⟨rfl, b, rfl⟩), fun H3 s3 => ?_⟩
    have s123 := (s1.trans s2).trans s3
    refine ⟨_, rfl, _, rfl, x, C, dx, [], rfl, s123 _ _ hx, T.cl, T.nT, (by show 0 < 1000; decide), ?_⟩
    refine ⟨_, rfl, _, rfl, x, C, dx, _, rfl, upd_same, T.cl, T.nM, (by show 1 < 1000; decide), ?_⟩
    refine ⟨_, rfl, _, rfl, x, C, dx, _, rfl, upd_same, T.cl, T.nS, ?_, ?_⟩
    · exact Nat.lt_of_le_of_lt (length_putF _ _ _) (by show 1 + 1 < 1000; decide)
    · refine q _ (fun c o n e => ?_) ?_
      · rw [upd_ne n, upd_ne n, upd_ne n]
        exact s123 c o e
      · rw [upd_same, sf_put]
/-- the property point -/
def spPoint (C : Addr) : Sp := fun vs H Q _ => ∃ (a : Addr) (z : Str) (m : Int) (b : Bool), vs = [.ref a] ∧ At C H a z m b ∧ ∀ p, H p = none → Q (.ref p) (upd H p (.tup [.str z, .int m]))
theorem ok_point {f C : Addr} {fd : FuncData} (F : Fun K "point" "Saying.point" sPoint f fd) (T : Say K mg C) : FnOk P w K mg base CX0 1 f fd ["self"] (spPoint C) := by
  refine F.ok scPoint (fun vs H Q E h => ?_) (fun cdv A outer s H vs Q E hr h => ?_)
  · obtain ⟨a, z, m, b, rfl, _⟩ := h
    rfl
  · obtain ⟨a, z, m, b, rfl, ⟨dx, ha⟩, q⟩ := h
    refine ⟨_, pss_one (ps_ret (pe_tup (pa_cons (pe_fld (pv 0) rfl) (pa_cons (pe_fld (pv 0) rfl) pa_nil)))), ?_⟩
    refine ⟨_, rfl, a, C, dx, _, _, rfl, ha, T.cl, T.nT, sf_tool z m b, _, rfl, a, C, dx, _, _, rfl, ha, T.cl, T.nM, sf_moment z m b, (by show 2 ≤ sizeLine; decide), fun p hp => q p hp⟩
end
end K31

namespace K31
open PySem PySem.Spec PyProof.Rows L2 So
/-- a point as data -/
def dPt (z : Str) (m : Int) : PyData := .tuple [.str z, .int m]
theorem dp_pt {K : PySem.W.Frag} {H : Hp} {p : Addr} {z : Str} {m : Int} (h : H p = some (.tup [.str z, .int m])) : Dp K H (.ref p) (dPt z m) := .tup (SqT.of h) (.cons (.str z) (.cons (.int m) .nil))
theorem shaped_pt {z : Str} {m : Int} (h : PyData.strOk z = true) : SeqAt.shaped (dPt z m) = true := by
  unfold SeqAt.shaped dPt
  simp [PyData.canLay0, PyData.canLayAll0, PyData.depth, PyData.depthAll, h]
theorem eqv_pt (z z' : Str) (m m' : Int) : PyData.eqv (dPt z m) (dPt z' m') = decide (z = z' ∧ m = m') := by
  unfold dPt
  simp only [PyData.eqv, PyData.eqvAll, Bool.and_true]
  by_cases h1 : z = z' <;> by_cases h2 : m = m' <;> simp [h1, h2]
section
variable {P : Program} {w : World} {K : PySem.W.Frag} {mg : Str → Option Value} {base : Heap}
def spEq (K : PySem.W.Frag) (C : Addr) : Sp := fun vs H Q _ => ∃ (a : Addr) (y : V) (z : Str) (m : Int) (b : Bool), vs = [.ref a, y] ∧ At C H a z m b ∧ PyData.strOk z = true ∧
  ((∃ (a' : Addr) (z' : Str) (m' : Int) (b' : Bool), y = .ref a' ∧ At C H a' z' m' b' ∧ PyData.strOk z' = true ∧ ∀ H', Same H H' → Q (.bl (decide ((z = z' ∧ m = m') ∧ b = b'))) H') ∨ (∃ t, TyX K H y t ∧ PySem.W.kitOne K t (.ref C) = some false ∧ Q (.bl false) H))
theorem ok_eq {f C p g : Addr} {fd fdP : FuncData} (F : Fun K "__eq__" "Saying.__eq__" sEq f fd) (W : Words K mg) (T : Say K mg C) (hp : PropOf K C "point" p g) (bP : Binds K fdP ["self"] []) (GP : FnOk P w K mg base CX0 1 g fdP ["self"] (spPoint C)) :
    FnOk P w K mg base CX0 3 f fd ["self", "other"] (spEq K C) := by
  refine F.ok scEq (fun vs H Q E h => ?_) (fun cdv A outer s H vs Q E hr h => ?_)
  · obtain ⟨a, y, z, m, b, rfl, _⟩ := h
    rfl
  · obtain ⟨a, y, z, m, b, rfl, hA, hz, h⟩ := h
    refine ⟨_, pss_cons (ps_if (pt_not (pt_val (pe_callB call_isi (by rfl) W.isi (by decide +kernel) (pa_cons (pv 1) (pa_cons (pe_glob (v := .ref C) rfl T.mgC rfl) pa_nil))))) (pss_one (ps_ret pe_bl)) pss_nil)
      (pss_one (ps_ret (pe_and (pe_cmpR (op_eqD hr.units) (pe_prop (pv 0) T.cl hp GP hr bP .nil pass0 rfl) (pe_prop (pv 1) T.cl hp GP hr bP .nil pass0 rfl) (nomark _))
        (pe_one (pe_cmpR op_eq (pe_fld (pv 0) rfl) (pe_fld (pv 1) rfl) (nomark _)))))), ?_⟩
    rcases h with ⟨a', z', m', b', rfl, hA', hz', q⟩ | ⟨t, ty, hk, q⟩
    · obtain ⟨dx, ha⟩ := id hA
      obtain ⟨dx', ha'⟩ := id hA'
      refine ⟨_, rfl, _, _, _, _, true, rfl, .own C, .base (.ins ha' T.cl T.ha T.hn T.htk T.hm), T.me, true, rfl, iteF ?_⟩
      refine ⟨_, rfl, a, dx, _, rfl, ha, a, z, m, b, rfl, hA, fun p1 h1 => ?_⟩
      have n1 : ∀ {c : Addr} {o : HO}, H c = some o → (upd H p1 (.tup [.str z, .int m])) c = some o := fun e => (upd_ne (ne_of_none e h1)).trans e
      refine ⟨_, rfl, a', dx', _, rfl, n1 ha', a', z', m', b', rfl, ⟨dx', n1 ha'⟩, fun p2 h2 => ?_⟩
      have n2 : ∀ {c : Addr} {o : HO}, (upd H p1 (.tup [.str z, .int m])) c = some o → (upd (upd H p1 (.tup [.str z, .int m])) p2 (.tup [.str z', .int m'])) c = some o := fun e => (upd_ne (ne_of_none e h2)).trans e
      refine ⟨dPt z m, dPt z' m', dp_pt (n2 upd_same), dp_pt upd_same, shaped_pt hz, shaped_pt hz', _, rfl, ?_⟩
      rw [eqv_pt]
      have sm : Same H (upd (upd H p1 (.tup [.str z, .int m])) p2 (.tup [.str z', .int m'])) := fun c o e => n2 (n1 e)
      have qq := q _ sm
      refine ite2 (fun e => ?_) (fun e => ?_)
      · have e' := of_decide_eq_true e
        refine ⟨_, rfl, a, C, dx, _, _, rfl, n2 (n1 ha), T.cl, T.nS, sf_sound z m b, _, rfl, a', C, dx', _, _, rfl, n2 (n1 ha'), T.cl, T.nS, sf_sound z' m' b', rfl, ?_⟩
        have e2 : decide ((z = z' ∧ m = m') ∧ b = b') = decide (V.bl b = V.bl b') := by
          simp [e']
        rw [e2] at qq
        exact qq
      · have e' : ¬ (z = z' ∧ m = m') := fun z => e (decide_eq_true z)
        have e2 : decide ((z = z' ∧ m = m') ∧ b = b') = false := decide_eq_false fun q => e' q.1
        rw [e2] at qq
        exact qq
    · refine ⟨_, rfl, _, _, _, _, false, rfl, .own C, ty, hk, false, rfl, iteT ?_⟩
      exact q
end
end K31

namespace So
open PySem PySem.Spec PyProof.Rows L2
section
variable {X : Cx} {CX : CXT} {k : Nat} {C f : Addr} {fd : FuncData} {ps : List Str} {sp : Sp} {E : XK}
/-- str(o) of an instance whose class has an own __str__ -/
theorem call_strOwn (F : FnOk X.prog X.w X.K X.mg X.base CX k f fd ps sp) (hs : PySem.W.findIn X.K (.ref C) "__str__" = some (some (.ref f))) (hf : PySem.W.isFn X.K (.ref f) = true) (hb : Binds X.K fd ps []) (hx : Passes CX X E) (hr : Room (k + 2) X.A) :
    CallR X (.type "str") (fun xs H Q => ∃ a dx fs, xs = [.ref a] ∧ H a = some (.ins C dx fs) ∧ sp [.ref a] H (fun v H' => ∃ t : Str, v = .str t ∧ Q (.str t) H') E) := by
  intro pins s σ H xs us Q I r h
  obtain ⟨a, dx, fs, rfl, ha, q⟩ := h
  obtain ⟨u, rfl, ru⟩ := vals1 r
  cases ru
  obtain ⟨mA, J, _⟩ := ins_get I.hok ha
  obtain ⟨od, J, _⟩ := J.look
  have hr2 : Room k X.A.in1.in1 := hr.in1.in1
  refine PySem.W.kso_call hr2.units0 I.kIn J hs hf ?_
  have e0 : Env0 X.prog X.w X.K X.mg X.base X.A.in1.in1 X.stack s H := I.env0.in1.in1
  have hl : ([Value.ref a] ++ ([] : List Value)).length = ps.length := (F.len _ _ _ _ q : [V.ref a].length = ps.length)
  refine wpAny_call (codeAny_mono (F.run X.A.in1.in1 X.stack s H ⟨[.ref a], []⟩ ([Value.ref a] ++ []) [.ref a] _ E hr2 e0 (hb s [Value.ref a] I.kIn hl) (show Vals [V.ref a] [Value.ref a] from .cons rfl .nil) q) fun r s' hq => ?_)
  match r, hq with
  | .error e, hq => exact hx pins σ H s e s' I hq
  | .ok (.ret u), hq =>
    obtain ⟨v, H', I', rv, t, ev, q'⟩ := I.after hq
    subst ev
    obtain ⟨tk, rfl⟩ := rv
    exact ⟨.str t, H', I', ⟨tk, rfl⟩, q'⟩
  | .ok .next, hq => exact hq.elim
  | .ok .brk, hq => exact hq.elim
  | .ok .cont, hq => exact hq.elim
end
end So

namespace K31
open PySem PySem.Spec PyProof.Rows L2 So
section
variable {P : Program} {w : World} {K : PySem.W.Frag} {mg : Str → Option Value} {base : Heap}
/-- the text of a saying -/
def spStr (C : Addr) : Sp := fun vs H Q _ => ∃ (a : Addr) (z : Str) (m : Int) (b : Bool), vs = [.ref a] ∧ At C H a z m b ∧ z.length ≤ 2000 ∧ 0 ≤ m ∧ m ≤ 1000000000000000000000000000000 ∧ ∀ H', Same H H' → Q (.str (Txt.join " " [z, (toString m : String), wordOf b])) H'
theorem ok_str {f C fW : Addr} {fd fdW : FuncData} (F : Fun K "__str__" "Saying.__str__" sStr f fd) (W : Words K mg) (T : Say K mg C) (FW : Fun K "word_of" "word_of" sWordOf fW fdW) (bW : Binds K fdW ["value"] []) (gW : mg "word_of" = some (.ref fW)) :
    FnOk P w K mg base CX0 2 f fd ["self"] (spStr C) := by
  have GW : FnOk P w K mg base CX0 1 fW fdW ["value"] spWordOf := ok_wordOf FW W
  refine F.ok scStr (fun vs H Q E h => ?_) (fun cdv A outer s H vs Q E hr h => ?_)
  · obtain ⟨a, z, m, b, rfl, _⟩ := h
    rfl
  · obtain ⟨a, z, m, b, rfl, ⟨dx, ha⟩, hz, h0, h1, q⟩ := h
    refine ⟨_, pss_one (ps_ret (pe_join pe_str (pe_lst (pa_cons (pe_fld (pv 0) rfl) (pa_cons (pe_callTy call_str_int (by rfl) W.str (by decide +kernel) (pa_cons (pe_fld (pv 0) rfl) pa_nil)) (pa_cons (pe_call GW hr (by rfl) gW FW.kp bW .nil pass0 (pa_cons (pe_fld (pv 0) rfl) pa_nil)) pa_nil)))))), ?_⟩
    have hlog : m.natAbs.log2 < 1920 := by
      have : m.natAbs < 2 ^ 100 := by omega
      exact Nat.lt_of_lt_of_le (PySem.Flt.log2_lt_of (by decide) this) (by decide)
    refine ⟨⟨_, rfl⟩, _, rfl, a, C, dx, _, _, rfl, ha, T.cl, T.nT, sf_tool z m b, _, rfl, a, C, dx, _, _, rfl, ha, T.cl, T.nM, sf_moment z m b, m, rfl, hlog, _, rfl, a, C, dx, _, _, rfl, ha, T.cl, T.nS, sf_sound z m b, b, rfl, (by show 3 ≤ sizeLine; decide), fun p hp => ?_⟩
    refine ⟨_, p, [z, (toString m : String), wordOf b], rfl, rfl, .inl (SqL.of upd_same), ?_, q _ (Same.over (Same.refl H) hp)⟩
    have e1 : (Str.ofString (toString m)).length ≤ 1921 := by
      rw [PyProof.Rows.ofString_length]
      exact int_text_length_le (k := 1920) (by decide) hlog
    have e2 : (wordOf b).length ≤ 7 := by cases b <;> decide
    have e3 : ((" " : String) : Str).length = 1 := by decide
    show (z.length + ((Str.ofString (toString m)).length + ((wordOf b).length + 0))) + 3 * ((" " : String) : Str).length ≤ 16777216
    rw [e3]
    omega
end
end K31

namespace K31
open PySem PySem.Spec PyProof.Rows L2 So
abbrev sEC : Stmt := inClass (topS 6) 0
abbrev sInv : Stmt := inClass (topS 27) 6
abbrev sTInit : Stmt := inClass (topS 29) 0
abbrev sTInv : Stmt := inClass (topS 29) 1
abbrev sTEq : Stmt := inClass (topS 29) 2
abbrev sTStr : Stmt := inClass (topS 29) 3
theorem scEC : FnScope ["self", "at"] ["self", "at"] (defScope sEC) := ⟨rfl, rfl, rfl, by decide +kernel, rfl, by decide +kernel, by decide +kernel⟩
theorem scInv : FnScope ["self"] ["self"] (defScope sInv) := ⟨rfl, rfl, rfl, by decide +kernel, rfl, by decide +kernel, by decide +kernel⟩
theorem scTInit : FnScope ["self", "one", "other", "reason"] ["self", "one", "other", "reason"] (defScope sTInit) := ⟨rfl, rfl, rfl, by decide +kernel, rfl, by decide +kernel, by decide +kernel⟩
theorem scTInv : FnScope ["self"] ["self"] (defScope sTInv) := ⟨rfl, rfl, rfl, by decide +kernel, rfl, by decide +kernel, by decide +kernel⟩
theorem scTEq : FnScope ["self", "other"] ["self", "other"] (defScope sTEq) := ⟨rfl, rfl, rfl, by decide +kernel, rfl, by decide +kernel, by decide +kernel⟩
theorem scTStr : FnScope ["self"] ["self"] (defScope sTStr) := ⟨rfl, rfl, rfl, by decide +kernel, rfl, by decide +kernel, by decide +kernel⟩
theorem passNo {X : Cx} {P : Program} {w : World} : Passes (L2.CX P w) X (fun _ _ _ => False) := fun _ _ _ _ _ _ _ h => by
  obtain ⟨_, _, _, _, _, _, _, _, _, _, _, _, hE⟩ := h
  exact hE.elim
section
variable {P : Program} {w : World} {K : PySem.W.Frag} {mg : Str → Option Value} {base : Heap}
theorem ok_eC {C f : Addr} {fd : FuncData} (F : Fun K "__init__" "BadChain.__init__" sEC f fd) (O : OneE K mg "BadChain" "at" C f fd) : FnOk P w K mg base CX0 1 f fd ["self", "at"] (spOneE C "at") := by
  refine F.ok scEC (fun vs H Q E h => ?_) (fun cdv A outer s H vs Q E hr h => ?_)
  · obtain ⟨a, v, rfl, _⟩ := h
    rfl
  · obtain ⟨a, v, rfl, ha, q⟩ := h
    exact ⟨_, pss_one (ps_ost (pv 0) (pv 1)), _, rfl, _, rfl, a, C, rfl, O.T, O.no, .inl ⟨ha, fun dx h n => q dx h n⟩⟩
/-- the types of the odd values that are no whole numbers -/
def OddT (T : String) : Prop := T ∈ ["bool", "NoneType", "tuple", "dict", "list", "str"]
theorem kit_odd {T : String} (h : OddT T) : (PySem.W.kitOne K (.type T) (.type "int") = some (decide (T = "bool"))) ∧ (PySem.W.kitOne K (.type T) (.type "bool") = some (decide (T = "bool"))) ∧ (PySem.W.kitOne K (.type T) (.type "str") = some (decide (T = "str"))) := by
  simp only [OddT, List.mem_cons, List.mem_nil_iff, or_false] at h
  rcases h with rfl | rfl | rfl | rfl | rfl | rfl <;> exact ⟨kit_ty (by decide +kernel), kit_ty (by decide +kernel), kit_ty (by decide +kernel)⟩
/-- is_whole of an int, of another value -/
def spWholeG (K : PySem.W.Frag) : Sp := fun vs H Q _ => ∃ v : V, vs = [v] ∧ ((∃ i : Int, v = .int i ∧ Q (.bl true) H) ∨ (∃ T, OddT T ∧ TyX K H v (.type T) ∧ Q (.bl false) H))
theorem ok_wholeG {f : Addr} {fd : FuncData} (F : Fun K "is_whole" "is_whole" sWhole f fd) (W : Words K mg) : FnOk P w K mg base CX0 1 f fd ["value"] (spWholeG K) := by
  refine F.ok scWhole (fun vs H Q E h => ?_) (fun cdv A outer s H vs Q E hr h => ?_)
  · obtain ⟨i, rfl, _⟩ := h
    rfl
  · obtain ⟨v, rfl, h⟩ := h
    refine ⟨_, pss_one (ps_ret (pe_and (pe_callB call_isi (by rfl) W.isi (by decide +kernel) (pa_cons (pv 0) (pa_cons (pe_bltn (v := .ty "int") (by rfl) W.int (by decide +kernel) rfl) pa_nil)))
      (pe_one (pe_not (pe_callB call_isi (by rfl) W.isi (by decide +kernel) (pa_cons (pv 0) (pa_cons (pe_bltn (v := .ty "bool") (by rfl) W.bool (by decide +kernel) rfl) pa_nil))))))), ?_⟩
    rcases h with ⟨i, rfl, q⟩ | ⟨T, hT, ty, q⟩
    · refine ⟨_, rfl, _, _, _, _, true, rfl, .ty "int", .base (.int i), kit_int_int, true, rfl, iteT ?_⟩
      exact ⟨_, rfl, _, _, _, _, false, rfl, .ty "bool", .base (.int i), kit_int_bool, _, rfl, q⟩
    · obtain ⟨k1, k2, _⟩ := kit_odd (K := K) hT
      refine ⟨_, rfl, _, _, _, _, _, rfl, .ty "int", ty, k1, _, rfl, ite2 (fun e => ?_) (fun e => ?_)⟩
      · refine ⟨_, rfl, _, _, _, _, _, rfl, .ty "bool", ty, k2, _, rfl, ?_⟩
        have e' : decide (T = "bool") = true := e
        rw [e']
        exact q
      · have e' : decide (T = "bool") = false := by
          cases z : decide (T = "bool") with
          | false => rfl
          | true => exact absurd z e
        exact q
/-- the saying turned round -/
def spInv (C : Addr) : Sp := fun vs H Q _ => ∃ (a : Addr) (z : Str) (m : Int) (b : Bool), vs = [.ref a] ∧ At C H a z m b ∧ z.length ≤ 2000 ∧ isName z = true ∧ 0 ≤ m ∧ m ≤ 1000000000000000000000000000000 ∧ ∀ (H' : Hp) (a' : Addr), Same H H' → At C H' a' z m (!b) → Q (.ref a') H'
theorem made {C : Addr} {z : Str} {m : Int} {b : Bool} {H1 : Hp} {Q : VK} {E : XK} (hz : z.length ≤ 2000) (hn : isName z = true) (h0 : 0 ≤ m) (h1 : m ≤ 1000000000000000000000000000000) (h : ∀ (H' : Hp) (a : Addr), Same H1 H' → At C H' a z m b → Q (.ref a) H') :
    ∀ x dx, H1 x = none → H1 dx = none → dx ≠ x → spInit C (.ref x :: [.str z, .int m, .bl b]) (upd (upd H1 dx (.own x)) x (.ins C dx [])) (fun v H2 => v = .non ∧ Q (.ref x) H2) E := by
  intro x dx hx hd ne
  have s0 : Same H1 (upd (upd H1 dx (.own x)) x (.ins C dx [])) := fun c o e => by
    rw [upd_ne (ne_of_none e hx), upd_ne (ne_of_none e hd)]
    exact e
  refine ⟨x, dx, z, m, b, rfl, upd_same, hz, hn, h0, h1, fun H' o e => ⟨rfl, h H' x (fun c u k => o c u (ne_of_none k hx) (s0 c u k)) ⟨dx, e⟩⟩⟩
theorem ok_inv {f C fI : Addr} {fd fdI : FuncData} (F : Fun K "__invert__" "Saying.__invert__" sInv f fd) (T : Say K mg C) (M : Mk K C fI) (bI : Binds K fdI ["self", "tool", "moment", "is_sound"] []) (GI : FnOk P w K mg base CX0 4 fI fdI ["self", "tool", "moment", "is_sound"] (spInit C)) :
    FnOk P w K mg base CX0 6 f fd ["self"] (spInv C) := by
  refine F.ok scInv (fun vs H Q E h => ?_) (fun cdv A outer s H vs Q E hr h => ?_)
  · obtain ⟨a, z, m, b, rfl, _⟩ := h
    rfl
  · obtain ⟨a, z, m, b, rfl, ⟨dx, ha⟩, hz, hn, h0, h1, q⟩ := h
    refine ⟨_, pss_one (ps_ret (pe_make M GI hr (by rfl) T.mgC bI .nil pass0 (pa_cons (pe_fld (pv 0) rfl) (pa_cons (pe_fld (pv 0) rfl) (pa_cons (pe_not (pe_fld (pv 0) rfl)) pa_nil))))), ?_⟩
    refine ⟨_, rfl, a, C, dx, _, _, rfl, ha, T.cl, T.nT, sf_tool z m b, _, rfl, a, C, dx, _, _, rfl, ha, T.cl, T.nM, sf_moment z m b, _, rfl, a, C, dx, _, _, rfl, ha, T.cl, T.nS, sf_sound z m b, b, rfl, ?_⟩
    exact made hz hn h0 h1 q
/-! ### steps -/
/-- the attributes of a step -/
def pf (u v r : V) : List (Str × V) := [("one", u), ("other", v), ("reason", r)]
theorem pf_put (u v r : V) : putF "reason" r (putF "other" v (putF "one" u [])) = pf u v r := by
  have e1 : ¬ (("one" : Str) = "other") := by decide +kernel
  have e2 : ¬ (("one" : Str) = "reason") := by decide +kernel
  have e3 : ¬ (("other" : Str) = "reason") := by decide +kernel
  simp [putF, pf, e1, e2, e3]
theorem pf_one (u v r : V) : (pf u v r).lookup ("one" : Str) = some u := by
  simp [pf, List.lookup]
theorem pf_other (u v r : V) : (pf u v r).lookup ("other" : Str) = some v := by
  have e1 : (("other" : Str) == "one") = false := by decide +kernel
  simp [pf, List.lookup, e1]
theorem pf_reason (u v r : V) : (pf u v r).lookup ("reason" : Str) = some r := by
  have e1 : (("reason" : Str) == "one") = false := by decide +kernel
  have e2 : (("reason" : Str) == "other") = false := by decide +kernel
  simp [pf, List.lookup, e1, e2]
/-- what the top says of the class Step, at C -/
structure Stp (K : PySem.W.Frag) (mg : Str → Option Value) (C : Addr) : Prop where
  cl : Cls K C
  nO : NoAttr K C "one"
  nT : NoAttr K C "other"
  nR : NoAttr K C "reason"
  mgC : mg "Step" = some (.ref C)
/-- a saying; something else -/
def Sy (CS : Addr) (H : Hp) (u : V) : Prop := ∃ a z m b, u = .ref a ∧ At CS H a z m b
def NoS (K : PySem.W.Frag) (CS : Addr) (H : Hp) (u : V) : Prop := ∃ t, TyX K H u t ∧ PySem.W.kitOne K t (.ref CS) = some false
/-- a reason, or none -/
def Rsn (K : PySem.W.Frag) (H : Hp) (r : V) (ok : Bool) : Prop := (∃ i : Int, r = .int i ∧ ok = decide (0 ≤ i)) ∨ (∃ z : Str, r = .str z ∧ z.length ≤ 2000 ∧ ok = decide (z = "time")) ∨ (∃ T, OddT T ∧ T ≠ "str" ∧ TyX K H r (.type T) ∧ ok = false)
def Bad (CB : Addr) (v : V) (H : Hp) (E : XK) : Prop := ∀ d H', Same H H' → H' d = some (.xd [("at", v)]) → E (.ref CB) (some d) H'
def spTInit (K : PySem.W.Frag) (CS CB C : Addr) : Sp := fun vs H Q E => ∃ (x dx : Addr) (u v r : V), vs = [.ref x, u, v, r] ∧ H x = some (.ins C dx []) ∧
  ((NoS K CS H u ∧ Bad CB (.int 0) H E) ∨ (Sy CS H u ∧ ((NoS K CS H v ∧ Bad CB (.int 1) H E) ∨ (Sy CS H v ∧ ((Rsn K H r false ∧ Bad CB (.int 2) H E) ∨ (Rsn K H r true ∧ ∀ H', Off x H H' → H' x = some (.ins C dx (pf u v r)) → Q .non H'))))))
theorem isi_say {CS : Addr} {H : Hp} {u : V} (T : Say K mg CS) (h : Sy CS H u) : ∃ t, TyX K H u t ∧ PySem.W.kitOne K t (.ref CS) = some true := by
  obtain ⟨a, z, m, b, rfl, dx, ha⟩ := h
  exact ⟨_, .base (.ins ha T.cl T.ha T.hn T.htk T.hm), T.me⟩
theorem ok_tinit {f C CS CB fW fB : Addr} {fd fdW fdB : FuncData} (F : Fun K "__init__" "Step.__init__" sTInit f fd) (W : Words K mg) (T : Say K mg CS) (S : Stp K mg C) (FB : Fun K "__init__" "BadChain.__init__" sEC fB fdB) (OB : OneE K mg "BadChain" "at" CB fB fdB)
    (FW : Fun K "is_whole" "is_whole" sWhole fW fdW) (bW : Binds K fdW ["value"] []) (gW : mg "is_whole" = some (.ref fW)) : FnOk P w K mg base (L2.CX P w) 3 f fd ["self", "one", "other", "reason"] (spTInit K CS CB C) := by
  have GW : FnOk P w K mg base CX0 1 fW fdW ["value"] (spWholeG K) := ok_wholeG FW W
  have GB : FnOk P w K mg base CX0 1 fB fdB ["self", "at"] (spOneE CB "at") := ok_eC FB OB
  refine F.okX scTInit (fun vs H Q E h => ?_) (fun cdv A outer s H vs Q E hr h => ?_)
  · obtain ⟨x, dx, u, v, r, rfl, _⟩ := h
    rfl
  · obtain ⟨x, dx, u, v, r, rfl, hx, h⟩ := h
    have hr1 : Room 1 _ := hr.mono (by decide)
    refine ⟨_, pss_cons (ps_if (pt_not (pt_val (pe_callB call_isi (by rfl) W.isi (by decide +kernel) (pa_cons (pv 1) (pa_cons (pe_glob (v := .ref CS) rfl T.mgC rfl) pa_nil))))) (pss_one (ps_raiseOne OB GB rfl hr (takes_of rfl rfl rfl rfl) (by rfl) (pa_cons pe_int pa_nil))) pss_nil)
      (pss_cons (ps_if (pt_not (pt_val (pe_callB call_isi (by rfl) W.isi (by decide +kernel) (pa_cons (pv 2) (pa_cons (pe_glob (v := .ref CS) rfl T.mgC rfl) pa_nil))))) (pss_one (ps_raiseOne OB GB rfl hr (takes_of rfl rfl rfl rfl) (by rfl) (pa_cons pe_int pa_nil))) pss_nil)
      (pss_cons (ps_if (PW.pt (pw_and (pt_not (PW.pt (pw_and (pt_val (pe_call GW hr1 (by rfl) gW FW.kp bW .nil pass0 (pa_cons (pv 3) pa_nil))) (pw_and1 (pt_cmpR op_ge (pv 3) pe_int (nomark _))))))
          (pw_and1 (pt_not (PW.pt (pw_and (pt_val (pe_callB call_isi (by rfl) W.isi (by decide +kernel) (pa_cons (pv 3) (pa_cons (pe_bltn (v := .ty "str") (by rfl) W.str (by decide +kernel) rfl) pa_nil)))) (pw_and1 (pt_cmpR op_eq (pv 3) pe_str (nomark _)))))))))
        (pss_one (ps_raiseOne OB GB rfl hr (takes_of rfl rfl rfl rfl) (by rfl) (pa_cons pe_int pa_nil))) pss_nil)
      (pss_cons (ps_fld (pv 0) (pv 1) rfl) (pss_cons (ps_fld (pv 0) (pv 2) rfl) (pss_one (ps_fld (pv 0) (pv 3) rfl)))))), ?_⟩
    rcases h with ⟨⟨t, ty, k⟩, bad⟩ | ⟨hu, h⟩
    · refine ⟨_, rfl, _, _, _, _, false, rfl, .own CS, ty, k, false, rfl, iteT ?_⟩
      exact mkOne rfl fun d H' s2 _ e => bad d H' s2 e
    · obtain ⟨t, ty, k⟩ := isi_say T hu
      refine ⟨_, rfl, _, _, _, _, true, rfl, .own CS, ty, k, true, rfl, iteF ?_⟩
      rcases h with ⟨⟨t, ty, k⟩, bad⟩ | ⟨hv, h⟩
      · refine ⟨_, rfl, _, _, _, _, false, rfl, .own CS, ty, k, false, rfl, iteT ?_⟩
        exact mkOne rfl fun d H' s2 _ e => bad d H' s2 e
      · obtain ⟨t, ty, k⟩ := isi_say T hv
        refine ⟨_, rfl, _, _, _, _, true, rfl, .own CS, ty, k, true, rfl, iteF ?_⟩
        have kis : PySem.W.kitOne K (.type "int") (.type "str") = some false := kit_ty (by decide +kernel)
        rcases h with ⟨hR, bad⟩ | ⟨hR, q⟩
        · rcases hR with ⟨i, rfl, e⟩ | ⟨z, rfl, hz, e⟩ | ⟨T', hT, hs, ty', _⟩
          · refine ⟨_, rfl, _, rfl, .inl ⟨i, rfl, true, rfl, iteT ?_⟩⟩
            refine ⟨_, rfl, _, _, rfl, rfl, _, rfl, ?_⟩
            rw [← e]
            refine iteT ?_
            refine ⟨_, rfl, _, _, _, _, false, rfl, .ty "str", .base (.int i), kis, false, rfl, iteF ?_⟩
            refine iteT ?_
            exact mkOne rfl fun d H' s2 _ e => bad d H' s2 e
          · refine ⟨_, rfl, _, rfl, .inr ⟨"str", by simp [OddT], .base (.str z), false, rfl, iteF ?_⟩⟩
            refine iteT ?_
            refine ⟨_, rfl, _, _, _, _, true, rfl, .ty "str", .base (.str z), kit_ty (by decide +kernel), true, rfl, iteT ?_⟩
            refine ⟨_, rfl, rfl, _, rfl, ?_⟩
            have e1 : decide (V.str z = V.str "time") = false := decide_eq_false (fun c => (of_decide_eq_false e.symm) (V.str.inj c))
            rw [e1]
            refine iteT ?_
            exact mkOne rfl fun d H' s2 _ e => bad d H' s2 e
          · refine ⟨_, rfl, _, rfl, .inr ⟨T', hT, ty', false, rfl, iteF ?_⟩⟩
            refine iteT ?_
            have k3 := (kit_odd (K := K) hT).2.2
            rw [decide_eq_false hs] at k3
            refine ⟨_, rfl, _, _, _, _, false, rfl, .ty "str", ty', k3, false, rfl, iteF ?_⟩
            refine iteT ?_
            exact mkOne rfl fun d H' s2 _ e => bad d H' s2 e
        · rcases hR with ⟨i, rfl, e⟩ | ⟨z, rfl, hz, e⟩ | ⟨_, _, _, _, e⟩
          · refine ⟨_, rfl, _, rfl, .inl ⟨i, rfl, true, rfl, iteT ?_⟩⟩
            refine ⟨_, rfl, _, _, rfl, rfl, _, rfl, ?_⟩
            rw [← e]
            refine iteF (iteF ?_)
            refine ⟨_, rfl, _, rfl, x, C, dx, [], rfl, hx, S.cl, S.nO, (by show 0 < 1000; decide), ?_⟩
            refine ⟨_, rfl, _, rfl, x, C, dx, _, rfl, upd_same, S.cl, S.nT, (by show 1 < 1000; decide), ?_⟩
            refine ⟨_, rfl, _, rfl, x, C, dx, _, rfl, upd_same, S.cl, S.nR, ?_, ?_⟩
            · exact Nat.lt_of_le_of_lt (length_putF _ _ _) (by show 1 + 1 < 1000; decide)
            · refine q _ (fun c o n e => ?_) ?_
              · rw [upd_ne n, upd_ne n, upd_ne n]
                exact e
              · rw [upd_same, pf_put]
          · obtain rfl : z = "time" := of_decide_eq_true e.symm
            refine ⟨_, rfl, _, rfl, .inr ⟨"str", by simp [OddT], .base (.str _), false, rfl, iteF ?_⟩⟩
            refine iteT ?_
            refine ⟨_, rfl, _, _, _, _, true, rfl, .ty "str", .base (.str _), kit_ty (by decide +kernel), true, rfl, iteT ?_⟩
            refine ⟨_, rfl, rfl, _, rfl, ?_⟩
            rw [show decide (V.str "time" = V.str "time") = true from decide_eq_true rfl]
            refine iteF ?_
            refine ⟨_, rfl, _, rfl, x, C, dx, [], rfl, hx, S.cl, S.nO, (by show 0 < 1000; decide), ?_⟩
            refine ⟨_, rfl, _, rfl, x, C, dx, _, rfl, upd_same, S.cl, S.nT, (by show 1 < 1000; decide), ?_⟩
            refine ⟨_, rfl, _, rfl, x, C, dx, _, rfl, upd_same, S.cl, S.nR, ?_, ?_⟩
            · exact Nat.lt_of_le_of_lt (length_putF _ _ _) (by show 1 + 1 < 1000; decide)
            · refine q _ (fun c o n e => ?_) ?_
              · rw [upd_ne n, upd_ne n, upd_ne n]
                exact e
              · rw [upd_same, pf_put]
          · cases e
end
end K31

/-! {o!s} of an instance whose class has an own __str__ -/
namespace So
open PySem PySem.Spec PyProof.Rows L2
def tFmtS (C : Addr) (sp : Sp) (E : XK) (te : TE) : TE := fun σ H Q => te σ H fun x H1 => ∃ a dx fs, x = .ref a ∧ H1 a = some (.ins C dx fs) ∧ sp [.ref a] H1 (fun v H' => ∃ t : Str, v = .str t ∧ t.length ≤ sizeLine ∧ Q (.str t) H') E
section
variable {X : Cx} {CX : CXT} {k : Nat} {C f : Addr} {fd : FuncData} {ps : List Str} {sp : Sp} {E : XK}
theorem pe_fmtS {e : Expr} {te : TE} {pos : Pos} (he : PE X e te) (F : FnOk X.prog X.w X.K X.mg X.base CX k f fd ps sp) (hs : PySem.W.findIn X.K (.ref C) "__str__" = some (some (.ref f))) (hf : PySem.W.isFn X.K (.ref f) = true) (hb : Binds X.K fd ps []) (hx : Passes CX X E) (hr : Room k X.A) :
    PE X (.FormattedValue e 115 none pos) (tFmtS C sp E te) := by
  refine ⟨fun pins s σ H Q I h => ?_⟩
  refine wpAny_FormattedValue_s (thn (he.run pins s σ H _ I h) fun v s1 ⟨x, H1, I1, rx, a, dx, fs, ex, ha, q⟩ => ?_)
  subst ex
  obtain rfl : v = Value.ref a := rx
  obtain ⟨mA, J, _⟩ := ins_get I1.hok ha
  obtain ⟨od, J, _⟩ := J.look
  show wpAny _ _ (pyStrObj (.ref a)) _ _ s1
  unfold pyStrObj
  refine wpAny_bind (m := cRoomFor _ _) (wpAny_cRoomFor hr.units0 ?_)
  refine wpAny_bind (m := callSpecial? (.ref a) (Str.ofString "__str__")) (PySem.W.special_fn I1.kIn J hs (beq_iff_eq.mp hf) ?_)
  refine thn (run_fn (us := [.ref a]) (vs := [.ref a]) F hr hb .nil hx I1 (.cons rfl .nil) q) fun r s2 ⟨v, H2, I2, rv, t, ev, hz, q2⟩ => ?_
  subst ev
  obtain ⟨tk, rfl⟩ := rv
  refine wpAny_bind (wpAny_isInstance (T := "str") (b := true) rfl isSubtype_str_str (wpAny_pure ?_))
  exact wpAny_formatField_str ⟨.str t, H2, I2, ⟨tk, rfl⟩, q2⟩ ⟨.str t, H2, I2.tok _, ⟨_, rfl⟩, q2⟩ hz
end
end So

namespace K31
open PySem PySem.Spec PyProof.Rows L2 So
/-! ### faces and parts: what sayings and steps are made of -/
structure Face where
  z : Str
  m : Int
  b : Bool
  deriving DecidableEq
def Face.nt (f : Face) : Face := ⟨f.z, f.m, !f.b⟩
structure Face.Ok (f : Face) : Prop where
  len : f.z.length ≤ 2000
  ok : PyData.strOk f.z = true
  nm : isName f.z = true
  m0 : 0 ≤ f.m
  m1 : f.m ≤ 1000000000000000000000000000000
theorem Face.Ok.nt {f : Face} (h : f.Ok) : f.nt.Ok := ⟨h.len, h.ok, h.nm, h.m0, h.m1⟩
def Face.txt (f : Face) : Str := Txt.join " " [f.z, (toString f.m : String), wordOf f.b]
def txtR : V → Str
  | .int i => (toString i : String)
  | .str z => z
  | _ => ""
/-- a reason -/
def isR (r : V) : Prop := (∃ i : Int, r = .int i ∧ 0 ≤ i ∧ i ≤ 1000000000000000000000000000000) ∨ r = .str "time"
structure Part where
  u : Face
  v : Face
  r : V
  deriving DecidableEq
structure Part.Ok (p : Part) : Prop where
  u : p.u.Ok
  v : p.v.Ok
  r : isR p.r
def Part.nt (p : Part) : Part := ⟨p.v.nt, p.u.nt, p.r⟩
theorem Part.Ok.nt {p : Part} (h : p.Ok) : p.nt.Ok := ⟨h.v.nt, h.u.nt, h.r⟩
def Part.txt (p : Part) : Str := Str.empty ++ p.u.txt ++ ", " ++ p.v.txt ++ " by " ++ txtR p.r
def SayAt (CS : Addr) (H : Hp) (u : V) (f : Face) : Prop := ∃ a, u = .ref a ∧ At CS H a f.z f.m f.b
theorem SayAt.same {CS : Addr} {H H' : Hp} {u : V} {f : Face} (h : SayAt CS H u f) (s : Same H H') : SayAt CS H' u f := by
  obtain ⟨a, e, dx, ha⟩ := h
  exact ⟨a, e, dx, s _ _ ha⟩
theorem SayAt.sy {CS : Addr} {H : Hp} {u : V} {f : Face} (h : SayAt CS H u f) : Sy CS H u := by
  obtain ⟨a, e, ha⟩ := h
  exact ⟨a, _, _, _, e, ha⟩
/-- at a stands the step p -/
def StAt (CS C : Addr) (H : Hp) (a : Addr) (p : Part) : Prop := ∃ dx u v, H a = some (.ins C dx (pf u v p.r)) ∧ SayAt CS H u p.u ∧ SayAt CS H v p.v
theorem StAt.same {CS C : Addr} {H H' : Hp} {a : Addr} {p : Part} (h : StAt CS C H a p) (s : Same H H') : StAt CS C H' a p := by
  obtain ⟨dx, u, v, ha, hu, hv⟩ := h
  exact ⟨dx, u, v, s _ _ ha, hu.same s, hv.same s⟩
theorem mom_log {m : Int} (h0 : 0 ≤ m) (h1 : m ≤ 1000000000000000000000000000000) : m.natAbs.log2 < 1920 := by
  have : m.natAbs < 2 ^ 100 := by omega
  exact Nat.lt_of_lt_of_le (PySem.Flt.log2_lt_of (by decide) this) (by decide)
theorem num_len {m : Int} (h0 : 0 ≤ m) (h1 : m ≤ 1000000000000000000000000000000) : (Str.ofString (toString m)).length ≤ 1921 := by
  rw [PyProof.Rows.ofString_length]
  exact int_text_length_le (k := 1920) (by decide) (mom_log h0 h1)
theorem txtR_len {r : V} (h : isR r) : (txtR r).length ≤ 1921 := by
  rcases h with ⟨i, rfl, h0, h1⟩ | rfl
  · exact num_len h0 h1
  · decide
theorem isR.rsn {K : PySem.W.Frag} {H : Hp} {r : V} (h : isR r) : Rsn K H r true := by
  rcases h with ⟨i, rfl, h0, h1⟩ | rfl
  · exact .inl ⟨i, rfl, (decide_eq_true h0).symm⟩
  · exact .inr (.inl ⟨_, rfl, by decide, (decide_eq_true rfl).symm⟩)
theorem madeT {K : PySem.W.Frag} {CS CB C : Addr} {u v r : V} {H1 : Hp} {Q : VK} {E : XK} (hu : Sy CS H1 u) (hv : Sy CS H1 v) (hr : ∀ H, Rsn K H r true) (h : ∀ (H' : Hp) (a dx : Addr), Same H1 H' → H' a = some (.ins C dx (pf u v r)) → Q (.ref a) H') :
    ∀ x dx, H1 x = none → H1 dx = none → dx ≠ x → spTInit K CS CB C (.ref x :: [u, v, r]) (upd (upd H1 dx (.own x)) x (.ins C dx [])) (fun w H2 => w = .non ∧ Q (.ref x) H2) E := by
  intro x dx hx hd ne
  have s0 : Same H1 (upd (upd H1 dx (.own x)) x (.ins C dx [])) := fun c o e => by
    rw [upd_ne (ne_of_none e hx), upd_ne (ne_of_none e hd)]
    exact e
  have sy : ∀ {y : V}, Sy CS H1 y → Sy CS (upd (upd H1 dx (.own x)) x (.ins C dx [])) y := fun ⟨a, z, m, b, e, d, ha⟩ => ⟨a, z, m, b, e, d, s0 _ _ ha⟩
  exact ⟨x, dx, u, v, r, rfl, upd_same, .inr ⟨sy hu, .inr ⟨sy hv, .inr ⟨hr _, fun H' o e => ⟨rfl, h H' x dx (fun c u k => o c u (ne_of_none k hx) (s0 c u k)) e⟩⟩⟩⟩⟩
section
variable {P : Program} {w : World} {K : PySem.W.Frag} {mg : Str → Option Value} {base : Heap}
def spTInv (CS C : Addr) : Sp := fun vs H Q _ => ∃ (a : Addr) (p : Part), vs = [.ref a] ∧ StAt CS C H a p ∧ p.Ok ∧ ∀ (H' : Hp) (a' : Addr), Same H H' → StAt CS C H' a' p.nt → Q (.ref a') H'
theorem ok_tinv {f C CS CB fI fV : Addr} {fd fdI fdV : FuncData} (F : Fun K "__invert__" "Step.__invert__" sTInv f fd) (T : Say K mg CS) (S : Stp K mg C) (M : Mk K C fI) (bI : Binds K fdI ["self", "one", "other", "reason"] []) (GI : FnOk P w K mg base (L2.CX P w) 3 fI fdI ["self", "one", "other", "reason"] (spTInit K CS CB C))
    (sV : PySem.W.findIn K (.ref CS) "__invert__" = some (some (.ref fV))) (iV : PySem.W.isFn K (.ref fV) = true) (bV : Binds K fdV ["self"] []) (GV : FnOk P w K mg base CX0 6 fV fdV ["self"] (spInv CS)) : FnOk P w K mg base CX0 7 f fd ["self"] (spTInv CS C) := by
  refine F.ok scTInv (fun vs H Q E h => ?_) (fun cdv A outer s H vs Q E hr h => ?_)
  · obtain ⟨a, p, rfl, _⟩ := h
    rfl
  · obtain ⟨a, p, rfl, hA, ho, q⟩ := h
    have hr4 : Room 4 _ := hr.mono (by decide)
    refine ⟨_, pss_one (ps_ret (pe_make M GI hr4 (by rfl) S.mgC bI .nil passNo (pa_cons (pe_un (un_invOwn GV sV iV bV pass0 hr) (pe_fld (pv 0) rfl)) (pa_cons (pe_un (un_invOwn GV sV iV bV pass0 hr) (pe_fld (pv 0) rfl)) (pa_cons (pe_fld (pv 0) rfl) pa_nil))))), ?_⟩
    obtain ⟨dx, u, v, ha, ⟨au, rfl, du, hu⟩, ⟨av, rfl, dv, hv⟩⟩ := id hA
    refine ⟨_, rfl, a, C, dx, _, _, rfl, ha, S.cl, S.nT, pf_other _ _ _, av, dv, _, rfl, hv, av, _, _, _, rfl, ⟨dv, hv⟩, ho.v.len, ho.v.nm, ho.v.m0, ho.v.m1, fun H1 a1 s1 k1 => ?_⟩
    refine ⟨_, rfl, a, C, dx, _, _, rfl, s1 _ _ ha, S.cl, S.nO, pf_one _ _ _, au, du, _, rfl, s1 _ _ hu, au, _, _, _, rfl, ⟨du, s1 _ _ hu⟩, ho.u.len, ho.u.nm, ho.u.m0, ho.u.m1, fun H2 a2 s2 k2 => ?_⟩
    refine ⟨_, rfl, a, C, dx, _, _, rfl, s2 _ _ (s1 _ _ ha), S.cl, S.nR, pf_reason _ _ _, ?_⟩
    have y1 : SayAt CS H2 (.ref a1) p.v.nt := SayAt.same ⟨a1, rfl, k1⟩ s2
    have y2 : SayAt CS H2 (.ref a2) p.u.nt := ⟨a2, rfl, k2⟩
    exact madeT y1.sy y2.sy (fun _ => ho.r.rsn) fun H' a' dx' s3 e => q H' a' ((s1.trans s2).trans s3) ⟨dx', _, _, e, y1.same s3, y2.same s3⟩
def spTEq (K : PySem.W.Frag) (CS C : Addr) : Sp := fun vs H Q _ => ∃ (a : Addr) (y : V) (p : Part), vs = [.ref a, y] ∧ StAt CS C H a p ∧ p.Ok ∧
  ((∃ (a' : Addr) (p' : Part), y = .ref a' ∧ StAt CS C H a' p' ∧ p'.Ok ∧ ∀ H', Same H H' → Q (.bl (decide (p = p'))) H') ∨ (∃ t, TyX K H y t ∧ PySem.W.kitOne K t (.ref C) = some false ∧ Q (.bl false) H))
/-- what the top says more of a class that is asked of its own things -/
structure Own1 (K : PySem.W.Frag) (C : Addr) : Prop where
  ha : PySem.W.findIn K (.ref C) "__class__" = some (some (.builtin "object.__class__"))
  hn : PySem.W.specialIn K (.builtin "object.__class__") "__get__" = some (some (.builtin "getset_descriptor.__get__"))
  htk : PySem.W.takesIn K (.builtin "object.__class__") = some true
  hm : PySem.W.mroIn K C (.type "object") = some true
  me : PySem.W.kitOne K (.ref C) (.ref C) = some true
  nf : PySem.W.notFirst K C (.ref C) = true
  no : ∀ T, T ∈ ["tuple", "str", "NoneType", "int", "bool", "list", "dict"] → PySem.W.kitOne K (.type T) (.ref C) = some false ∧ PySem.W.notFirst K C (.type T) = true
theorem scal_R {r r' : V} (h : isR r) (h' : isR r') : scal r r' = true := by
  rcases h with ⟨i, rfl, _⟩ | rfl <;> rcases h' with ⟨j, rfl, _⟩ | rfl <;> rfl
theorem ok_teq {f C CS fE : Addr} {fd fdE : FuncData} (F : Fun K "__eq__" "Step.__eq__" sTEq f fd) (W : Words K mg) (T : Say K mg CS) (S : Stp K mg C) (OC : Own1 K C) (OS : Own1 K CS) (sE : PySem.W.findIn K (.ref CS) "__eq__" = some (some (.ref fE))) (iE : PySem.W.isFn K (.ref fE) = true) (bE : Binds K fdE ["self", "other"] [])
    (GE : FnOk P w K mg base CX0 3 fE fdE ["self", "other"] (spEq K CS)) : FnOk P w K mg base CX0 4 f fd ["self", "other"] (spTEq K CS C) := by
  refine F.ok scTEq (fun vs H Q E h => ?_) (fun cdv A outer s H vs Q E hr h => ?_)
  · obtain ⟨a, y, p, rfl, _⟩ := h
    rfl
  · obtain ⟨a, y, p, rfl, hA, ho, h⟩ := h
    refine ⟨_, pss_cons (ps_if (pt_not (pt_val (pe_callB call_isi (by rfl) W.isi (by decide +kernel) (pa_cons (pv 1) (pa_cons (pe_glob (v := .ref C) rfl S.mgC rfl) pa_nil))))) (pss_one (ps_ret pe_bl)) pss_nil)
      (pss_one (ps_ret (pe_and (pe_cmpR (op_eqOwn GE sE iE bE pass0 hr) (pe_fld (pv 0) rfl) (pe_fld (pv 1) rfl) (nomark _)) (pe_and (pe_cmpR (op_eqOwn GE sE iE bE pass0 hr) (pe_fld (pv 0) rfl) (pe_fld (pv 1) rfl) (nomark _)) (pe_one (pe_cmpR op_eq (pe_fld (pv 0) rfl) (pe_fld (pv 1) rfl) (nomark _))))))), ?_⟩
    rcases h with ⟨a', p', rfl, hA', ho', q⟩ | ⟨t, ty, hk, q⟩
    · obtain ⟨dx, u, v, ha, ⟨au, rfl, du, hu⟩, ⟨av, rfl, dv, hv⟩⟩ := id hA
      obtain ⟨dx', u', v', ha', ⟨au', rfl, du', hu'⟩, ⟨av', rfl, dv', hv'⟩⟩ := id hA'
      refine ⟨_, rfl, _, _, _, _, true, rfl, .own C, .base (.ins ha' S.cl OC.ha OC.hn OC.htk OC.hm), OC.me, true, rfl, iteF ?_⟩
      refine ⟨_, rfl, a, C, dx, _, _, rfl, ha, S.cl, S.nO, pf_one _ _ _, _, rfl, a', C, dx', _, _, rfl, ha', S.cl, S.nO, pf_one _ _ _, ?_⟩
      refine ⟨au, du, _, _, rfl, hu, .base (.ins hu' T.cl T.ha T.hn T.htk T.hm), OS.nf, ?_⟩
      refine ⟨au, .ref au', _, _, _, rfl, ⟨du, hu⟩, ho.u.ok, .inl ⟨au', _, _, _, rfl, ⟨du', hu'⟩, ho'.u.ok, fun H1 s1 => ?_⟩⟩
      refine ⟨_, rfl, _, rfl, ite2 (fun e => ?_) (fun e => ?_)⟩
      · have e1 := of_decide_eq_true e
        refine ⟨_, rfl, a, C, dx, _, _, rfl, s1 _ _ ha, S.cl, S.nT, pf_other _ _ _, _, rfl, a', C, dx', _, _, rfl, s1 _ _ ha', S.cl, S.nT, pf_other _ _ _, ?_⟩
        refine ⟨av, dv, _, _, rfl, s1 _ _ hv, .base (.ins (s1 _ _ hv') T.cl T.ha T.hn T.htk T.hm), OS.nf, ?_⟩
        refine ⟨av, .ref av', _, _, _, rfl, ⟨dv, s1 _ _ hv⟩, ho.v.ok, .inl ⟨av', _, _, _, rfl, ⟨dv', s1 _ _ hv'⟩, ho'.v.ok, fun H2 s2 => ?_⟩⟩
        refine ⟨_, rfl, _, rfl, ite2 (fun e => ?_) (fun e => ?_)⟩
        · have e2 := of_decide_eq_true e
          refine ⟨_, rfl, a, C, dx, _, _, rfl, s2 _ _ (s1 _ _ ha), S.cl, S.nR, pf_reason _ _ _, _, rfl, a', C, dx', _, _, rfl, s2 _ _ (s1 _ _ ha'), S.cl, S.nR, pf_reason _ _ _, scal_R ho.r ho'.r, ?_⟩
          have qq := q H2 (s1.trans s2)
          have e3 : decide (p = p') = decide (p.r = p'.r) := by
            obtain ⟨⟨z1, m1, b1⟩, ⟨z2, m2, b2⟩, r⟩ := p
            obtain ⟨⟨z1', m1', b1'⟩, ⟨z2', m2', b2'⟩, r'⟩ := p'
            obtain ⟨⟨f1, f2⟩, f3⟩ := e1
            obtain ⟨⟨g1, g2⟩, g3⟩ := e2
            simp only at f1 f2 f3 g1 g2 g3
            subst f1 f2 f3 g1 g2 g3
            by_cases hr : r = r' <;> simp [hr]
          rw [e3] at qq
          exact qq
        · have qq := q H2 (s1.trans s2)
          have e3 : decide (p = p') = false := decide_eq_false fun c => e (decide_eq_true (by rw [c]; exact ⟨⟨rfl, rfl⟩, rfl⟩))
          rw [e3] at qq
          exact qq
      · have qq := q H1 s1
        have e3 : decide (p = p') = false := decide_eq_false fun c => e (decide_eq_true (by rw [c]; exact ⟨⟨rfl, rfl⟩, rfl⟩))
        rw [e3] at qq
        exact qq
    · exact ⟨_, rfl, _, _, _, _, false, rfl, .own C, ty, hk, false, rfl, iteT q⟩
def spTStr (CS C : Addr) : Sp := fun vs H Q _ => ∃ (a : Addr) (p : Part), vs = [.ref a] ∧ StAt CS C H a p ∧ p.Ok ∧ ∀ H', Same H H' → Q (.str p.txt) H'
theorem face_len {f : Face} (h : f.Ok) : f.txt.length ≤ 5000 := by
  have e1 := num_len h.m0 h.m1
  have e2 : (wordOf f.b).length ≤ 7 := by cases f.b <;> decide
  have e3 : ((" " : String) : Str).length = 1 := by decide
  have hl := h.len
  have e4 : f.txt = f.z ++ ((" " : String) : Str) ++ Str.ofString (toString f.m) ++ ((" " : String) : Str) ++ wordOf f.b := rfl
  rw [e4]
  simp only [Str.length_append, e3]
  omega
theorem ok_tstr {f C CS fS : Addr} {fd fdS : FuncData} (F : Fun K "__str__" "Step.__str__" sTStr f fd) (T : Say K mg CS) (S : Stp K mg C) (sS : PySem.W.findIn K (.ref CS) "__str__" = some (some (.ref fS))) (iS : PySem.W.isFn K (.ref fS) = true) (bS : Binds K fdS ["self"] [])
    (GS : FnOk P w K mg base CX0 2 fS fdS ["self"] (spStr CS)) : FnOk P w K mg base CX0 3 f fd ["self"] (spTStr CS C) := by
  refine F.ok scTStr (fun vs H Q E h => ?_) (fun cdv A outer s H vs Q E hr h => ?_)
  · obtain ⟨a, p, rfl, _⟩ := h
    rfl
  · obtain ⟨a, p, rfl, hA, ho, q⟩ := h
    refine ⟨_, pss_one (ps_ret (pe_joined (.cons (pe_fmtS (pe_fld (pv 0) rfl) GS sS iS bS pass0 hr) (.cons pe_str (.cons (pe_fmtS (pe_fld (pv 0) rfl) GS sS iS bS pass0 hr) (.cons pe_str (.cons (pe_fmt (pe_fld (pv 0) rfl)) .nil))))))), ?_⟩
    obtain ⟨dx, u, v, ha, ⟨au, rfl, du, hu⟩, ⟨av, rfl, dv, hv⟩⟩ := id hA
    have l1 := face_len ho.u
    have l2 := face_len ho.v
    have l3 := txtR_len ho.r
    have hss := sizeLine_eq
    have e0 : Str.empty.length = 0 := by decide
    have c1 : ((", " : String) : Str).length = 2 := by decide
    have c2 : ((" by " : String) : Str).length = 4 := by decide
    refine ⟨_, rfl, a, C, dx, _, _, rfl, ha, S.cl, S.nO, pf_one _ _ _, au, du, _, rfl, hu, au, _, _, _, rfl, ⟨du, hu⟩, ho.u.len, ho.u.m0, ho.u.m1, fun H1 s1 => ⟨p.u.txt, rfl, by omega, _, rfl, ?_, ?_⟩⟩
    · rw [Str.length_append]; omega
    refine ⟨_, rfl, ?_, ?_⟩
    · rw [Str.length_append, Str.length_append]; omega
    refine ⟨_, rfl, a, C, dx, _, _, rfl, s1 _ _ ha, S.cl, S.nT, pf_other _ _ _, av, dv, _, rfl, s1 _ _ hv, av, _, _, _, rfl, ⟨dv, s1 _ _ hv⟩, ho.v.len, ho.v.m0, ho.v.m1, fun H2 s2 => ⟨p.v.txt, rfl, by omega, _, rfl, ?_, ?_⟩⟩
    · rw [Str.length_append, Str.length_append, Str.length_append]; omega
    refine ⟨_, rfl, ?_, ?_⟩
    · rw [Str.length_append, Str.length_append, Str.length_append, Str.length_append]; omega
    refine ⟨_, rfl, a, C, dx, _, _, rfl, s2 _ _ (s1 _ _ ha), S.cl, S.nR, pf_reason _ _ _, ?_⟩
    have fin : ∀ y : Str, y = txtR p.r → ∃ z : Str, V.str y = .str z ∧ (Str.empty ++ p.u.txt ++ ", " ++ p.v.txt ++ " by " ++ z).length ≤ sizeLine ∧ Q (.str (Str.empty ++ p.u.txt ++ ", " ++ p.v.txt ++ " by " ++ z)) H2 := by
      rintro y rfl
      refine ⟨_, rfl, ?_, q H2 (s1.trans s2)⟩
      simp only [Str.length_append, e0, c1, c2]
      omega
    rcases ho.r with ⟨i, e, h0, h1⟩ | e
    · exact .inr ⟨i, e, mom_log h0 h1, fin _ (by rw [e]; rfl)⟩
    · exact .inl ⟨_, e, by decide, fin _ (by rw [e]; rfl)⟩
end
end K31

/-! enumerate(a tuple) as what a for goes through -/
namespace So
open PySem PySem.Spec PyProof.Rows L2
/-- enumerate(v): what pyIter of v makes, in an enumerate's cell -/
theorem enum_new1 {v : Value} {o : Obj} {Hp0 : Heap → Prop} (B : Begins v o Hp0) : Meets (Builtin.«enumerate.__new__» ⟨[.type "enumerate", v], []⟩) (fun _ R s => Hp0 s.heap ∧
    R (.ok (.ret (.ref (s.heap.push o).objs.size))) { s with heap := (s.heap.push o).push { cls := .type "enumerate", data := .fields #[.none, .bool false, .ref s.heap.objs.size, rawInt 0, .none, .none] } }) :=
  .of_wp fun prog w A R s h => by
    obtain ⟨hp, g, d, tk, os⟩ := s
    obtain ⟨h1, h⟩ := h
    have hsub := sub_enumerate
    have q1 : ∀ {A' : Around} {E : Value → Shared → Prop} {Q : Value → Shared → Prop}, Q (.ref hp.objs.size) ⟨hp.push o, g, d, tk, os⟩ → wpAny (model prog w) A' (pyIter v) Q E ⟨hp, g, d, tk, os⟩ :=
      fun q => B.iter prog w _ _ ⟨hp, g, d, tk, os⟩ _ h1 q
    wp_walk using q1
    refine wpAny_stack_any fun st => wpAny_pure ?_
    split
    · rename_i c _ _ _ _ _
      cases (c == Value.type "enumerate") <;> (wp_walk using q1; exact ⟨_, rfl, h⟩)
    · wp_walk using q1
      exact ⟨_, rfl, h⟩
/-- behind the last item -/
theorem enum_endT {prog : Program} {w : World} {A : Around} {E : Value → Shared → Prop} {s : Shared} {e it a : Addr} {i : Int} {j : Nat} {items : Array Value} {old : Value} {Q : Option Value → Shared → Prop} (hh : A.handled = none) (he : IsEnum s.heap e it i old)
    (hit : s.heap.IsTupleIter it a j) (ht : s.heap.IsTuple a items) (hx : items[j]? = none) (hQ : ∀ h', Heap.ExtBut it s.heap h' → Q none { s with heap := h' }) : wpAny (model prog w) A (pyNext (.ref e)) Q E s := by
  have hT : s.TypeIs (.ref e) "enumerate" := ⟨_, he, rfl⟩
  unfold pyNext
  refine wpAny_bind (wpAny_attempt (wpAny_callSpecial?_slot (name := Str.ofString "__next__") hT PySem.F.slot_enumerate_next (wpAny_call_entry PySem.F.slot_enumerate_next hT PySem.F.entry_enumerate_next ?_ (PySem.F.args_enumerate_next_1 _))))
  show wpAny _ _ (field (.ref e) 2 >>= _) _ _ _
  refine wpAny_bind (wpAny_field he rfl (x := .ref it) rfl (wpAny_bind (wpAny_nextOf_tuple_end (A := A.in1) hh hit ht hx fun h' x he' hx' => ?_)))
  obtain ⟨o, ho, hc⟩ := hx'
  exact wpAny_bind (wpAny_isInstance (T := "StopIteration") (b := true) ⟨o, ho, hc⟩ isSubtype_stop (wpAny_pure (hQ _ he')))
/-- the tuple at a, each item in a new pair with its index -/
def IteT (K : PySem.W.Frag) (a : Addr) : It :=
  ⟨fun i H => ∃ (xs : List V) (x : V), SqT K H a xs ∧ xs[i]? = some x, fun i H v H' => ∃ T x, v = .ref T ∧ H T = none ∧ H' = upd H T (.tup [.int (i : Nat), x]) ∧ ∀ xs, SqT K H a xs → xs[i]? = some x, fun i H => ∃ xs : List V, SqT K H a xs ∧ xs.length ≤ i⟩
theorem walk_enumT {K : PySem.W.Frag} {a : Addr} {xs : List V} : Walk (IteT K a) xs.length (fun H => SqT K H a xs) (YPair (fun i => some (.int (i : Nat))) (fun i => xs[i]?)) := by
  refine ⟨fun i _ hi q => ⟨xs, xs[i], q, by simp [hi]⟩, fun _ q => ⟨xs, q, Nat.le_refl _⟩, fun i H v H' _ q y => ?_⟩
  obtain ⟨T, x, h1, h2, h3, h4⟩ := y
  exact ⟨T, .int (i : Nat), x, h1, h2, h3, rfl, h4 xs q⟩
theorem turn_enumT {P : Program} {w : World} {K : PySem.W.Frag} {elts : List Expr} {kk : Nat} {tpos : Pos} (a e it : Addr) :
    Turn P w K (.Tuple elts kk tpos) (IteT K a) [e, it] e (fun i h => (∃ old, IsEnum h e it ((i : Nat) : Int) old) ∧ h.IsTupleIter it a i ∧ e ≠ it ∧ a ≠ it ∧ a ≠ e) where
  mem := by simp
  obj := fun i h st b hb => by
    obtain ⟨⟨old, he⟩, ⟨o, ho, hc, hd⟩, _⟩ := st
    have e' : b = e ∨ b = it := by simpa using hb
    rcases e' with z | z
    · rw [z]
      exact ⟨_, he, fun v q => nomatch q⟩
    · rw [z]
      exact ⟨o, ho, fun v q => by rw [hd] at q; cases q⟩
  keep := fun i h h' st k => by
    obtain ⟨⟨old, he⟩, hi, ne⟩ := st
    exact ⟨⟨old, k e (by simp) _ he⟩, hi.at fun o q => k it (by simp) o q, ne⟩
  item := by
    intro X hP hw hK hc i pins s σ H E I hf st hg
    subst hP hw hK
    obtain ⟨⟨old, he⟩, hit, ne, nai, nae⟩ := st
    obtain ⟨xs, x, hq, hx⟩ := hg
    obtain ⟨its, rv, p, hz⟩ := I.tuple hq
    obtain ⟨u, hu, ru⟩ := rv.get hx
    have hel : e < s.heap.objs.size := Heap.lt_size he
    have hil : it < s.heap.objs.size := by
      obtain ⟨_, q, _⟩ := hit
      exact Heap.lt_size q
    have hT0 : s.heap.IsTuple a its.toArray := p
    have hi : i < its.toArray.size := by
      have := (List.getElem?_eq_some_iff.mp hu).1
      simpa using this
    refine wpAny_pyNext_enum_itemD (Draws.tuple (A := X.A.in1) (show X.A.in1.handled = none from I.ok.hd hc) it a nai its.toArray) he ⟨hit, hT0⟩ hi ne (by simp [ne, Ne.symm nae]) fun x' h' tk hp ho hst hT hsz hk => ?_
    have ex : x' = u := by
      have h1 : its.toArray[i]? = some x' := hp
      have h2 : its.toArray[i]? = some u := by simpa using hu
      exact Option.some.inj (h1.symm.trans h2)
    subst ex
    refine ⟨_, rfl, wpAny_letOwnedTupleGo_enum (s := { s with heap := h', toks := tk + 1 }) ho fun h'' he' sb => ?_⟩
    have hT2 : h''.get? s.heap.objs.size = some { cls := .type "tuple", data := .seq #[.int i tk, x'] } := (sb.2 _ (Nat.ne_of_gt hel)).trans hT
    have new : ObjOk X.prog X.w (upd H s.heap.objs.size (.tup [.int (i : Nat), x])) h'' s.heap.objs.size (.tup [.int (i : Nat), x]) :=
      ⟨by show 2 ≤ sizeLine; decide, [.int i tk, x'], .cons ⟨_, rfl⟩ (.cons ru .nil), ⟨_, hT2, rfl, _, rfl⟩⟩
    have I1 : Inv X pins σ (upd H s.heap.objs.size (.tup [.int (i : Nat), x])) { s with heap := h'', toks := tk + 1 } :=
      I.turnedNew (ch := [e, it]) (fun b ob hb q => (sb.2 b (fun z => hb (by simp [z]))).trans (hk b ob (fun z => hb (by simp [z])) (fun z => hb (by simp [z])) q)) hf (Nat.le_refl _) new
    refine ⟨.ref s.heap.objs.size, _, I1, rfl, ⟨_, x, rfl, I.hok.fresh (Nat.le_refl _), rfl, fun ys hy => by rw [I.tuple_inj hy hq]; exact hx⟩, ⟨⟨x', ?_⟩, hst.1.at fun o q => (sb.2 it (Ne.symm ne)).trans q, ne, nai, nae⟩, fun b hb => ?_⟩
    · have e1 : ((i + 1 : Nat) : Int) = (i : Int) + 1 := by omega
      rw [e1]
      exact he'
    · have hb' : b < s.heap.objs.size := by
        have e' : b = e ∨ b = it := by simpa using hb
        rcases e' with z | z
        · rw [z]
          exact hel
        · rw [z]
          exact hil
      rw [upd_ne (Nat.ne_of_lt hb')]
      exact (hf b hb).1
  done := by
    intro X hP hw hK hc i pins s σ H E I hf st hg
    subst hP hw hK
    obtain ⟨⟨old, he⟩, hit, ne, nai, nae⟩ := st
    obtain ⟨xs, hq, hx⟩ := hg
    obtain ⟨its, rv, p, hz⟩ := I.tuple hq
    obtain ⟨f0, f1, f2, f3, f4, f5⟩ := hf it (by simp)
    have hl := rv.length
    exact enum_endT (I.ok.hd hc) he hit (show s.heap.IsTuple a its.toArray from p) (by simp; omega) fun h' eb => ⟨rfl, I.turned (t' := s.toks) (fun b o hb q => eb b o hb q) f0 f1 f3 f4 f5⟩
  self := fun A i s Q E st h => by
    obtain ⟨⟨_, he⟩, _⟩ := st
    exact wpAny_pyIter_enum he h
def iEnumT (K : PySem.W.Frag) (ta : TA) : TI := fun σ H R => ta σ H fun vs H1 => ∃ a xs, vs = [.ref a] ∧ SqT K H1 a xs ∧ R (IteT K a) H1
theorem pi_enumT {X : Cx} {e : Expr} {ta : TA} {p pos tpos : Pos} {elts : List Expr} {kk : Nat} (hg : Gl X "enumerate") (hm : X.mg "enumerate" = none) (ha : PA X [e] ta) (hs : starEach [e] X.env = [(false, eval e X.env)] := by rfl) :
    PI X (.Tuple elts kk tpos) (.Call (.Name "enumerate" p) [e] [] pos) (iEnumT X.K ta) := by
  refine ⟨fun pins s σ H R I h => ?_⟩
  refine Call_ (ld_blt I hg hm boot_enumerate (PyProof.Rows.callWith_type1 (thn (ha.run pos pins s σ H _ I h) fun us s1 ⟨vs, H1, I1, r1, q1⟩ => ?_) hs rfl))
  obtain ⟨a, xs, rfl, hq, q⟩ := q1
  obtain ⟨u, rfl, ru⟩ := vals1 r1
  obtain rfl : u = Value.ref a := ru
  obtain ⟨its, rv, p', hz⟩ := I1.tuple hq
  have ht : s1.heap.IsTuple a its.toArray := p'
  have al : a < s1.heap.objs.size := by
    obtain ⟨o, ho, _⟩ := ht
    exact Heap.lt_size ho
  have sz : (s1.heap.push { cls := .type "tuple_iterator", data := .fields #[.ref a, .int 0 0] }).objs.size = s1.heap.objs.size + 1 := Heap.size_push ..
  refine callType_new PySem.F.called_enumerate (by decide) (PySem.F.typeCall_enumerate_1 _) (PySem.F.newCall_enumerate_1 _) (fun obj => PySem.F.args_object_init_2 obj _) PySem.F.entry_enumerate_new (enum_new1 (begins_tuple a its.toArray)) ⟨ht, ?_⟩
  show _ ∧ _
  rw [sz]
  have he : IsEnum ((s1.heap.push { cls := .type "tuple_iterator", data := .fields #[.ref a, .int 0 0] }).push { cls := .type "enumerate", data := .fields #[.none, .bool false, .ref s1.heap.objs.size, rawInt 0, .none, .none] }) (s1.heap.objs.size + 1) s1.heap.objs.size 0 .none := by
    have := Heap.get?_push_size (s1.heap.push { cls := .type "tuple_iterator", data := .fields #[.ref a, .int 0 0] }) (o := { cls := .type "enumerate", data := .fields #[.none, .bool false, .ref s1.heap.objs.size, rawInt 0, .none, .none] }) rfl
    rw [sz] at this
    exact this
  refine ⟨⟨_, he, rfl⟩, wpAny_pyIter_enum he ?_⟩
  have I2 : Inv X pins σ H1 { s1 with heap := (s1.heap.push { cls := .type "tuple_iterator", data := .fields #[.ref a, .int 0 0] }).push { cls := .type "enumerate", data := .fields #[.none, .bool false, .ref s1.heap.objs.size, rawInt 0, .none, .none] } } :=
    I1.kept (t' := s1.toks) fun b o x => Heap.get?_push_of_some _ (Heap.get?_push_of_some _ x)
  refine ⟨s1.heap.objs.size + 1, [s1.heap.objs.size + 1, s1.heap.objs.size], _, _, H1, rfl, I2, turn_enumT a (s1.heap.objs.size + 1) s1.heap.objs.size, ⟨⟨.none, he⟩, ⟨_, Heap.get?_push_of_some _ (Heap.get?_push_size _ rfl), rfl, rfl⟩, Nat.succ_ne_self _, Nat.ne_of_lt al, Nat.ne_of_lt (Nat.lt_succ_of_lt al)⟩, fun b hb => ?_, q⟩
  have e' : b = s1.heap.objs.size + 1 ∨ b = s1.heap.objs.size := by simpa using hb
  have hle : s1.heap.objs.size ≤ b := by
    rcases e' with z | z
    · rw [z]
      exact Nat.le_add_right _ _
    · rw [z]
      exact Nat.le_refl _
  exact I1.fpOk hle (I1.hok.fresh hle)
end So

/-! an instance made with a starred argument: C(*y) -/
namespace So
open PySem PySem.Spec PyProof.Rows L2 StX
def tMakeS1 (K : PySem.W.Frag) (C : Addr) (sp : Sp) (E : XK) (te : TE) : TE := fun σ H Q => te σ H fun y H1 => ∃ a vs, y = V.ref a ∧ (SqT K H1 a vs ∨ SqL K H1 a vs) ∧ ∀ x dx, H1 x = Option.none → H1 dx = Option.none → dx ≠ x →
  sp (V.ref x :: vs) (upd (upd H1 dx (.own x)) x (.ins C dx [])) (fun v H2 => v = .non ∧ Q (.ref x) H2) E
section
variable {X : Cx} {CX : CXT} {k : Nat} {f C : Addr} {sp : Sp} {E : XK} {x : Str} {e : Expr} {te : TE} {p pos sp_ : Pos}
theorem pe_makeS1 (M : Mk X.K C f) (F : FnR X.prog X.w X.K X.mg X.base CX k f sp) (hr : Room (k + 1) X.A) (hg : Gl X x) (hm : X.mg x = some (.ref C)) (hx : Passes CX X E) (he : PE X e te) (hd : (x == ("__debug__" : Str)) = false := by decide)
    (hst : starEach [.Starred e sp_] X.env = [(true, eval e X.env)] := by rfl) : PE X (.Call (.Name x p) [.Starred e sp_] [] pos) (tMakeS1 X.K C sp E te) := by
  refine ⟨fun pins s σ H Q I h => ?_⟩
  refine wpAny_Call_Name_kw (ld_glob I hg hm ?_ hd)
  refine PySem.W.callWith_S (h₀ := X.base) I.ok.mod.kin M.kp (thn (he.run pins s σ H _ I h) fun v s1 ⟨y, H1, I1, ry, a, xs, ey, hxs, q⟩ => ?_) hst
  subst ey
  obtain rfl : v = Value.ref a := ry
  exact star_any I1 hxs fun us s2 I2 rv => ⟨I2.kIn, run_makeR M F hr hx I2 rv q⟩
/-- C(), where the __init__ has a starred parameter -/
theorem pe_makeR0 (M : Mk X.K C f) (F : FnR X.prog X.w X.K X.mg X.base CX k f sp) (hr : Room (k + 1) X.A) (hg : Gl X x) (hm : X.mg x = some (.ref C)) (hx : Passes CX X E) (hdb : (x == ("__debug__" : Str)) = false := by decide) :
    PE X (.Call (.Name x p) [] [] pos) (tMakeR C sp E tNil) := by
  refine ⟨fun pins s σ H Q I h => ?_⟩
  refine wpAny_Call_Name_kw (ld_glob I hg hm ?_ hdb)
  exact PySem.W.callWith_K0 I.kIn M.kp (run_makeR (us := []) M F hr hx I .nil h)
end
end So

namespace K31
open PySem PySem.Spec PyProof.Rows L2 So
abbrev sCInit : Stmt := inClass (topS 30) 0
theorem scCInit : FnScope ["self", "steps", "at", "step"] ["self", "steps"] (defScope sCInit) := ⟨rfl, rfl, rfl, by decide +kernel, rfl, by decide +kernel, by decide +kernel⟩
theorem same_upd0 {H : Hp} {p : Addr} {o : HO} (h : H p = none) : Same H (upd H p o) := Same.over (Same.refl H) h
/-- something that is no step -/
def NoT (K : PySem.W.Frag) (CT : Addr) (H : Hp) (v : V) : Prop := ∃ t, (∀ H', Same H H' → TyX K H' v t) ∧ PySem.W.kitOne K t (.ref CT) = some false
/-- a thing handed to Chain: a step, or none -/
def ItAt (K : PySem.W.Frag) (CS CT : Addr) (H : Hp) (e : V × Option Part) : Prop := (∃ a p, e = (.ref a, some p) ∧ StAt CS CT H a p ∧ p.Ok) ∨ (∃ v, e = (v, none) ∧ NoT K CT H v)
theorem ItAt.same {K : PySem.W.Frag} {CS CT : Addr} {H H' : Hp} {e : V × Option Part} (h : ItAt K CS CT H e) (s : Same H H') : ItAt K CS CT H' e := by
  rcases h with ⟨a, p, rfl, h, ho⟩ | ⟨v, rfl, t, ht, k⟩
  · exact .inl ⟨a, p, rfl, h.same s, ho⟩
  · exact .inr ⟨v, rfl, t, fun H2 s2 => ht H2 (s.trans s2), k⟩
/-- whether the i-th thing is a step that begins where the one ahead ends -/
def okAt (os : List (Option Part)) (i : Nat) : Bool := match os[i]? with
  | some (some p) => decide (i = 0) || (match os[i - 1]? with | some (some q) => decide (p.u = q.v) | _ => false)
  | _ => false
def spCInit (K : PySem.W.Frag) (CS CT CB C : Addr) : Sp := fun vs H Q E => ∃ (x dx p : Addr) (its : List (V × Option Part)), vs = [.ref x, .ref p] ∧ H x = some (.ins C dx []) ∧ H p = some (.tup (its.map Prod.fst)) ∧ its.length ≤ 1000 ∧ (∀ e ∈ its, ItAt K CS CT H e) ∧
  (its = [] → Bad CB .non H E) ∧ (∀ k, k < its.length → okAt (its.map Prod.snd) k = false → (∀ j, j < k → okAt (its.map Prod.snd) j = true) → Bad CB (.int (k : Nat)) H E) ∧
  (its ≠ [] → (∀ j, j < its.length → okAt (its.map Prod.snd) j = true) → ∀ H', Off x H H' → H' x = some (.ins C dx [("_steps", .ref p)]) → Q .non H')
/-- what the top says of the class Chain, at C -/
structure Chn (K : PySem.W.Frag) (mg : Str → Option Value) (C : Addr) : Prop where
  cl : Cls K C
  nS : NoAttr K C "_steps"
  mgC : mg "Chain" = some (.ref C)
section
variable {P : Program} {w : World} {K : PySem.W.Frag} {mg : Str → Option Value} {base : Heap}
theorem body_cinit {C CS CT CB fE fB f : Addr} {fdE fdB : FuncData} (W : Words K mg) (me : mg "enumerate" = none) (T : Say K mg CS) (S : Stp K mg CT) (TC : Chn K mg C) (OT : Own1 K CT) (OS : Own1 K CS) (FB : Fun K "__init__" "BadChain.__init__" sEC fB fdB) (OB : OneE K mg "BadChain" "at" CB fB fdB)
    (sE : PySem.W.findIn K (.ref CS) "__eq__" = some (some (.ref fE))) (iE : PySem.W.isFn K (.ref fE) = true) (bE : Binds K fdE ["self", "other"] []) (nE : PySem.W.findIn K (.ref CS) "__ne__" = some (some (.builtin "object.__ne__")))
    (GE : FnOk P w K mg base CX0 3 fE fdE ["self", "other"] (spEq K CS)) (cdv : Value) (A : Around) (outer : List Env) (s : Shared) (H : Hp) (vs : List V) (Q : VK) (E : XK) (hr : Room 4 (A.deeper (envOfC "Chain.__init__" (defScope sCInit) s.heap.objs.size f cdv))) (h : spCInit K CS CT CB C vs H Q E) :
    ∃ t, PSs (cxOf (L2.CX P w) P w K mg base ["self", "steps", "at", "step"] "Chain.__init__" (defScope sCInit) f cdv A outer s H E) (defBody sCInit) t ∧ t { nx := fun _ H' => Q .non H', rt := Q } (start ["self", "steps", "at", "step"] vs) H := by
  have GB : FnOk P w K mg base CX0 1 fB fdB ["self", "at"] (spOneE CB "at") := ok_eC FB OB
  have hr2 : Room 2 _ := hr.mono (by decide)
  obtain ⟨x, dx, p, its, rfl, hx, hp, hlen, hit, q0, qk, qy⟩ := h
  refine ⟨_, pss_cons (ps_if (pt_not (pt_truth (pv 1) (fun _ => rfl))) (pss_one (ps_raiseOne OB GB rfl hr2 (takes_of rfl rfl rfl rfl) (by rfl) (pa_cons pe_non pa_nil))) pss_nil)
    (pss_cons (ps_for PassesOwn.leaving rfl (pi_enumT (by rfl) me (pa_cons (pv 1) pa_nil)) (pg_tup rfl (pgs_cons (pg_name (i := 2) scCInit.nd rfl (Or.inl rfl)) (pgs_cons (pg_name (i := 3) scCInit.nd rfl (Or.inl rfl)) pgs_nil)))
      (pss_one (ps_if (PW.pt (pw_or (pt_not (pt_val (pe_callB call_isi (by rfl) W.isi (by decide +kernel) (pa_cons (pv 3) (pa_cons (pe_glob (v := .ref CT) rfl S.mgC rfl) pa_nil)))))
          (pw_or1 (PW.pt (pw_and (pt_cmpR op_gt (pv 2) pe_int (nomark _)) (pw_and1 (pt_cmpR (op_neOwn GE sE iE bE pass0 hr nE OS.hm) (pe_fld (pv 3) rfl) (pe_fld (pe_ix ix_tup (pv 1) (pe_op op_sub (pv 2) pe_int) (fun _ _ => rfl)) rfl) (nomark _))))))))
        (pss_one (ps_raiseOne OB GB rfl hr2 (takes_of rfl rfl rfl rfl) (by rfl) (pa_cons (pv 2) pa_nil))) pss_nil)))
    (pss_one (ps_fld (pv 0) (pv 1) rfl))), ?_⟩
  have hT : ∀ {H' : Hp}, Same H H' → SqT K H' p (its.map Prod.fst) := fun s => SqT.of (s _ _ hp)
  refine ⟨_, rfl, !(its.map Prod.fst).isEmpty, .inr (.inl ⟨_, hT (Same.refl H), rfl⟩), ?_⟩
  cases hI : its with
  | nil =>
    subst hI
    exact iteT (mkOne rfl fun d H' s2 _ e => q0 rfl d H' s2 e)
  | cons e0 r0 =>
  rw [← hI]
  have hne : its ≠ [] := by rw [hI]; exact List.cons_ne_nil _ _
  have hem : (its.map Prod.fst).isEmpty = false := by rw [hI]; rfl
  rw [hem]
  refine iteF ?_
  refine ⟨_, rfl, p, its.map Prod.fst, rfl, hT (Same.refl H), for_it (walk_enumT (K := K) (a := p) (xs := its.map Prod.fst) |>.mono (fun H' (s : Same H H') => hT s) (fun _ _ _ _ _ _ y => y)) (fun i σ H' => (∃ v2 v3, σ = [some (.ref x), some (.ref p), v2, v3]) ∧ Same H H' ∧ ∀ j, j < i → okAt (its.map Prod.snd) j = true)
    ⟨⟨_, _, rfl⟩, Same.refl _, fun _ h => absurd h (Nat.not_lt_zero _)⟩ (fun _ _ _ _ y => y.2.1) ?_ ?_⟩
  · rintro i y σ H2 H3 hi ⟨⟨v2, v3, rfl⟩, s2, hj⟩ ⟨t, u, y, rfl, ht, rfl, hu, hy⟩
    cases hu
    have hi' : i < its.length := by rw [List.length_map] at hi; exact hi
    replace hy : (its.map Prod.fst)[i]? = some y := hy
    rw [List.getElem?_map, List.getElem?_eq_getElem hi'] at hy
    obtain rfl : its[i].1 = y := Option.some.inj hy
    have s3 := s2.trans (same_upd0 (o := .tup [.int (i : Nat), its[i].1]) ht)
    refine ⟨t, _, rfl, SqT.of upd_same, rfl, _, _, rfl, _, _, rfl, rfl, ?_⟩
    have hI2 := (hit _ (List.getElem_mem hi')).same s3
    have ho : (its.map Prod.snd)[i]? = some its[i].2 := by rw [List.getElem?_map, List.getElem?_eq_getElem hi']; rfl
    revert s3 hI2
    generalize upd H2 t (.tup [.int (i : Nat), its[i].1]) = H3
    intro s3 hI2
    have bad : okAt (its.map Prod.snd) i = false → ∀ d H', Same H3 H' → H' d = some (.xd [("at", .int (i : Nat))]) → E (.ref CB) (some d) H' := fun e d H' s4 e4 => qk i hi' e hj d H' (s3.trans s4) e4
    rcases hI2 with ⟨a, q, eq, hA, hok⟩ | ⟨v, eq, tt, hty, hk⟩
    · have e1 : its[i].1 = .ref a := by rw [eq]
      have e2 : its[i].2 = some q := by rw [eq]
      rw [e2] at ho
      rw [e1]
      obtain ⟨dq, u, v, ha, ⟨au, rfl, du, hu⟩, hv⟩ := id hA
      refine ⟨_, rfl, _, _, _, _, true, rfl, .own CT, .base (.ins ha S.cl OT.ha OT.hn OT.htk OT.hm), OT.me, true, rfl, iteF ?_⟩
      refine ⟨_, rfl, _, _, rfl, rfl, _, rfl, ?_⟩
      cases i with
      | zero =>
        refine iteF (iteF ⟨⟨_, _, rfl⟩, s3, fun j hj2 => ?_⟩)
        obtain rfl : j = 0 := by omega
        unfold okAt
        rw [ho]
        rfl
      | succ n =>
        have hn : n < its.length := by omega
        have hprev := hj n (by omega)
        obtain ⟨b, qp, eb, hB, hob⟩ : ∃ b qp, its[n] = (.ref b, some qp) ∧ StAt CS CT H b qp ∧ qp.Ok := by
          rcases hit _ (List.getElem_mem hn) with ⟨b, qp, e, h1, h2⟩ | ⟨v, e, _⟩
          · exact ⟨b, qp, e, h1, h2⟩
          · unfold okAt at hprev
            rw [List.getElem?_map, List.getElem?_eq_getElem hn, e] at hprev
            cases hprev
        have hpo : (its.map Prod.snd)[n]? = some (some qp) := by rw [List.getElem?_map, List.getElem?_eq_getElem hn, eb]; rfl
        obtain ⟨db, ub, vb, hb, hub, ⟨av, rfl, dv, hvb⟩⟩ := hB.same s3
        have hgt : decide (((0 : Nat) : Int) < ((n + 1 : Nat) : Int)) = true := decide_eq_true (by omega)
        refine ite2 (fun _ => ?_) (fun e => absurd hgt e)
        refine ⟨_, rfl, a, CT, dq, _, _, rfl, ha, S.cl, S.nO, pf_one _ _ _, _, rfl, _, rfl, _, _, rfl, rfl, p, _, ((n : Nat) : Int), _, rfl, ?_, hT s3, atI_nat (j := n) (by rw [List.getElem?_map, List.getElem?_eq_getElem hn, eb]; rfl), b, CT, db, _, _, rfl, hb, S.cl, S.nT, pf_other _ _ _, ?_⟩
        · show V.int (((n + 1 : Nat) : Int) - 1) = _
          rw [show (((n + 1 : Nat) : Int) - 1) = (n : Int) by omega]
        refine ⟨au, du, _, _, rfl, hu, .base (.ins hvb T.cl T.ha T.hn T.htk T.hm), OS.nf, ?_⟩
        refine ⟨au, .ref av, _, _, _, rfl, ⟨du, hu⟩, hok.u.ok, .inl ⟨av, _, _, _, rfl, ⟨dv, hvb⟩, hob.v.ok, fun H4 s4 => ⟨_, rfl, _, rfl, ?_⟩⟩⟩
        have ek : okAt (its.map Prod.snd) (n + 1) = decide (q.u = qp.v) := by
          unfold okAt
          rw [ho]
          show (decide (n + 1 = 0) || _) = _
          rw [show n + 1 - 1 = n from rfl, hpo]
          rfl
        have ed : decide ((q.u.z = qp.v.z ∧ q.u.m = qp.v.m) ∧ q.u.b = qp.v.b) = decide (q.u = qp.v) := by
          obtain ⟨⟨z1, m1, b1⟩, _, _⟩ := q
          obtain ⟨_, ⟨z2, m2, b2⟩, _⟩ := qp
          simp only [Face.mk.injEq, and_assoc]
        rw [ed]
        by_cases c : q.u = qp.v
        · rw [decide_eq_true c]
          refine iteF ⟨⟨_, _, rfl⟩, s3.trans s4, fun j hj2 => ?_⟩
          rcases Nat.lt_succ_iff_lt_or_eq.mp hj2 with h | rfl
          · exact hj j h
          · rw [ek, decide_eq_true c]
        · rw [decide_eq_false c]
          exact iteT ⟨_, rfl, mkOne rfl fun d H' s5 _ e => bad (by rw [ek, decide_eq_false c]) d H' (s4.trans s5) e⟩
    · have e1 : its[i].1 = v := by rw [eq]
      have e2 : its[i].2 = none := by rw [eq]
      rw [e2] at ho
      rw [e1]
      refine ⟨_, rfl, _, _, _, _, false, rfl, .own CT, hty _ (Same.refl _), hk, false, rfl, iteT ?_⟩
      exact iteT ⟨_, rfl, mkOne rfl fun d H' s5 _ e => bad (by unfold okAt; rw [ho]) d H' s5 e⟩
  · rintro σ H2 ⟨⟨v2, v3, rfl⟩, s2, hj⟩
    refine ⟨_, rfl, _, rfl, x, C, dx, [], rfl, s2 _ _ hx, TC.cl, TC.nS, (by show 0 < 1000; decide), ?_⟩
    exact qy hne (fun j hj2 => hj j (by rw [List.length_map]; exact hj2)) _ (fun b o n e => (upd_ne n).trans (s2 _ _ e)) upd_same
end
end K31

namespace K31
open PySem PySem.Spec PyProof.Rows L2 So
abbrev sCSource : Stmt := inClass (topS 30) 1
abbrev sCGoal : Stmt := inClass (topS 30) 2
abbrev sCSteps : Stmt := inClass (topS 30) 3
abbrev sCLen : Stmt := inClass (topS 30) 5
theorem scCSource : FnScope ["self"] ["self"] (defScope sCSource) := ⟨rfl, rfl, rfl, by decide +kernel, rfl, by decide +kernel, by decide +kernel⟩
theorem scCGoal : FnScope ["self"] ["self"] (defScope sCGoal) := ⟨rfl, rfl, rfl, by decide +kernel, rfl, by decide +kernel, by decide +kernel⟩
theorem scCSteps : FnScope ["self"] ["self"] (defScope sCSteps) := ⟨rfl, rfl, rfl, by decide +kernel, rfl, by decide +kernel, by decide +kernel⟩
theorem scCLen : FnScope ["self"] ["self"] (defScope sCLen) := ⟨rfl, rfl, rfl, by decide +kernel, rfl, by decide +kernel, by decide +kernel⟩
/-- a step by its value -/
def StV (CS CT : Addr) (H : Hp) (v : V) (p : Part) : Prop := ∃ a, v = .ref a ∧ StAt CS CT H a p
theorem StV.same {CS CT : Addr} {H H' : Hp} {v : V} {p : Part} (h : StV CS CT H v p) (s : Same H H') : StV CS CT H' v p := by
  obtain ⟨a, e, h⟩ := h
  exact ⟨a, e, h.same s⟩
/-- the chain of ps at a, its steps the tuple at t of vs -/
structure ChAt (CS CT C : Addr) (H : Hp) (a t : Addr) (vs : List V) (ps : List Part) : Prop where
  self : ∃ dx, H a = some (.ins C dx [("_steps", .ref t)])
  tup : H t = some (.tup vs)
  all : ∀ (i : Nat) (v : V), vs[i]? = some v → ∃ p, ps[i]? = some p ∧ StV CS CT H v p
  len : vs.length = ps.length
  ok : ∀ p ∈ ps, p.Ok
  ne : ps ≠ []
theorem ChAt.same {CS CT C : Addr} {H H' : Hp} {a t : Addr} {vs : List V} {ps : List Part} (h : ChAt CS CT C H a t vs ps) (s : Same H H') : ChAt CS CT C H' a t vs ps := by
  obtain ⟨dx, e⟩ := h.self
  refine ⟨⟨dx, s _ _ e⟩, s _ _ h.tup, fun i v hv => ?_, h.len, h.ok, h.ne⟩
  obtain ⟨p, hp, hs⟩ := h.all i v hv
  exact ⟨p, hp, hs.same s⟩
section
variable {P : Program} {w : World} {K : PySem.W.Frag} {mg : Str → Option Value} {base : Heap}
/-- Chain.__init__, called -/
def spCI (K : PySem.W.Frag) (CS CT CB C : Addr) : Sp := fun vs H Q E => ∃ ws rest, vs = ws ++ rest ∧ ws.length = (["self"] : List Str).length ∧ rest.length ≤ sizeLine ∧ ∀ p, H p = none → spCInit K CS CT CB C (ws ++ [V.ref p]) (upd H p (.tup rest)) Q E
theorem ok_cinit {C CS CT CB fE fB f : Addr} {fd fdE fdB : FuncData} (F : Fun K "__init__" "Chain.__init__" sCInit f fd) (W : Words K mg) (me : mg "enumerate" = none) (T : Say K mg CS) (S : Stp K mg CT) (TC : Chn K mg C) (OT : Own1 K CT) (OS : Own1 K CS) (FB : Fun K "__init__" "BadChain.__init__" sEC fB fdB) (OB : OneE K mg "BadChain" "at" CB fB fdB)
    (sE : PySem.W.findIn K (.ref CS) "__eq__" = some (some (.ref fE))) (iE : PySem.W.isFn K (.ref fE) = true) (bE : Binds K fdE ["self", "other"] []) (nE : PySem.W.findIn K (.ref CS) "__ne__" = some (some (.builtin "object.__ne__")))
    (GE : FnOk P w K mg base CX0 3 fE fdE ["self", "other"] (spEq K CS)) : FnR P w K mg base (L2.CX P w) 5 f (spCI K CS CT CB C) := by
  obtain ⟨oc, od, kV, doc, pm, an, cdv, ct, osl, rfl, lk, hcd⟩ := F.ex
  exact StX.fn_star (ps := ["self"]) (pv := "steps") lk hcd scCInit StX.cxUp (StX.bind_star1 (B := fun us => bindArgs (PySem.W.fnOf "__init__" "Chain.__init__" (defArgs sCInit) (defBody sCInit) (defScope sCInit) .none kV doc pm an cdv ct) ⟨us, []⟩) (fun _ => rfl) (fun _ _ _ => rfl)) fun A outer s H vs Q E hr h => body_cinit W me T S TC OT OS FB OB sE iE bE nE GE cdv A outer s H vs Q E hr h
/-- what Chain(..) asks and gives -/
def Made (K : PySem.W.Frag) (CS CT CB C : Addr) (its : List (V × Option Part)) (H : Hp) (E : XK) (Q : VK) : Prop := its.length ≤ 1000 ∧ (∀ e ∈ its, ItAt K CS CT H e) ∧ (its = [] → Bad CB .non H E) ∧
  (∀ k, k < its.length → okAt (its.map Prod.snd) k = false → (∀ j, j < k → okAt (its.map Prod.snd) j = true) → Bad CB (.int (k : Nat)) H E) ∧
  (its ≠ [] → (∀ j, j < its.length → okAt (its.map Prod.snd) j = true) → ∀ H' a t dx, Same H H' → H' t = some (.tup (its.map Prod.fst)) → H' a = some (.ins C dx [("_steps", .ref t)]) → Q (.ref a) H')
theorem madeC {K : PySem.W.Frag} {CS CT CB C : Addr} {its : List (V × Option Part)} {H1 : Hp} {E : XK} {Q : VK} (h : Made K CS CT CB C its H1 E Q) :
    ∀ x dx, H1 x = none → H1 dx = none → dx ≠ x → spCI K CS CT CB C (.ref x :: its.map Prod.fst) (upd (upd H1 dx (.own x)) x (.ins C dx [])) (fun v H2 => v = .non ∧ Q (.ref x) H2) E := by
  obtain ⟨h64, hit, q0, qk, qy⟩ := h
  intro x dx hx hd ne
  have s0 : Same H1 (upd (upd H1 dx (.own x)) x (.ins C dx [])) := fun c o e => by
    rw [upd_ne (ne_of_none e hx), upd_ne (ne_of_none e hd)]
    exact e
  refine ⟨[.ref x], its.map Prod.fst, rfl, rfl, by rw [List.length_map]; exact Nat.le_trans h64 (by decide), fun p hp => ?_⟩
  have s1 := s0.trans (same_upd0 (o := .tup (its.map Prod.fst)) hp)
  have hxp : x ≠ p := fun z => by rw [z, ← z, upd_same] at hp; cases hp
  refine ⟨x, dx, p, its, rfl, (upd_ne hxp).trans upd_same, upd_same, h64, fun e he => (hit e he).same s1, fun e d H' s2 k => q0 e d H' (s1.trans s2) k, fun k hk e1 e2 d H' s2 k2 => qk k hk e1 e2 d H' (s1.trans s2) k2, fun hne hall H' off e => ⟨rfl, qy hne hall H' x p dx (fun c o k => off c o (ne_of_none k hx) (s1 c o k)) (off p _ (Ne.symm hxp) upd_same) e⟩⟩
def spSrc (CS CT C : Addr) : Sp := fun vs H Q _ => ∃ (a t : Addr) (us : List V) (ps : List Part), vs = [.ref a] ∧ ChAt CS CT C H a t us ps ∧ ∀ p u, ps[0]? = some p → SayAt CS H u p.u → Q u H
theorem ok_source {C CS CT f : Addr} {fd : FuncData} (F : Fun K "source" "Chain.source" sCSource f fd) (S : Stp K mg CT) (TC : Chn K mg C) : FnOk P w K mg base CX0 1 f fd ["self"] (spSrc CS CT C) := by
  refine F.ok scCSource (fun vs H Q E h => ?_) (fun cdv A outer s H vs Q E hr h => ?_)
  · obtain ⟨_, _, _, _, rfl, _⟩ := h
    rfl
  · obtain ⟨a, t, us, ps, rfl, hc, q⟩ := h
    refine ⟨_, pss_one (ps_ret (pe_fld (pe_ix ix_tup (pe_fld (pv 0) rfl) pe_int (fun _ _ => rfl)) rfl)), ?_⟩
    obtain ⟨dx, ha⟩ := hc.self
    have h0 : 0 < us.length := by
      rw [hc.len]
      exact List.length_pos_iff.mpr hc.ne
    obtain ⟨p, hp, b, eb, db, u, v, hb, hu, hv⟩ := hc.all 0 us[0] (List.getElem?_eq_getElem h0)
    exact ⟨_, rfl, a, C, dx, _, _, rfl, ha, TC.cl, TC.nS, rfl, t, us, 0, us[0], rfl, rfl, SqT.of hc.tup, atI_nat (j := 0) (List.getElem?_eq_getElem h0), b, CT, db, _, _, eb, hb, S.cl, S.nO, pf_one _ _ _, q p u hp hu⟩
def spGoal (CS CT C : Addr) : Sp := fun vs H Q _ => ∃ (a t : Addr) (us : List V) (ps : List Part), vs = [.ref a] ∧ ChAt CS CT C H a t us ps ∧ ∀ p u, ps[ps.length - 1]? = some p → SayAt CS H u p.v → Q u H
theorem ok_goal {C CS CT f : Addr} {fd : FuncData} (F : Fun K "goal" "Chain.goal" sCGoal f fd) (S : Stp K mg CT) (TC : Chn K mg C) : FnOk P w K mg base CX0 1 f fd ["self"] (spGoal CS CT C) := by
  refine F.ok scCGoal (fun vs H Q E h => ?_) (fun cdv A outer s H vs Q E hr h => ?_)
  · obtain ⟨_, _, _, _, rfl, _⟩ := h
    rfl
  · obtain ⟨a, t, us, ps, rfl, hc, q⟩ := h
    refine ⟨_, pss_one (ps_ret (pe_fld (pe_ix ix_tup (pe_fld (pv 0) rfl) (pe_un un_neg pe_int) (fun _ _ => rfl)) rfl)), ?_⟩
    obtain ⟨dx, ha⟩ := hc.self
    have h0 : 0 < us.length := by
      rw [hc.len]
      exact List.length_pos_iff.mpr hc.ne
    have h1 : us.length - 1 < us.length := by omega
    obtain ⟨p, hp, b, eb, db, u, v, hb, hu, hv⟩ := hc.all _ us[us.length - 1] (List.getElem?_eq_getElem h1)
    have em : atI us (-1) = some us[us.length - 1] := by
      have e2 : ixN us.length (-1) = some (us.length - 1) := by
        unfold ixN
        rw [if_neg (by decide), if_pos (by omega)]
        exact congrArg some (by omega)
      unfold atI
      rw [e2]
      exact List.getElem?_eq_getElem h1
    exact ⟨_, rfl, a, C, dx, _, _, rfl, ha, TC.cl, TC.nS, rfl, _, rfl, t, us, -1, us[us.length - 1], rfl, rfl, SqT.of hc.tup, em, b, CT, db, _, _, eb, hb, S.cl, S.nT, pf_other _ _ _, q p v (by rw [← hc.len]; exact hp) hv⟩
def spSteps (CS CT C : Addr) : Sp := fun vs H Q _ => ∃ (a t : Addr) (us : List V) (ps : List Part), vs = [.ref a] ∧ ChAt CS CT C H a t us ps ∧ Q (.ref t) H
theorem ok_steps {C CS CT f : Addr} {fd : FuncData} (F : Fun K "steps" "Chain.steps" sCSteps f fd) (TC : Chn K mg C) : FnOk P w K mg base CX0 1 f fd ["self"] (spSteps CS CT C) := by
  refine F.ok scCSteps (fun vs H Q E h => ?_) (fun cdv A outer s H vs Q E hr h => ?_)
  · obtain ⟨_, _, _, _, rfl, _⟩ := h
    rfl
  · obtain ⟨a, t, us, ps, rfl, hc, q⟩ := h
    obtain ⟨dx, ha⟩ := hc.self
    exact ⟨_, pss_one (ps_ret (pe_fld (pv 0) rfl)), _, rfl, a, C, dx, _, _, rfl, ha, TC.cl, TC.nS, rfl, q⟩
def spLen (CS CT C : Addr) : Sp := fun vs H Q _ => ∃ (a t : Addr) (us : List V) (ps : List Part), vs = [.ref a] ∧ ChAt CS CT C H a t us ps ∧ Q (.int (ps.length : Nat)) H
theorem ok_len {C CS CT f : Addr} {fd : FuncData} (F : Fun K "__len__" "Chain.__len__" sCLen f fd) (W : Words K mg) (TC : Chn K mg C) : FnOk P w K mg base CX0 1 f fd ["self"] (spLen CS CT C) := by
  refine F.ok scCLen (fun vs H Q E h => ?_) (fun cdv A outer s H vs Q E hr h => ?_)
  · obtain ⟨_, _, _, _, rfl, _⟩ := h
    rfl
  · obtain ⟨a, t, us, ps, rfl, hc, q⟩ := h
    obtain ⟨dx, ha⟩ := hc.self
    refine ⟨_, pss_one (ps_ret (pe_callB call_len_seq (by rfl) W.len PySem.boot_len (pa_cons (pe_fld (pv 0) rfl) pa_nil))), ?_⟩
    rw [← hc.len] at q
    exact ⟨_, rfl, a, C, dx, _, _, rfl, ha, TC.cl, TC.nS, rfl, t, us, rfl, .inr (SqT.of hc.tup), q⟩
end
end K31

namespace K31
open PySem PySem.Spec PyProof.Rows L2 So
abbrev sCGet : Stmt := inClass (topS 30) 6
abbrev sCAdd : Stmt := inClass (topS 30) 8
theorem scCGet : FnScope ["self", "k"] ["self", "k"] (defScope sCGet) := ⟨rfl, rfl, rfl, by decide +kernel, rfl, by decide +kernel, by decide +kernel⟩
theorem scCAdd : FnScope ["self", "other", "joined"] ["self", "other"] (defScope sCAdd) := ⟨rfl, rfl, rfl, by decide +kernel, rfl, by decide +kernel, by decide +kernel⟩
section
variable {P : Program} {w : World} {K : PySem.W.Frag} {mg : Str → Option Value} {base : Heap}
/-- a chain asked for its k-th step -/
def spGet (K : PySem.W.Frag) (CS CT CB C : Addr) : Sp := fun vs H Q E => ∃ (a t : Addr) (us : List V) (ps : List Part) (v : V), vs = [.ref a, v] ∧ ChAt CS CT C H a t us ps ∧
  ((∃ (i : Nat) (u : V), v = .int (i : Nat) ∧ us[i]? = some u ∧ Q u H) ∨ (∃ i : Int, v = .int i ∧ ¬ (0 ≤ i ∧ i < (ps.length : Nat)) ∧ Bad CB v H E) ∨ (∃ T, OddT T ∧ TyX K H v (.type T) ∧ Bad CB v H E))
theorem ok_get {C CS CT CB f fW fB : Addr} {fd fdW fdB : FuncData} (F : Fun K "__getitem__" "Chain.__getitem__" sCGet f fd) (W : Words K mg) (TC : Chn K mg C) (FB : Fun K "__init__" "BadChain.__init__" sEC fB fdB) (OB : OneE K mg "BadChain" "at" CB fB fdB)
    (FW : Fun K "is_whole" "is_whole" sWhole fW fdW) (bW : Binds K fdW ["value"] []) (gW : mg "is_whole" = some (.ref fW)) : FnOk P w K mg base (L2.CX P w) 3 f fd ["self", "k"] (spGet K CS CT CB C) := by
  have GW : FnOk P w K mg base CX0 1 fW fdW ["value"] (spWholeG K) := ok_wholeG FW W
  have GB : FnOk P w K mg base CX0 1 fB fdB ["self", "at"] (spOneE CB "at") := ok_eC FB OB
  refine F.okX scCGet (fun vs H Q E h => ?_) (fun cdv A outer s H vs Q E hr h => ?_)
  · obtain ⟨_, _, _, _, _, rfl, _⟩ := h
    rfl
  · obtain ⟨a, t, us, ps, v, rfl, hc, h⟩ := h
    have hr1 : Room 1 _ := hr.mono (by decide)
    obtain ⟨dx, ha⟩ := hc.self
    refine ⟨_, pss_cons (ps_if (PW.pt (pw_or (pt_not (pt_val (pe_call GW hr1 (by rfl) gW FW.kp bW .nil pass0 (pa_cons (pv 1) pa_nil)))) (pw_or1 (pt_not (pt_chain op_le op_lt pe_int (pv 1) (pe_callB call_len_seq (by rfl) W.len PySem.boot_len (pa_cons (pe_fld (pv 0) rfl) pa_nil)))))))
        (pss_one (ps_raiseOne OB GB rfl hr (takes_of rfl rfl rfl rfl) (by rfl) (pa_cons (pv 1) pa_nil))) pss_nil)
      (pss_one (ps_ret (pe_ix ix_tup (pe_fld (pv 0) rfl) (pv 1) (fun _ _ => rfl)))), ?_⟩
    rcases h with ⟨i, u, rfl, hu, q⟩ | ⟨i, rfl, hi, bad⟩ | ⟨T, hT, ty, bad⟩
    · have hlt : i < us.length := (List.getElem?_eq_some_iff.mp hu).1
      refine ⟨_, rfl, _, rfl, .inl ⟨_, rfl, true, rfl, iteF ?_⟩⟩
      refine ⟨_, rfl, _, _, rfl, rfl, _, rfl, ite2 (fun _ => ?_) (fun e => absurd (decide_eq_true (Int.natCast_nonneg i)) e)⟩
      refine ⟨_, rfl, a, C, dx, _, _, rfl, ha, TC.cl, TC.nS, rfl, t, us, rfl, .inr (SqT.of hc.tup), _, _, rfl, rfl, _, rfl, ?_⟩
      have e1 : decide ((i : Int) < ((us.length : Nat) : Int)) = true := decide_eq_true (by omega)
      rw [e1]
      refine iteF ?_
      exact ⟨_, rfl, a, C, dx, _, _, rfl, ha, TC.cl, TC.nS, rfl, _, rfl, t, us, (i : Nat), u, rfl, rfl, SqT.of hc.tup, atI_nat hu, q⟩
    · refine ⟨_, rfl, _, rfl, .inl ⟨_, rfl, true, rfl, iteF ?_⟩⟩
      refine ⟨_, rfl, _, _, rfl, rfl, _, rfl, ite2 (fun e => ?_) (fun e => ?_)⟩
      · have h0 : 0 ≤ i := of_decide_eq_true e
        refine ⟨_, rfl, a, C, dx, _, _, rfl, ha, TC.cl, TC.nS, rfl, t, us, rfl, .inr (SqT.of hc.tup), _, _, rfl, rfl, _, rfl, ?_⟩
        have hl := hc.len
        have e1 : decide (i < ((us.length : Nat) : Int)) = false := decide_eq_false (fun z => hi ⟨h0, by rw [← hl]; exact z⟩)
        rw [e1]
        exact iteT ⟨_, rfl, mkOne rfl fun d H' s2 _ e => bad d H' s2 e⟩
      · exact ⟨_, rfl, iteT ⟨_, rfl, mkOne rfl fun d H' s2 _ e => bad d H' s2 e⟩⟩
    · refine ⟨_, rfl, _, rfl, .inr ⟨T, hT, ty, false, rfl, iteT ?_⟩⟩
      exact iteT ⟨_, rfl, mkOne rfl fun d H' s2 _ e => bad d H' s2 e⟩
/-- two chains joined -/
def spAdd (K : PySem.W.Frag) (CS CT CB C : Addr) : Sp := fun vs H Q E => ∃ (a t a' t' : Addr) (us us' : List V) (ps ps' : List Part), vs = [.ref a, .ref a'] ∧ ChAt CS CT C H a t us ps ∧ ChAt CS CT C H a' t' us' ps' ∧ us.length + us'.length ≤ 1000 ∧
  ∀ H', Same H H' → Made K CS CT CB C ((us ++ us').zip ((ps ++ ps').map some)) H' E Q
theorem ok_add {C CS CT CB f fI : Addr} {fd : FuncData} (F : Fun K "__add__" "Chain.__add__" sCAdd f fd) (TC : Chn K mg C) (M : Mk K C fI) (GI : FnR P w K mg base (L2.CX P w) 5 fI (spCI K CS CT CB C)) : FnOk P w K mg base (L2.CX P w) 7 f fd ["self", "other"] (spAdd K CS CT CB C) := by
  refine F.okX scCAdd (fun vs H Q E h => ?_) (fun cdv A outer s H vs Q E hr h => ?_)
  · obtain ⟨_, _, _, _, _, _, _, _, rfl, _⟩ := h
    rfl
  · obtain ⟨a, t, a', t', us, us', ps, ps', rfl, hc, hc', hz, q⟩ := h
    obtain ⟨dx, ha⟩ := hc.self
    obtain ⟨dx', ha'⟩ := hc'.self
    refine ⟨_, pss_cons (ps_set (i := 2) scCAdd.nd rfl (.inl rfl) (pe_op op_catT (pe_fld (pv 0) rfl) (pe_fld (pv 1) rfl)))
      (pss_one (ps_ret (pe_makeS1 M GI hr (by rfl) TC.mgC (passes_call (takes_of rfl rfl rfl rfl) (fun _ _ _ _ h => h)) (pv 2)))), ?_⟩
    have hne : us ≠ [] := fun z => hc.ne (List.eq_nil_of_length_eq_zero (by rw [← hc.len, z]; rfl))
    have hzl : ((us ++ us').zip ((ps ++ ps').map some)).map Prod.fst = us ++ us' := by
      rw [List.map_fst_zip]
      rw [List.length_map, List.length_append, List.length_append, hc.len, hc'.len]
      exact Nat.le_refl _
    have fin : ∀ (p : Addr) (H' : Hp), Same H H' → H' p = some (.tup (us ++ us')) → ∃ a vs, V.ref p = V.ref a ∧ (SqT K H' a vs ∨ SqL K H' a vs) ∧ ∀ x dx, H' x = none → H' dx = none → dx ≠ x → spCI K CS CT CB C (V.ref x :: vs) (upd (upd H' dx (.own x)) x (.ins C dx [])) (fun v H2 => v = .non ∧ Q (.ref x) H2) E := fun p H' sm hp => by
      refine ⟨p, us ++ us', rfl, .inl (SqT.of hp), ?_⟩
      have := madeC (q H' sm)
      rw [hzl] at this
      exact this
    refine ⟨_, rfl, a, C, dx, _, _, rfl, ha, TC.cl, TC.nS, rfl, _, rfl, a', C, dx', _, _, rfl, ha', TC.cl, TC.nS, rfl, t, t', us, us', rfl, rfl, SqT.of hc.tup, SqT.of hc'.tup, hne, ?_, ?_, ?_⟩
    · exact Nat.le_trans hz (by decide)
    · intro e
      have hn : us' = [] := e
      exact absurd (List.eq_nil_of_length_eq_zero (by rw [← hc'.len, hn]; rfl)) hc'.ne
    · intro _ p hp
      exact ⟨_, rfl, fin p _ (same_upd0 hp) upd_same⟩
end
end K31

/-! rules within a comprehension's block, the written part told -/
namespace So
open PySem PySem.Spec PyProof.Rows L2
section
variable {X : Cx} {K : PySem.W.Frag} {tg l e : Expr} {tl ta : TE} {f : Str} {pos : Pos}
theorem pi_tupK (h : X.K = K) (hl : PE X l tl) : PI X tg l (iTup K tl) := by
  subst h
  exact pi_tup hl
theorem pi_listK (h : X.K = K) (hl : PE X l tl) : PI X tg l (iList K tl) := by
  subst h
  exact pi_list hl
theorem pe_fldK (h : X.K = K) (he : PE X e ta) (hb : attributeBase e f X.env (eval e X.env) = eval e X.env) : PE X (.Attribute e f pos) (tFld K ta f) := by
  subst h
  exact pe_fld he hb
theorem ix_listK (h : X.K = K) : IxR X (rIxL K) := h ▸ ix_list
theorem ix_tupK (h : X.K = K) : IxR X (rIxT K) := h ▸ ix_tup
theorem op_inK (h : X.K = K) : OpR X (compareOp .In) (rIn K false) := by
  subst h
  exact op_in_seq
theorem op_notInK (h : X.K = K) : OpR X (compareOp .NotIn) (rIn K true) := by
  subst h
  exact op_notIn_seq
theorem lenK (h : X.K = K) : CallR X (.builtin "len") (fun xs H Q => ∃ (p : Addr) (ys : List V), xs = [V.ref p] ∧ (SqL K H p ys ∨ SqT K H p ys) ∧ Q (.int (ys.length : Nat)) H) := by
  subst h
  exact call_len_seq
end
end So

/-! set(xs) of a list or a tuple of ints, so that sorted can walk it. -/
namespace So
open PySem PySem.Spec PyProof.Rows L2
/-- a set just made -/
abbrev bareSet (w : World) : Obj := { cls := .type "set", dict := none, data := .set #[] 0 (.fresh 0 0 (!w.params.followText "set-order")) }
section
variable {P : Program} {w : World} {A : Around} {E : Value → Shared → Prop} {s : Shared}
/-- what set(..) hands back -/
abbrev GotSet (w : World) (ns : List Int) (s : Shared) (h' : Heap) (c : Nat) : Prop :=
  SetR w h' s.heap.objs.size (fun j => decide (j ∈ ns)) c ∧ c ≤ ns.length ∧ ∀ b o, s.heap.get? b = some o → h'.get? b = some o
theorem set_of_list {l : Addr} {its : Array Value} (ns : List Int) {Q : Value → Shared → Prop} (hh : A.handled = none) (hl : s.heap.IsList l its) (hit : IntsAre its.toList ns) (hb : ns.length + 1 < scanBound)
    (q : ∀ h' tk c, GotSet w ns s h' c → Q (.ref s.heap.objs.size) { s with heap := h', toks := tk }) : wpAny (model P w) A (call (.type "set") [.ref l]) Q E s := by
  have sz : its.size = ns.length := by
    have e := hit.length
    rwa [Array.length_toList] at e
  obtain ⟨c, tl, mro⟩ := F.called_set.mro
  have mde := F.called_set.made
  have sbt := F.called_set.sub
  refine wpAny_call (codeAny_of_tree ?_)
  show wpAny _ _ (callAny (.type "set") _) _ _ _
  refine wpAny_pure ⟨Code.quiet_builtin _ (by decide +kernel), codeAny_builtin F.entry_type_call ?_⟩
  rw [Around.under_plain (weight_type_call_type "set" [.ref l] []) rfl]
  have k1 := F.called_set.notType
  have k2 := F.called_set.canCreate
  have k3 := F.typeCall_set_1 (.ref l)
  repeat (any_goals (first | assumption | wp_step))
  refine codeAny_mono (code_set_led1 (.ref l) (E := E) (Q₁ := fun ob s1 => ob = .ref s.heap.objs.size ∧ s1 = { s with heap := s.heap.push (bareSet w) }) ⟨rfl, rfl⟩) fun r s1 hr => ?_
  match r, hr with
  | .error e, hr => exact hr
  | .ok .next, hr => exact hr.elim
  | .ok .brk, hr => exact hr.elim
  | .ok .cont, hr => exact hr.elim
  | .ok (.ret ob), hr =>
    obtain ⟨rfl, rfl⟩ := hr
    generalize hH : s.heap.push (bareSet w) = g0
    have at0 : g0.get? s.heap.objs.size = some (bareSet w) := by rw [← hH]; exact Heap.get?_push_size _ rfl
    have up0 : ∀ b o, s.heap.get? b = some o → g0.get? b = some o := fun b o e => by rw [← hH]; exact Heap.get?_push_of_some _ e
    have z0 : g0.objs.size = s.heap.objs.size + 1 := by rw [← hH]; exact Heap.size_push ..
    have tS : Shared.TypeIs { s with heap := g0 } (.ref s.heap.objs.size) "set" := ⟨_, at0, rfl⟩
    have i1 := F.called_set.init.lookup
    have i2 := F.called_set.init.bind (.ref s.heap.objs.size)
    repeat (any_goals (first | assumption | wp_step))
    refine codeAny_mono (codeAny_call_builtin (R := wants (fun r s2 => r = .none ∧ ∃ h' tk c, s2 = { s with heap := h', toks := tk } ∧ GotSet w ns s h' c) E) F.called_set.init.plain F.entry_set_init (check_set_init_1 tS ?_)) fun r2 s2 hr2 => ?_
    · obtain ⟨ob, ho, hc, nl, hd⟩ := hl
      obtain ⟨cc, dd, da, sl⟩ := ob
      simp only at hc hd
      subst hc
      subst hd
      have ho1 := up0 _ _ ho
      have n1 := F.sub_list_set
      have n2 := F.sub_list_frozenset
      have n3 : (Value.type "list" == Value.type "dict") = false := by decide
      have il : g0.IsList l its := ⟨_, ho1, rfl, nl, rfl⟩
      unfold Builtin.«set.__init__» noKeywords Builtin.Frozenset.updateFrom
      generalize hit' : pyIter = pI
      wp_walk
      subst hit'
      refine wpAny_pyIter_list il (wpAny_bind (wpAny_runValue ?_))
      have ll : l < s.heap.objs.size := Heap.lt_size ho
      have nI : l ≠ g0.objs.size := by
        rw [z0]
        exact Nat.ne_of_lt (Nat.lt_succ_of_lt ll)
      have nS : s.heap.objs.size ∉ [g0.objs.size, l] := by
        intro z
        rcases List.mem_cons.mp z with z | z
        · rw [z0] at z
          exact Nat.ne_of_lt (Nat.lt_succ_self _) z
        · exact Nat.ne_of_gt ll (List.mem_singleton.mp z)
      have vals : ∀ (i : Nat) (v : Value), its[i]? = some v → ∃ k t, ns[i]? = some k ∧ v = .int k t := fun i v hv => by
        have hi : i < ns.length := by rw [← sz]; exact (Array.getElem?_eq_some_iff.mp hv).1
        obtain ⟨t, e⟩ := hit.int_at i v (by rw [Array.getElem?_toList]; exact hv)
        exact ⟨ns[i], t, List.getElem?_eq_getElem hi, by rw [e, List.getD_eq_getElem?_getD, List.getElem?_eq_getElem hi]; rfl⟩
      refine set_update_ints ((Walks.list (by simp [hh]) _ l nI its).toS) s.heap.objs.size nS ns sz hb vals (its.size - 0) 0 _ (by omega) (Nat.zero_le _) ⟨⟨_, Heap.get?_push_size _ rfl, rfl, rfl⟩, il.push _⟩
        ⟨0, Nat.le_refl 0, setR_new_at (Heap.get?_push_of_some _ at0)⟩ fun s' c' hm hc' hS' => ?_
      obtain ⟨h', g2, d', tk', os'⟩ := s'
      have eg : g2 = s.gens := hm.gens
      have ed : d' = s.drawn := hm.drawn
      have eo : os' = s.os := hm.os
      subst eg ed eo
      rw [sz] at hc'
      refine wpAny_pure (wpAny_pure ⟨rfl, h', tk', c', rfl, hS', hc', fun b o e => ?_⟩)
      have hb0 : b < s.heap.objs.size := Heap.lt_size e
      refine hm.heap b o (fun z => ?_) (Heap.get?_push_of_some _ (up0 _ _ e))
      rcases List.mem_cons.mp z with z | z
      · exact Nat.ne_of_lt hb0 z
      · rw [List.mem_singleton.mp z, z0] at hb0
        exact Nat.lt_irrefl _ (Nat.lt_of_succ_lt hb0)
    · match r2, hr2 with
      | .error e, hr2 => exact hr2
      | .ok .next, hr2 => exact hr2.elim
      | .ok .brk, hr2 => exact hr2.elim
      | .ok .cont, hr2 => exact hr2.elim
      | .ok (.ret r), hr2 =>
        obtain ⟨rfl, h', tk, c', rfl, g⟩ := hr2
        repeat (any_goals (first | assumption | wp_step))
        exact q _ _ _ g
end
/-- set(xs): ints, fewer than 64 -/
def rSetI (K : PySem.W.Frag) (w : World) : List V → Hp → VK → Prop := fun xs H Q => ∃ (l : Addr) (ns : List Int), xs = [.ref l] ∧ (SqL K H l (ns.map V.int) ∨ SqT K H l (ns.map V.int)) ∧ ns.length < 64 ∧
  ∀ p c, H p = none → c ≤ ns.length → Q (.ref p) (upd H p (SetO w p (fun k => decide (k ∈ ns)) c))
section
variable {X : Cx}
theorem cr_setI (hc : X.calm = true) : CallR X (.type "set") (rSetI X.K X.w) := by
  intro pins s σ H xs us Q I r h
  obtain ⟨l, ns, rfl, hs, hl, q⟩ := h
  rw [Vals.ref1 r]
  have fin : ∀ (h' : Heap) (tk c : Nat), GotSet X.w ns s h' c → EP X pins σ Q (.ref s.heap.objs.size) { s with heap := h', toks := tk } := fun h' tk c ⟨g1, g2, g3⟩ =>
    ⟨.ref s.heap.objs.size, _, I.laid (t' := tk) g3 (Nat.le_refl _) (setO_new g1), rfl, q _ c (I.hok.fresh (Nat.le_refl _)) g2⟩
  have hb : ns.length + 1 < scanBound := by
    unfold scanBound
    omega
  rcases hs with hs | hs
  · obtain ⟨its, rv, pl, _⟩ := I.list hs
    exact set_of_list ns (I.ok.hd hc) pl.isList (by simpa using ints_of_vals rv) hb fin
  · obtain ⟨its, rv, pl, _⟩ := I.tuple hs
    exact call_set_tupI ns (I.ok.hd hc) pl (by simpa using ints_of_vals rv) hb fun h' tk c g1 g2 g3 => fin h' tk c ⟨g1, g2, g3⟩
/-- sorted(set(xs)) -/
theorem pairwise_ext : ∀ {xs ys : List Int}, xs.Pairwise (· < ·) → ys.Pairwise (· < ·) → (∀ k, k ∈ xs ↔ k ∈ ys) → xs = ys
  | [], [], _, _, _ => rfl
  | [], y :: ys, _, _, h => absurd ((h y).mpr List.mem_cons_self) (by simp)
  | x :: xs, [], _, _, h => absurd ((h x).mp List.mem_cons_self) (by simp)
  | x :: xs, y :: ys, hx, hy, h => by
    rw [List.pairwise_cons] at hx hy
    have e : x = y := by
      rcases List.mem_cons.mp ((h x).mp List.mem_cons_self) with e | e
      · exact e
      · rcases List.mem_cons.mp ((h y).mpr List.mem_cons_self) with e2 | e2
        · exact e2.symm
        · have a := hy.1 x e
          have b := hx.1 y e2
          omega
    subst e
    congr 1
    refine pairwise_ext hx.2 hy.2 fun k => ⟨fun hk => ?_, fun hk => ?_⟩
    · rcases List.mem_cons.mp ((h k).mp (List.mem_cons_of_mem _ hk)) with e | e
      · subst e
        exact absurd (hx.1 _ hk) (by omega)
      · exact e
    · rcases List.mem_cons.mp ((h k).mpr (List.mem_cons_of_mem _ hk)) with e | e
      · subst e
        exact absurd (hy.1 _ hk) (by omega)
      · exact e
end
end So

namespace K31
open PySem PySem.Spec PyProof.Rows L2 So
abbrev sCNum : Stmt := inClass (topS 30) 4
theorem scCNum : FnScope ["self", "step"] ["self"] (defScope sCNum) := ⟨rfl, rfl, rfl, by decide +kernel, rfl, by decide +kernel, by decide +kernel⟩
/-- the rows that are reasons -/
def numR : V → Option Int
  | .int i => some i
  | _ => none
def nums (ps : List Part) : List Int := ps.filterMap fun p => numR p.r
theorem nums_len (ps : List Part) : (nums ps).length ≤ ps.length := List.length_filterMap_le _ _
/-- what more the module's names say, to chains -/
structure WordsC (mg : Str → Option Value) : Prop where
  sorted : mg "sorted" = none
  set : mg "set" = none
  tuple : mg "tuple" = none
section
variable {P : Program} {w : World} {K : PySem.W.Frag} {mg : Str → Option Value} {base : Heap}
def spNum (CS CT C : Addr) : Sp := fun vs H Q _ => ∃ (a t : Addr) (us : List V) (ps : List Part), vs = [.ref a] ∧ ChAt CS CT C H a t us ps ∧ ps.length < 64 ∧
  ∀ (H' : Hp) (d : Addr) (ns : List Int), Same H H' → ns.Pairwise (· < ·) → (∀ k, k ∈ ns ↔ k ∈ nums ps) → H' d = some (.tup (ns.map V.int)) → Q (.ref d) H'
theorem ok_num {C CS CT f : Addr} {fd : FuncData} (F : Fun K "numbers" "Chain.numbers" sCNum f fd) (L : WordsC mg) (S : Stp K mg CT) (TC : Chn K mg C) : FnOk P w K mg base CX0 1 f fd ["self"] (spNum CS CT C) := by
  refine F.ok scCNum (fun vs H Q E h => ?_) (fun cdv A outer s H vs Q E hr h => ?_)
  · obtain ⟨_, _, _, _, rfl, _⟩ := h
    rfl
  · obtain ⟨a, t, us, ps, rfl, hc, h64, q⟩ := h
    obtain ⟨dx, ha⟩ := hc.self
    refine ⟨_, pss_one (ps_ret (pe_callTy call_tuple_of (by rfl) L.tuple (by decide +kernel) (pa_cons (pe_callB (cr_sortedSet rfl) (by rfl) L.sorted (by decide +kernel) (pa_cons (pe_callTy (cr_setI rfl) (by rfl) L.set (by decide +kernel)
      (pa_cons (pe_lc (own := [("step", 1)]) (g := gName 1) rfl scCNum.nd (pi_tup (pe_fld (pv 0) rfl)) (blkOk_by (N := ["self", "step"]) (sc := defScope sCNum) (by decide +kernel))
        (fun _ _ _ _ _ => pg_name (i := 1) scCNum.nd rfl (Or.inl rfl)) (fun _ _ _ _ _ => pts_one (pt_cmpR op_ne (pe_fldK (K := K) rfl (pv 1) rfl) pe_str (nomark _))) (fun _ _ _ _ _ => pe_fldK (K := K) rfl (pv 1) rfl)) pa_nil)) pa_nil)) pa_nil))), ?_⟩
    have hss := sizeLine_eq
    have hl := hc.len
    refine ⟨_, rfl, a, C, dx, _, _, rfl, ha, TC.cl, TC.nS, rfl, t, rfl, ⟨us, SqT.of hc.tup⟩, fun D hD => ?_⟩
    refine lc_it walk_tup (fun k H' => Same H H' ∧ H' D = some (.lst ((nums (ps.take k)).map V.int))) ⟨same_upd0 hD, upd_same⟩ (fun _ _ _ y => SqT.of (y.1 _ _ hc.tup)) ?_ ?_
    · rintro k x H1 H2 hk ⟨s1, hDk⟩ ⟨rfl, hx⟩
      obtain ⟨p, hp, b, rfl, hb⟩ := hc.all k x hx
      obtain ⟨db, u, v, hb, _, _⟩ := hb.same s1
      have hpo : p.Ok := hc.ok p (List.mem_of_getElem? hp)
      have etk : ps.take (k + 1) = ps.take k ++ [p] := by rw [List.take_add_one, hp]; rfl
      have elen : ((nums (ps.take k)).map V.int).length < sizeLine := by
        rw [List.length_map]
        have h1 := nums_len (ps.take k)
        have h2 : (ps.take k).length ≤ ps.length := List.length_take_le' _ _
        omega
      refine ⟨rfl, _, rfl, b, CT, db, _, _, rfl, hb, S.cl, S.nR, pf_reason _ _ _, ?_⟩
      rcases hpo.r with ⟨i, e, h0, h1⟩ | e
      · rw [e]
        refine ⟨rfl, _, rfl, ?_⟩
        rw [show (!decide (V.int i = V.str "time")) = true from rfl]
        refine iteT ⟨_, rfl, b, CT, db, _, _, rfl, hb, S.cl, S.nR, pf_reason _ _ _, _, hDk, elen, Same.over s1 hD, ?_⟩
        rw [upd_same, etk, e]
        unfold nums
        rw [List.filterMap_append, List.map_append]
        simp [e, numR]
      · rw [e]
        refine ⟨rfl, _, rfl, ?_⟩
        rw [show (!decide (V.str "time" = V.str "time")) = false by rw [decide_eq_true rfl]; rfl]
        refine iteF ⟨s1, ?_⟩
        rw [hDk, etk]
        unfold nums
        rw [List.filterMap_append]
        simp [e, numR]
    · rintro H1 ⟨s1, hD1⟩
      rw [hl, List.take_length] at hD1
      refine ⟨D, nums ps, rfl, .inl (SqL.of hD1), Nat.lt_of_le_of_lt (nums_len ps) h64, fun p c hp hcc => ⟨p, _, c, rfl, upd_same, Nat.lt_of_le_of_lt hcc (Nat.lt_of_le_of_lt (nums_len ps) h64), fun ns p2 hw hm hlen hp2 => ?_⟩⟩
      have s2 := (s1.trans (same_upd0 hp)).trans (same_upd0 (o := .lst (ns.map V.int)) hp2)
      exact ⟨p2, ns.map V.int, rfl, .inl ⟨SqL.of upd_same, fun l hl2 => q _ l ns (s2.trans (same_upd0 hl2)) hw (fun k => (hm k).trans ⟨of_decide_eq_true, decide_eq_true⟩) upd_same⟩⟩
end
end K31

namespace K31
open PySem PySem.Spec PyProof.Rows L2 So
abbrev sCStr : Stmt := inClass (topS 30) 12
theorem scCStr : FnScope ["self", "ends", "step"] ["self"] (defScope sCStr) := ⟨rfl, rfl, rfl, by decide +kernel, rfl, by decide +kernel, by decide +kernel⟩
/-- a step's end and its reason -/
def Part.endT (p : Part) : Str := Str.empty ++ p.v.txt ++ " by " ++ txtR p.r
def chTxt (ps : List Part) : Str := Txt.join ", " ((match ps with | p :: _ => p.u.txt | [] => Str.empty) :: ps.map Part.endT)
theorem sum_le {m : Nat} : ∀ {l : List Nat}, (∀ x ∈ l, x ≤ m) → l.sum ≤ l.length * m
  | [], _ => by simp
  | a :: r, h => by
    have h1 := sum_le (l := r) fun x hx => h x (List.mem_cons_of_mem _ hx)
    have h2 := h a List.mem_cons_self
    rw [List.sum_cons, List.length_cons, Nat.add_mul]
    omega
theorem endT_len {p : Part} (h : p.Ok) : p.endT.length ≤ 7000 := by
  have l2 := face_len h.v
  have l3 := txtR_len h.r
  have e0 : Str.empty.length = 0 := by decide
  have c2 : ((" by " : String) : Str).length = 4 := by decide
  unfold Part.endT
  simp only [Str.length_append, e0, c2]
  omega
section
variable {P : Program} {w : World} {K : PySem.W.Frag} {mg : Str → Option Value} {base : Heap}
def spCStr (CS CT C : Addr) : Sp := fun vs H Q _ => ∃ (a t : Addr) (us : List V) (ps : List Part), vs = [.ref a] ∧ ChAt CS CT C H a t us ps ∧ ps.length ≤ 1000 ∧ ∀ H', Same H H' → Q (.str (chTxt ps)) H'
theorem ok_cstr {C CS CT f fS pg gs : Addr} {fd fdS fdG : FuncData} (F : Fun K "__str__" "Chain.__str__" sCStr f fd) (W : Words K mg) (T : Say K mg CS) (S : Stp K mg CT) (TC : Chn K mg C) (hp : PropOf K C "source" pg gs) (bP : Binds K fdG ["self"] []) (GP : FnOk P w K mg base CX0 1 gs fdG ["self"] (spSrc CS CT C))
    (sS : PySem.W.findIn K (.ref CS) "__str__" = some (some (.ref fS))) (iS : PySem.W.isFn K (.ref fS) = true) (bS : Binds K fdS ["self"] []) (GS : FnOk P w K mg base CX0 2 fS fdS ["self"] (spStr CS)) : FnOk P w K mg base CX0 5 f fd ["self"] (spCStr CS CT C) := by
  refine F.ok scCStr (fun vs H Q E h => ?_) (fun cdv A outer s H vs Q E hr h => ?_)
  · obtain ⟨_, _, _, _, rfl, _⟩ := h
    rfl
  · obtain ⟨a, t, us, ps, rfl, hc, h64, q⟩ := h
    obtain ⟨dx, ha⟩ := hc.self
    have hr2 : Room 2 _ := hr.mono (by decide)
    refine ⟨_, pss_cons (ps_setLc (i := 1) (own := [("step", 2)]) (g := gName 2) (tt := tYes) rfl scCStr.nd rfl rfl (sw_true rfl rfl rfl (by decide +kernel)) (pi_tup (pe_fld (pv 0) rfl)) (blkOk_by (N := ["self", "ends", "step"]) (sc := defScope sCStr) (by decide +kernel))
        (fun _ _ _ _ _ => pg_name (i := 2) scCStr.nd rfl (Or.inl rfl)) (fun _ _ _ _ _ => pts_nil)
        (fun _ _ _ _ _ => pe_joined (.cons (pe_fmtS (pe_fldK (K := K) rfl (pv 2) rfl) GS sS iS bS pass0 hr2) (.cons pe_str (.cons (pe_fmt (pe_fldK (K := K) rfl (pv 2) rfl)) .nil)))))
      (pss_one (ps_ret (pe_join pe_str (pe_lst (pa_cons (pe_callTy (call_strOwn GS sS iS bS pass0 hr) (by rfl) W.str (by decide +kernel) (pa_cons (pe_prop (pv 0) TC.cl hp GP hr2 bP .nil pass0 rfl) pa_nil)) (StX.pa_star (pv 1) pa_nil)))))), ?_⟩
    have hss := sizeLine_eq
    have hl := hc.len
    have e0 : Str.empty.length = 0 := by decide
    have c2 : ((" by " : String) : Str).length = 4 := by decide
    refine ⟨_, rfl, a, C, dx, _, _, rfl, ha, TC.cl, TC.nS, rfl, t, rfl, ⟨us, SqT.of hc.tup⟩, fun D hD => ?_⟩
    refine lc_it (te := fun σ H Q => tJs [tFmtS CS (spStr CS) E0 (tFld K (tVar 2) "other"), tC (V.str " by "), tFmt (tFld K (tVar 2) "reason")] Str.empty σ H fun out H1 => Q (.str out) H1) walk_tup (fun k H' => Same H H' ∧ H' D = some (.lst (((ps.take k).map Part.endT).map V.str))) ⟨same_upd0 hD, upd_same⟩ (fun _ _ _ y => SqT.of (y.1 _ _ hc.tup)) ?_ ?_
    · rintro k x H1 H2 hk ⟨s1, hDk⟩ ⟨rfl, hx⟩
      obtain ⟨p, hp, b, rfl, hb⟩ := hc.all k x hx
      obtain ⟨db, u, v, hb, _, ⟨av, rfl, dv, hv⟩⟩ := hb.same s1
      have ho : p.Ok := hc.ok p (List.mem_of_getElem? hp)
      have etk : ps.take (k + 1) = ps.take k ++ [p] := by rw [List.take_add_one, hp]; rfl
      have elen : (((ps.take k).map Part.endT).map V.str).length < sizeLine := by
        rw [List.length_map, List.length_map]
        have h2 : (ps.take k).length ≤ ps.length := List.length_take_le' _ _
        omega
      have l2 := face_len ho.v
      have l3 := txtR_len ho.r
      refine ⟨rfl, _, rfl, b, CT, db, _, _, rfl, hb, S.cl, S.nT, pf_other _ _ _, av, dv, _, rfl, hv, av, _, _, _, rfl, ⟨dv, hv⟩, ho.v.len, ho.v.m0, ho.v.m1, fun H3 s3 => ⟨p.v.txt, rfl, by omega, _, rfl, ?_, ?_⟩⟩
      · rw [Str.length_append]; omega
      refine ⟨_, rfl, ?_, ?_⟩
      · rw [Str.length_append, Str.length_append]; omega
      refine ⟨_, rfl, b, CT, db, _, _, rfl, s3 _ _ hb, S.cl, S.nR, pf_reason _ _ _, ?_⟩
      have fin : ∀ y : Str, y = txtR p.r → ∃ z : Str, V.str y = .str z ∧ (Str.empty ++ p.v.txt ++ " by " ++ z).length ≤ sizeLine ∧ ∃ acc, H3 D = some (.lst acc) ∧ acc.length < sizeLine ∧ (Same H (upd H3 D (.lst (acc ++ [.str (Str.empty ++ p.v.txt ++ " by " ++ z)]))) ∧ (upd H3 D (.lst (acc ++ [.str (Str.empty ++ p.v.txt ++ " by " ++ z)]))) D = some (.lst (((ps.take (k + 1)).map Part.endT).map V.str))) := by
        rintro y rfl
        refine ⟨_, rfl, ?_, _, s3 _ _ hDk, elen, Same.over (s1.trans s3) hD, ?_⟩
        · simp only [Str.length_append, e0, c2]
          omega
        · rw [upd_same, etk, List.map_append, List.map_append]
          rfl
      rcases ho.r with ⟨i, e, h0, h1⟩ | e
      · exact .inr ⟨i, e, mom_log h0 h1, fin _ (by rw [e]; rfl)⟩
      · exact .inl ⟨_, e, by decide, fin _ (by rw [e]; rfl)⟩
    · rintro H1 ⟨s1, hD1⟩
      rw [hl, List.take_length] at hD1
      obtain ⟨p0, r0, rfl⟩ : ∃ p0 r0, ps = p0 :: r0 := by
        cases ps with
        | nil => exact absurd rfl hc.ne
        | cons p0 r0 => exact ⟨p0, r0, rfl⟩
      have ho : p0.Ok := hc.ok p0 List.mem_cons_self
      have lu := face_len ho.u
      have c3 : ((", " : String) : Str).length = 2 := by decide
      refine ⟨⟨_, rfl⟩, _, rfl, a, dx, _, rfl, s1 _ _ ha, a, t, us, _, rfl, hc.same s1, fun p u hp0 hu => ?_⟩
      obtain rfl : p0 = p := Option.some.inj hp0
      obtain ⟨au, rfl, du, hu⟩ := hu
      refine ⟨au, du, _, rfl, hu, au, _, _, _, rfl, ⟨du, hu⟩, ho.u.len, ho.u.m0, ho.u.m1, fun H2 s2 => ⟨p0.u.txt, rfl, ?_⟩⟩
      refine ⟨_, rfl, D, _, rfl, .inr (SqL.of (s2 _ _ hD1)), ?_, fun p hpn => ?_⟩
      · show (V.str p0.u.txt :: (((p0 :: r0).map Part.endT).map V.str ++ [])).length ≤ sizeLine
        rw [List.append_nil, List.length_cons, List.length_map, List.length_map]
        omega
      · refine ⟨_, p, p0.u.txt :: (p0 :: r0).map Part.endT, rfl, rfl, .inl (SqL.of ?_), ?_, q _ ((s1.trans s2).trans (same_upd0 hpn))⟩
        · rw [upd_same]
          show some (HO.lst (V.str p0.u.txt :: (((p0 :: r0).map Part.endT).map V.str ++ []))) = _
          rw [List.append_nil]
          rfl
        · have hs := sum_le (m := 7000) (l := (p0.u.txt :: (p0 :: r0).map Part.endT).map (·.length)) fun x hx => by
            obtain ⟨y, hy, rfl⟩ := List.mem_map.mp hx
            rcases List.mem_cons.mp hy with rfl | hy
            · omega
            · obtain ⟨e, he, rfl⟩ := List.mem_map.mp hy
              exact endT_len (hc.ok e he)
          rw [c3]
          rw [List.length_map] at hs
          have e5 : (p0.u.txt :: (p0 :: r0).map Part.endT).length = (p0 :: r0).length + 1 := by rw [List.length_cons, List.length_map]
          rw [e5] at hs ⊢
          omega
end
end K31

/-! t[::-1], t a tuple: a new tuple, turned about -/
namespace HT
open PySem PySem.Spec PyProof.Rows L2
section
variable {prog : Program} {w : World} {A : Around} {E : Value → Shared → Prop} {s : Shared}
theorem sliceApplied_rev {sl : Addr} {vl vu vs : Value} {n : Nat} {Q : Int × Int × Nat → Shared → Prop} (hs : s.heap.IsSliceOf sl vl vu vs) (pl : IsPart vl none) (pu : IsPart vu none) (ps : IsPart vs (some (-1)))
    (h : Q ((n : Int) - 1, -1, n) s) : wpAny (model prog w) A (Builtin.Slice.sliceApplied (.ref sl) (pure (n : Int))) Q E s := by
  obtain ⟨os, hos, hcs, hds⟩ := id hs
  unfold Builtin.Slice.sliceApplied Builtin.Slice.sliceFields
  refine wpAny_bind (wpAny_bind (wpAny_field hos hds (x := vl) rfl (wpAny_bind (wpAny_field hos hds (x := vu) rfl (wpAny_bind (wpAny_field hos hds (x := vs) rfl (wpAny_pure ?_)))))))
  refine wpAny_bind (slicePart_ ps ?_)
  show wpAny _ _ (if ((-1 : Int) == 0) = true then _ else _) _ _ s
  rw [if_neg (by decide)]
  refine wpAny_bind (slicePart_ pl (wpAny_bind (slicePart_ pu (wpAny_bind (wpAny_pure ?_)))))
  show wpAny _ _ (match Builtin.Slice.sliceAdjust none none (-1) (n : Int) with | (lo, hi) => pure (lo, (-1 : Int), Builtin.Slice.slicePlaces lo hi (-1))) _ _ s
  show wpAny _ _ (pure ((n : Int) - 1, (-1 : Int), Builtin.Slice.slicePlaces ((n : Int) - 1) (-1) (-1))) _ _ s
  have e : Builtin.Slice.slicePlaces ((n : Int) - 1) (-1) (-1) = n := by
    unfold Builtin.Slice.slicePlaces
    rw [if_neg (by decide)]
    by_cases hn : n = 0
    · subst hn
      rfl
    · rw [if_pos (by omega), show (-(-1 : Int)) = 1 from rfl, Int.ediv_one]
      omega
  rw [e]
  exact wpAny_pure h
theorem pick_rev (xs : Array Value) : ((List.range xs.size).filterMap fun (k : Nat) => xs[((xs.size : Int) - 1 + (k : Int) * (-1)).toNat]?) = xs.toList.reverse := by
  have e : (fun (k : Nat) => xs[((xs.size : Int) - 1 + (k : Int) * (-1)).toNat]?) = (fun j : Nat => xs[j]?) ∘ fun k => xs.size - 1 - k := by
    funext k
    have : ((xs.size : Int) - 1 + (k : Int) * (-1)).toNat = xs.size - 1 - k := by omega
    show xs[((xs.size : Int) - 1 + (k : Int) * (-1)).toNat]? = xs[xs.size - 1 - k]?
    rw [this]
  rw [e, ← List.filterMap_map, PySem.W.krv_range, List.filterMap_reverse, PySem.W.krv_all]
theorem getItem_tuple_rev {t sl : Addr} {items : Array Value} {vl vu vs : Value} {Q : Value → Shared → Prop} (ht : IsTup s.heap t items) (hs : s.heap.IsSliceOf sl vl vu vs) (pl : IsPart vl none) (pu : IsPart vu none) (ps : IsPart vs (some (-1)))
    (h : Q (.ref s.heap.objs.size) { s with heap := s.heap.push { cls := .type "tuple", data := .seq items.toList.reverse.toArray } })
    (hsz : items.size ≤ sizeLine) : wpAny (model prog w) A (getItem (.ref t) (.ref sl)) Q E s := by
  have htake : sizeOk (.seq items.toList.reverse.toArray) := by
    show items.toList.reverse.toArray.size ≤ sizeLine
    rw [List.size_toArray, List.length_reverse, Array.length_toList]
    exact hsz
  obtain ⟨os, hos, hcs, hds⟩ := id hs
  have hTs : s.TypeIs (.ref sl) "slice" := ⟨os, hos, hcs⟩
  unfold getItem
  try with_reducible refine wpAny_holding ?_
  first | refine wpAny_bind (wpAny_pure ?_) | skip
  refine wpAny_bind (wpAny_sequenceKey ht.typeIs (by decide) ?_)
  refine wpAny_bind (wpAny_callSpecial?_slot (name := Str.ofString "__getitem__") ht.typeIs PyProof.Rows.slot_tuple_getitem
    (wpAny_call_entry PyProof.Rows.slot_tuple_getitem ht.typeIs entry_tuple_getitem ?_ (args_tuple_getitem _ _)))
  show wpAny _ _ (Builtin.Tuple.tupleItemsOf (.ref t) >>= _) _ _ s
  refine wpAny_bind (tupleItemsOf_ ht ?_)
  refine wpAny_bind (wpAny_typeOf hTs ?_)
  rw [if_pos (by decide)]
  refine wpAny_bind (sliceApplied_rev hs pl pu ps ?_)
  have hno : ¬ (((items.size : Int) - 1 == 0 && (-1 : Int) == 1 && items.size == items.size) = true) := by
    rw [show ((-1 : Int) == 1) = false from rfl, Bool.and_false, Bool.false_and]
    exact Bool.false_ne_true
  show wpAny _ _ (if ((items.size : Int) - 1 == 0 && (-1 : Int) == 1 && items.size == items.size) = true then _ else _) _ _ s
  rw [if_neg hno, pick_rev]
  first
    | exact wpAny_bind (m := Builtin.Tuple.tupleExact _) (wpAny_newObj_type (wpAny_pure ⟨_, rfl, wpAny_pure h⟩) htake)
    | exact wpAny_bind (m := Builtin.Tuple.tupleExact _) (wpAny_newObj_type (wpAny_bind (wpAny_pure (wpAny_pure ⟨_, rfl, wpAny_pure h⟩))) htake)
end
end HT
namespace So
open PySem PySem.Spec PyProof.Rows L2
def tRevT (K : PySem.W.Frag) (te : TE) : TE := fun σ H Q => te σ H fun x H1 => ∃ a xs, x = .ref a ∧ SqT K H1 a xs ∧ ∀ p, H1 p = none → Q (.ref p) (upd H1 p (.tup xs.reverse))
theorem pe_revT {X : Cx} {e : Expr} {te : TE} {k : Nat} {p1 p2 p3 pos : Pos} (he : PE X e te) : PE X (.Subscript e (.Slice none none (some (.UnaryOp .USub (.Constant (.int 1) k p1) p2)) p3) pos) (tRevT X.K te) := by
  refine ⟨fun pins s σ H Q I h => ?_⟩
  refine Subscript_ (thn (he.run pins s σ H _ I h) fun v s1 ⟨x, H1, I1, r1, q1⟩ => ?_)
  obtain ⟨a, xs, ex, hx, q⟩ := q1
  subst ex
  cases r1
  have hst : PO X (some (.UnaryOp .USub (.Constant (.int 1) k p1) p2)) (tPart (tUn (rU fun i => .int (-i)) (tC (.int 1)))) := po_some (pe_un un_neg pe_int)
  refine wpAny_Slice (thn (po_none.run pins s1 σ H1 (fun o H2 => o = none ∧ H2 = H1) I1 ⟨rfl, rfl⟩) fun vl s2 ⟨l, H2, I2, pl, el, e2⟩ => ?_)
  subst el e2
  refine thn (po_none.run pins s2 σ H2 (fun o H3 => o = none ∧ H3 = H2) I2 ⟨rfl, rfl⟩) fun vu s3 ⟨u, H3, I3, pu, eu, e3⟩ => ?_
  subst eu e3
  refine thn (hst.run pins s3 σ H3 (fun o H4 => o = some (-1) ∧ H4 = H3) I3 ⟨1, rfl, -1, rfl, rfl, rfl⟩) fun vs s4 ⟨o, H4, I4, ps, eo, e4⟩ => ?_
  subst eo e4
  have I5 : Inv X pins σ H4 { s4 with heap := s4.heap.push { cls := .type "slice", data := .fields #[vl, vu, vs] } } := I4.kept (t' := s4.toks) fun b ob q => Heap.get?_push_of_some _ q
  obtain ⟨its, r, ht, hz⟩ := I5.tuple hx
  have hlen := r.length
  show wpAny (model X.prog X.w) X.A (subscriptTail e (.Slice none none (some (.UnaryOp .USub (.Constant (.int 1) k p1) p2)) p3) (.ref a) (.ref s4.heap.objs.size)) (EP X pins σ Q) X.xe { s4 with heap := s4.heap.push { cls := .type "slice", data := .fields #[vl, vu, vs] } }
  refine tail_any (ops := [.ref a, .ref s4.heap.objs.size]) ht.typeIs (PyProof.Rows.slot_tuple_getitem.lookup) ?_ (by with_unfolding_all rfl)
  refine HT.getItem_tuple_rev ht (Heap.IsSliceOf.new _ vl vu vs) pl pu ps ?_ (by rw [List.size_toArray]; omega)
  refine ⟨.ref _, _, I5.laid (t' := s4.toks) (o := .tup xs.reverse) (fun b ob q => Heap.get?_push_of_some _ q) (Nat.le_refl _) ?_, rfl, q _ (I5.hok.fresh (Nat.le_refl _))⟩
  exact ⟨by rw [List.length_reverse]; exact hz, _, r.reverse, IsTup.new _ _⟩
end So

namespace K31
open PySem PySem.Spec PyProof.Rows L2 So
abbrev sCInv : Stmt := inClass (topS 30) 9
theorem scCInv : FnScope ["self", "turned", "step"] ["self"] (defScope sCInv) := ⟨rfl, rfl, rfl, by decide +kernel, rfl, by decide +kernel, by decide +kernel⟩
/-- each part begins where the one ahead ends -/
def Linked (ps : List Part) : Prop := ∀ (i : Nat) (p q : Part), ps[i]? = some p → ps[i + 1]? = some q → q.u = p.v
theorem Linked.nt {ps : List Part} (h : Linked ps) : Linked (ps.reverse.map Part.nt) := by
  intro i p q hp hq
  rw [List.getElem?_map] at hp hq
  obtain ⟨p', hp', rfl⟩ : ∃ p', ps.reverse[i]? = some p' ∧ p'.nt = p := by
    cases e : ps.reverse[i]? with
    | none => rw [e] at hp; cases hp
    | some m => rw [e] at hp; exact ⟨m, rfl, Option.some.inj hp⟩
  obtain ⟨q', hq', rfl⟩ : ∃ q', ps.reverse[i + 1]? = some q' ∧ q'.nt = q := by
    cases e : ps.reverse[i + 1]? with
    | none => rw [e] at hq; cases hq
    | some m => rw [e] at hq; exact ⟨m, rfl, Option.some.inj hq⟩
  have h1 : i + 1 < ps.length := by
    have := (List.getElem?_eq_some_iff.mp hq').1
    rw [List.length_reverse] at this
    exact this
  rw [List.getElem?_reverse (by omega)] at hp'
  rw [List.getElem?_reverse h1] at hq'
  have := h (ps.length - 1 - (i + 1)) q' p' hq' (by rw [← hp']; congr 1; omega)
  show q'.v.nt = p'.u.nt
  rw [this]
theorem okAt_linked {ps : List Part} (h : Linked ps) {i : Nat} (hi : i < ps.length) : okAt (ps.map some) i = true := by
  unfold okAt
  rw [List.getElem?_map, List.getElem?_eq_getElem hi]
  cases i with
  | zero => rfl
  | succ n =>
    have hn : n < ps.length := by omega
    show (decide (n + 1 = 0) || (match (ps.map some)[n + 1 - 1]? with | some (some q) => decide (ps[n + 1].u = q.v) | _ => false)) = true
    rw [show n + 1 - 1 = n from rfl, List.getElem?_map, List.getElem?_eq_getElem hn]
    show (decide (n + 1 = 0) || decide (ps[n + 1].u = ps[n].v)) = true
    rw [decide_eq_true (h n _ _ (List.getElem?_eq_getElem hn) (List.getElem?_eq_getElem hi)), Bool.or_true]
/-- a chain of steps that are linked, made -/
theorem made_linked {K : PySem.W.Frag} {CS CT CB C : Addr} {us : List V} {rs : List Part} {H : Hp} {E : XK} {Q : VK} (hall : ∀ (i : Nat) (v : V), us[i]? = some v → ∃ p, rs[i]? = some p ∧ StV CS CT H v p) (hl : us.length = rs.length) (hne : rs ≠ []) (hz : rs.length ≤ 1000) (hok : ∀ p ∈ rs, p.Ok) (hln : Linked rs)
    (q : ∀ (H' : Hp) (a t : Addr), Same H H' → ChAt CS CT C H' a t us rs → Q (.ref a) H') : Made K CS CT CB C (us.zip (rs.map some)) H E Q := by
  have e1 : (us.zip (rs.map some)).map Prod.fst = us := List.map_fst_zip (by rw [List.length_map, hl]; exact Nat.le_refl _)
  have e2 : (us.zip (rs.map some)).map Prod.snd = rs.map some := List.map_snd_zip (by rw [List.length_map, hl]; exact Nat.le_refl _)
  have el : (us.zip (rs.map some)).length = rs.length := by rw [List.length_zip, List.length_map, hl, Nat.min_self]
  have hallok : ∀ j, j < rs.length → okAt (rs.map some) j = true := fun j hj => okAt_linked hln hj
  refine ⟨by rw [el]; exact hz, fun e he => ?_, fun e => ?_, fun k hk e => ?_, fun _ _ H' a t dx s ht ha => ?_⟩
  · obtain ⟨i, hi, rfl⟩ := List.mem_iff_getElem.mp he
    rw [el] at hi
    have hu : i < us.length := by rw [hl]; exact hi
    rw [List.getElem_zip, List.getElem_map]
    obtain ⟨p, hp, b, eb, hb⟩ := hall i us[i] (List.getElem?_eq_getElem hu)
    rw [List.getElem?_eq_getElem hi] at hp
    obtain rfl := Option.some.inj hp
    exact .inl ⟨b, rs[i], by rw [eb], hb, hok _ (List.getElem_mem hi)⟩
  · exact absurd (List.eq_nil_of_length_eq_zero (by rw [← el, e]; rfl)) hne
  · rw [e2, hallok k (by rw [← el]; exact hk)] at e
    cases e
  · rw [e1] at ht
    refine q H' a t s ⟨⟨dx, ha⟩, ht, fun i v hv => ?_, hl, hok, hne⟩
    obtain ⟨p, hp, hs⟩ := hall i v hv
    exact ⟨p, hp, hs.same s⟩
section
variable {P : Program} {w : World} {K : PySem.W.Frag} {mg : Str → Option Value} {base : Heap}
def spCInv (CS CT C : Addr) : Sp := fun vs H Q _ => ∃ (a t : Addr) (us : List V) (ps : List Part), vs = [.ref a] ∧ ChAt CS CT C H a t us ps ∧ ps.length ≤ 1000 ∧ Linked ps ∧ ∀ (H' : Hp) (a' t' : Addr) (us' : List V), Same H H' → ChAt CS CT C H' a' t' us' (ps.reverse.map Part.nt) → Q (.ref a') H'
theorem ok_chinv {C CS CT CB f fI fV : Addr} {fd fdV : FuncData} (F : Fun K "__invert__" "Chain.__invert__" sCInv f fd) (TC : Chn K mg C) (M : Mk K C fI) (GI : FnR P w K mg base (L2.CX P w) 5 fI (spCI K CS CT CB C))
    (sV : PySem.W.findIn K (.ref CT) "__invert__" = some (some (.ref fV))) (iV : PySem.W.isFn K (.ref fV) = true) (bV : Binds K fdV ["self"] []) (GV : FnOk P w K mg base CX0 7 fV fdV ["self"] (spTInv CS CT)) : FnOk P w K mg base CX0 8 f fd ["self"] (spCInv CS CT C) := by
  refine F.ok scCInv (fun vs H Q E h => ?_) (fun cdv A outer s H vs Q E hr h => ?_)
  · obtain ⟨_, _, _, _, rfl, _⟩ := h
    rfl
  · obtain ⟨a, t, us, ps, rfl, hc, hz, hln, q⟩ := h
    obtain ⟨dx, ha⟩ := hc.self
    have hr6 : Room 6 _ := hr.mono (by decide)
    refine ⟨_, pss_cons (ps_setLc (i := 1) (own := [("step", 2)]) (g := gName 2) (tt := tYes) rfl scCInv.nd rfl rfl (sw_true rfl rfl rfl (by decide +kernel)) (pi_tup (pe_revT (pe_fld (pv 0) rfl))) (blkOk_by (N := ["self", "turned", "step"]) (sc := defScope sCInv) (by decide +kernel))
        (fun _ _ _ _ _ => pg_name (i := 2) scCInv.nd rfl (Or.inl rfl)) (fun _ _ _ _ _ => pts_nil) (fun _ _ _ _ _ => pe_un (un_invOwn GV sV iV bV pass0 hr) (pv 2)))
      (pss_one (ps_ret (pe_makeS1 M GI hr6 (by rfl) TC.mgC passNo (pv 1)))), ?_⟩
    have hss := sizeLine_eq
    have hl := hc.len
    refine ⟨_, rfl, a, C, dx, _, _, rfl, ha, TC.cl, TC.nS, rfl, t, us, rfl, SqT.of hc.tup, fun r hrr => ?_⟩
    have s0 := same_upd0 (o := .tup us.reverse) hrr
    refine ⟨r, rfl, ⟨us.reverse, SqT.of upd_same⟩, fun D hD => ?_⟩
    have htr : (upd H r (.tup us.reverse)) r = some (.tup us.reverse) := upd_same
    revert s0 htr hD
    generalize upd H r (.tup us.reverse) = H0
    intro s0 hD htr
    refine lc_it (walk_tup (xs := us.reverse)) (fun k H' => Same H0 H' ∧ ∃ vs : List V, vs.length = k ∧ H' D = some (.lst vs) ∧ ∀ (i : Nat) (v : V), vs[i]? = some v → ∃ p, (ps.reverse.map Part.nt)[i]? = some p ∧ StV CS CT H' v p) ⟨same_upd0 hD, [], rfl, upd_same, fun i v h => by simp at h⟩ (fun _ _ _ y => SqT.of (y.1 _ _ htr)) ?_ ?_
    · rintro k x H1 H2 hk ⟨s1, vs, hvl, hDk, hvs⟩ ⟨rfl, hx⟩
      have hk' : k < us.length := by rw [List.length_reverse] at hk; exact hk
      rw [List.getElem?_reverse hk'] at hx
      obtain ⟨p, hp, b, rfl, hb⟩ := hc.all _ x hx
      have hb1 := hb.same (s0.trans s1)
      obtain ⟨db, u, v, hbx, _, _⟩ := id hb1
      have hpr : (ps.reverse.map Part.nt)[k]? = some p.nt := by
        rw [List.getElem?_map, List.getElem?_reverse (by rw [← hl]; exact hk'), ← hl, hp]
        rfl
      refine ⟨rfl, _, rfl, b, db, _, rfl, hbx, b, p, rfl, hb1, hc.ok p (List.mem_of_getElem? hp), fun H3 b' s3 hb3 => ?_⟩
      refine ⟨vs, s3 _ _ hDk, by rw [hvl]; omega, Same.over (s1.trans s3) hD, vs ++ [.ref b'], by rw [List.length_append, hvl]; rfl, upd_same, fun i y hy => ?_⟩
      have sD : ∀ {v : V} {q : Part}, StV CS CT H3 v q → StV CS CT (upd H3 D (.lst (vs ++ [.ref b']))) v q := fun ⟨c, e, h⟩ => by
        have hx3 := s3 _ _ hDk
        obtain ⟨d1, u1, v1, h1, ⟨c1, e1, d2, h2⟩, ⟨c2, e2, d3, h3⟩⟩ := h
        have kp : ∀ {c : Addr} {o : HO}, H3 c = some o → o ≠ .lst vs → (upd H3 D (.lst (vs ++ [.ref b']))) c = some o := fun {c o} e n => (upd_ne (fun z => n (by rw [z, hx3] at e; exact (Option.some.inj e).symm))).trans e
        exact ⟨c, e, d1, u1, v1, kp h1 (fun z => nomatch z), ⟨c1, e1, d2, kp h2 (fun z => nomatch z)⟩, ⟨c2, e2, d3, kp h3 (fun z => nomatch z)⟩⟩
      by_cases hi : i < vs.length
      · rw [List.getElem?_append_left hi] at hy
        obtain ⟨p1, e1, h1⟩ := hvs i y hy
        exact ⟨p1, e1, sD (h1.same s3)⟩
      · rw [List.getElem?_append_right (by omega)] at hy
        have hi0 : i - vs.length = 0 := by
          cases e : i - vs.length with
          | zero => rfl
          | succ n => rw [e] at hy; simp at hy
        rw [hi0] at hy
        obtain rfl : V.ref b' = y := Option.some.inj hy
        have : i = k := by omega
        subst this
        exact ⟨p.nt, hpr, sD ⟨b', rfl, hb3⟩⟩
    · rintro H1 ⟨s1, vs, hvl, hD1, hvs⟩
      rw [List.length_reverse] at hvl
      have hvr : vs.length = (ps.reverse.map Part.nt).length := by rw [hvl, hl, List.length_map, List.length_reverse]
      have e1 : (vs.zip ((ps.reverse.map Part.nt).map some)).map Prod.fst = vs := List.map_fst_zip (by rw [List.length_map, hvr]; exact Nat.le_refl _)
      have hne : ps.reverse.map Part.nt ≠ [] := fun z => hc.ne (List.reverse_eq_nil_iff.mp (List.map_eq_nil_iff.mp z))
      have hok : ∀ p ∈ ps.reverse.map Part.nt, p.Ok := fun p hp => by
        obtain ⟨p', hp', rfl⟩ := List.mem_map.mp hp
        exact (hc.ok p' (List.mem_reverse.mp hp')).nt
      have hm := madeC (made_linked (K := K) (CB := CB) (E := fun _ _ _ => False) hvs hvr hne (by rw [List.length_map, List.length_reverse]; exact hz) hok hln.nt (fun H' a' t' s2 h => q H' a' t' vs ((s0.trans s1).trans s2) h))
      rw [e1] at hm
      exact ⟨_, rfl, D, vs, rfl, .inr (SqL.of hD1), hm⟩
end
end K31

/-! x == y of two tuples of unlike lengths whose items are equal as far as both go: False -/
namespace So
open PySem PySem.SeqAt PySem.Spec PyProof.Rows
open AutoSeq1 (wpAny_loadPart')
open MeetsSeq MeetsSeq2 MeetsSeq3 SeqRoads2
section
variable {prog : Program} {w : World} {A : Around} {W : Result → Shared → Prop} {p q : Addr} {us vs : Array Value}
theorem body_eqL {d1 d2 : Option Addr} {k1 k2 : Nat} {m1 m2 : Array (Option Value)} (hs : us.size ≠ vs.size) (J : Nat → Shared → Prop)
    (step : ∀ (k : Nat) (a : k < us.size) (b : k < vs.size) (t : Shared), J k t → wpAny (model prog w) A.in1 (eqBool us[k] vs[k]) (fun z t' => z = true ∧ J (k + 1) t') (fun e t' => W (.error e) t') t)
    (done : ∀ k t, J k t → W (.ok (.ret (.bool false))) t) {t : Shared} (hp : t.heap.get? p = some { cls := .type "tuple", dict := d1, data := .seq us k1, slots := m1 }) (hq : t.heap.get? q = some { cls := .type "tuple", dict := d2, data := .seq vs k2, slots := m2 }) (j0 : J 0 t) :
    wpAny (model prog w) A.in1 (Builtin.«tuple.__eq__» ⟨[.ref p, .ref q], []⟩) (GQ.FinOf prog w A W) (fun e t' => W (.error e) t') t := by
  have sub2 := AutoSeq1.sub_tuple_tuple
  have len : (us.toList.zip vs.toList).length = min us.size vs.size := by simp
  have keep := j0
  obtain ⟨t1, t2, t3, t4, t5⟩ := t
  wp_walk using wpAny_loadPart' hp, wpAny_loadPart' hq, wpAny_forIn_list _ (fun more acc t' => acc.1 = none ∧ ∃ k, more = (us.toList.zip vs.toList).drop k ∧ J k t') _
  case turn =>
    rintro ⟨v1, u1⟩ more acc t' ⟨ha, k, em, jk⟩
    have below : k < (us.toList.zip vs.toList).length := by
      by_cases c : k < (us.toList.zip vs.toList).length
      · exact c
      · rw [List.drop_of_length_le (by omega)] at em
        cases em
    have ku : k < us.size := by omega
    have kv : k < vs.size := by omega
    rw [List.drop_eq_getElem_cons below] at em
    injection em with e1 e2
    obtain ⟨f1, f2⟩ : v1 = us[k] ∧ u1 = vs[k] := ⟨by simpa using congrArg Prod.fst e1, by simpa using congrArg Prod.snd e1⟩
    subst f1 f2
    refine wpAny_bind (wpAny_mono (step k ku kv t' jk) (fun z t2 ⟨hz, j2⟩ => ?_) fun _ _ y => y)
    subst hz
    wp_walk
    exact ⟨rfl, k + 1, e2, j2⟩
  case fin =>
    rintro ⟨a1, a2⟩ t' ⟨ha, k, em, jk⟩
    dsimp only at ha
    subst ha
    have last := done k t' jk
    wp_walk
    have e0 : (us.size == vs.size) = false := by simp [hs]
    show GQ.FinOf prog w A W (Fin.done (Flow.ret (Value.bool (us.size == vs.size)))) t'
    rw [e0]
    exact last
  case h =>
    exact ⟨rfl, 0, rfl, keep⟩
theorem cmp_eqL {E : Value → Shared → Prop} {t : Shared} {Q : Value → Shared → Prop} (hs : us.size ≠ vs.size) (hu : A.units < cLine) (J : Nat → Shared → Prop) (hp : t.heap.IsTuple p us) (hq : t.heap.IsTuple q vs)
    (step : ∀ (k : Nat) (a : k < us.size) (b : k < vs.size) (t : Shared), J k t → wpAny (model prog w) A.in1 (eqBool us[k] vs[k]) (fun z t' => z = true ∧ J (k + 1) t') E t)
    (done : ∀ k t, J k t → Q (.bool false) t) (j0 : J 0 t) : wpAny (model prog w) A (richCompare .Eq (.ref p) (.ref q)) Q E t := by
  obtain ⟨⟨c1, d1, x1, m1⟩, g1, hc1, k1, hx1⟩ := hp
  obtain ⟨⟨c2, d2, x2, m2⟩, g2, hc2, k2, hx2⟩ := hq
  dsimp only at hc1 hx1 hc2 hx2
  subst hc1 hx1 hc2 hx2
  refine wpAny_richCompare_same_room (op := .Eq) ⟨_, g1, rfl⟩ ⟨_, g2, rfl⟩ F.slot_tuple_eq ?_ hu
  refine GQ.call_here F.slot_tuple_eq ⟨_, g1, rfl⟩ F.entry_tuple_eq (F.args_tuple_eq_2 _ _) ?_
  exact body_eqL (W := wants (fun y t' => y ≠ .notImplemented ∧ Q y t') E) hs J step (fun k t' j => ⟨nofun, done k t' j⟩) g1 g2 j0
end
open L2
section
variable {X : Cx} {n : Nat} {D : Eqv}
/-- what x == y asks of two tuples of unlike lengths, equal as far as both go -/
def rEqTL (K : PySem.W.Frag) (D : Eqv) : R2 := fun x y H Q => (∃ a b xs ys, x = .ref a ∧ y = .ref b ∧ SqT K H a xs ∧ SqT K H b ys ∧ xs.length ≠ ys.length ∧ ∀ (i : Nat) (u v : V), xs[i]? = some u → ys[i]? = some v → D u v H) ∧ ∀ H', Ext H H' → Q (.bl false) H'
theorem op_eqTL (hD : Mon D) (h : EqG X n D) (hr : Room (n + 1) X.A) : OpR X (compareOp .Eq) (rEqTL X.K D) := by
  intro pins s σ H x y v u Q I rx ry hq
  obtain ⟨⟨a, b, xs, ys, rfl, rfl, ha, hb, hne, pr⟩, q⟩ := hq
  cases rx
  cases ry
  obtain ⟨l1, v1, i1, _⟩ := I.tuple ha
  obtain ⟨l2, v2, i2, _⟩ := I.tuple hb
  have un : l1.toArray.size ≠ l2.toArray.size := by
    have e1 := v1.length
    have e2 := v2.length
    simp only [List.size_toArray]
    omega
  show wpAny _ _ (richCompare .Eq (.ref a) (.ref b)) _ _ s
  refine cmp_eqL un hr.units0 (fun _ t => LoopI X pins σ H t) i1 i2 (fun k c1 c2 t ⟨G, J, e⟩ => ?_) (fun k t ⟨G, J, e⟩ => ⟨.bl false, G, J, rfl, q G e⟩) ⟨H, I, Ext.rfl'⟩
  have g1 : k < l1.length := by simpa using c1
  have g2 : k < l2.length := by simpa using c2
  have k1 : k < xs.length := by rw [v1.length]; exact g1
  have k2 : k < ys.length := by rw [v2.length]; exact g2
  obtain ⟨u1, hu1, ru1⟩ := v1.get (List.getElem?_eq_getElem k1)
  obtain ⟨u2, hu2, ru2⟩ := v2.get (List.getElem?_eq_getElem k2)
  rw [List.getElem?_eq_getElem g1] at hu1
  rw [List.getElem?_eq_getElem g2] at hu2
  have z1 : l1.toArray[k] = u1 := by simpa using Option.some.inj hu1
  have z2 : l2.toArray[k] = u2 := by simpa using Option.some.inj hu2
  rw [z1, z2]
  refine wpAny_mono (h X.A.in1 pins t σ G _ _ u1 u2 (Sub.in1 ⟨hr, rfl⟩) J ru1 ru2 (hD _ _ _ _ e (pr k _ _ (List.getElem?_eq_getElem k1) (List.getElem?_eq_getElem k2)))) (fun r s2 ⟨hr', H2, I2, e2⟩ => ⟨hr', H2, I2, e.trans e2⟩) fun _ _ x => x
end
end So

namespace K31
open PySem PySem.Spec PyProof.Rows L2 So
abbrev sCEq : Stmt := inClass (topS 30) 10
theorem scCEq : FnScope ["self", "other"] ["self", "other"] (defScope sCEq) := ⟨rfl, rfl, rfl, by decide +kernel, rfl, by decide +kernel, by decide +kernel⟩
/-- two like steps -/
def RSt (CS CT : Addr) : Addr → Addr → Hp → Prop := fun a b H => ∃ p : Part, StAt CS CT H a p ∧ StAt CS CT H b p ∧ p.Ok
theorem RSt.ext {CS CT : Addr} : ∀ a b H H', Ext H H' → RSt CS CT a b H → RSt CS CT a b H' := fun a b H H' e ⟨p, h1, h2, ho⟩ => ⟨p, h1.same e, h2.same e, ho⟩
section
variable {P : Program} {w : World} {K : PySem.W.Frag} {mg : Str → Option Value} {base : Heap}
/-- Step.__eq__ of two like steps -/
theorem ok_teq1 {f C CS : Addr} {fd : FuncData} (G : FnOk P w K mg base CX0 4 f fd ["self", "other"] (spTEq K CS C)) : FnOk P w K mg base CX0 4 f fd ["self", "other"] (L2.spEq (RSt CS C)) :=
  G.imp fun vs H Q E h => by
    obtain ⟨a, b, rfl, ⟨p, h1, h2, ho⟩, q⟩ := h
    exact ⟨a, .ref b, p, rfl, h1, ho, .inl ⟨b, p, rfl, h2, ho, fun H' s => by rw [decide_eq_true rfl]; exact q H' s⟩⟩
def spCEq (K : PySem.W.Frag) (CS CT C : Addr) : Sp := fun vs H Q _ => ∃ (a t : Addr) (us : List V) (ps : List Part) (y : V), vs = [.ref a, y] ∧ ChAt CS CT C H a t us ps ∧
  ((∃ (a' t' : Addr) (us' : List V), y = .ref a' ∧ ChAt CS CT C H a' t' us' ps ∧ ∀ H', Same H H' → Q (.bl true) H') ∨
   (∃ (a' t' : Addr) (us' : List V) (ps' : List Part), y = .ref a' ∧ ChAt CS CT C H a' t' us' ps' ∧ ps.length ≠ ps'.length ∧ (∀ (i : Nat) (p q : Part), ps[i]? = some p → ps'[i]? = some q → p = q) ∧ ∀ H', Same H H' → Q (.bl false) H') ∨
   (∃ t, TyX K H y t ∧ PySem.W.kitOne K t (.ref C) = some false ∧ Q (.bl false) H))
theorem ok_ceq {f C CS CT fE : Addr} {fd fdE : FuncData} (F : Fun K "__eq__" "Chain.__eq__" sCEq f fd) (W : Words K mg) (TC : Chn K mg C) (OC : Own1 K C) (sE : PySem.W.findIn K (.ref CT) "__eq__" = some (some (.ref fE))) (iE : PySem.W.isFn K (.ref fE) = true) (bE : Binds K fdE ["self", "other"] [])
    (GE : FnOk P w K mg base CX0 4 fE fdE ["self", "other"] (spTEq K CS CT)) : FnOk P w K mg base CX0 6 f fd ["self", "other"] (spCEq K CS CT C) := by
  refine F.ok scCEq (fun vs H Q E h => ?_) (fun cdv A outer s H vs Q E hr h => ?_)
  · obtain ⟨_, _, _, _, _, rfl, _⟩ := h
    rfl
  · obtain ⟨a, t, us, ps, y, rfl, hc, h⟩ := h
    have G1 := ok_teq1 GE
    refine ⟨_, pss_one (ps_ret (pe_and (pe_callB call_isi (by rfl) W.isi (by decide +kernel) (pa_cons (pv 1) (pa_cons (pe_glob (v := .ref C) rfl TC.mgC rfl) pa_nil)))
      (pe_one (pe_cmpR (OpR.or (op_eqG (rcG_tup (mon_ins RSt.ext) (eqG_ins G1 sE iE bE pass0)) hr) (op_eqTL (mon_ins RSt.ext) (eqG_ins G1 sE iE bE pass0) hr)) (pe_fld (pv 0) rfl) (pe_fld (pv 1) rfl) (nomark _))))), ?_⟩
    obtain ⟨dx, ha⟩ := hc.self
    have din : ∀ {u v : V} {p : Part}, StV CS CT H u p → StV CS CT H v p → p.Ok → DIns CT (RSt CS CT) u v H := fun ⟨c, e1, h1⟩ ⟨d, e2, h2⟩ ho => by
      obtain ⟨d1, u1, v1, g1, _⟩ := id h1
      obtain ⟨d2, u2, v2, g2, _⟩ := id h2
      exact ⟨c, d, d1, d2, _, _, e1, e2, g1, g2, _, h1, h2, ho⟩
    rcases h with ⟨a', t', us', rfl, hc', q⟩ | ⟨a', t', us', ps', rfl, hc', hne, hpre, q⟩ | ⟨t2, ty, hk, q⟩
    · obtain ⟨dx', ha'⟩ := hc'.self
      refine ⟨_, rfl, _, _, _, _, true, rfl, .own C, .base (.ins ha' TC.cl OC.ha OC.hn OC.htk OC.hm), OC.me, true, rfl, iteT ?_⟩
      refine ⟨_, rfl, a, C, dx, _, _, rfl, ha, TC.cl, TC.nS, rfl, _, rfl, a', C, dx', _, _, rfl, ha', TC.cl, TC.nS, rfl, .inl ⟨⟨t, t', us, us', rfl, rfl, SqT.of hc.tup, SqT.of hc'.tup, by rw [hc.len, hc'.len], fun i u v hu hv => ?_⟩, fun H' e => q H' e⟩⟩
      obtain ⟨p, hp, h1⟩ := hc.all i u hu
      obtain ⟨p', hp', h2⟩ := hc'.all i v hv
      rw [hp] at hp'
      obtain rfl := Option.some.inj hp'
      exact din h1 h2 (hc.ok p (List.mem_of_getElem? hp))
    · obtain ⟨dx', ha'⟩ := hc'.self
      refine ⟨_, rfl, _, _, _, _, true, rfl, .own C, .base (.ins ha' TC.cl OC.ha OC.hn OC.htk OC.hm), OC.me, true, rfl, iteT ?_⟩
      refine ⟨_, rfl, a, C, dx, _, _, rfl, ha, TC.cl, TC.nS, rfl, _, rfl, a', C, dx', _, _, rfl, ha', TC.cl, TC.nS, rfl, .inr ⟨⟨t, t', us, us', rfl, rfl, SqT.of hc.tup, SqT.of hc'.tup, by rw [hc.len, hc'.len]; exact hne, fun i u v hu hv => ?_⟩, fun H' e => q H' e⟩⟩
      obtain ⟨p, hp, h1⟩ := hc.all i u hu
      obtain ⟨p', hp', h2⟩ := hc'.all i v hv
      obtain rfl := hpre i p p' hp hp'
      exact din h1 h2 (hc.ok p (List.mem_of_getElem? hp))
    · exact ⟨_, rfl, _, _, _, _, false, rfl, .own C, ty, hk, false, rfl, iteF q⟩
end
end K31

namespace K31
open PySem PySem.Spec PyProof.Rows L2 So
abbrev sSaying : Stmt := topS 35
abbrev sFace : Stmt := topS 36
abbrev sText : Stmt := topS 42
abbrev sNot : Stmt := topS 43
theorem scSaying : FnScope ["_law_face_here"] ["_law_face_here"] (defScope sSaying) := ⟨rfl, rfl, rfl, by decide +kernel, rfl, by decide +kernel, by decide +kernel⟩
theorem scFace : FnScope ["_law_saying_here"] ["_law_saying_here"] (defScope sFace) := ⟨rfl, rfl, rfl, by decide +kernel, rfl, by decide +kernel, by decide +kernel⟩
theorem scText : FnScope ["_law_face_here"] ["_law_face_here"] (defScope sText) := ⟨rfl, rfl, rfl, by decide +kernel, rfl, by decide +kernel, by decide +kernel⟩
theorem scNot : FnScope ["_law_face_here"] ["_law_face_here"] (defScope sNot) := ⟨rfl, rfl, rfl, by decide +kernel, rfl, by decide +kernel, by decide +kernel⟩
/-- the law's face of a saying: a tuple of three -/
def FcAt (H : Hp) (v : V) (f : Face) : Prop := ∃ p, v = .ref p ∧ H p = some (.tup [.str f.z, .int f.m, .bl f.b])
theorem FcAt.same {H H' : Hp} {v : V} {f : Face} (h : FcAt H v f) (s : Same H H') : FcAt H' v f := by
  obtain ⟨p, e, h⟩ := h
  exact ⟨p, e, s _ _ h⟩
section
variable {P : Program} {w : World} {K : PySem.W.Frag} {mg : Str → Option Value} {base : Heap}
def spLSay (CS : Addr) : Sp := fun vs H Q _ => ∃ (v : V) (f : Face), vs = [v] ∧ FcAt H v f ∧ f.Ok ∧ ∀ (H' : Hp) (u : V), Same H H' → SayAt CS H' u f → Q u H'
theorem ok_lsay {f CS fI : Addr} {fd fdI : FuncData} (F : Fun K "_law_saying" "_law_saying" sSaying f fd) (T : Say K mg CS) (M : Mk K CS fI) (bI : Binds K fdI ["self", "tool", "moment", "is_sound"] []) (GI : FnOk P w K mg base CX0 4 fI fdI ["self", "tool", "moment", "is_sound"] (spInit CS)) :
    FnOk P w K mg base CX0 6 f fd ["_law_face_here"] (spLSay CS) := by
  refine F.ok scSaying (fun vs H Q E h => ?_) (fun cdv A outer s H vs Q E hr h => ?_)
  · obtain ⟨_, _, rfl, _⟩ := h
    rfl
  · obtain ⟨v, f, rfl, ⟨p, rfl, hp⟩, ho, q⟩ := h
    refine ⟨_, pss_one (ps_ret (pe_make M GI hr (by rfl) T.mgC bI .nil pass0 (pa_cons (pe_ix ix_tup (pv 0) pe_int (fun _ _ => rfl)) (pa_cons (pe_ix ix_tup (pv 0) pe_int (fun _ _ => rfl)) (pa_cons (pe_ix ix_tup (pv 0) pe_int (fun _ _ => rfl)) pa_nil))))), ?_⟩
    refine ⟨_, rfl, p, _, _, _, rfl, rfl, SqT.of hp, rfl, _, rfl, p, _, _, _, rfl, rfl, SqT.of hp, rfl, _, rfl, p, _, _, _, rfl, rfl, SqT.of hp, rfl, ?_⟩
    exact made ho.len ho.nm ho.m0 ho.m1 fun H' a s h => q H' (.ref a) s ⟨a, rfl, h⟩
def spLFace (CS : Addr) : Sp := fun vs H Q _ => ∃ (v : V) (f : Face), vs = [v] ∧ SayAt CS H v f ∧ ∀ (H' : Hp) (u : V), Same H H' → FcAt H' u f → Q u H'
theorem ok_lface {f CS : Addr} {fd : FuncData} (F : Fun K "_law_face" "_law_face" sFace f fd) (T : Say K mg CS) : FnOk P w K mg base CX0 1 f fd ["_law_saying_here"] (spLFace CS) := by
  refine F.ok scFace (fun vs H Q E h => ?_) (fun cdv A outer s H vs Q E hr h => ?_)
  · obtain ⟨_, _, rfl, _⟩ := h
    rfl
  · obtain ⟨v, f, rfl, ⟨a, rfl, dx, ha⟩, q⟩ := h
    refine ⟨_, pss_one (ps_ret (pe_tup (pa_cons (pe_fld (pv 0) rfl) (pa_cons (pe_fld (pv 0) rfl) (pa_cons (pe_fld (pv 0) rfl) pa_nil))))), ?_⟩
    refine ⟨_, rfl, a, CS, dx, _, _, rfl, ha, T.cl, T.nT, sf_tool _ _ _, _, rfl, a, CS, dx, _, _, rfl, ha, T.cl, T.nM, sf_moment _ _ _, _, rfl, a, CS, dx, _, _, rfl, ha, T.cl, T.nS, sf_sound _ _ _, (by show 3 ≤ sizeLine; decide), fun p hp => ?_⟩
    exact q _ _ (same_upd0 hp) ⟨p, rfl, upd_same⟩
def spLNot : Sp := fun vs H Q _ => ∃ (v : V) (f : Face), vs = [v] ∧ FcAt H v f ∧ ∀ (H' : Hp) (u : V), Same H H' → FcAt H' u f.nt → Q u H'
theorem ok_lnot {f : Addr} {fd : FuncData} (F : Fun K "_law_not" "_law_not" sNot f fd) : FnOk P w K mg base CX0 1 f fd ["_law_face_here"] spLNot := by
  refine F.ok scNot (fun vs H Q E h => ?_) (fun cdv A outer s H vs Q E hr h => ?_)
  · obtain ⟨_, _, rfl, _⟩ := h
    rfl
  · obtain ⟨v, f, rfl, ⟨p, rfl, hp⟩, q⟩ := h
    refine ⟨_, pss_one (ps_ret (pe_tup (pa_cons (pe_ix ix_tup (pv 0) pe_int (fun _ _ => rfl)) (pa_cons (pe_ix ix_tup (pv 0) pe_int (fun _ _ => rfl)) (pa_cons (pe_not (pe_ix ix_tup (pv 0) pe_int (fun _ _ => rfl))) pa_nil))))), ?_⟩
    refine ⟨_, rfl, p, _, _, _, rfl, rfl, SqT.of hp, rfl, _, rfl, p, _, _, _, rfl, rfl, SqT.of hp, rfl, _, rfl, p, _, _, _, rfl, rfl, SqT.of hp, rfl, f.b, rfl, (by show 3 ≤ sizeLine; decide), fun p2 hp2 => ?_⟩
    exact q _ _ (same_upd0 hp2) ⟨p2, rfl, upd_same⟩
end
end K31

namespace K31
open PySem PySem.Spec PyProof.Rows L2 So
section
variable {P : Program} {w : World} {K : PySem.W.Frag} {mg : Str → Option Value} {base : Heap}
/-- the law's text of a face -/
def spLText : Sp := fun vs H Q _ => ∃ (v : V) (f : Face), vs = [v] ∧ FcAt H v f ∧ f.Ok ∧ ∀ H', Same H H' → Q (.str f.txt) H'
theorem ok_ltext {f : Addr} {fd : FuncData} (F : Fun K "_law_text" "_law_text" sText f fd) (W : Words K mg) : FnOk P w K mg base CX0 1 f fd ["_law_face_here"] spLText := by
  refine F.ok scText (fun vs H Q E h => ?_) (fun cdv A outer s H vs Q E hr h => ?_)
  · obtain ⟨_, _, rfl, _⟩ := h
    rfl
  · obtain ⟨v, f, rfl, ⟨p, rfl, hp⟩, ho, q⟩ := h
    refine ⟨_, pss_one (ps_ret (pe_op op_add_str (pe_op op_add_str (pe_op op_add_str (pe_op op_add_str (pe_ix ix_tup (pv 0) pe_int (fun _ _ => rfl)) pe_str) (pe_callTy call_str_int (by rfl) W.str (by decide +kernel) (pa_cons (pe_ix ix_tup (pv 0) pe_int (fun _ _ => rfl)) pa_nil))) pe_str)
      (pe_ix ix_list (pe_lst (pa_cons pe_str (pa_cons pe_str pa_nil))) (pe_callTy call_int1 (by rfl) W.int (by decide +kernel) (pa_cons (pe_ix ix_tup (pv 0) pe_int (fun _ _ => rfl)) pa_nil)) (fun _ _ => rfl)))), ?_⟩
    have hss := sizeLine_eq
    have l1 := ho.len
    have l2 := num_len ho.m0 ho.m1
    have c1 : ((" " : String) : Str).length = 1 := by decide
    have l3 : (wordOf f.b).length ≤ 7 := by cases f.b <;> decide
    have fin : ∀ y : Str, y = wordOf f.b → ∀ H', Same H H' → ∃ i j, V.str (f.z ++ ((" " : String) : Str) ++ Str.ofString (toString f.m) ++ ((" " : String) : Str)) = .str i ∧ V.str y = .str j ∧ i.length + j.length ≤ sizeLine ∧ Q (.str (i ++ j)) H' := by
      rintro y rfl H' sm
      refine ⟨_, _, rfl, rfl, ?_, ?_⟩
      · simp only [Str.length_append, c1]
        omega
      · have e4 : f.txt = f.z ++ ((" " : String) : Str) ++ Str.ofString (toString f.m) ++ ((" " : String) : Str) ++ wordOf f.b := rfl
        have := q H' sm
        rw [e4] at this
        exact this
    refine ⟨_, rfl, p, _, _, _, rfl, rfl, SqT.of hp, rfl, _, _, rfl, rfl, ?_, _, rfl, p, _, _, _, rfl, rfl, SqT.of hp, rfl, f.m, rfl, mom_log ho.m0 ho.m1, _, _, rfl, rfl, ?_, _, _, rfl, rfl, ?_, ?_⟩
    · simp only [c1]
      omega
    · show (f.z ++ ((" " : String) : Str)).length + (Str.ofString (toString f.m)).length ≤ sizeLine
      simp only [Str.length_append, c1]
      omega
    · show (f.z ++ ((" " : String) : Str) ++ Str.ofString (toString f.m)).length + ((" " : String) : Str).length ≤ sizeLine
      simp only [Str.length_append, c1]
      omega
    refine ⟨(by show 2 ≤ sizeLine; decide), fun l hl => ?_⟩
    have s1 := same_upd0 (o := .lst [.str "unsound", .str "sound"]) hl
    refine ⟨_, rfl, p, _, _, _, rfl, rfl, SqT.of (s1 _ _ hp), rfl, .inr ⟨f.b, rfl, ?_⟩⟩
    cases hb : f.b with
    | true => exact ⟨l, _, 1, _, rfl, rfl, SqL.of upd_same, rfl, fin _ (by rw [hb]; rfl) _ s1⟩
    | false => exact ⟨l, _, 0, _, rfl, rfl, SqL.of upd_same, rfl, fin _ (by rw [hb]; rfl) _ s1⟩
end
end K31

namespace K31
open PySem PySem.Spec PyProof.Rows L2 So
abbrev sTurned : Stmt := topS 44
theorem scTurned : FnScope ["_law_parts_here", "_law_u", "_law_v", "_law_cause"] ["_law_parts_here"] (defScope sTurned) := ⟨rfl, rfl, rfl, by decide +kernel, rfl, by decide +kernel, by decide +kernel⟩
/-- the law's part: a tuple of two faces and a reason -/
def PtAt (H : Hp) (v : V) (p : Part) : Prop := ∃ t u x, v = .ref t ∧ H t = some (.tup [u, x, p.r]) ∧ FcAt H u p.u ∧ FcAt H x p.v
theorem PtAt.same {H H' : Hp} {v : V} {p : Part} (h : PtAt H v p) (s : Same H H') : PtAt H' v p := by
  obtain ⟨t, u, x, e, ht, hu, hx⟩ := h
  exact ⟨t, u, x, e, s _ _ ht, hu.same s, hx.same s⟩
/-- the law's parts: a list of them -/
def PsAt (H : Hp) (l : Addr) (ps : List Part) : Prop := ∃ vs : List V, H l = some (.lst vs) ∧ vs.length = ps.length ∧ ∀ (i : Nat) (v : V), vs[i]? = some v → ∃ p, ps[i]? = some p ∧ PtAt H v p
theorem PsAt.same {H H' : Hp} {l : Addr} {ps : List Part} (h : PsAt H l ps) (s : Same H H') : PsAt H' l ps := by
  obtain ⟨vs, h1, h2, h3⟩ := h
  refine ⟨vs, s _ _ h1, h2, fun i v hv => ?_⟩
  obtain ⟨p, hp, h⟩ := h3 i v hv
  exact ⟨p, hp, h.same s⟩
/-- a part stays where a list grows that is none of its own -/
theorem PtAt.lst {H : Hp} {v : V} {p : Part} {D : Addr} {xs ys : List V} (h : PtAt H v p) (hD : H D = some (.lst xs)) : PtAt (upd H D (.lst ys)) v p := by
  obtain ⟨t, u, x, e, ht, ⟨t1, e1, h1⟩, ⟨t2, e2, h2⟩⟩ := h
  have kp : ∀ {c : Addr} {zs : List V}, H c = some (.tup zs) → (upd H D (.lst ys)) c = some (.tup zs) := fun {c zs} e => (upd_ne (fun z => by rw [z, hD] at e; cases e)).trans e
  exact ⟨t, u, x, e, kp ht, ⟨t1, e1, kp h1⟩, ⟨t2, e2, kp h2⟩⟩
section
variable {P : Program} {w : World} {K : PySem.W.Frag} {mg : Str → Option Value} {base : Heap}
def spTurned : Sp := fun vs H Q _ => ∃ (l : Addr) (ps : List Part), vs = [.ref l] ∧ PsAt H l ps ∧ ps.length ≤ 1000 ∧ ∀ (H' : Hp) (l' : Addr), Same H H' → PsAt H' l' (ps.reverse.map Part.nt) → Q (.ref l') H'
theorem ok_turned {f fN : Addr} {fd fdN : FuncData} (F : Fun K "_law_turned" "_law_turned" sTurned f fd) (FN : Fun K "_law_not" "_law_not" sNot fN fdN) (bN : Binds K fdN ["_law_face_here"] []) (gN : mg "_law_not" = some (.ref fN)) : FnOk P w K mg base CX0 2 f fd ["_law_parts_here"] spTurned := by
  have GN : FnOk P w K mg base CX0 1 fN fdN ["_law_face_here"] spLNot := ok_lnot FN
  refine F.ok scTurned (fun vs H Q E h => ?_) (fun cdv A outer s H vs Q E hr h => ?_)
  · obtain ⟨_, _, rfl, _⟩ := h
    rfl
  · obtain ⟨l, ps, rfl, ⟨vs, hl, hvl, hvs⟩, hz, q⟩ := h
    refine ⟨_, pss_one (ps_ret (pe_lc (own := [("_law_u", 1), ("_law_v", 2), ("_law_cause", 3)]) (g := gTup K 3 (gCons (gName 1) (gCons (gName 2) (gCons (gName 3) gNil)))) (tt := tYes) rfl scTurned.nd (pi_list (pe_revL (pv 0))) (blkOk_by (N := ["_law_parts_here", "_law_u", "_law_v", "_law_cause"]) (sc := defScope sTurned) (by decide +kernel))
        (fun _ _ _ _ _ => pg_tup rfl (pgs_cons (pg_name (i := 1) scTurned.nd rfl (Or.inl rfl)) (pgs_cons (pg_name (i := 2) scTurned.nd rfl (Or.inl rfl)) (pgs_cons (pg_name (i := 3) scTurned.nd rfl (Or.inl rfl)) pgs_nil)))) (fun _ _ _ _ _ => pts_nil)
        (fun _ _ _ _ _ => pe_tup (pa_cons (pe_call GN hr (by rfl) gN FN.kp bN .nil pass0 (pa_cons (pv 2) pa_nil)) (pa_cons (pe_call GN hr (by rfl) gN FN.kp bN .nil pass0 (pa_cons (pv 1) pa_nil)) (pa_cons (pv 3) pa_nil)))))), ?_⟩
    have hss := sizeLine_eq
    refine ⟨_, rfl, l, vs, rfl, SqL.of hl, fun r hrr => ?_⟩
    have s0 := same_upd0 (o := .lst vs.reverse) hrr
    refine ⟨r, rfl, ⟨vs.reverse, SqL.of upd_same⟩, fun D hD => ?_⟩
    have htr : (upd H r (.lst vs.reverse)) r = some (.lst vs.reverse) := upd_same
    revert s0 htr hD
    generalize upd H r (.lst vs.reverse) = H0
    intro s0 hD htr
    refine lc_it (walk_list (xs := vs.reverse)) (fun k H' => Same H0 H' ∧ ∃ ys : List V, ys.length = k ∧ H' D = some (.lst ys) ∧ ∀ (i : Nat) (v : V), ys[i]? = some v → ∃ p, (ps.reverse.map Part.nt)[i]? = some p ∧ PtAt H' v p) ⟨same_upd0 hD, [], rfl, upd_same, fun i v h => by simp at h⟩ (fun _ _ _ y => SqL.of (y.1 _ _ htr)) ?_ ?_
    · rintro k x H1 H2 hk ⟨s1, ys, hyl, hDk, hys⟩ ⟨rfl, hx⟩
      have hk' : k < vs.length := by rw [List.length_reverse] at hk; exact hk
      rw [List.getElem?_reverse hk'] at hx
      obtain ⟨p, hp, t, u, v, rfl, ht, hu, hv⟩ := hvs _ x hx
      have s01 := s0.trans s1
      have hpr : (ps.reverse.map Part.nt)[k]? = some p.nt := by
        rw [List.getElem?_map, List.getElem?_reverse (by rw [← hvl]; exact hk'), ← hvl, hp]
        rfl
      refine ⟨t, _, rfl, SqT.of (s01 _ _ ht), rfl, _, _, rfl, _, _, rfl, _, _, rfl, rfl, rfl, _, rfl, v, p.v, rfl, hv.same s01, fun H3 a3 s3 h3 => ⟨_, rfl, u, p.u, rfl, hu.same (s01.trans s3), fun H4 a4 s4 h4 => ⟨_, rfl, (by show 3 ≤ sizeLine; decide), fun t5 ht5 => ?_⟩⟩⟩
      have s5 := same_upd0 (o := .tup [a3, a4, p.r]) ht5
      have s345 := (s3.trans s4).trans s5
      have hDn := s345 _ _ hDk
      have new : PtAt (upd H4 t5 (.tup [a3, a4, p.r])) (.ref t5) p.nt := ⟨t5, a3, a4, rfl, upd_same, (h3.same s4).same s5, h4.same s5⟩
      refine ⟨ys, hDn, by rw [hyl]; omega, Same.over (s1.trans s345) hD, ys ++ [.ref t5], by rw [List.length_append, hyl]; rfl, upd_same, fun i y hy => ?_⟩
      by_cases hi : i < ys.length
      · rw [List.getElem?_append_left hi] at hy
        obtain ⟨p1, e1, h1⟩ := hys i y hy
        exact ⟨p1, e1, (h1.same s345).lst hDn⟩
      · rw [List.getElem?_append_right (by omega)] at hy
        have hi0 : i - ys.length = 0 := by
          cases e : i - ys.length with
          | zero => rfl
          | succ n => rw [e] at hy; simp at hy
        rw [hi0] at hy
        obtain rfl : V.ref t5 = y := Option.some.inj hy
        have : i = k := by omega
        subst this
        exact ⟨p.nt, hpr, new.lst hDn⟩
    · rintro H1 ⟨s1, ys, hyl, hD1, hys⟩
      rw [List.length_reverse] at hyl
      exact q H1 D (s0.trans s1) ⟨ys, hD1, by rw [hyl, hvl, List.length_map, List.length_reverse], hys⟩
end
end K31

namespace K31
open PySem PySem.Spec PyProof.Rows L2 So
abbrev sMade : Stmt := topS 40
theorem scMade : FnScope ["_law_parts_here", "_law_u", "_law_v", "_law_cause"] ["_law_parts_here"] (defScope sMade) := ⟨rfl, rfl, rfl, by decide +kernel, rfl, by decide +kernel, by decide +kernel⟩
theorem StV.lst {CS CT : Addr} {H : Hp} {v : V} {p : Part} {D : Addr} {xs ys : List V} (h : StV CS CT H v p) (hD : H D = some (.lst xs)) : StV CS CT (upd H D (.lst ys)) v p := by
  obtain ⟨c, e, d1, u1, v1, h1, ⟨c1, e1, d2, h2⟩, ⟨c2, e2, d3, h3⟩⟩ := h
  have kp : ∀ {c : Addr} {C d : Addr} {fs : List (Str × V)}, H c = some (.ins C d fs) → (upd H D (.lst ys)) c = some (.ins C d fs) := fun {c C d fs} e => (upd_ne (fun z => by rw [z, hD] at e; cases e)).trans e
  exact ⟨c, e, d1, u1, v1, kp h1, ⟨c1, e1, d2, kp h2⟩, ⟨c2, e2, d3, kp h3⟩⟩
/-- a list of steps -/
def SsAt (CS CT : Addr) (H : Hp) (l : Addr) (us : List V) (ps : List Part) : Prop := H l = some (.lst us) ∧ us.length = ps.length ∧ ∀ (i : Nat) (v : V), us[i]? = some v → ∃ p, ps[i]? = some p ∧ StV CS CT H v p
section
variable {P : Program} {w : World} {K : PySem.W.Frag} {mg : Str → Option Value} {base : Heap}
def spMade (CS CT : Addr) : Sp := fun vs H Q _ => ∃ (l : Addr) (ps : List Part), vs = [.ref l] ∧ PsAt H l ps ∧ ps.length ≤ 1000 ∧ (∀ p ∈ ps, p.Ok) ∧ ∀ (H' : Hp) (l' : Addr) (us : List V), Same H H' → SsAt CS CT H' l' us ps → Q (.ref l') H'
theorem ok_made {f fS fI CS CT CB : Addr} {fd fdS fdI : FuncData} (F : Fun K "_law_made" "_law_made" sMade f fd) (FS : Fun K "_law_saying" "_law_saying" sSaying fS fdS) (bS : Binds K fdS ["_law_face_here"] []) (gS : mg "_law_saying" = some (.ref fS)) (GS : FnOk P w K mg base CX0 6 fS fdS ["_law_face_here"] (spLSay CS))
    (S : Stp K mg CT) (M : Mk K CT fI) (bI : Binds K fdI ["self", "one", "other", "reason"] []) (GI : FnOk P w K mg base (L2.CX P w) 3 fI fdI ["self", "one", "other", "reason"] (spTInit K CS CB CT)) : FnOk P w K mg base CX0 7 f fd ["_law_parts_here"] (spMade CS CT) := by
  refine F.ok scMade (fun vs H Q E h => ?_) (fun cdv A outer s H vs Q E hr h => ?_)
  · obtain ⟨_, _, rfl, _⟩ := h
    rfl
  · obtain ⟨l, ps, rfl, ⟨vs, hl, hvl, hvs⟩, hz, hok, q⟩ := h
    have hr4 : Room 4 _ := hr.mono (by decide)
    refine ⟨_, pss_one (ps_ret (pe_lc (own := [("_law_u", 1), ("_law_v", 2), ("_law_cause", 3)]) (g := gTup K 3 (gCons (gName 1) (gCons (gName 2) (gCons (gName 3) gNil)))) (tt := tYes) rfl scMade.nd (pi_list (pv 0)) (blkOk_by (N := ["_law_parts_here", "_law_u", "_law_v", "_law_cause"]) (sc := defScope sMade) (by decide +kernel))
        (fun _ _ _ _ _ => pg_tup rfl (pgs_cons (pg_name (i := 1) scMade.nd rfl (Or.inl rfl)) (pgs_cons (pg_name (i := 2) scMade.nd rfl (Or.inl rfl)) (pgs_cons (pg_name (i := 3) scMade.nd rfl (Or.inl rfl)) pgs_nil)))) (fun _ _ _ _ _ => pts_nil)
        (fun _ _ _ _ _ => pe_make M GI hr4 (by rfl) S.mgC bI .nil passNo (pa_cons (pe_call GS hr (by rfl) gS FS.kp bS .nil pass0 (pa_cons (pv 1) pa_nil)) (pa_cons (pe_call GS hr (by rfl) gS FS.kp bS .nil pass0 (pa_cons (pv 2) pa_nil)) (pa_cons (pv 3) pa_nil)))))), ?_⟩
    have hss := sizeLine_eq
    refine ⟨_, rfl, l, rfl, ⟨vs, SqL.of hl⟩, fun D hD => ?_⟩
    refine lc_it (walk_list (xs := vs)) (fun k H' => Same H H' ∧ ∃ ys : List V, ys.length = k ∧ H' D = some (.lst ys) ∧ ∀ (i : Nat) (v : V), ys[i]? = some v → ∃ p, ps[i]? = some p ∧ StV CS CT H' v p) ⟨same_upd0 hD, [], rfl, upd_same, fun i v h => by simp at h⟩ (fun _ _ _ y => SqL.of (y.1 _ _ hl)) ?_ ?_
    · rintro k x H1 H2 hk ⟨s1, ys, hyl, hDk, hys⟩ ⟨rfl, hx⟩
      obtain ⟨p, hp, t, u, v, rfl, ht, hu, hv⟩ := hvs _ x hx
      have ho := hok p (List.mem_of_getElem? hp)
      refine ⟨t, _, rfl, SqT.of (s1 _ _ ht), rfl, _, _, rfl, _, _, rfl, _, _, rfl, rfl, rfl, _, rfl, u, p.u, rfl, hu.same s1, ho.u, fun H3 a3 s3 h3 => ⟨_, rfl, v, p.v, rfl, hv.same (s1.trans s3), ho.v, fun H4 a4 s4 h4 => ⟨_, rfl, ?_⟩⟩⟩
      have h3' := h3.same s4
      refine madeT (K := K) (CB := CB) (C := CT) (E := fun _ _ _ => False) (Q := fun y H4 => ∃ acc, H4 D = some (.lst acc) ∧ acc.length < sizeLine ∧ Same H (upd H4 D (.lst (acc ++ [y]))) ∧ ∃ ys : List V, ys.length = k + 1 ∧ (upd H4 D (.lst (acc ++ [y]))) D = some (.lst ys) ∧ ∀ (i : Nat) (v : V), ys[i]? = some v → ∃ p, ps[i]? = some p ∧ StV CS CT (upd H4 D (.lst (acc ++ [y]))) v p) h3'.sy h4.sy (fun _ => ho.r.rsn) fun H5 b db s5 hb => ?_
      have s345 := (s3.trans s4).trans s5
      have hDn := s345 _ _ hDk
      have new : StV CS CT H5 (.ref b) p := ⟨b, rfl, db, _, _, hb, h3'.same s5, h4.same s5⟩
      refine ⟨ys, hDn, by rw [hyl]; have : k < vs.length := hk; omega, Same.over (s1.trans s345) hD, ys ++ [.ref b], by rw [List.length_append, hyl]; rfl, upd_same, fun i y hy => ?_⟩
      by_cases hi : i < ys.length
      · rw [List.getElem?_append_left hi] at hy
        obtain ⟨p1, e1, h1⟩ := hys i y hy
        exact ⟨p1, e1, (h1.same s345).lst hDn⟩
      · rw [List.getElem?_append_right (by omega)] at hy
        have hi0 : i - ys.length = 0 := by
          cases e : i - ys.length with
          | zero => rfl
          | succ n => rw [e] at hy; simp at hy
        rw [hi0] at hy
        obtain rfl : V.ref b = y := Option.some.inj hy
        have : i = k := by omega
        subst this
        exact ⟨p, hp, new.lst hDn⟩
    · rintro H1 ⟨s1, ys, hyl, hD1, hys⟩
      exact q H1 D ys s1 ⟨hD1, by rw [hyl, hvl], hys⟩
end
end K31

/-! repr of data with dicts: each thing's text built by itself, so that no more is asked of an address than that a dict is not the modules' own. -/
namespace So
open PySem PySem.Spec PyProof.Rows L2
mutual
/-- a value is this data; dicts with texts as keys may stand in it -/
inductive Dd (K : PySem.W.Frag) (H : Hp) : V → PyData → Prop
  | non : Dd K H .non .none
  | bl (b : Bool) : Dd K H (.bl b) (.bool b)
  | int (i : Int) : Dd K H (.int i) (.int i)
  | str (x : Str) : Dd K H (.str x) (.str x)
  | lst {a : Addr} {xs : List V} {ds : List PyData} (e : SqL K H a xs) (h : DdAll K H xs ds) : Dd K H (.ref a) (.list ds)
  | tup {a : Addr} {xs : List V} {ds : List PyData} (e : SqT K H a xs) (h : DdAll K H xs ds) : Dd K H (.ref a) (.tuple ds)
  | dct {a : Addr} {kvs : List (Key × V)} {ds : List (PyData × PyData)} (e : H a = some (.dK kvs)) (h : DdKv K H kvs ds) : Dd K H (.ref a) (.dict ds)
inductive DdAll (K : PySem.W.Frag) (H : Hp) : List V → List PyData → Prop
  | nil : DdAll K H [] []
  | cons {v : V} {vs : List V} {d : PyData} {ds : List PyData} (h : Dd K H v d) (t : DdAll K H vs ds) : DdAll K H (v :: vs) (d :: ds)
inductive DdKv (K : PySem.W.Frag) (H : Hp) : List (Key × V) → List (PyData × PyData) → Prop
  | nil : DdKv K H [] []
  | cons {k : Str} {v : V} {r : List (Key × V)} {d : PyData} {ds : List (PyData × PyData)} (h : Dd K H v d) (t : DdKv K H r ds) : DdKv K H ((Sum.inr k, v) :: r) ((.str k, d) :: ds)
end
section
variable {X : Cx} {pins : List (Addr × Obj)} {σ : L2.St} {H : Hp} {s : Shared}
/-- a thing in memory that shows so -/
def ShK (X : Cx) (h : Heap) (u : Value) (d : PyData) : Prop := ∃ as bs, Reads h u d as ∧ ReadAtMost h d.depth bs ∧ ReprK X.prog X.w bs h d.depth u d.shown
def ShAll (X : Cx) (h : Heap) (us : List Value) (ds : List PyData) : Prop := ∃ as bs, ReadsAll h us ds as ∧ ReadAtMost h (PyData.depthAll ds) bs ∧ ReprAllK X.prog X.w bs h (PyData.depthAll ds) us (PyData.shownAll ds)
theorem shAll_cons {h : Heap} {u : Value} {us : List Value} {d : PyData} {ds : List PyData} (a : ShK X h u d) (b : ShAll X h us ds) : ShAll X h (u :: us) (d :: ds) := by
  obtain ⟨as1, b1, r1, hb1, k1⟩ := a
  obtain ⟨as2, b2, r2, hb2, k2⟩ := b
  refine ⟨_, b1 ++ b2, .cons r1 r2, ?_, ?_⟩
  · intro b hm
    simp only [PyData.depthAll]
    rcases List.mem_append.mp hm with hm | hm
    · obtain ⟨d', as', r', hd'⟩ := hb1 b hm
      exact ⟨d', as', r', Nat.le_trans hd' (Nat.le_max_left _ _)⟩
    · obtain ⟨d', as', r', hd'⟩ := hb2 b hm
      exact ⟨d', as', r', Nat.le_trans hd' (Nat.le_max_right _ _)⟩
  · simp only [PyData.depthAll, PyData.shownAll]
    exact .cons ((k1.more fun b hb => List.mem_append_left _ hb).level_le (Nat.le_max_left _ _)) (k2.more_le (fun b hb => List.mem_append_right _ hb) (Nat.le_max_right _ _))
theorem shAll_nil {h : Heap} : ShAll X h [] [] := ⟨_, [], .nil, (fun _ h => nomatch h), by simp only [PyData.shownAll]; exact .nil⟩
mutual
theorem Dd.sh (I : Inv X pins σ H s) : ∀ (d : PyData) (v : V) (u : Value), Dd X.K H v d → RelV v u → d.showable = true → d.shown.length ≤ sizeLine → ShK X s.heap u d
  | .none, _, _, h, r, _, _ => by
    cases h
    cases r
    exact ⟨_, [], .none, (fun _ h => nomatch h), by simp only [PyData.shown]; exact .of_is ReprIs.none _ _ _⟩
  | .bool b, _, _, h, r, _, _ => by
    cases h
    cases r
    exact ⟨_, [], .bool b, (fun _ h => nomatch h), by simp only [PyData.shown]; exact .of_is (ReprIs.bool b) _ _ _⟩
  | .int i, _, _, h, r, hs, _ => by
    cases h
    obtain ⟨t, rfl⟩ := r
    exact ⟨_, [], .int i t, (fun _ h => nomatch h), by simp only [PyData.shown]; exact .of_is (ReprIs.int t (by simpa [PyData.showable] using hs)) _ _ _⟩
  | .str x, _, _, h, r, _, hz => by
    cases h
    obtain ⟨t, rfl⟩ := r
    exact ⟨_, [], .str x t, (fun _ h => nomatch h), by simp only [PyData.shown]; exact .of_is (ReprIs.str x t (by simpa only [PyData.shown] using hz)) _ _ _⟩
  | .list ds, _, _, h, r, hs, hz => by
    cases h with
    | @lst a xs _ e hall =>
      cases r
      have hz' : (listText (PyData.shownAll ds)).length ≤ sizeLine := by simpa only [PyData.shown] using hz
      obtain ⟨its, rv, ⟨o, n, h1, h2, _, h3⟩, _⟩ := I.list e
      obtain ⟨as, bs, rd, hb, hk⟩ := DdAll.sh I ds xs its hall rv (by simpa [PyData.showable] using hs) (fun t ht => Nat.le_trans (listText_mem_le ht) hz')
      have rr : Reads s.heap (.ref a) (.list ds) _ := .list h1 h2 h3 rd
      have hna : a ∉ bs := not_mem_of_deeper rr (by simp only [PyData.depth]; omega) hb
      refine ⟨_, a :: bs, rr, ReadAtMost.cons rr (by simp only [PyData.depth]; omega) hb, ?_⟩
      simp only [PyData.depth, PyData.shown]
      cases its with
      | nil =>
        cases rd
        simp only [PyData.shownAll, listText_nil]
        exact ReprK.listEmpty h1 h2 h3
      | cons x l => exact ReprK.list h1 h2 h3 hna (by simpa using hk.length_eq) (fun i y e => hk.item i y (by simpa using e))
  | .tuple ds, _, _, h, r, hs, hz => by
    cases h with
    | @tup a xs _ e hall =>
      cases r
      have hz' : (tupleText (PyData.shownAll ds)).length ≤ sizeLine := by simpa only [PyData.shown] using hz
      obtain ⟨its, rv, ⟨o, h1, h2, n, h3⟩, _⟩ := I.tuple e
      obtain ⟨as, bs, rd, hb, hk⟩ := DdAll.sh I ds xs its hall rv (by simpa [PyData.showable] using hs) (fun t ht => Nat.le_trans (tupleText_mem_le ht) hz')
      have rr : Reads s.heap (.ref a) (.tuple ds) _ := .tuple h1 h2 h3 rd
      have hna : a ∉ bs := not_mem_of_deeper rr (by simp only [PyData.depth]; omega) hb
      refine ⟨_, a :: bs, rr, ReadAtMost.cons rr (by simp only [PyData.depth]; omega) hb, ?_⟩
      simp only [PyData.depth, PyData.shown]
      exact ReprK.tuple h1 h2 h3 hna hk
  | .dict ds, _, _, h, r, hs, hz => by
    cases h with
    | @dct a kvs _ e hall =>
      cases r
      have hz' : (dictText (PyData.shownKv ds)).length ≤ sizeLine := by simpa only [PyData.shown] using hz
      obtain ⟨_, hsys, vs, hk, hD⟩ : kvs.length ≤ sizeLine ∧ (a == sysModules) = false ∧ ∃ vs, KV kvs vs ∧ s.heap.DictOf (mixKind X.prog X.w) a vs := I.hok a _ e
      obtain ⟨o, es, ep, h1, h2, h3, _, e5, _⟩ := hD
      obtain ⟨hs1, hs2⟩ := PyData.showableKv_split ds (by simpa [PyData.showable] using hs)
      obtain ⟨⟨as1, b1, r1, hb1, k1⟩, as2, b2, r2, hb2, k2⟩ := DdKv.sh I ds kvs vs es.toList hall hk e5 hs1 hs2
        (fun t ht => let ⟨p, hp, hl⟩ := PyData.shownKv_key_le ds t ht; Nat.le_trans hl (Nat.le_trans (dictText_mem_le hp) hz')) (fun t ht => let ⟨p, hp, hl⟩ := PyData.shownKv_val_le ds t ht; Nat.le_trans hl (Nat.le_trans (dictText_mem_le hp) hz'))
      have rr : Reads s.heap (.ref a) (.dict ds) _ := .dict h1 h2.1 h3 r1 r2
      have hb : ReadAtMost s.heap (PyData.depthKv ds) (b1 ++ b2) := (hb1.mono (PyData.depthAll_keys_le ds)).append (hb2.mono (PyData.depthAll_vals_le ds))
      have hna : a ∉ b1 ++ b2 := not_mem_of_deeper rr (by simp only [PyData.depth]; omega) hb
      refine ⟨_, a :: (b1 ++ b2), rr, ReadAtMost.cons rr (by simp only [PyData.depth]; omega) hb, ?_⟩
      simp only [PyData.depth, PyData.shown, PyData.shownKv_eq]
      exact ReprK.dict h1 h2.1 h3 hsys hna (ReprEntriesK.of_two es.toList _ _
        (k1.more_le (fun b hb => List.mem_append_left _ hb) (PyData.depthAll_keys_le ds)) (k2.more_le (fun b hb => List.mem_append_right _ hb) (PyData.depthAll_vals_le ds)))
theorem DdAll.sh (I : Inv X pins σ H s) : ∀ (ds : List PyData) (vs : List V) (us : List Value), DdAll X.K H vs ds → Vals vs us → PyData.showableAll ds = true → (∀ t ∈ PyData.shownAll ds, t.length ≤ sizeLine) → ShAll X s.heap us ds
  | [], _, _, h, r, _, _ => by
    cases h
    cases r
    exact shAll_nil
  | d :: ds, _, _, h, r, hs, hz => by
    cases h with
    | cons h1 h2 =>
      cases r with
      | cons r1 r2 =>
        have hs' : d.showable = true ∧ PyData.showableAll ds = true := by simpa [PyData.showableAll] using hs
        exact shAll_cons (Dd.sh I d _ _ h1 r1 hs'.1 (hz _ (by simp only [PyData.shownAll]; exact List.mem_cons_self ..))) (DdAll.sh I ds _ _ h2 r2 hs'.2 fun t ht => hz t (by simp only [PyData.shownAll]; exact List.mem_cons_of_mem _ ht))
theorem DdKv.sh (I : Inv X pins σ H s) : ∀ (ds : List (PyData × PyData)) (kvs : List (Key × V)) (vs : List (Key × Value)) (es : List DictEntry), DdKv X.K H kvs ds → KV kvs vs → Pairs (mixKind X.prog X.w) es vs → PyData.showableAll (ds.map (·.1)) = true → PyData.showableAll (ds.map (·.2)) = true →
    (∀ t ∈ PyData.shownAll (ds.map (·.1)), t.length ≤ sizeLine) → (∀ t ∈ PyData.shownAll (ds.map (·.2)), t.length ≤ sizeLine) → ShAll X s.heap (es.map (·.key)) (ds.map (·.1)) ∧ ShAll X s.heap (es.map (·.val)) (ds.map (·.2))
  | [], _, _, _, h, hk, hp, _, _, _, _ => by
    cases h
    cases hk
    cases hp
    exact ⟨shAll_nil, shAll_nil⟩
  | (dk, dv) :: ds, _, _, _, h, hk, hp, hs1, hs2, z1, z2 => by
    cases h with
    | @cons k v r _ _ h1 h2 =>
      cases hk with
      | @cons _ kv _ _ hk1 hk2 =>
        obtain ⟨kk, kval⟩ := kv
        obtain ⟨q1, q2⟩ := hk1
        simp only at q1 q2
        subst q1
        cases hp with
        | @cons en _ es' _ p1 p2 p3 =>
          have hs1' : (PyData.str k).showable = true ∧ PyData.showableAll (ds.map (·.1)) = true := by simpa [PyData.showableAll] using hs1
          have hs2' : dv.showable = true ∧ PyData.showableAll (ds.map (·.2)) = true := by simpa [PyData.showableAll] using hs2
          have hz1 : (PyData.str k).shown.length ≤ sizeLine := z1 _ (by simp only [List.map_cons, PyData.shownAll]; exact List.mem_cons_self ..)
          have hz2 : dv.shown.length ≤ sizeLine := z2 _ (by simp only [List.map_cons, PyData.shownAll]; exact List.mem_cons_self ..)
          obtain ⟨c1, c2⟩ := DdKv.sh I ds _ _ _ h2 hk2 p3 hs1'.2 hs2'.2 (fun t ht => z1 t (by simp only [List.map_cons, PyData.shownAll]; exact List.mem_cons_of_mem _ ht)) (fun t ht => z2 t (by simp only [List.map_cons, PyData.shownAll]; exact List.mem_cons_of_mem _ ht))
          simp only at p2
          refine ⟨?_, ?_⟩
          · rcases keyIs_shape (show keyIs (Sum.inr k) en.key = true from p1) with ⟨j, t3, z, _⟩ | ⟨y, t3, z, ez⟩
            · cases z
            · cases z
              simp only [List.map_cons]
              refine shAll_cons ?_ c1
              rw [ez]
              exact ⟨_, [], .str k t3, (fun _ h => nomatch h), by simp only [PyData.shown]; exact .of_is (ReprIs.str k t3 (by simpa only [PyData.shown] using hz1)) _ _ _⟩
          · simp only [List.map_cons]
            rw [p2]
            exact shAll_cons (Dd.sh I dv v _ h1 q2 hs2'.1 hz2) c2
end
/-- such a thing is shown by its own type -/
theorem Dd.shows (I : Inv X pins σ H s) {a : Addr} {d : PyData} (h : Dd X.K H (.ref a) d) (hs : d.showable = true) (hz : d.shown.length ≤ sizeLine) : ∃ T idr, ShowsBy X.prog X.w s.heap a d T idr := by
  cases h with
  | @lst _ xs ds e hall =>
    have hz' : (listText (PyData.shownAll ds)).length ≤ sizeLine := by simpa only [PyData.shown] using hz
    obtain ⟨its, rv, ⟨o, n, h1, h2, _, h3⟩, _⟩ := I.list e
    obtain ⟨as, bs, rd, hb, hk⟩ := DdAll.sh I ds xs its hall rv (by simpa [PyData.showable] using hs) (fun t ht => Nat.le_trans (listText_mem_le ht) hz')
    have rr : Reads s.heap (.ref a) (.list ds) _ := .list h1 h2 h3 rd
    have hna : a ∉ bs := not_mem_of_deeper rr (by simp only [PyData.depth]; omega) hb
    refine ⟨"list", "list.__repr__", F.slot_list_repr.toG, F.slot_list_str, F.slot_list_format, fun s' hk0 => ⟨o, hk0 _ _ h1, h2⟩, fun A E s' Q hg hu hk0 hQ => ?_⟩
    simp only [PyData.depth] at hu
    simp only [PyData.shown] at hQ
    cases its with
    | nil =>
      cases rd
      simp only [PyData.shownAll, listText_nil] at hQ
      exact call_list_repr_empty ⟨o, hk0 _ _ h1, h2⟩ (hk0 _ _ h1) h3 (hQ s'.heap _ _ fun _ _ e => e)
    | cons x l => exact call_list_reprK h1 h2 h3 hna (by simpa using hk.length_eq) (fun i y e => hk.item i y (by simpa using e)) hg (fun b _ => Clear.nil b) hu hk0 hQ hz'
  | @tup _ xs ds e hall =>
    have hz' : (tupleText (PyData.shownAll ds)).length ≤ sizeLine := by simpa only [PyData.shown] using hz
    obtain ⟨its, rv, ⟨o, h1, h2, n, h3⟩, _⟩ := I.tuple e
    obtain ⟨as, bs, rd, hb, hk⟩ := DdAll.sh I ds xs its hall rv (by simpa [PyData.showable] using hs) (fun t ht => Nat.le_trans (tupleText_mem_le ht) hz')
    have rr : Reads s.heap (.ref a) (.tuple ds) _ := .tuple h1 h2 h3 rd
    have hna : a ∉ bs := not_mem_of_deeper rr (by simp only [PyData.depth]; omega) hb
    refine ⟨"tuple", "tuple.__repr__", F.slot_tuple_repr, F.slot_tuple_str, F.slot_tuple_format, fun s' hk0 => ⟨o, hk0 _ _ h1, h2⟩, fun A E s' Q hg hu hk0 hQ => ?_⟩
    simp only [PyData.depth] at hu
    simp only [PyData.shown] at hQ
    exact call_tuple_reprK h1 h2 h3 hna hk hg (fun b _ => Clear.nil b) hu hk0 hQ hz'
  | @dct _ kvs ds e hall =>
    have hz' : (dictText (PyData.shownKv ds)).length ≤ sizeLine := by simpa only [PyData.shown] using hz
    obtain ⟨_, hsys, vs, hk, hD⟩ : kvs.length ≤ sizeLine ∧ (a == sysModules) = false ∧ ∃ vs, KV kvs vs ∧ s.heap.DictOf (mixKind X.prog X.w) a vs := I.hok a _ e
    obtain ⟨o, es, ep, h1, h2, h3, _, e5, _⟩ := hD
    obtain ⟨hs1, hs2⟩ := PyData.showableKv_split ds (by simpa [PyData.showable] using hs)
    obtain ⟨⟨as1, b1, r1, hb1, k1⟩, as2, b2, r2, hb2, k2⟩ := DdKv.sh I ds kvs vs es.toList hall hk e5 hs1 hs2
      (fun t ht => let ⟨p, hp, hl⟩ := PyData.shownKv_key_le ds t ht; Nat.le_trans hl (Nat.le_trans (dictText_mem_le hp) hz')) (fun t ht => let ⟨p, hp, hl⟩ := PyData.shownKv_val_le ds t ht; Nat.le_trans hl (Nat.le_trans (dictText_mem_le hp) hz'))
    have rr : Reads s.heap (.ref a) (.dict ds) _ := .dict h1 h2.1 h3 r1 r2
    have hb : ReadAtMost s.heap (PyData.depthKv ds) (b1 ++ b2) := (hb1.mono (PyData.depthAll_keys_le ds)).append (hb2.mono (PyData.depthAll_vals_le ds))
    have hna : a ∉ b1 ++ b2 := not_mem_of_deeper rr (by simp only [PyData.depth]; omega) hb
    refine ⟨"dict", "dict.__repr__", F.slot_dict_repr, F.slot_dict_str, F.slot_dict_format, fun s' hk0 => ⟨o, hk0 _ _ h1, h2.1⟩, fun A E s' Q hg hu hk0 hQ => ?_⟩
    simp only [PyData.depth] at hu
    simp only [PyData.shown, PyData.shownKv_eq] at hQ
    exact call_dict_reprK h1 h2.1 h3 hsys hna (ReprEntriesK.of_two es.toList _ _
      (k1.more_le (fun b hb => List.mem_append_left _ hb) (PyData.depthAll_keys_le ds)) (k2.more_le (fun b hb => List.mem_append_right _ hb) (PyData.depthAll_vals_le ds))) hg (fun b _ => Clear.nil b) hu hk0 hQ (by rw [← PyData.shownKv_eq]; exact hz')
/-- repr of data, dicts in it -/
def rReprG (K : PySem.W.Frag) : List V → Hp → VK → Prop := fun xs H Q => ∃ v d, xs = [v] ∧ Dd K H v d ∧ d.showable = true ∧ d.depth ≤ 60 ∧ d.shown.length ≤ sizeLine ∧ Q (.str d.shown) H
theorem call_reprG (hg : X.A.guards = some []) (hu : X.A.units + 64 < cLine) : CallR X (.builtin "repr") (rReprG X.K) := by
  intro pins s σ H xs us Q I r h
  obtain ⟨v, d, rfl, hd, hs, hdep, hz, q⟩ := h
  obtain ⟨u, rfl, rv⟩ := vals1 r
  cases v with
  | ref a =>
    cases rv
    obtain ⟨T, idr, S⟩ := hd.shows I hs hz
    refine call_repr_slot (by omega) (S.typeIs s fun _ _ e => e) S.slotRepr (S.call X.A.in1 X.xe s _ hg (by show X.A.units + 1 + d.depth < cLine; omega) (fun _ _ e => e) fun h' u tk hk => ⟨_, _, rfl, ?_⟩)
    exact ⟨.str d.shown, H, I.kept hk, ⟨_, rfl⟩, q⟩
  | non =>
    cases hd
    cases rv
    exact PySem.P.repr_of_none ⟨.str _, H, I.tok _, ⟨_, rfl⟩, q⟩
  | bl b =>
    cases hd
    cases rv
    refine PySem.P.repr_of_bool ⟨.str (PyData.shown (.bool b)), H, I.tok _, ⟨s.toks, ?_⟩, q⟩
    cases b <;> rfl
  | int i =>
    cases hd
    obtain ⟨t, rfl⟩ := rv
    exact PySem.P.repr_of_int (by simpa [PyData.showable] using hs) ⟨.str _, H, I.tok _, ⟨_, rfl⟩, q⟩
  | str x =>
    cases hd
    obtain ⟨t, rfl⟩ := rv
    exact PySem.P.repr_of_str ⟨.str _, H, I.tok _, ⟨_, rfl⟩, q⟩ hz
  | byt b => cases hd
  | flt b => cases hd
  | ty n => cases hd
end
/-! data stays -/
mutual
theorem Dd.same {K : PySem.W.Frag} {H H' : Hp} (s : Ext H H') : ∀ {d : PyData} {v : V}, Dd K H v d → Dd K H' v d
  | _, _, .non => .non
  | _, _, .bl b => .bl b
  | _, _, .int i => .int i
  | _, _, .str x => .str x
  | _, _, .lst e h => .lst (SqL.ext e s) (DdAll.same s h)
  | _, _, .tup e h => .tup (SqT.ext e s) (DdAll.same s h)
  | _, _, .dct e h => .dct (s _ _ e) (DdKv.same s h)
theorem DdAll.same {K : PySem.W.Frag} {H H' : Hp} (s : Ext H H') : ∀ {ds : List PyData} {vs : List V}, DdAll K H vs ds → DdAll K H' vs ds
  | _, _, .nil => .nil
  | _, _, .cons h t => .cons (Dd.same s h) (DdAll.same s t)
theorem DdKv.same {K : PySem.W.Frag} {H H' : Hp} (s : Ext H H') : ∀ {ds : List (PyData × PyData)} {vs : List (Key × V)}, DdKv K H vs ds → DdKv K H' vs ds
  | _, _, .nil => .nil
  | _, _, .cons h t => .cons (Dd.same s h) (DdKv.same s t)
end
end So

/-! how long what repr tells of data is, how deep it goes -/
namespace So
open PySem PySem.Spec PyProof.Rows L2
theorem shownAll_map' : ∀ ds : List PyData, PyData.shownAll ds = ds.map PyData.shown
  | [] => rfl
  | d :: r => by
    unfold PyData.shownAll
    rw [shownAll_map' r]
    rfl
theorem sum_le' {k : Nat} : ∀ ds : List PyData, (∀ d ∈ ds, d.shown.length ≤ k) → (((PyData.shownAll ds).map (·.length)).sum) ≤ k * ds.length
  | [], _ => by simp [PyData.shownAll]
  | d :: r, h => by
    have ih := sum_le' r fun x hx => h x (List.mem_cons_of_mem _ hx)
    have h1 := h d List.mem_cons_self
    unfold PyData.shownAll
    rw [List.map_cons, List.sum_cons, List.length_cons, Nat.mul_succ]
    omega
theorem len_all' (ds : List PyData) : (PyData.shownAll ds).length = ds.length := by rw [shownAll_map', List.length_map]
/-- data that shows in n letters, m deep -/
structure OkD (n m : Nat) (d : PyData) : Prop where
  show' : d.showable = true
  deep : d.depth ≤ m
  len : d.shown.length ≤ n
theorem OkD.mono {n m n' m' : Nat} {d : PyData} (h : OkD n m d) (h1 : n ≤ n') (h2 : m ≤ m') : OkD n' m' d := ⟨h.show', Nat.le_trans h.deep h2, Nat.le_trans h.len h1⟩
theorem okAll {n m : Nat} : ∀ {ds : List PyData}, (∀ d ∈ ds, OkD n m d) → PyData.showableAll ds = true ∧ PyData.depthAll ds ≤ m + 1
  | [], _ => ⟨rfl, by simp [PyData.depthAll]⟩
  | d :: r, h => by
    have ih := okAll (ds := r) fun x hx => h x (List.mem_cons_of_mem _ hx)
    have h1 := h d List.mem_cons_self
    refine ⟨?_, ?_⟩
    · simp only [PyData.showableAll, h1.show', ih.1, Bool.and_self]
    · simp only [PyData.depthAll]
      have := h1.deep
      have := ih.2
      omega
theorem OkD.list {n m : Nat} {ds : List PyData} (h : ∀ d ∈ ds, OkD n m d) : OkD (n * ds.length + 2 * ds.length + 3) (m + 2) (.list ds) := by
  have a := okAll h
  refine ⟨by simp only [PyData.showable]; exact a.1, by simp only [PyData.depth]; omega, ?_⟩
  have h1 := listText_len_le (PyData.shownAll ds)
  have h2 := sum_le' (k := n) ds fun d hd => (h d hd).len
  rw [len_all'] at h1
  show (listText (PyData.shownAll ds)).length ≤ _
  omega
theorem OkD.tuple {n m : Nat} {ds : List PyData} (h : ∀ d ∈ ds, OkD n m d) : OkD (n * ds.length + 2 * ds.length + 3) (m + 2) (.tuple ds) := by
  have a := okAll h
  refine ⟨by simp only [PyData.showable]; exact a.1, by simp only [PyData.depth]; omega, ?_⟩
  have h1 := tupleText_len_le (PyData.shownAll ds)
  have h2 := sum_le' (k := n) ds fun d hd => (h d hd).len
  rw [len_all'] at h1
  show (tupleText (PyData.shownAll ds)).length ≤ _
  omega
theorem OkD.int {i : Int} (h : i.natAbs < 2 ^ 250) : OkD 2000 0 (.int i) := by
  have hl : i.natAbs.log2 < 1920 := Nat.lt_of_lt_of_le (PySem.Flt.log2_lt_of (by decide) h) (by decide)
  refine ⟨by simp [PyData.showable, hl], Nat.zero_le _, ?_⟩
  show (Str.ofString (toString i)).length ≤ 2000
  rw [PyProof.Rows.ofString_length]
  exact Nat.le_trans (int_text_length_le (k := 1920) (by decide) hl) (by decide)
theorem OkD.bool (b : Bool) : OkD 2000 0 (.bool b) := ⟨rfl, Nat.zero_le _, by cases b <;> decide⟩
theorem OkD.none : OkD 2000 0 .none := ⟨rfl, Nat.zero_le _, by decide⟩
theorem OkD.str {z : Str} (h : ∀ c ∈ z.cps.toList, c < 128) (hl : z.length ≤ 100) : OkD 2000 0 (.str z) := by
  refine ⟨rfl, Nat.zero_le _, ?_⟩
  have h1 := PySem.StrLaws.reprText_len z (fun c hc => Nat.lt_trans (h c hc) (by decide))
  show (reprText z).length ≤ 2000
  omega
/-- the same texts of the same data -/
theorem OkD.repr {n m : Nat} {d : PyData} (h : OkD n m d) (h1 : m ≤ 60) (h2 : n ≤ 16777216) : d.showable = true ∧ d.depth ≤ 60 ∧ d.shown.length ≤ sizeLine := ⟨h.show', Nat.le_trans h.deep h1, by rw [sizeLine_eq]; exact Nat.le_trans h.len h2⟩
end So

/-! the truth of an instance by its own __bool__, bool(x) and len(x) by own __bool__ and __len__ -/
namespace So
open PySem PySem.Spec PyProof.Rows L2
section
variable {X : Cx} {CX : CXT} {k : Nat} {C f : Addr} {fd : FuncData} {ps : List Str} {sp : Sp} {E : XK}
/-- a method of one argument, called a room deeper or here -/
theorem run_one {pins : List (Addr × Obj)} {s : Shared} {σ : L2.St} {H : Hp} {a : Addr} {Q : VK} {A : Around} (F : FnOk X.prog X.w X.K X.mg X.base CX k f fd ps sp) (hb : Binds X.K fd ps [])
    (hx : Passes CX X E) (hr : Room k A) (hf : A.frames = X.A.frames) (I : Inv X pins σ H s) (h : sp [.ref a] H Q E) : wpAny (model X.prog X.w) A (call (.ref f) [.ref a]) (EP X pins σ Q) X.xe s := by
  have e0 : Env0 X.prog X.w X.K X.mg X.base A X.stack s H := by
    have e := I.env0
    exact ⟨hf.trans e.frames, e.mod, e.bs, e.bsz, e.funs, e.frf, e.hok, e.bare⟩
  have hl : ([Value.ref a] ++ ([] : List Value)).length = ps.length := (F.len _ _ _ _ h : [V.ref a].length = ps.length)
  refine wpAny_call (codeAny_mono (F.run A X.stack s H ⟨[.ref a], []⟩ ([Value.ref a] ++ []) [.ref a] Q E hr e0 (hb s [Value.ref a] I.kIn hl) (.cons (show RelV (.ref a) (Value.ref a) from rfl) .nil) h) fun r s' hq => ?_)
  cases r with
  | error e => exact hx pins σ H s e s' I hq
  | ok fl =>
    cases fl with
    | ret w => exact I.after hq
    | next => exact False.elim hq
    | brk => exact False.elim hq
    | cont => exact False.elim hq
/-- as a test -/
theorem pt_own {e : Expr} {t : TE} (F : FnOk X.prog X.w X.K X.mg X.base CX k f fd ps sp) (hs : PySem.W.findIn X.K (.ref C) "__bool__" = some (some (.ref f))) (hf : PySem.W.isFn X.K (.ref f) = true) (hb : Binds X.K fd ps []) (hx : Passes CX X E) (hr : Room k X.A)
    (h : PE X e t) (he : ∀ whole, isTrue e X.env whole = (do let v ← whole; standAt e.pos; holding [v] (truthy v)) := by intro _; rfl) :
    PT X e (fun σ H Q => t σ H fun x H1 => ∃ a dx fs, x = .ref a ∧ H1 a = some (.ins C dx fs) ∧ sp [.ref a] H1 (fun v H' => ∃ b, v = .bl b ∧ Q b H') E) := by
  refine ⟨fun pins s σ H Q I hw => ?_⟩
  refine isTrue_plain (thn (h.run pins s σ H _ I hw) fun v s1 ⟨x, H1, I1, r1, q1⟩ => ?_) (he _)
  obtain ⟨a, dx, fs, rfl, ha, q⟩ := q1
  cases r1
  obtain ⟨mA, J, _⟩ := ins_get I1.hok ha
  obtain ⟨od, J, _⟩ := J.look
  obtain ⟨m, hF⟩ := I1.fr
  refine PySem.W.truthy_K hF I1.ok.mod.kin J hs hf (wpAny_mono (run_one F hb hx hr rfl I1 q) (fun w s' z => ?_) fun _ _ z => z)
  obtain ⟨v, H', I', rv, b, rfl, q'⟩ := z
  cases rv
  exact ⟨H', I', q'⟩
/-- len(x) -/
theorem call_lenO (F : FnOk X.prog X.w X.K X.mg X.base CX k f fd ps sp) (hs : PySem.W.findIn X.K (.ref C) "__len__" = some (some (.ref f))) (hf : PySem.W.isFn X.K (.ref f) = true) (hb : Binds X.K fd ps []) (hx : Passes CX X E) (hr : Room (k + 1) X.A) :
    CallR X (.builtin "len") (fun xs H Q => ∃ a dx fs, xs = [.ref a] ∧ H a = some (.ins C dx fs) ∧ sp [.ref a] H (fun v H' => ∃ n : Nat, v = .int n ∧ (n : Int) < 2 ^ 63 ∧ Q (.int n) H') E) := by
  intro pins s σ H xs us Q I r h
  obtain ⟨a, dx, fs, rfl, ha, q⟩ := h
  rw [Vals.ref1 r]
  obtain ⟨mA, J, _⟩ := ins_get I.hok ha
  obtain ⟨od, J, _⟩ := J.look
  obtain ⟨m, hF⟩ := I.fr
  refine PySem.W.len_K hF I.ok.mod.kin J hs hf (wpAny_mono (run_one F hb hx hr.in1 rfl I q) (fun w s' z => ?_) fun _ _ z => z)
  obtain ⟨v, H', I', rv, n, rfl, hn, q'⟩ := z
  obtain ⟨t, rfl⟩ := rv
  exact ⟨⟨Int.natCast_nonneg n, hn⟩, .int n, H', I'.tok _, ⟨_, rfl⟩, q'⟩
/-- bool(x) -/
theorem call_boolO (G : FnOk X.prog X.w X.K X.mg X.base CX k f fd ps sp) (hs : PySem.W.findIn X.K (.ref C) "__bool__" = some (some (.ref f))) (hf : PySem.W.isFn X.K (.ref f) = true) (hb : Binds X.K fd ps []) (hx : Passes CX X E) (hr : Room (k + 2) X.A) :
    CallR X (.type "bool") (fun xs H Q => ∃ a dx fs, xs = [.ref a] ∧ H a = some (.ins C dx fs) ∧ sp [.ref a] H (fun v H' => ∃ b, v = .bl b ∧ Q (.bl b) H') E) := by
  intro pins s σ H xs us Q I r h
  obtain ⟨a, dx, fs, rfl, ha, q⟩ := h
  rw [Vals.ref1 r]
  obtain ⟨mA, J, _⟩ := ins_get I.hok ha
  obtain ⟨od, J, _⟩ := J.look
  obtain ⟨m, hF⟩ := I.fr
  have tr : ∀ (R : Bool → Shared → Prop), (∀ b s' H', Inv X pins σ H' s' → Q (.bl b) H' → R b s') → wpAny (model X.prog X.w) X.A.in1.in1 (truthy (.ref a)) R X.xe s := fun R hR => by
    refine PySem.W.truthy_K hF I.ok.mod.kin J hs hf (wpAny_mono (run_one G hb hx hr.in1.in1 rfl I q) (fun w s' z => ?_) fun _ _ z => z)
    obtain ⟨v, H', I', rv, b, rfl, q'⟩ := z
    cases rv
    exact hR b s' H' I' q'
  refine callType_codes (Q₁ := fun ob s1 => ∃ b H', ob = .bool b ∧ Inv X pins σ H' s1 ∧ Q (.bl b) H') PySem.F.called_bool (PySem.F.typeCall_bool_1 _) PySem.F.entry_object_init (codeAny_call_builtin PySem.F.called_bool.plain F.entry_bool_new (wpAny_of_eq (PySem.F.newCall_bool_1 _) ?_)) fun ob s1 hq => ?_
  · have f1 := PySem.F.conv_sub_bool
    refine wpAny_mono (Q := fun fin s' => ∃ b H', fin = .done (.ret (.bool b)) ∧ Inv X pins σ H' s' ∧ Q (.bl b) H') ?_ (fun fin s' z => ?_) fun _ _ z => z
    · unfold Builtin.«bool.__new__»
      repeat (any_goals (first | assumption | (with_reducible refine tr _ fun b s' H' I' q' => ?_) | wp_step))
      exact ⟨_, _, rfl, I', q'⟩
    · obtain ⟨b, H', rfl, I', q'⟩ := z
      exact ⟨b, H', rfl, I', q'⟩
  · obtain ⟨b, H', rfl, I', q'⟩ := hq
    refine ⟨rfl, PySem.F.args_object_init_2 _ _, ?_⟩
    exact object_init_meets PySem.F.called_bool.init.lookup PySem.F.called_bool.made PySem.F.newNe_bool X.prog X.w X.A.in1 _ s1 ⟨rfl, rfl, .bl b, H', I', rfl, q'⟩
end
end So

/-! sorted(set(list)), the list's members texts, or ints -/
namespace So
open PySem PySem.Spec PyProof.Rows L2
/-- keys of one kind, and what they are as values -/
structure KyT (P : Program) (w : World) (α : Type) [DecidableEq α] where
  knd : PySem.KeyKind P w α
  mkv : α → Tok → Value
  key : Value → α
  hk : ∀ k t, key (mkv k t) = k
  his : ∀ k t, knd.is k (mkv k t) = true
  iff : ∀ k k0 t, knd.is k (mkv k0 t) = true ↔ k0 = k
  hsc : ∀ k t, (mkv k t).scannable = true
def kyStr (P : Program) (w : World) : KyT P w Str where
  knd := PySem.strKind P w
  mkv := Value.str
  key := fun v => match v with | .str x _ => x | _ => Str.empty
  hk := fun _ _ => rfl
  his := fun k t => strKind_is P w k t
  iff := fun k k0 t => by
    show ((k0 == k) = true) ↔ k0 = k
    exact beq_iff_eq
  hsc := fun _ _ => rfl
section
variable {P : Program} {w : World} {α : Type} [DecidableEq α] (T : KyT P w α)
def GoodG (e : Int × Value) : Prop := ∃ k tk, e.2 = T.mkv k tk ∧ e.1 = T.knd.hash k
def keyG (e : Int × Value) : α := T.key e.2
/-- the set at a: S its members, n their number; its table rises and can be walked -/
def SetG (h : Heap) (a : Addr) (S : α → Bool) (n : Nat) : Prop :=
  ∃ o es ep t, h.get? a = some o ∧ o.ExactSet ∧ o.data = .set es ep t ∧ (∀ e ∈ es.toList, GoodG T e) ∧ (es.toList.map (keyG T)).Nodup ∧ (∀ k, S k = true ↔ k ∈ es.toList.map (keyG T)) ∧
    es.size < scanBound ∧ t.fits es.size = true ∧ es.size = n ∧ Ris t.place.toList ∧ (w.params.followText "set-order" = true ∨ t.led = true)
end
section
variable {P : Program} {w : World} {α : Type} [DecidableEq α] {T : KyT P w α} {h h' : Heap} {a : Addr} {S : α → Bool} {n : Nat}
theorem SetG.at (R : SetG T h a S n) (k : ∀ o, h.get? a = some o → h'.get? a = some o) : SetG T h' a S n := by
  obtain ⟨o, es, ep, t, ho, r⟩ := R
  exact ⟨o, es, ep, t, k o ho, r⟩
theorem SetG.congr {S' : α → Bool} (R : SetG T h a S n) (e : ∀ k, S' k = S k) : SetG T h a S' n := by
  have q : S' = S := funext e
  rw [q]; exact R
theorem goodG_elems {l : List (Int × Value)} (g : ∀ e ∈ l, GoodG T e) : ElemsOf T.knd l := fun e he => by
  obtain ⟨k, tk, h1, h2⟩ := g e he
  exact ⟨⟨k, by rw [h1]; exact T.his k tk, h2⟩, by rw [h1]; exact T.hsc k tk⟩
theorem goodG_is {e : Int × Value} (g : GoodG T e) (k : α) : T.knd.is k e.2 = true ↔ keyG T e = k := by
  obtain ⟨k0, tk, h1, _⟩ := g
  unfold keyG
  rw [h1, T.hk]
  exact T.iff k k0 tk
theorem goodG_mem {l : List (Int × Value)} (g : ∀ e ∈ l, GoodG T e) (k : α) : k ∈ l.map (keyG T) ↔ ∃ e ∈ l, T.knd.is k e.2 = true := by
  rw [List.mem_map]
  constructor
  · rintro ⟨e, he, q⟩
    exact ⟨e, he, (goodG_is (g e he) k).2 q⟩
  · rintro ⟨e, he, q⟩
    exact ⟨e, he, (goodG_is (g e he) k).1 q⟩
theorem setG_fresh {h : Heap} : SetG T (h.push { cls := .type "set", dict := none, data := .set #[] 0 (.fresh 0 0 (!w.params.followText "set-order")) }) h.objs.size (fun _ => false) 0 :=
  ⟨_, #[], 0, _, Heap.get?_push_size _ rfl, ⟨rfl, rfl, rfl⟩, rfl, (fun e he => by simp at he), (by simp), (fun k => by simp), (by decide), (by rfl), rfl, List.Pairwise.nil, by
    show _ ∨ (!w.params.followText "set-order") = true
    cases w.params.followText "set-order"
    · exact .inr rfl
    · exact .inl rfl⟩
end
section
variable {P : Program} {w : World} {α : Type} [DecidableEq α] {T : KyT P w α} {A : Around} {E : Value → Shared → Prop} {s : Shared} {a : Addr} {S : α → Bool} {n : Nat}
theorem setG_add_tail {g : Bool → Sem Unit} (hg : ∀ (b : Bool) (s₁ : Shared) (Q' : Unit → Shared → Prop), Q' () s₁ → wpAny (model P w) A (g b) Q' E s₁)
    {o : Obj} {es : Array (Int × Value)} {ep : Nat} {t : SetTable} (ho : s.heap.get? a = some o) (hex : o.ExactSet) (hd : o.data = .set es ep t)
    {es1 : Array (Int × Value)} {t2 : SetTable} {S' : α → Bool} (g1 : ∀ e ∈ es1.toList, GoodG T e) (nd1 : (es1.toList.map (keyG T)).Nodup) (m1 : ∀ k, S' k = true ↔ k ∈ es1.toList.map (keyG T))
    (hb1 : es1.size < scanBound) (hf2 : t2.fits es1.size = true) (hr : Ris t2.place.toList) (hl : w.params.followText "set-order" = true ∨ t2.led = true) {wasDummy : Bool} {R : Option Bool → Shared → Prop}
    (hR : ∀ h', Heap.SameBut a s.heap h' → SetG T h' a S' es1.size → R (some true) { s with heap := h' }) :
    wpAny (model P w) A (do
        storeSet a es1 t2
        if (!wasDummy && t2.tooFull) = true then do
            g (relayAll t2 es1 (SetTable.grown es1.size)).2.2
            storeSet a (relayAll t2 es1 (SetTable.grown es1.size)).1 (relayAll t2 es1 (SetTable.grown es1.size)).2.1
            pure (some true)
          else pure (some true)) R E s := by
  refine wpAny_bind (wpAny_storeSet_of ho hd ?_ (fits_of_scanBound hb1))
  have ho1 := store_at (es' := es1) (t' := t2) ho hd
  have sb1 := Heap.SameBut.update s.heap a (Obj.putSet es1 t2)
  split
  · have pm := relayAll_perm t2 es1 (SetTable.grown es1.size)
    have hf3 := relayAll_fits t2 es1 (SetTable.grown es1.size)
    have hr3 := relayAll_ris t2 es1 (SetTable.grown es1.size)
    have hl3 := relayAll_led t2 es1 (SetTable.grown es1.size)
    generalize relayAll t2 es1 (SetTable.grown es1.size) = Z at pm hf3 hr3 hl3 ⊢
    obtain ⟨es2, t3, gave⟩ := Z
    dsimp only at pm hf3 hr3 hl3 ⊢
    have hsz : es2.size = es1.size := by rw [← Array.length_toList, pm.length_eq, Array.length_toList]
    have hb2 : es2.size < scanBound := by rw [hsz]; exact hb1
    refine wpAny_bind (hg _ _ _ ?_)
    refine wpAny_bind (wpAny_storeSet_of ho1 rfl ?_ (fits_of_scanBound hb2))
    have ho2 := store_at (es' := es2) (t' := t3) ho1 rfl
    refine wpAny_pure (hR _ (sb1.trans (Heap.SameBut.update _ a _)) ?_)
    exact ⟨_, es2, _, t3, ho2, hex, rfl, fun e he => g1 e (pm.mem_iff.mp he), (pm.map (keyG T)).nodup_iff.mpr nd1, fun k => (m1 k).trans (pm.map (keyG T)).mem_iff.symm, hb2, hf3, hsz, hr3,
      hl.imp id fun z => by rw [hl3]; exact z⟩
  · exact wpAny_pure (hR _ sb1 ⟨_, es1, _, t2, ho1, hex, rfl, g1, nd1, m1, hb1, hf2, rfl, hr, hl⟩)

theorem setG_add_hashed {k : α} {tk : Tok} {Q : Bool → Shared → Prop} (R : SetG T s.heap a S n) (room : n + 1 < scanBound)
    (hQ : ∀ h', Heap.SameBut a s.heap h' → SetG T h' a (fun j => S j || decide (j = k)) (if S k = true then n else n + 1) → Q (!S k) { s with heap := h' }) :
    wpAny (model P w) A (setAddHashed a (T.mkv k tk) (T.knd.hash k)) Q E s := by
  obtain ⟨o, es, ep, t, ho, hex, hd, g, nd, hm, hb, hf, hn, hr, hl⟩ := R
  have hkey : T.knd.is k (T.mkv k tk) = true := T.his k tk
  have hsc : (T.mkv k tk).scannable = true := T.hsc k tk
  have hel : ElemsOf T.knd es.toList := goodG_elems g
  unfold setAddHashed setAddHashedIn
  refine wpAny_holding (wpAny_bind (wpAny_setState_of ho hd hf ?_))
  dsimp only
  rw [byScan_of hsc hb hel]
  simp only [↓reduceIte]
  unfold setAddByScan
  refine wpAny_bind ?_
  refine wpAny_bind (wpAny_rule ?_)
  refine wpAny_bind (wpAny_setScan_of hkey ho hd hf hel ?_)
  cases hfi : List.findIdx? (fun e => T.knd.is k e.2) es.toList with
  | some j =>
    dsimp only
    obtain ⟨hj, pj, _⟩ := List.findIdx?_eq_some_iff_getElem.mp hfi
    have hSk : S k = true := (hm k).2 ((goodG_mem g k).2 ⟨es.toList[j], List.getElem_mem hj, pj⟩)
    refine wpAny_pure (wpAny_pure ?_)
    have q := hQ s.heap (Heap.SameBut.refl a s.heap) ⟨o, es, ep, t, ho, hex, hd, g, nd, fun i => by
      rw [Bool.or_eq_true, decide_eq_true_eq, ← hm i]
      exact ⟨fun z => z.elim id (fun e => e ▸ hSk), .inl⟩, hb, hf, by rw [if_pos hSk]; exact hn, hr, hl⟩
    rw [hSk] at q
    exact q
  | none =>
    dsimp only
    have hnk : k ∉ es.toList.map (keyG T) := fun z => by
      obtain ⟨e, he, q⟩ := (goodG_mem g k).1 z
      have c := List.findIdx?_eq_none_iff.mp hfi e he
      rw [q] at c
      cases c
    have hSk : S k = false := by
      cases q : S k with
      | false => rfl
      | true => exact absurd ((hm k).1 q) hnk
    have hgw : ∀ (b : Bool) {s₁ : Shared} {Q' : Unit → Shared → Prop}, Q' () s₁ → wpAny (model P w) A (match b with | true => rule "set.scan.the-table-gave-way" | false => pure ()) Q' E s₁ :=
      fun b s₁ Q' q => by cases b <;> first | exact wpAny_pure q | exact wpAny_rule q
    have pm := layNew_perm t es (T.knd.hash k) (T.mkv k tk)
    have hf1 := layNew_fits t es (T.knd.hash k) (T.mkv k tk)
    have hr1 := layNew_ris t es (T.knd.hash k) (T.mkv k tk) hr
    have hl1 := layNew_led t es (T.knd.hash k) (T.mkv k tk)
    generalize layNew t es (T.knd.hash k) (T.mkv k tk) = Z at pm hf1 hr1 hl1 ⊢
    obtain ⟨es1, t1, wasDummy, gave⟩ := Z
    dsimp only at pm hf1 hr1 hl1 ⊢
    rw [Array.toList_push] at pm
    have pc : es1.toList.Perm ((T.knd.hash k, T.mkv k tk) :: es.toList) := pm.trans (List.perm_append_singleton _ _)
    have pk : (es1.toList.map (keyG T)).Perm (k :: es.toList.map (keyG T)) := by
      have q := pc.map (keyG T)
      rw [List.map_cons] at q
      have e : keyG T (T.knd.hash k, T.mkv k tk) = k := T.hk k tk
      rw [e] at q
      exact q
    have g1 : ∀ e ∈ es1.toList, GoodG T e := fun e he => by
      rcases List.mem_cons.mp (pc.mem_iff.mp he) with z | z
      · rw [z]; exact ⟨k, tk, rfl, rfl⟩
      · exact g e z
    have nd1 : (es1.toList.map (keyG T)).Nodup := pk.nodup_iff.mpr (List.nodup_cons.mpr ⟨hnk, nd⟩)
    have m1 : ∀ i, (S i || decide (i = k)) = true ↔ i ∈ es1.toList.map (keyG T) := fun i => by
      rw [Bool.or_eq_true, decide_eq_true_eq, hm i, pk.mem_iff, List.mem_cons]
      exact Or.comm
    have hsz : es1.size = n + 1 := by rw [← Array.length_toList, pc.length_eq, List.length_cons, Array.length_toList, hn]
    have hb1 : es1.size < scanBound := by rw [hsz]; exact room
    have hled : w.params.followText "set-order" = true ∨ t1.led = true := hl.imp id fun z => by rw [hl1]; exact z
    have fin : ∀ h', Heap.SameBut a s.heap h' → SetG T h' a (fun j => S j || decide (j = k)) es1.size → Q true { s with heap := h' } := fun h' sb r => by
      have q := hQ h' sb
      rw [hSk] at q
      rw [hsz] at r
      exact q r
    refine wpAny_bind (hgw _ ?_)
    split
    · refine wpAny_bind ?_
      rw [hashByValue_scannable 8 hsc]
      refine wpAny_pure ?_
      refine setG_add_tail ?_ ho hex hd g1 nd1 m1 hb1 ?_ ?_ ?_ ?_
      · intro b s₁ Q' q; cases b <;> first | exact wpAny_pure q | exact wpAny_rule q
      · first | (split <;> first | exact hf1 | exact SetTable.fits_plain_off hf1) | exact hf1
      · first | (split <;> exact hr1) | exact hr1
      · first | (split <;> exact hled) | exact hled
      · intro h' sb r; dsimp only; exact wpAny_pure (fin h' sb r)
    · refine wpAny_bind (wpAny_pure ?_)
      simp only [↓reduceIte]
      refine setG_add_tail ?_ ho hex hd g1 nd1 m1 hb1 hf1 hr1 hled ?_
      · intro b s₁ Q' q; cases b <;> first | exact wpAny_pure q | exact wpAny_rule q
      · intro h' sb r; dsimp only; exact wpAny_pure (fin h' sb r)
end
end So

namespace So
open PySem PySem.Spec PyProof.Rows L2
section
variable {P : Program} {w : World} {α : Type} [DecidableEq α] {T : KyT P w α} {A : Around} {E : Value → Shared → Prop} {s : Shared}
theorem code_set_led1 (a : Value) {Q₁ : Value → Shared → Prop}
    (h : Q₁ (.ref s.heap.objs.size) { s with heap := s.heap.push { cls := .type "set", dict := none, data := .set #[] 0 (.fresh 0 0 (!w.params.followText "set-order")) } }) :
    codeAny (model P w) A (.call (.builtin "set.__new__") ⟨[.type "set", a], []⟩) (wants Q₁ E) s := by
  refine codeAny_of_tree ?_
  show wpAny _ A.in1 (do checkBuiltinCall "set.__new__" ⟨[.type "set", a], []⟩; again (.builtin "set.__new__" ⟨[.type "set", a], []⟩)) _ _ s
  refine wpAny_bind (wpAny_of_eq (F.newCall_set_1 a) (wpAny_pure ⟨plainId_quiet F.plain_set_new _, codeAny_builtin F.entry_set_new ?_⟩))
  rw [Around.under_plainId F.plain_set_new _]
  unfold Builtin.«set.__new__» Builtin.Frozenset.newClass
  have hsub := sub_set_self
  obtain ⟨hp, g, d, tk, os⟩ := s
  dsimp only
  wp_walk
  refine wpAny_askSetting (wpAny_pure ?_)
  dsimp only
  simp only [newObj]
  refine wpAny_bind (wpAny_alloc (wpAny_pure ?_))
  exact wpAny_pure h
end
section
variable {prog : Program} {w : World} {α : Type} [DecidableEq α] {T : KyT prog w α} {A : Around} {R : Result → Shared → Prop} {I : Addr} {fp wr : List Addr} {G : Array GenState → Array GenState → Prop} {n : Nat} {P : Nat → Value → Prop} {St : Nat → Shared → Prop}
theorem loopG (W : WalksS prog w A.in1 I fp wr G n P St) (S : Addr) (hSf : S ∉ fp) (xs : List α) (hsz : xs.length = n) (hn1 : n + 1 < scanBound)
    (hval : ∀ i v, P i v → ∃ k t, xs[i]? = some k ∧ v = T.mkv k t) :
    ∀ (k i : Nat) (s : Shared), n - i = k → i ≤ n → St i s →
      (∃ m, m ≤ i ∧ SetG T s.heap S (fun k' => decide (k' ∈ xs.take i)) m) →
      (∀ s', Moved (S :: wr) G s s' → (∃ m, m ≤ n ∧ SetG T s'.heap S (fun k' => decide (k' ∈ xs)) m) → R (.ok (.ret .none)) s') →
      codeAny (model prog w) A (.builtin "set.update.loop" ⟨[.ref S, .ref I], []⟩) R s := by
  have hSw : S ∉ wr := fun h => hSf (W.sub _ h)
  have hsub : ∀ b ∈ wr, b ∈ S :: wr := fun b hb => List.mem_cons_of_mem _ hb
  intro k
  induction k with
  | zero =>
    intro i s hk hi hst hS hR
    have hin : i = n := by omega
    subst hin
    refine codeAny_builtin PyProof.Rows.F.entry_set_update_loop ?_
    rw [Around.under_plainId PyProof.Rows.F.plain_set_update_loop _]
    show wpAny _ A.in1 (pyNext (.ref I) >>= _) _ _ s
    refine wpAny_bind (W.done s _ _ hst fun s' hm => ?_)
    show wpAny _ A.in1 (ret Value.none) _ _ s'
    refine wpAny_pure (hR s' (hm.mono hsub) ?_)
    obtain ⟨m, hm1, R1⟩ := hS
    rw [← hsz, List.take_length] at R1
    exact ⟨m, hm1, R1.at fun o ho => hm.heap S _ hSw ho⟩
  | succ k ih =>
    intro i s hk hi hst hS hR
    have hlt : i < n := by omega
    refine codeAny_builtin PyProof.Rows.F.entry_set_update_loop ?_
    rw [Around.under_plainId PyProof.Rows.F.plain_set_update_loop _]
    show wpAny _ A.in1 (pyNext (.ref I) >>= _) _ _ s
    refine wpAny_bind (W.item i s _ _ hlt hst fun v s' hP hst' hm => ?_)
    obtain ⟨x, t, hx, rfl⟩ := hval i v hP
    obtain ⟨m, hm1, R1⟩ := hS
    have R2 : SetG T s'.heap S (fun k' => decide (k' ∈ xs.take i)) m := R1.at fun o ho => hm.heap S _ hSw ho
    show wpAny _ A.in1 (holding [T.mkv x t] (setAdd S (T.mkv x t)) >>= _) _ _ s'
    refine wpAny_bind (wpAny_holding ?_)
    unfold setAdd
    refine wpAny_holding ?_
    refine wpAny_bind (T.knd.pyHash (k := x) (T.his x t) ?_)
    refine setG_add_hashed (s := { s' with toks := s'.toks + 1 }) R2 (by omega) fun h' hsb R3 => ?_
    have et : xs.take (i + 1) = xs.take i ++ [x] := by rw [List.take_add_one, hx]; rfl
    have R4 : ∃ m', m' ≤ i + 1 ∧ SetG T h' S (fun k' => decide (k' ∈ xs.take (i + 1))) m' := by
      refine ⟨_, ?_, R3.congr fun k' => ?_⟩
      · split <;> omega
      · rw [et, Bool.eq_iff_iff, Bool.or_eq_true, decide_eq_true_eq, decide_eq_true_eq, decide_eq_true_eq, List.mem_append, List.mem_singleton]
    refine wpAny_pure ⟨plainId_quiet PyProof.Rows.F.plain_set_update_loop _, ih (i + 1) _ (by omega) hlt (W.frame _ s' _ _ hst' (Nat.le_succ _) fun b hb o e => ?_) R4 fun s'' hm'' hS'' => ?_⟩
    · rw [hsb.2 b (fun h : b = S => hSf (by rw [← h]; exact hb))]; exact e
    · refine hR s'' (Moved.trans W.gtrans ((hm.mono hsub).then_heap (Nat.le_succ _) fun b o hb e => ?_) hm'') hS''
      rw [hsb.2 b (fun h : b = S => hb (by rw [h]; exact List.mem_cons_self))]; exact e
end
section
variable {prog : Program} {w : World} {α : Type} [DecidableEq α] {T : KyT prog w α} {A : Around} {E : Value → Shared → Prop} {s : Shared}
set_option maxHeartbeats 8000000 in
theorem call_set_listG {l : Addr} {items : Array Value} {xs : List α} {Q : Value → Shared → Prop}
    (hh : A.handled = none) (hl : s.heap.IsList l items) (hsz : xs.length = items.size) (hval : ∀ (i : Nat) (v : Value), items[i]? = some v → ∃ k t, xs[i]? = some k ∧ v = T.mkv k t) (hn1 : xs.length + 1 < scanBound)
    (h : ∀ (h' : Heap) (tk m : Nat), m ≤ xs.length → SetG T h' s.heap.objs.size (fun k' => decide (k' ∈ xs)) m →
      (∀ b o, b < s.heap.objs.size → s.heap.get? b = some o → h'.get? b = some o) → Q (.ref s.heap.objs.size) { s with heap := h', toks := tk }) :
    wpAny (model prog w) A (call (.type "set") [.ref l]) Q E s := by
  obtain ⟨c, tl, hmro⟩ := PySem.F.called_set.mro
  have hmade := PySem.F.called_set.made
  have hsub := PySem.F.called_set.sub
  refine wpAny_call (codeAny_of_tree ?_)
  show wpAny _ _ (callAny (.type "set") _) _ _ _
  refine wpAny_pure ⟨Code.quiet_builtin _ (by decide +kernel), codeAny_builtin PySem.F.entry_type_call ?_⟩
  rw [Around.under_plain (weight_type_call_type "set" [.ref l] []) rfl]
  have h1 := PySem.F.called_set.notType
  have h2 := PySem.F.called_set.canCreate
  have hct := PySem.F.typeCall_set_1 (.ref l)
  repeat (any_goals (first | assumption | wp_step))

  refine codeAny_mono (code_set_led1 (.ref l) (E := E) (Q₁ := fun obj s₁ => obj = .ref s.heap.objs.size ∧ s₁ = { s with heap := s.heap.push { cls := .type "set", dict := none, data := .set #[] 0 (.fresh 0 0 (!w.params.followText "set-order")) } }) ⟨rfl, rfl⟩) fun r s₁ hr => ?_
  cases r with
  | error e => exact hr
  | ok fl =>
    cases fl with
    | ret obj =>
      obtain ⟨rfl, rfl⟩ := hr
      have R0 := setG_fresh (T := T) (h := s.heap)
      generalize (!w.params.followText "set-order") = led at R0 ⊢
      have hS : (s.heap.push { cls := .type "set", dict := none, data := .set #[] 0 (.fresh 0 0 led) }).get? s.heap.objs.size = some { cls := .type "set", dict := none, data := .set #[] 0 (.fresh 0 0 led) } := Heap.get?_push_size _ rfl
      have hT : Shared.TypeIs { s with heap := s.heap.push { cls := .type "set", dict := none, data := .set #[] 0 (.fresh 0 0 led) } } (.ref s.heap.objs.size) "set" := ⟨_, hS, rfl⟩
      have hli := PySem.F.called_set.init.lookup
      have hbi := PySem.F.called_set.init.bind (.ref s.heap.objs.size)
      repeat (any_goals (first | assumption | wp_step))

      refine codeAny_mono (codeAny_call_builtin (R := wants (fun r s₂ => r = .none ∧ ∃ h' tk m, s₂ = { s with heap := h', toks := tk } ∧ m ≤ xs.length ∧
          SetG T h' s.heap.objs.size (fun k' => decide (k' ∈ xs)) m ∧
          (∀ b o, b < s.heap.objs.size → s.heap.get? b = some o → h'.get? b = some o)) E) PySem.F.called_set.init.plain PySem.F.entry_set_init (check_set_init_1 hT ?_)) fun r₂ s₂ hr₂ => ?_
      · obtain ⟨ol, hol, hcl, nl, hdl⟩ := hl
        obtain ⟨ocls, odict, odata, oslots⟩ := ol
        simp only at hcl hdl
        subst hcl; subst hdl
        have hol' : (s.heap.push { cls := .type "set", dict := none, data := .set #[] 0 (.fresh 0 0 led) }).get? l = some { cls := .type "list", dict := odict, data := .seq items nl, slots := oslots } := Heap.get?_push_of_some _ hol
        have hsls := PySem.F.sub_list_set
        have hslf := PySem.F.sub_list_frozenset
        have hne : (Value.type "list" == Value.type "dict") = false := by decide
        have hl1 : (s.heap.push { cls := .type "set", dict := none, data := .set #[] 0 (.fresh 0 0 led) }).IsList l items := ⟨_, hol', rfl, nl, rfl⟩
        unfold Builtin.«set.__init__» noKeywords Builtin.Frozenset.updateFrom
        generalize hPI : pyIter = PI
        wp_walk
        subst hPI

        refine wpAny_pyIter_list hl1 ?_
        refine wpAny_bind (wpAny_runValue ?_)
        have hlS : l < s.heap.objs.size := Heap.lt_size hol
        have hh3 : A.in1.in1.in1.handled = none := by simp [hh]
        have hneI : l ≠ (s.heap.push { cls := .type "set", dict := none, data := .set #[] 0 (.fresh 0 0 led) }).objs.size := by
          rw [Heap.size_push]; exact Nat.ne_of_lt (Nat.lt_succ_of_lt hlS)
        have hSf : s.heap.objs.size ∉ [(s.heap.push { cls := .type "set", dict := none, data := .set #[] 0 (.fresh 0 0 led) }).objs.size, l] := by
          rw [Heap.size_push]; simp only [List.mem_cons, List.mem_singleton, List.not_mem_nil, or_false, not_or]
          exact ⟨Nat.ne_of_lt (Nat.lt_succ_self _), Nat.ne_of_gt hlS⟩
        refine loopG (T := T) ((Walks.list hh3 _ l hneI items).toS) s.heap.objs.size
          hSf xs hsz (by rw [← hsz]; exact hn1) hval (items.size - 0) 0 _ (by omega) (Nat.zero_le _)
          ⟨⟨_, Heap.get?_push_size _ rfl, rfl, rfl⟩, (hl1.push _)⟩ ?hS0 ?hR
        case hS0 =>
          exact ⟨0, Nat.le_refl _, (R0.at fun o ho => Heap.get?_push_of_some _ ho).congr fun k => by simp⟩
        case hR =>
          intro s' hm hS'
          obtain ⟨h', g', d', tk', os'⟩ := s'
          have eg : g' = s.gens := hm.gens
          have ed : d' = s.drawn := hm.drawn
          have eo : os' = s.os := hm.os
          subst eg; subst ed; subst eo
          show wpAny _ _ _ _ _ _
          refine wpAny_pure ?_
          show wpAny _ _ (ret Value.none) _ _ _
          obtain ⟨m, hm1, R1⟩ := hS'
          refine wpAny_pure ⟨rfl, h', tk', m, rfl, by rw [hsz]; exact hm1, R1, fun b o hb e => ?_⟩
          have hb1 : b ≠ s.heap.objs.size := Nat.ne_of_lt hb
          have hb2 : b ≠ (s.heap.push { cls := .type "set", dict := none, data := .set #[] 0 (.fresh 0 0 led) }).objs.size := by
            rw [Heap.size_push]; exact Nat.ne_of_lt (Nat.lt_succ_of_lt hb)
          exact hm.heap b o (by simp only [List.mem_cons, List.mem_singleton, List.not_mem_nil, or_false, not_or]; exact ⟨hb1, hb2⟩) (Heap.get?_push_of_some _ (Heap.get?_push_of_some _ e))

      · cases r₂ with
        | error e => exact hr₂
        | ok fl₂ =>
          cases fl₂ with
          | ret r =>
            obtain ⟨rfl, h', tk, m, rfl, hm1, hS', hk'⟩ := hr₂
            repeat (any_goals (first | assumption | wp_step))
            exact h _ _ _ hm1 hS' hk'
          | _ => exact hr₂.elim
    | _ => exact hr.elim
end
end So

namespace So
open PySem PySem.Spec PyProof.Rows L2
/-! ### there is one ascending list of the same texts -/
theorem risingS_pair : ∀ {l : List Str} {p : Str}, risingS p l = true → (p :: l).Pairwise (fun a b => a.cps.toList ≤ b.cps.toList)
  | [], p, _ => List.pairwise_singleton _ _
  | x :: r, p, h => by
    have h : (!ltCps x.cps.toList p.cps.toList && risingS x r) = true := h
    rw [Bool.and_eq_true, Bool.not_eq_true', ltCps_eq, decide_eq_false_iff_not] at h
    have ih := risingS_pair h.2
    have h1 : p.cps.toList ≤ x.cps.toList := List.not_lt.mp h.1
    refine List.pairwise_cons.mpr ⟨fun y hy => ?_, ih⟩
    rcases List.mem_cons.mp hy with e | e
    · rw [e]; exact h1
    · exact List.le_trans h1 ((List.pairwise_cons.mp ih).1 y e)
theorem sortedS_pair {l : List Str} (h : sortedS l = true) : l.Pairwise (fun a b => a.cps.toList ≤ b.cps.toList) := by
  cases l with
  | nil => exact List.Pairwise.nil
  | cons x r => exact risingS_pair h
theorem str_of_cps {a b : Str} (h : a.cps.toList = b.cps.toList) : a = b := by
  cases a
  cases b
  simp only [Str.mk.injEq]
  exact Array.toList_inj.mp h
theorem sortedS_one {a b : List Str} (ha : sortedS a = true) (hb : sortedS b = true) (na : a.Nodup) (nb : b.Nodup) (h : ∀ k, k ∈ a ↔ k ∈ b) : a = b := by
  have p : a.Perm b := (List.perm_ext_iff_of_nodup na nb).mpr h
  exact p.eq_of_pairwise (le := fun a b : Str => a.cps.toList ≤ b.cps.toList) (fun x y _ _ h1 h2 => str_of_cps (List.le_antisymm h1 h2)) (sortedS_pair ha) (sortedS_pair hb)
theorem ints_one {a b : List Int} (ha : a.Pairwise (· < ·)) (hb : b.Pairwise (· < ·)) (h : ∀ k, k ∈ a ↔ k ∈ b) : a = b := by
  have nd : ∀ {l : List Int}, l.Pairwise (· < ·) → l.Nodup := fun h => h.imp fun h e => by omega
  have p : a.Perm b := (List.perm_ext_iff_of_nodup (nd ha) (nd hb)).mpr h
  exact p.eq_of_pairwise (le := fun a b : Int => a < b) (fun x y _ _ h1 h2 => by omega) ha hb
section
variable {P : Program} {w : World} {A : Around} {E : Value → Shared → Prop} {s : Shared} {a : Addr}
theorem strs_of (P : Program) (w : World) : ∀ (l : List Value), (∀ v ∈ l, ∃ k tk, v = Value.str k tk) → StrsAre l (l.map (kyStr P w).key)
  | [], _ => .nil
  | v :: l, h => by
    obtain ⟨k, tk, rfl⟩ := h v List.mem_cons_self
    exact .cons k tk (strs_of P w l fun u hu => h u (List.mem_cons_of_mem _ hu))
theorem list_sort_treeSt {a : Addr} {vs : List Value} {ss : List Str} {n : Nat} {Q : Fin → Shared → Prop} (ho : s.heap.get? a = some (seqObj "list" vs.toArray n))
    (hS : StrsAre vs ss) (hL : vs.length ≤ sizeLine)
    (h : ∀ (out : Array Value) (ss' : List Str), StrsAre out.toList ss' → ss'.Perm ss → sortedS ss' = true → Q (.done (.ret .none)) { s with heap := sortedHeap s.heap a vs out }) :
    wpAny (model P w) A (Builtin.«list.sort» ⟨[.ref a], []⟩) Q E s := by
  refine list_sort_treeKAny strKind_oneLt ho hS.keysOf (fun v₁ v₂ rest e => keyKind_strs (by rw [← e]; exact hS)) hL fun st' hp hs => ?_
  obtain ⟨ss', h1, h2, h3⟩ := sorted_out_str hS hp hs
  exact h _ ss' h1 h2 h3
theorem sorted_setS {S : Str → Bool} {n : Nat} {Q : Value → Shared → Prop} (R : SetG (kyStr P w) s.heap a S n) (hh : A.handled = none)
    (hQ : ∀ s' p (out : Array Value) (c : Nat) (ns : List Str), (∀ b o, s.heap.get? b = some o → s'.heap.get? b = some o) → s'.gens = s.gens → s'.os = s.os → s.heap.objs.size ≤ p →
      s'.heap.get? p = some (seqObj "list" out c) → StrsAre out.toList ns → sortedS ns = true → ns.Nodup → (∀ k, k ∈ ns ↔ S k = true) → ns.length = n → Q (.ref p) s') :
    wpAny (model P w) A (call (.builtin "sorted") [.ref a]) Q E s := by
  obtain ⟨o, es, ep, t, ho, hex, hd, g, nd, hm, hb, hf, hn, hr, hl⟩ := R
  refine Calls.call_function_entry kind_sorted plain_sorted entry_sorted (args_sorted1 _) ?_
  unfold Builtin.«sorted»
  refine wpAny_bind (m := checkCount "sorted" 1 1 _) (wpAny_pure ?_)
  refine wpAny_bind (collect_set (A := A.in1) hh ⟨o, ho, hex.1, hd⟩ hf hb hr hl fun s1 vs k1 hz g1 o1 pm => ?_)
  have hvl : vs.length = n := by rw [pm.length_eq, List.length_map, Array.length_toList]; exact hn
  have hvz : vs.length ≤ sizeLine := by rw [hvl, ← hn]; exact fits_of_scanBound hb
  have hI : StrsAre vs (vs.map (kyStr P w).key) := strs_of P w vs fun v hv => by
    obtain ⟨e, he, q⟩ := List.mem_map.mp (pm.mem_iff.mp hv)
    obtain ⟨k, tk, h1, _⟩ := g e he
    exact ⟨k, tk, by rw [← q]; exact h1⟩
  have pk : (vs.map (kyStr P w).key).Perm (es.toList.map (keyG (kyStr P w))) := by
    have q := pm.map (kyStr P w).key
    rw [List.map_map] at q
    exact q
  refine wpAny_bind (wpAny_newList ?_ hvz)
  have hoL : (s1.heap.push (seqObj "list" vs.toArray 0)).get? s1.heap.objs.size = some (seqObj "list" vs.toArray 0) := Heap.get?_push_size _ rfl
  refine wpAny_bind (wpAny_holding (wpAny_call_entry slot_list_sort ⟨_, hoL, rfl⟩ entry_list_sort (list_sort_treeSt hoL hI hvz fun out ns' a1 a2 a3 => ⟨_, rfl, ?_⟩) (args_list_sort _)))
  obtain ⟨c, hc⟩ := sortedHeap_at (vs := vs) (out := out) hoL
  have pn : ns'.Perm (es.toList.map (keyG (kyStr P w))) := a2.trans pk
  refine wpAny_pure ⟨_, rfl, hQ _ s1.heap.objs.size out c ns' (fun b u e => ?_) g1 o1 hz hc a1 a3 (pn.nodup_iff.mpr nd) (fun k => by rw [pn.mem_iff, ← hm k]) ?_⟩
  · have q := k1 b u e
    have hlt := Heap.lt_size q
    show (sortedHeap (s1.heap.push (seqObj "list" vs.toArray 0)) s1.heap.objs.size vs out).get? b = some u
    rw [sortedHeap_old (Nat.ne_of_lt hlt) (by rw [size_push']; exact Nat.lt_succ_of_lt hlt)]
    exact Heap.get?_push_of_some _ q
  · rw [pn.length_eq, List.length_map, Array.length_toList]; exact hn
end
/-! ### the calls -/
section
variable {X : Cx}
/-- the set of texts at a -/
def SetS (P : Program) (w : World) (a : Addr) (S : Str → Bool) (n : Nat) : HO := .ext fun h => SetG (kyStr P w) h a S n
theorem setS_new {w : World} {P P' : Program} {H : Hp} {h : Heap} {a : Addr} {S : Str → Bool} {n : Nat} (R : SetG (kyStr P' w) h a S n) : ObjOk P w H h a (SetS P' w a S n) := by
  have ⟨o, _, _, _, ho, _⟩ := R
  exact ⟨R, ⟨o, ho⟩, fun h1 h2 p k => SetG.at p k⟩
theorem setS_get {pins : List (Addr × Obj)} {σ : L2.St} {H : Hp} {s : Shared} {a : Addr} {S : Str → Bool} {n : Nat} (I : Inv X pins σ H s) (ha : H a = some (SetS X.prog X.w a S n)) : SetG (kyStr X.prog X.w) s.heap a S n := (I.hok a _ ha).1
/-- set(list of texts) -/
def rSetS (K : PySem.W.Frag) (P : Program) (w : World) : List V → Hp → VK → Prop := fun xs H Q => ∃ (l : Addr) (ks : List Str), xs = [.ref l] ∧ SqL K H l (ks.map V.str) ∧ ks.length < 1000 ∧
  ∀ (p : Addr) (n : Nat), H p = none → n ≤ ks.length → Q (.ref p) (upd H p (SetS P w p (fun k => decide (k ∈ ks)) n))
theorem vals_at : ∀ {xs : List Str} {us : List Value}, Vals (xs.map V.str) us → ∀ (i : Nat) (v : Value), us[i]? = some v → ∃ k t, xs[i]? = some k ∧ v = Value.str k t
  | [], us, r, i, v, h => by
    cases r
    simp at h
  | x :: xs, us, r, i, v, h => by
    cases r with
    | cons r1 r =>
      obtain ⟨t, rfl⟩ := r1
      cases i with
      | zero =>
        simp at h
        exact ⟨x, t, rfl, h.symm⟩
      | succ i => exact vals_at r i v (by simpa using h)
theorem cr_setS (hc : X.calm = true) : CallR X (.type "set") (rSetS X.K X.prog X.w) := by
  intro pins s σ H xs us Q I r h
  obtain ⟨l, ks, rfl, hs, h1000, q⟩ := h
  obtain ⟨its, rv, hl, _⟩ := I.list hs
  rw [Vals.ref1 r]
  have hlen := rv.length
  rw [List.length_map] at hlen
  refine call_set_listG (T := kyStr X.prog X.w) (xs := ks) (I.ok.hd hc) hl.isList (by simpa using hlen) (fun i v hv => vals_at rv i v (by simpa using hv)) (by unfold scanBound; omega) fun h' tk m hm R k => ?_
  exact ⟨.ref _, upd H s.heap.objs.size (SetS X.prog X.w s.heap.objs.size (fun k => decide (k ∈ ks)) m), I.laid (t' := tk) (fun b u e => k b u (Heap.lt_size e) e) (Nat.le_refl _) (setS_new R), rfl, q _ _ (I.hok.fresh (Nat.le_refl _)) hm⟩
/-- sorted(set of texts) -/
def rSortSS (P : Program) (w : World) : List V → Hp → VK → Prop := fun xs H Q => ∃ (a : Addr) (S : Str → Bool) (n : Nat), xs = [.ref a] ∧ H a = some (SetS P w a S n) ∧ n < 1000 ∧
  ∀ (ns : List Str) (p : Addr), sortedS ns = true → ns.Nodup → (∀ k, k ∈ ns ↔ S k = true) → ns.length = n → H p = none → Q (.ref p) (upd H p (.lst (ns.map V.str)))
theorem cr_sortSS (hc : X.calm = true) : CallR X (.builtin "sorted") (rSortSS X.prog X.w) := by
  intro pins s σ H vs us Q I r h
  obtain ⟨a, S, n, rfl, ha, h64, q⟩ := h
  have R := setS_get I ha
  rw [Vals.ref1 r]
  refine sorted_setS R (I.ok.hd hc) fun s' p out c ns k g o hp hg hi hs hnd hm hl => ?_
  have hlen : (ns.map V.str).length ≤ sizeLine := by rw [List.length_map, hl, sizeLine_eq]; omega
  have hn : H p = none := I.hok.fresh hp
  have J : Inv X pins σ (upd H p (.lst (ns.map V.str))) { s with heap := s'.heap, gens := s'.gens, drawn := s'.drawn, toks := s'.toks } :=
    I.call (ch := []) (Un.laid k hp hn) (I.hok.laid k hp ⟨hlen, out.toList, c, vals_of_strs hi, hg⟩) (by rw [g]; exact I.bare) (fun _ z => nomatch z)
  have e : s' = { s with heap := s'.heap, gens := s'.gens, drawn := s'.drawn, toks := s'.toks } := by
    cases s'
    cases s
    cases o
    rfl
  rw [e]
  exact ⟨.ref p, _, J, rfl, q ns p hs hnd hm hl hn⟩
/-! ### ints -/
def kyInt (P : Program) (w : World) : KyT P w Int where
  knd := PySem.intKind P w
  mkv := Value.int
  key := fun v => match v with | .int k _ => k | _ => 0
  hk := fun _ _ => rfl
  his := fun k t => intKind_is P w k t
  iff := fun k k0 t => by
    show ((k0 == k) = true) ↔ k0 = k
    exact beq_iff_eq
  hsc := fun _ _ => rfl
theorem setR_of {P : Program} {w : World} {h : Heap} {a : Addr} {S : Int → Bool} {n : Nat} (R : SetG (kyInt P w) h a S n) : SetR w h a S n := by
  obtain ⟨o, es, ep, t, ho, hex, hd, g, nd, hm, r⟩ := R
  exact ⟨o, es, ep, t, ho, hex, hd, g, nd, hm, r⟩
/-- set(list of ints) -/
def rSetI2 (K : PySem.W.Frag) (w : World) : List V → Hp → VK → Prop := fun xs H Q => ∃ (l : Addr) (ks : List Int), xs = [.ref l] ∧ SqL K H l (ks.map V.int) ∧ ks.length < 1000 ∧
  ∀ (p : Addr) (n : Nat), H p = none → n ≤ ks.length → Q (.ref p) (upd H p (SetO w p (fun k => decide (k ∈ ks)) n))
theorem vals_atI2 : ∀ {xs : List Int} {us : List Value}, Vals (xs.map V.int) us → ∀ (i : Nat) (v : Value), us[i]? = some v → ∃ k t, xs[i]? = some k ∧ v = Value.int k t
  | [], us, r, i, v, h => by
    cases r
    simp at h
  | x :: xs, us, r, i, v, h => by
    cases r with
    | cons r1 r =>
      obtain ⟨t, rfl⟩ := r1
      cases i with
      | zero =>
        simp at h
        exact ⟨x, t, rfl, h.symm⟩
      | succ i => exact vals_atI2 r i v (by simpa using h)
theorem cr_setI2 (hc : X.calm = true) : CallR X (.type "set") (rSetI2 X.K X.w) := by
  intro pins s σ H xs us Q I r h
  obtain ⟨l, ks, rfl, hs, h1000, q⟩ := h
  obtain ⟨its, rv, hl, _⟩ := I.list hs
  rw [Vals.ref1 r]
  have hlen := rv.length
  rw [List.length_map] at hlen
  refine call_set_listG (T := kyInt X.prog X.w) (xs := ks) (I.ok.hd hc) hl.isList (by simpa using hlen) (fun i v hv => vals_atI2 rv i v (by simpa using hv)) (by unfold scanBound; omega) fun h' tk m hm R k => ?_
  exact ⟨.ref _, upd H s.heap.objs.size (SetO X.w s.heap.objs.size (fun k => decide (k ∈ ks)) m), I.laid (t' := tk) (fun b u e => k b u (Heap.lt_size e) e) (Nat.le_refl _) (setO_new (setR_of R)), rfl, q _ _ (I.hok.fresh (Nat.le_refl _)) hm⟩
end
end So

namespace K31
open PySem PySem.Spec PyProof.Rows L2 So
abbrev sTold : Stmt := topS 45
abbrev sDue : Stmt := topS 46
theorem scTold : FnScope ["_law_chain_here", "_law_parts_here", "_law_ends", "_law_step"] ["_law_chain_here"] (defScope sTold) := ⟨rfl, rfl, rfl, by decide +kernel, rfl, by decide +kernel, by decide +kernel⟩
/-! ### what chains and parts tell, as data -/
def dFace (f : Face) : PyData := .tuple [.str f.z, .int f.m, .bool f.b]
def dR : V → PyData
  | .int i => .int i
  | .str z => .str z
  | _ => .none
def dPart (p : Part) : PyData := .tuple [dFace p.u, dFace p.v, dR p.r]
def endsD (ps : List Part) : List PyData := (ps[0]?.toList.map fun p => dFace p.u) ++ (ps[ps.length - 1]?.toList.map fun p => dFace p.v)
def toldD (ps : List Part) (ns : List Int) : PyData := .list [.bool true, .list (ps.map dPart), .list (endsD ps), .tuple (ns.map PyData.int), .int (ps.length : Nat), .str (chTxt ps)]
theorem dd_face {K : PySem.W.Frag} {H : Hp} {v : V} {f : Face} (h : FcAt H v f) : Dd K H v (dFace f) := by
  obtain ⟨p, rfl, hp⟩ := h
  exact .tup (SqT.of hp) (.cons (.str _) (.cons (.int _) (.cons (.bl _) .nil)))
theorem dd_r {K : PySem.W.Frag} {H : Hp} {r : V} (h : isR r) : Dd K H r (dR r) := by
  rcases h with ⟨i, rfl, _⟩ | rfl
  · exact .int i
  · exact .str _
theorem dd_part {K : PySem.W.Frag} {H : Hp} {v : V} {p : Part} (h : PtAt H v p) (ho : p.Ok) : Dd K H v (dPart p) := by
  obtain ⟨t, u, x, rfl, ht, hu, hx⟩ := h
  exact .tup (SqT.of ht) (.cons (dd_face hu) (.cons (dd_face hx) (.cons (dd_r ho.r) .nil)))
theorem ddAll_of {K : PySem.W.Frag} {H : Hp} {α : Type} {d : α → PyData} : ∀ (vs : List V) (ps : List α), vs.length = ps.length → (∀ (i : Nat) (v : V), vs[i]? = some v → ∃ p, ps[i]? = some p ∧ Dd K H v (d p)) → DdAll K H vs (ps.map d)
  | [], [], _, _ => .nil
  | [], _ :: _, h, _ => by cases h
  | _ :: _, [], h, _ => by cases h
  | v :: vs, p :: ps, h, hv => by
    refine .cons ?_ (ddAll_of vs ps (Nat.succ.inj h) fun i x hx => hv (i + 1) x hx)
    obtain ⟨q, hq, e⟩ := hv 0 v rfl
    obtain rfl := Option.some.inj hq
    exact e
theorem ddAll_ints {K : PySem.W.Frag} {H : Hp} : ∀ ns : List Int, DdAll K H (ns.map V.int) (ns.map PyData.int)
  | [] => .nil
  | n :: r => .cons (.int n) (ddAll_ints r)
theorem dd_parts {K : PySem.W.Frag} {H : Hp} {l : Addr} {ps : List Part} (h : PsAt H l ps) (ho : ∀ p ∈ ps, p.Ok) : Dd K H (.ref l) (.list (ps.map dPart)) := by
  obtain ⟨vs, hl, e, hv⟩ := h
  refine .lst (SqL.of hl) (ddAll_of vs ps e fun i v hi => ?_)
  obtain ⟨p, hp, h⟩ := hv i v hi
  exact ⟨p, hp, dd_part h (ho p (List.mem_of_getElem? hp))⟩
section
variable {P : Program} {w : World} {K : PySem.W.Frag} {mg : Str → Option Value} {base : Heap}
def spTold (K : PySem.W.Frag) (CS CT C : Addr) : Sp := fun vs H Q _ => ∃ (a t : Addr) (us : List V) (ps : List Part), vs = [.ref a] ∧ ChAt CS CT C H a t us ps ∧ ps.length < 64 ∧
  ∀ (H' : Hp) (l : Addr) (ns : List Int), Same H H' → ns.Pairwise (· < ·) → (∀ k, k ∈ ns ↔ k ∈ nums ps) → Dd K H' (.ref l) (toldD ps ns) → Q (.ref l) H'
theorem ok_told {f C CS CT fF pS gS pG gG pT gT pN gN fL fZ : Addr} {fd fdF fdS fdG fdT fdN fdL fdZ : FuncData} (F : Fun K "_law_told" "_law_told" sTold f fd) (W : Words K mg) (L : WordsC mg) (T : Say K mg CS) (S : Stp K mg CT) (TC : Chn K mg C)
    (FF : Fun K "_law_face" "_law_face" sFace fF fdF) (bF : Binds K fdF ["_law_saying_here"] []) (gF : mg "_law_face" = some (.ref fF))
    (hS : PropOf K C "source" pS gS) (bS : Binds K fdS ["self"] []) (GS : FnOk P w K mg base CX0 1 gS fdS ["self"] (spSrc CS CT C))
    (hG : PropOf K C "goal" pG gG) (bG : Binds K fdG ["self"] []) (GG : FnOk P w K mg base CX0 1 gG fdG ["self"] (spGoal CS CT C))
    (hT : PropOf K C "steps" pT gT) (bT : Binds K fdT ["self"] []) (GT : FnOk P w K mg base CX0 1 gT fdT ["self"] (spSteps CS CT C))
    (hN : PropOf K C "numbers" pN gN) (bN : Binds K fdN ["self"] []) (GN : FnOk P w K mg base CX0 1 gN fdN ["self"] (spNum CS CT C))
    (sL : PySem.W.findIn K (.ref C) "__len__" = some (some (.ref fL))) (iL : PySem.W.isFn K (.ref fL) = true) (bL : Binds K fdL ["self"] []) (GL : FnOk P w K mg base CX0 1 fL fdL ["self"] (spLen CS CT C))
    (sZ : PySem.W.findIn K (.ref C) "__str__" = some (some (.ref fZ))) (iZ : PySem.W.isFn K (.ref fZ) = true) (bZ : Binds K fdZ ["self"] []) (GZ : FnOk P w K mg base CX0 5 fZ fdZ ["self"] (spCStr CS CT C)) :
    FnOk P w K mg base CX0 8 f fd ["_law_chain_here"] (spTold K CS CT C) := by
  have GF : FnOk P w K mg base CX0 1 fF fdF ["_law_saying_here"] (spLFace CS) := ok_lface FF T
  refine F.ok scTold (fun vs H Q E h => ?_) (fun cdv A outer s H vs Q E hr h => ?_)
  · obtain ⟨_, _, _, _, rfl, _⟩ := h
    rfl
  · obtain ⟨a, t, us, ps, rfl, hc, h64, q⟩ := h
    have hr1 : Room 1 _ := hr.mono (by decide)
    have hr2 : Room 2 _ := hr.mono (by decide)
    refine ⟨_, pss_cons (ps_setLc (i := 1) (own := [("_law_step", 3)]) (g := gName 3) (tt := tYes) rfl scTold.nd rfl rfl (sw_true rfl rfl rfl (by decide +kernel)) (pi_tup (pe_prop (pv 0) TC.cl hT GT hr2 bT .nil pass0 rfl)) (blkOk_by (N := ["_law_chain_here", "_law_parts_here", "_law_ends", "_law_step"]) (sc := defScope sTold) (by decide +kernel))
        (fun _ _ _ _ _ => pg_name (i := 3) scTold.nd rfl (Or.inl rfl)) (fun _ _ _ _ _ => pts_nil)
        (fun _ _ _ _ _ => pe_tup (pa_cons (pe_call GF hr1 (by rfl) gF FF.kp bF .nil pass0 (pa_cons (pe_fldK (K := K) rfl (pv 3) rfl) pa_nil)) (pa_cons (pe_call GF hr1 (by rfl) gF FF.kp bF .nil pass0 (pa_cons (pe_fldK (K := K) rfl (pv 3) rfl) pa_nil)) (pa_cons (pe_fldK (K := K) rfl (pv 3) rfl) pa_nil)))))
      (pss_cons (ps_set (i := 2) scTold.nd rfl (.inl rfl) (pe_lst (pa_cons (pe_call GF hr1 (by rfl) gF FF.kp bF .nil pass0 (pa_cons (pe_prop (pv 0) TC.cl hS GS hr2 bS .nil pass0 rfl) pa_nil)) (pa_cons (pe_call GF hr1 (by rfl) gF FF.kp bF .nil pass0 (pa_cons (pe_prop (pv 0) TC.cl hG GG hr2 bG .nil pass0 rfl) pa_nil)) pa_nil))))
      (pss_one (ps_ret (pe_lst (pa_cons (pe_callB call_isi (by rfl) W.isi (by decide +kernel) (pa_cons (pe_prop (pv 0) TC.cl hT GT hr2 bT .nil pass0 rfl) (pa_cons (pe_bltn (v := .ty "tuple") (by rfl) L.tuple (by decide +kernel) rfl) pa_nil)))
        (pa_cons (pv 1) (pa_cons (pv 2) (pa_cons (pe_prop (pv 0) TC.cl hN GN hr2 bN .nil pass0 rfl) (pa_cons (pe_callB (call_lenO GL sL iL bL pass0 hr2) (by rfl) W.len PySem.boot_len (pa_cons (pv 0) pa_nil))
        (pa_cons (pe_callTy (call_strOwn GZ sZ iZ bZ pass0 hr) (by rfl) W.str (by decide +kernel) (pa_cons (pv 0) pa_nil)) pa_nil)))))))))), ?_⟩
    obtain ⟨dx, ha⟩ := hc.self
    have hss := sizeLine_eq
    have hl := hc.len
    have huv : ∀ (i : Nat) (v : V), us[i]? = some v → ∃ p, ps[i]? = some p ∧ StV CS CT H v p := hc.all
    refine ⟨_, rfl, a, dx, _, rfl, ha, a, t, us, ps, rfl, hc, t, rfl, ⟨us, SqT.of hc.tup⟩, fun D hD => ?_⟩
    refine lc_it (walk_tup (xs := us)) (fun k H' => Same H H' ∧ ∃ ys : List V, ys.length = k ∧ H' D = some (.lst ys) ∧ ∀ (i : Nat) (v : V), ys[i]? = some v → ∃ p, ps[i]? = some p ∧ PtAt H' v p) ⟨same_upd0 hD, [], rfl, upd_same, fun i v h => by simp at h⟩ (fun _ _ _ y => SqT.of (y.1 _ _ hc.tup)) ?_ ?_
    · rintro k x H1 H2 hk ⟨s1, ys, hyl, hDk, hys⟩ ⟨rfl, hx⟩
      obtain ⟨p, hp, b, rfl, hb0⟩ := hc.all k x hx
      obtain ⟨db, u, v, hb, hu, hv⟩ := hb0.same s1
      have ho : p.Ok := hc.ok p (List.mem_of_getElem? hp)
      refine ⟨rfl, _, rfl, b, CT, db, _, _, rfl, hb, S.cl, S.nO, pf_one _ _ _, u, p.u, rfl, hu, fun H3 a3 s3 h3 => ⟨_, rfl, b, CT, db, _, _, rfl, s3 _ _ hb, S.cl, S.nT, pf_other _ _ _, v, p.v, rfl, hv.same s3, fun H4 a4 s4 h4 => ⟨_, rfl, b, CT, db, _, _, rfl, s4 _ _ (s3 _ _ hb), S.cl, S.nR, pf_reason _ _ _, (by show 3 ≤ sizeLine; decide), fun t5 ht5 => ?_⟩⟩⟩
      have s5 := same_upd0 (o := .tup [a3, a4, p.r]) ht5
      have s345 := (s3.trans s4).trans s5
      have hDn := s345 _ _ hDk
      have new : PtAt (upd H4 t5 (.tup [a3, a4, p.r])) (.ref t5) p := ⟨t5, a3, a4, rfl, upd_same, (h3.same s4).same s5, h4.same s5⟩
      refine ⟨ys, hDn, by rw [hyl]; omega, Same.over (s1.trans s345) hD, ys ++ [.ref t5], by rw [List.length_append, hyl]; rfl, upd_same, fun i y hy => ?_⟩
      by_cases hi : i < ys.length
      · rw [List.getElem?_append_left hi] at hy
        obtain ⟨p1, e1, h1⟩ := hys i y hy
        exact ⟨p1, e1, (h1.same s345).lst hDn⟩
      · rw [List.getElem?_append_right (by omega)] at hy
        have hi0 : i - ys.length = 0 := by
          cases e : i - ys.length with
          | zero => rfl
          | succ n => rw [e] at hy; simp at hy
        rw [hi0] at hy
        obtain rfl : V.ref t5 = y := Option.some.inj hy
        have : i = k := by omega
        subst this
        exact ⟨p, hp, new.lst hDn⟩
    · rintro H1 ⟨s1, ys, hyl, hD1, hys⟩
      have hP1 : PsAt H1 D ps := ⟨ys, hD1, by rw [hyl, hl], hys⟩
      have hc1 := hc.same s1
      have ha1 := s1 _ _ ha
      refine ⟨_, rfl, a, dx, _, rfl, ha1, a, t, us, ps, rfl, hc1, fun p0 u0 hp0 hu0 => ⟨_, p0.u, rfl, hu0, fun H2 f0 s2 hf0 => ?_⟩⟩
      refine ⟨_, rfl, a, dx, _, rfl, s2 _ _ ha1, a, t, us, ps, rfl, hc1.same s2, fun p9 u9 hp9 hu9 => ⟨_, p9.v, rfl, hu9, fun H3 f9 s3 hf9 => ⟨by show 2 ≤ sizeLine; decide, fun e4 he4 => ?_⟩⟩⟩
      have s4 := same_upd0 (o := .lst [f0, f9]) he4
      have hE4 : (upd H3 e4 (.lst [f0, f9])) e4 = some (.lst [f0, f9]) := upd_same
      revert s4 hE4
      generalize upd H3 e4 (.lst [f0, f9]) = H4
      intro s4 hE4
      have s14 := (s2.trans s3).trans s4
      have hc4 := hc1.same s14
      refine ⟨_, rfl, a, dx, _, rfl, s14 _ _ ha1, a, t, us, ps, rfl, hc4, _, _, _, _, true, rfl, .ty "tuple", .base (.tup hc4.tup), kit_ty (by decide +kernel), _, rfl, ?_⟩
      refine ⟨_, rfl, _, rfl, a, dx, _, rfl, s14 _ _ ha1, a, t, us, ps, rfl, hc4, h64, fun H5 d ns s5 hw hm hd => ?_⟩
      have hc5 := hc4.same s5
      refine ⟨_, rfl, a, dx, _, rfl, (s14.trans s5) _ _ ha1, a, t, us, ps, rfl, hc5, ps.length, rfl, by omega, ?_⟩
      refine ⟨_, rfl, a, dx, _, rfl, (s14.trans s5) _ _ ha1, a, t, us, ps, rfl, hc5, by omega, fun H6 s6 => ⟨_, rfl, by show 6 ≤ sizeLine; decide, fun r7 hr7 => ?_⟩⟩
      have s7 := same_upd0 (o := .lst [.bl true, .ref D, .ref e4, .ref d, .int (ps.length : Nat), .str (chTxt ps)]) hr7
      have s57 := (s5.trans s6).trans s7
      have s67 := s6.trans s7
      refine q _ r7 ns ((s1.trans s14).trans s57) hw hm ?_
      refine .lst (SqL.of upd_same) (.cons (.bl true) (.cons (dd_parts (hP1.same (s14.trans s57)) hc.ok) (.cons ?_ (.cons (.tup (SqT.of (s67 _ _ hd)) (ddAll_ints ns)) (.cons (.int _) (.cons (.str _) .nil))))))
      refine .lst (SqL.of (s57 _ _ hE4)) ?_
      unfold endsD
      rw [hp0, hp9]
      exact .cons (dd_face (hf0.same (((s3.trans s4)).trans s57))) (.cons (dd_face (hf9.same (s4.trans s57))) .nil)
end
end K31

namespace K31
open PySem PySem.Spec PyProof.Rows L2 So
abbrev dueN : List Str := ["_law_parts_here", "_law_text_here", "_law_u", "_law_v", "_law_cause", "_law_numbers"]
theorem scDue : FnScope dueN ["_law_parts_here"] (defScope sDue) := ⟨rfl, rfl, rfl, by decide +kernel, rfl, by decide +kernel, by decide +kernel⟩
theorem join_snoc (sep : Str) (ws : List Str) (x y : Str) : Txt.join sep (x :: (ws ++ [y])) = Txt.join sep (x :: ws) ++ sep ++ y := by
  have e : ∀ l, Txt.join sep (x :: l) = ⟨l.foldl (fun acc p => acc ++ sep.cps ++ p.cps) x.cps⟩ := fun l => (StrLaws.glued_eq_join sep (x :: l)).trans (StrLaws.glued_cons sep l x).symm
  rw [e, e, List.foldl_append]
  refine Str.ext' ?_
  rw [Str.cps_append, Str.cps_append]
  rfl
section
variable {P : Program} {w : World} {K : PySem.W.Frag} {mg : Str → Option Value} {base : Heap}
def spDue (K : PySem.W.Frag) : Sp := fun vs H Q _ => ∃ (l : Addr) (ps : List Part), vs = [.ref l] ∧ PsAt H l ps ∧ ps.length < 64 ∧ ps ≠ [] ∧ (∀ p ∈ ps, p.Ok) ∧
  ∀ (H' : Hp) (l : Addr) (ns : List Int), Same H H' → ns.Pairwise (· < ·) → (∀ k, k ∈ ns ↔ k ∈ nums ps) → Dd K H' (.ref l) (toldD ps ns) → Q (.ref l) H'
theorem ok_due {f fX : Addr} {fd fdX : FuncData} (F : Fun K "_law_due" "_law_due" sDue f fd) (W : Words K mg) (L : WordsC mg) (FX : Fun K "_law_text" "_law_text" sText fX fdX) (bX : Binds K fdX ["_law_face_here"] []) (gX : mg "_law_text" = some (.ref fX)) :
    FnOk P w K mg base CX0 3 f fd ["_law_parts_here"] (spDue K) := by
  have GX : FnOk P w K mg base CX0 1 fX fdX ["_law_face_here"] spLText := ok_ltext FX W
  refine F.ok scDue (fun vs H Q E h => ?_) (fun cdv A outer s H vs Q E hr h => ?_)
  · obtain ⟨_, _, rfl, _⟩ := h
    rfl
  · obtain ⟨l, ps, rfl, hP, h64, hne, hok, q⟩ := h
    have hr1 : Room 1 _ := hr.mono (by decide)
    refine ⟨_, pss_cons (ps_set (i := 1) scDue.nd rfl (.inl rfl) (pe_call GX hr1 (by rfl) gX FX.kp bX .nil pass0 (pa_cons (pe_ix ix_tup (pe_ix ix_list (pv 0) pe_int (fun _ _ => rfl)) pe_int (fun _ _ => rfl)) pa_nil)))
      (pss_cons (ps_for PassesOwn.never rfl (pi_list (pv 0)) (pg_tup rfl (pgs_cons (pg_name (i := 2) scDue.nd rfl (Or.inl rfl)) (pgs_cons (pg_name (i := 3) scDue.nd rfl (Or.inl rfl)) (pgs_cons (pg_name (i := 4) scDue.nd rfl (Or.inl rfl)) pgs_nil))))
        (pss_one (ps_set (i := 1) scDue.nd rfl (.inl rfl) (pe_op op_add_str (pe_op op_add_str (pe_op op_add_str (pe_op op_add_str (pv 1) pe_str) (pe_call GX hr1 (by rfl) gX FX.kp bX .nil pass0 (pa_cons (pv 3) pa_nil))) pe_str) (pe_callTy (So.CallR.or call_str_int SkE.call_str_str) (by rfl) W.str (by decide +kernel) (pa_cons (pv 4) pa_nil))))))
      (pss_cons (ps_set (i := 5) scDue.nd rfl (.inl rfl) (pe_callB (cr_sortedSet rfl) (by rfl) L.sorted (by decide +kernel) (pa_cons (pe_callTy (cr_setI rfl) (by rfl) L.set (by decide +kernel)
        (pa_cons (pe_lc (own := [("_law_u", 2), ("_law_v", 3), ("_law_cause", 4)]) (g := gTup K 3 (gCons (gName 2) (gCons (gName 3) (gCons (gName 4) gNil)))) rfl scDue.nd (pi_list (pv 0)) (blkOk_by (N := dueN) (sc := defScope sDue) (by decide +kernel))
          (fun _ _ _ _ _ => pg_tup rfl (pgs_cons (pg_name (i := 2) scDue.nd rfl (Or.inl rfl)) (pgs_cons (pg_name (i := 3) scDue.nd rfl (Or.inl rfl)) (pgs_cons (pg_name (i := 4) scDue.nd rfl (Or.inl rfl)) pgs_nil))))
          (fun _ _ _ _ _ => pts_one (pt_cmpR op_ne (pv 4) pe_str (nomark _))) (fun _ _ _ _ _ => pe_callTy call_int1 (by rfl) W.int (by decide +kernel) (pa_cons (pv 4) pa_nil))) pa_nil)) pa_nil)))
      (pss_one (ps_ret (pe_lst (pa_cons pe_bl (pa_cons (pv 0) (pa_cons (pe_lst (pa_cons (pe_ix ix_tup (pe_ix ix_list (pv 0) pe_int (fun _ _ => rfl)) pe_int (fun _ _ => rfl)) (pa_cons (pe_ix ix_tup (pe_ix ix_list (pv 0) (pe_un un_neg pe_int) (fun _ _ => rfl)) pe_int (fun _ _ => rfl)) pa_nil)))
        (pa_cons (pe_callTy call_tuple_of (by rfl) L.tuple (by decide +kernel) (pa_cons (pv 5) pa_nil)) (pa_cons (pe_callB call_len_seq (by rfl) W.len PySem.boot_len (pa_cons (pv 0) pa_nil)) (pa_cons (pv 1) pa_nil))))))))))), ?_⟩
    obtain ⟨vs, hl, hvl, hvs⟩ := id hP
    have hss := sizeLine_eq
    have hn0 : 0 < ps.length := List.length_pos_iff.mpr hne
    have e0 : Str.empty.length = 0 := by decide
    have c1 : ((", " : String) : Str).length = 2 := by decide
    have c2 : ((" by " : String) : Str).length = 4 := by decide
    obtain ⟨p0, hp0, t0, u0, x0, ev0, ht0, hu0, hx0⟩ := hvs 0 vs[0] (List.getElem?_eq_getElem (by omega))
    have hb0 := hok p0 (List.mem_of_getElem? hp0)
    refine ⟨_, rfl, l, _, _, _, rfl, rfl, SqL.of hl, atI_nat (j := 0) (List.getElem?_eq_getElem (by omega)), t0, _, _, _, ev0, rfl, SqT.of ht0, rfl, u0, p0.u, rfl, hu0, hb0.u, fun H1 s1 => ?_⟩
    have etxt : ∀ k, k ≤ ps.length → (Txt.join ", " (p0.u.txt :: (ps.take k).map Part.endT)).length ≤ 5000 + 7002 * k := by
      intro k
      induction k with
      | zero => intro _; exact Nat.le_trans (face_len hb0.u) (by omega)
      | succ n ih =>
        intro hk
        have hn : n < ps.length := by omega
        rw [List.take_add_one, List.getElem?_eq_getElem hn]
        show (Txt.join ", " (p0.u.txt :: ((ps.take n ++ [ps[n]]).map Part.endT))).length ≤ _
        rw [List.map_append]
        show (Txt.join ", " (p0.u.txt :: ((ps.take n).map Part.endT ++ [Part.endT ps[n]]))).length ≤ _
        rw [join_snoc, Str.length_append, Str.length_append, c1]
        have := ih (by omega)
        have := endT_len (hok _ (List.getElem_mem hn))
        omega
    refine ⟨_, rfl, l, rfl, ⟨vs, SqL.of (s1 _ _ hl)⟩, for_it (walk_list (K := K) (a := l) (xs := vs)) (fun i σ H' => (∃ v2 v3 v4, σ = [some (.ref l), some (.str (Txt.join ", " (p0.u.txt :: (ps.take i).map Part.endT))), v2, v3, v4, none]) ∧ Same H1 H') ⟨⟨_, _, _, rfl⟩, Same.refl _⟩ (fun _ _ _ _ y => SqL.of (y.2 _ _ (s1 _ _ hl))) ?_ ?_⟩
    · rintro i y σ H2 H3 hi ⟨⟨v2, v3, v4, rfl⟩, s2⟩ ⟨rfl, hy⟩
      have s12 := s1.trans s2
      obtain ⟨p, hp, t, u, x, rfl, ht, hu, hx⟩ := hvs i y hy
      have ho := hok p (List.mem_of_getElem? hp)
      have hi' : i < ps.length := (List.getElem?_eq_some_iff.mp hp).1
      have le := etxt i (by omega)
      have l2 := face_len ho.v
      have l3 := txtR_len ho.r
      refine ⟨t, _, rfl, SqT.of (s12 _ _ ht), rfl, _, _, rfl, _, _, rfl, _, _, rfl, rfl, ?_⟩
      refine ⟨_, rfl, _, _, rfl, rfl, by rw [c1]; omega, _, rfl, x, p.v, rfl, hx.same s12, ho.v, fun H4 s4 => ⟨_, _, rfl, rfl, ?_, _, _, rfl, rfl, ?_, _, rfl, ?_⟩⟩
      · rw [Str.length_append, c1]; omega
      · rw [Str.length_append, Str.length_append, c1, c2]; omega
      have fin : ∀ (r0 : V) (y : Str), y = txtR p.r → ∃ i1 j, V.str (Txt.join ", " (p0.u.txt :: (ps.take i).map Part.endT) ++ ((", " : String) : Str) ++ p.v.txt ++ ((" by " : String) : Str)) = .str i1 ∧ V.str y = .str j ∧ i1.length + j.length ≤ sizeLine ∧
          ((∃ v2 v3 v4, [some (V.ref l), some (.str (i1 ++ j)), some u, some x, some r0, none] = [some (.ref l), some (.str (Txt.join ", " (p0.u.txt :: (ps.take (i + 1)).map Part.endT))), v2, v3, v4, none]) ∧ Same H1 H4) := by
        rintro r0 y rfl
        refine ⟨_, _, rfl, rfl, ?_, ⟨some u, some x, some r0, ?_⟩, s2.trans s4⟩
        · simp only [Str.length_append, c1, c2]; omega
        · have ej : Txt.join ", " (p0.u.txt :: (ps.take (i + 1)).map Part.endT) = Txt.join ", " (p0.u.txt :: (ps.take i).map Part.endT) ++ ((", " : String) : Str) ++ p.v.txt ++ ((" by " : String) : Str) ++ txtR p.r := by
            rw [List.take_add_one, hp]
            show Txt.join ", " (p0.u.txt :: ((ps.take i ++ [p]).map Part.endT)) = _
            rw [List.map_append]
            show Txt.join ", " (p0.u.txt :: ((ps.take i).map Part.endT ++ [p.endT])) = _
            rw [join_snoc]
            have : p.endT = p.v.txt ++ ((" by " : String) : Str) ++ txtR p.r := by
              unfold Part.endT
              rw [show Str.empty ++ p.v.txt = p.v.txt from Str.ext' (by rw [Str.cps_append]; exact Array.empty_append)]
            rw [this]
            simp only [Str.append_assoc]
          rw [ej]
      rcases ho.r with ⟨j, e, h0, h1⟩ | e
      · rw [e]
        exact .inl ⟨j, rfl, mom_log h0 h1, fin _ _ (by rw [e]; rfl)⟩
      · rw [e]
        exact .inr ⟨_, rfl, fin _ _ (by rw [e]; rfl)⟩
    · rintro σ H2 ⟨⟨v2, v3, v4, rfl⟩, s2⟩
      have s12 := s1.trans s2
      rw [hvl, List.take_length]
      have etx : chTxt ps = Txt.join ", " (p0.u.txt :: ps.map Part.endT) := by
        unfold chTxt
        cases ps with
        | nil => cases hp0
        | cons a r => rw [show p0 = a from (Option.some.inj hp0).symm]
      rw [← etx]
      have hP2 := hP.same s12
      refine ⟨_, rfl, l, rfl, ⟨vs, SqL.of (s12 _ _ hl)⟩, fun D hD => ?_⟩
      refine lc_it (walk_list (xs := vs)) (fun k H' => Same H2 H' ∧ H' D = some (.lst ((nums (ps.take k)).map V.int))) ⟨same_upd0 hD, upd_same⟩ (fun _ _ _ y => SqL.of (y.1 _ _ (s12 _ _ hl))) ?_ ?_
      · rintro k y H3 H4 hk ⟨s3, hDk⟩ ⟨rfl, hy⟩
        have s13 := s12.trans s3
        obtain ⟨p, hp, t, u, x, rfl, ht, hu, hx⟩ := hvs k y hy
        have hpo := hok p (List.mem_of_getElem? hp)
        have etk : ps.take (k + 1) = ps.take k ++ [p] := by rw [List.take_add_one, hp]; rfl
        have elen : ((nums (ps.take k)).map V.int).length < sizeLine := by
          rw [List.length_map]
          have h1 := nums_len (ps.take k)
          have h2 : (ps.take k).length ≤ ps.length := List.length_take_le' _ _
          omega
        refine ⟨t, _, rfl, SqT.of (s13 _ _ ht), rfl, _, _, rfl, _, _, rfl, _, _, rfl, rfl, rfl, _, rfl, ?_⟩
        rcases hpo.r with ⟨i, e, h0, h1⟩ | e
        · rw [e]
          refine ⟨rfl, _, rfl, ?_⟩
          rw [show (!decide (V.int i = V.str "time")) = true from rfl]
          refine iteT ⟨_, rfl, .inl ⟨i, rfl, _, hDk, elen, Same.over s3 hD, ?_⟩⟩
          rw [upd_same, etk]
          unfold nums
          rw [List.filterMap_append, List.map_append]
          simp [e, numR]
        · rw [e]
          refine ⟨rfl, _, rfl, ?_⟩
          rw [show (!decide (V.str "time" = V.str "time")) = false by rw [decide_eq_true rfl]; rfl]
          refine iteF ⟨s3, ?_⟩
          rw [hDk, etk]
          unfold nums
          rw [List.filterMap_append]
          simp [e, numR]
      · rintro H3 ⟨s3, hD3⟩
        rw [hvl, List.take_length] at hD3
        refine ⟨D, nums ps, rfl, .inl (SqL.of hD3), Nat.lt_of_le_of_lt (nums_len ps) h64, fun q1 c hq1 hcc => ⟨q1, _, c, rfl, upd_same, Nat.lt_of_le_of_lt hcc (Nat.lt_of_le_of_lt (nums_len ps) h64), fun ns q2 hw hm hlen hq2 => ?_⟩⟩
        have s4 := (s3.trans (same_upd0 hq1)).trans (same_upd0 (o := .lst (ns.map V.int)) hq2)
        have s14 := s12.trans s4
        have hl4 := s14 _ _ hl
        have h1 : ps.length - 1 < vs.length := by omega
        obtain ⟨p9, hp9, t9, u9, x9, ev9, ht9, hu9, hx9⟩ := hvs (ps.length - 1) vs[ps.length - 1] (List.getElem?_eq_getElem h1)
        have em : atI vs (-1) = some vs[ps.length - 1] := by
          have e2 : ixN vs.length (-1) = some (ps.length - 1) := by
            unfold ixN
            rw [if_neg (by decide), if_pos (by omega)]
            exact congrArg some (by omega)
          unfold atI
          rw [e2]
          exact List.getElem?_eq_getElem h1
        refine ⟨_, rfl, _, rfl, l, _, _, _, rfl, rfl, SqL.of hl4, atI_nat (j := 0) (List.getElem?_eq_getElem (by omega)), t0, _, _, _, ev0, rfl, SqT.of (s14 _ _ ht0), rfl, ?_⟩
        refine ⟨_, rfl, _, rfl, l, _, _, _, rfl, rfl, SqL.of hl4, em, t9, _, _, _, ev9, rfl, SqT.of (s14 _ _ ht9), rfl, by show 2 ≤ sizeLine; decide, fun e4 he4 => ?_⟩
        have s5 := same_upd0 (o := .lst [u0, x9]) he4
        refine ⟨_, rfl, q2, _, rfl, .inl ⟨SqL.of (s5 _ _ upd_same), fun d hd => ?_⟩⟩
        have s6 := same_upd0 (o := .tup (ns.map V.int)) hd
        refine ⟨_, rfl, l, vs, rfl, .inl (SqL.of ((s5.trans s6) _ _ hl4)), _, rfl, by show 6 ≤ sizeLine; decide, fun r7 hr7 => ?_⟩
        have s7 := same_upd0 (o := .lst [.bl true, .ref l, .ref e4, .ref d, .int (vs.length : Nat), .str (chTxt ps)]) hr7
        have s57 := (s5.trans s6).trans s7
        refine q _ r7 ns (s14.trans s57) hw (fun k => (hm k).trans ⟨of_decide_eq_true, decide_eq_true⟩) ?_
        refine .lst (SqL.of upd_same) (.cons (.bl true) (.cons (dd_parts (hP.same (s14.trans s57)) hok) (.cons ?_ (.cons (.tup (SqT.of (s7 _ _ upd_same)) (ddAll_ints ns)) (.cons ?_ (.cons (.str _) .nil))))))
        · refine .lst (SqL.of ((s6.trans s7) _ _ upd_same)) ?_
          unfold endsD
          rw [hp0, hp9]
          exact .cons (dd_face (hu0.same (s14.trans s57))) (.cons (dd_face (hx9.same (s14.trans s57))) .nil)
        · rw [hvl]
          exact .int _
end
end K31

namespace K31
open PySem PySem.Spec PyProof.Rows L2 So
theorem aln_small : ∀ c ∈ (letters ++ digits).cps.toList, c < 128 := by decide +kernel
theorem name_small {z : Str} (h : isName z = true) : ∀ c ∈ z.cps.toList, c < 128 := by
  unfold isName at h
  simp only [Bool.and_eq_true] at h
  intro c hc
  exact aln_small c (of_decide_eq_true (List.all_eq_true.mp h.2 c hc))
theorem name_len {z : Str} (h : isName z = true) : z.length ≤ 8 := by
  unfold isName at h
  simp only [Bool.and_eq_true, decide_eq_true_eq] at h
  exact h.1.1.1.2
/-- no sign beyond what repr can tell -/
def low (z : Str) : Prop := ∀ c ∈ z.cps.toList, c < 16 ^ 8
theorem low_of (s : String) : low (Str.ofString s) := by
  intro c hc
  have hc : c ∈ (Str.ofString s).cps.toList := hc
  have e : (Str.ofString s).cps.toList = s.toList.map Char.toNat := by
    rw [Str.ofString_eq_toList]
  rw [e] at hc
  obtain ⟨d, _, rfl⟩ := List.mem_map.mp hc
  have := d.valid
  have h2 : d.toNat < 1114112 := by
    rcases this with h | ⟨_, h⟩
    · exact Nat.lt_trans h (by decide)
    · exact h
  exact Nat.lt_trans h2 (by decide)
theorem low_app {a b : Str} (ha : low a) (hb : low b) : low (a ++ b) := by
  intro c hc
  rw [Str.cps_append, Array.toList_append] at hc
  rcases List.mem_append.mp hc with h | h
  · exact ha c h
  · exact hb c h
theorem low_wordOf (b : Bool) : low (wordOf b) := by
  cases b
  · exact low_of "unsound"
  · exact low_of "sound"
theorem low_face {f : Face} (h : f.Ok) : low f.txt := by
  have e4 : f.txt = f.z ++ ((" " : String) : Str) ++ Str.ofString (toString f.m) ++ ((" " : String) : Str) ++ wordOf f.b := rfl
  rw [e4]
  exact low_app (low_app (low_app (low_app (fun c hc => Nat.lt_trans (name_small h.nm c hc) (by decide)) (low_of " ")) (low_of _)) (low_of " ")) (low_wordOf _)
theorem low_r {r : V} (h : isR r) : low (txtR r) := by
  rcases h with ⟨i, rfl, _⟩ | rfl
  · exact low_of _
  · exact low_of "time"
theorem low_end {p : Part} (h : p.Ok) : low p.endT := by
  unfold Part.endT
  exact low_app (low_app (low_app (low_of "") (low_face h.v)) (low_of " by ")) (low_r h.r)
theorem low_join {x : Str} (hx : low x) : ∀ (n : Nat) (ws : List Str), ws.length = n → (∀ w ∈ ws, low w) → low (Txt.join ", " (x :: ws))
  | 0, ws, h, _ => by
    obtain rfl := List.eq_nil_of_length_eq_zero h
    exact hx
  | n + 1, ws, h, hw => by
    obtain ⟨r, y, rfl⟩ : ∃ r y, ws = r ++ [y] := ⟨ws.dropLast, ws.getLast (fun e => by rw [e] at h; cases h), (List.dropLast_concat_getLast _).symm⟩
    rw [join_snoc]
    rw [List.length_append] at h
    exact low_app (low_app (low_join hx n r (by simpa using h) fun w hm => hw w (List.mem_append_left _ hm)) (low_of ", ")) (hw y (List.mem_append_right _ List.mem_cons_self))
theorem len_join {x : Str} {m : Nat} (hx : x.length ≤ m) : ∀ (n : Nat) (ws : List Str), ws.length = n → (∀ w ∈ ws, w.length ≤ m) → (Txt.join ", " (x :: ws)).length ≤ m + (m + 2) * n
  | 0, ws, h, _ => by
    obtain rfl := List.eq_nil_of_length_eq_zero h
    exact hx
  | n + 1, ws, h, hw => by
    obtain ⟨r, y, rfl⟩ : ∃ r y, ws = r ++ [y] := ⟨ws.dropLast, ws.getLast (fun e => by rw [e] at h; cases h), (List.dropLast_concat_getLast _).symm⟩
    rw [join_snoc]
    rw [List.length_append] at h
    have ih := len_join hx n r (by simpa using h) fun w hm => hw w (List.mem_append_left _ hm)
    have hy := hw y (List.mem_append_right _ List.mem_cons_self)
    have c1 : ((", " : String) : Str).length = 2 := by decide
    rw [Str.length_append, Str.length_append, c1, Nat.mul_succ]
    omega
theorem chTxt_ok {ps : List Part} (h : ps.length ≤ 10) (hok : ∀ p ∈ ps, p.Ok) : OkD 800000 0 (.str (chTxt ps)) := by
  have hl : (chTxt ps).length ≤ 7000 + 7002 * ps.length ∧ low (chTxt ps) := by
    unfold chTxt
    cases ps with
    | nil => exact ⟨by decide, low_of ""⟩
    | cons p r =>
      have ho := hok p List.mem_cons_self
      have e : ((p :: r).map Part.endT).length = (p :: r).length := List.length_map ..
      refine ⟨len_join (m := 7000) (Nat.le_trans (face_len ho.u) (by decide)) _ _ e fun w hw => ?_, low_join (low_face ho.u) _ _ e fun w hw => ?_⟩
      · obtain ⟨q, hq, rfl⟩ := List.mem_map.mp hw
        exact endT_len (hok q hq)
      · obtain ⟨q, hq, rfl⟩ := List.mem_map.mp hw
        exact low_end (hok q hq)
  refine ⟨rfl, Nat.zero_le _, ?_⟩
  have h1 := PySem.StrLaws.reprText_len (chTxt ps) hl.2
  show (reprText (chTxt ps)).length ≤ 800000
  omega
theorem mom_250 {i : Int} (h0 : 0 ≤ i) (h1 : i ≤ 1000000000000000000000000000000) : i.natAbs < 2 ^ 250 := by
  have : i.natAbs < 2 ^ 100 := by omega
  exact Nat.lt_trans this (by decide)
theorem dFace_ok {f : Face} (h : f.Ok) : OkD 6009 2 (dFace f) := by
  refine (OkD.tuple (n := 2000) (m := 0) (ds := [.str f.z, .int f.m, .bool f.b]) fun d hd => ?_).mono (by show 2000 * 3 + 2 * 3 + 3 ≤ _; decide) (by decide)
  simp only [List.mem_cons, List.not_mem_nil, or_false] at hd
  rcases hd with rfl | rfl | rfl
  · exact .str (name_small h.nm) (Nat.le_trans (name_len h.nm) (by decide))
  · exact .int (mom_250 h.m0 h.m1)
  · exact .bool _
theorem dR_ok {r : V} (h : isR r) : OkD 2000 0 (dR r) := by
  rcases h with ⟨i, rfl, h0, h1⟩ | rfl
  · exact .int (mom_250 h0 h1)
  · exact .str (by decide +kernel) (by decide)
theorem dPart_ok {p : Part} (h : p.Ok) : OkD 18036 4 (dPart p) := by
  refine (OkD.tuple (n := 6009) (m := 2) (ds := [dFace p.u, dFace p.v, dR p.r]) fun d hd => ?_).mono (by show 6009 * 3 + 2 * 3 + 3 ≤ _; decide) (by decide)
  simp only [List.mem_cons, List.not_mem_nil, or_false] at hd
  rcases hd with rfl | rfl | rfl
  · exact dFace_ok h.u
  · exact dFace_ok h.v
  · exact (dR_ok h.r).mono (by decide) (by decide)
theorem len_sub : ∀ (xs L : List Int), xs.Nodup → (∀ k ∈ xs, k ∈ L) → xs.length ≤ L.length
  | [], _, _, _ => Nat.zero_le _
  | a :: r, L, h, hs => by
    have ha := hs a List.mem_cons_self
    rw [List.nodup_cons] at h
    have ih := len_sub r (L.erase a) h.2 fun k hk => (List.mem_erase_of_ne (fun e => h.1 (by rw [← e]; exact hk))).mpr (hs k (List.mem_cons_of_mem _ hk))
    rw [List.length_erase_of_mem ha] at ih
    have : 0 < L.length := List.length_pos_of_mem ha
    rw [List.length_cons]
    omega
theorem told_ok {ps : List Part} {ns : List Int} (h : ps.length ≤ 10) (hok : ∀ p ∈ ps, p.Ok) (hw : ns.Pairwise (· < ·)) (hm : ∀ k, k ∈ ns ↔ k ∈ nums ps) : OkD 5000000 9 (toldD ps ns) := by
  have hn : ns.length ≤ 10 := Nat.le_trans (len_sub ns (nums ps) (hw.imp fun h e => absurd h (by rw [e]; exact Int.lt_irrefl _)) fun k hk => (hm k).mp hk) (Nat.le_trans (nums_len ps) h)
  refine (OkD.list (n := 800000) (m := 7) (ds := [.bool true, .list (ps.map dPart), .list (endsD ps), .tuple (ns.map PyData.int), .int (ps.length : Nat), .str (chTxt ps)]) fun d hd => ?_).mono (by show 800000 * 6 + 2 * 6 + 3 ≤ _; decide) (by decide)
  simp only [List.mem_cons, List.not_mem_nil, or_false] at hd
  rcases hd with rfl | rfl | rfl | rfl | rfl | rfl
  · exact (OkD.bool _).mono (by decide) (by decide)
  · refine (OkD.list (n := 18036) (m := 4) (ds := ps.map dPart) fun d hd => ?_).mono (by rw [List.length_map]; omega) (by decide)
    obtain ⟨p, hp, rfl⟩ := List.mem_map.mp hd
    exact dPart_ok (hok p hp)
  · have hel : (endsD ps).length ≤ 2 := by
      unfold endsD
      cases ps[0]? <;> cases ps[ps.length - 1]? <;> simp
    refine (OkD.list (n := 6009) (m := 2) (ds := endsD ps) fun d hd => ?_).mono (by omega) (by decide)
    unfold endsD at hd
    rcases List.mem_append.mp hd with hd | hd
    · obtain ⟨p, hp, rfl⟩ := List.mem_map.mp hd
      exact dFace_ok (hok p (List.mem_of_getElem? (Option.mem_toList.mp hp))).u
    · obtain ⟨p, hp, rfl⟩ := List.mem_map.mp hd
      exact dFace_ok (hok p (List.mem_of_getElem? (Option.mem_toList.mp hp))).v
  · refine (OkD.tuple (n := 2000) (m := 0) (ds := ns.map PyData.int) fun d hd => ?_).mono (by rw [List.length_map]; omega) (by decide)
    obtain ⟨k, hk, rfl⟩ := List.mem_map.mp hd
    have hk := (hm k).mp hk
    unfold nums at hk
    obtain ⟨p, hp, e⟩ := List.mem_filterMap.mp hk
    rcases (hok p hp).r with ⟨i, e1, h0, h1⟩ | e1
    · rw [e1] at e
      obtain rfl := Option.some.inj e
      exact .int (mom_250 h0 h1)
    · rw [e1] at e
      cases e
  · refine (OkD.int ?_).mono (by decide) (by decide)
    have : ps.length < 2 ^ 250 := Nat.lt_of_le_of_lt h (by decide)
    rw [Int.natAbs_natCast]
    exact this
  · exact (chTxt_ok h hok).mono (by decide) (by decide)
end K31

/-! a list of anything == [], != [] -/
namespace So
open PySem PySem.Spec PyProof.Rows L2
section
variable {X : Cx}
theorem isL {hp : Heap} {a : Addr} {its : Array Value} (h : PlainL hp a its) : hp.IsList a its := by
  obtain ⟨o, n, e, c, d, dt⟩ := h
  exact ⟨o, e, c, n, dt⟩
def rNil (K : PySem.W.Frag) (neg : Bool) : R2 := fun x y H Q => ∃ (a b : Addr) (xs : List V), x = .ref a ∧ y = .ref b ∧ SqL K H a xs ∧ SqL K H b [] ∧ Q (.bl (if neg then !xs.isEmpty else xs.isEmpty)) H
theorem op_neNil (hu : X.A.units < cLine) : OpR X (compareOp .NotEq) (rNil X.K true) := by
  intro pins s σ H x y v u Q I rx ry h
  obtain ⟨a, b, xs, rfl, rfl, ha, hb, q⟩ := h
  cases rx
  cases ry
  obtain ⟨its, rv, hl, hz⟩ := I.list ha
  obtain ⟨its2, rv2, hl2, hz2⟩ := I.list hb
  cases rv2
  cases xs with
  | nil =>
    cases rv
    exact PySem.SeqAt.RcNeAt.lists (e := fun _ => true) (isL hl) (isL hl2) rfl hu (fun j h1 _ => absurd h1 (Nat.not_lt_zero j)) X.prog X.w _ _ ⟨.bl false, H, I, rfl, q⟩
  | cons x r =>
    cases rv with
    | cons r1 r2 => exact PySem.SeqAt.RcNeAt.lists_lengths (isL hl) (isL hl2) (by simp) hu X.prog X.w _ _ ⟨.bl true, H, I, rfl, q⟩
theorem op_eqNil (hu : X.A.units < cLine) : OpR X (compareOp .Eq) (rNil X.K false) := by
  intro pins s σ H x y v u Q I rx ry h
  obtain ⟨a, b, xs, rfl, rfl, ha, hb, q⟩ := h
  cases rx
  cases ry
  obtain ⟨its, rv, hl, hz⟩ := I.list ha
  obtain ⟨its2, rv2, hl2, hz2⟩ := I.list hb
  cases rv2
  cases xs with
  | nil =>
    cases rv
    exact PySem.SeqAt.RcAt.lists (e := fun _ => true) (isL hl) (isL hl2) rfl hu (fun j h1 _ => absurd h1 (Nat.not_lt_zero j)) X.prog X.w _ _ ⟨.bl true, H, I, rfl, q⟩
  | cons x r =>
    cases rv with
    | cons r1 r2 => exact PySem.SeqAt.RcAt.lists_lengths (isL hl) (isL hl2) (by simp) hu X.prog X.w _ _ ⟨.bl false, H, I, rfl, q⟩
end
end So

namespace K31
open PySem PySem.Spec PyProof.Rows L2 So
abbrev sFaces : Stmt := topS 38
abbrev facesN : List Str := ["_law_pen_here", "_law_many", "_law_found", "_law_name", "_law_spot", "_law_face_here"]
theorem scFaces : FnScope facesN ["_law_pen_here", "_law_many"] (defScope sFaces) := ⟨rfl, rfl, rfl, by decide +kernel, rfl, by decide +kernel, by decide +kernel⟩
theorem offS {p : Addr} {H H' : Hp} (s : Same H H') : Off p H H' := fun b o _ e => s b o e
theorem Pen.same {H H' : Hp} {p l : Addr} {ns : List Int} {n : Nat} {g : Int} (h : Pen H p l ns n g) (s : Same H H') : Pen H' p l ns n g := ⟨s _ _ h.pen, s _ _ h.cells, h.left⟩
theorem Pen.ne {H : Hp} {p l q : Addr} {ns : List Int} {n : Nat} {g : Int} (h : Pen H p l ns n g) (hq : H q = none) : q ≠ p := (ne_of_none h.pen hq).symm
theorem FcAt.off {H H' : Hp} {v : V} {f : Face} {p l : Addr} {ns : List Int} {n : Nat} {g : Int} (h : FcAt H v f) (hp : Pen H p l ns n g) (s : Off p H H') : FcAt H' v f := by
  obtain ⟨q, e, h⟩ := h
  exact ⟨q, e, s _ _ (fun z => by rw [z, hp.pen] at h; cases h) h⟩
theorem FcAt.lst {H : Hp} {v : V} {f : Face} {D : Addr} {xs ys : List V} (h : FcAt H v f) (hD : H D = some (.lst xs)) : FcAt (upd H D (.lst ys)) v f := by
  obtain ⟨q, e, h⟩ := h
  exact ⟨q, e, (upd_ne (fun z => by rw [z, hD] at h; cases h)).trans h⟩
/-- a drawn face -/
structure FOk (f : Face) : Prop where
  ok : f.Ok
  ne : f.z ≠ "zz9"
/-- a list of faces -/
structure FsAt (H : Hp) (l : Addr) (fs : List Face) : Prop where
  lst : ∃ vs : List V, H l = some (.lst vs) ∧ vs.length = fs.length ∧ ∀ (i : Nat) (v : V), vs[i]? = some v → ∃ f, fs[i]? = some f ∧ FcAt H v f
  ok : ∀ f ∈ fs, FOk f
theorem FsAt.off {H H' : Hp} {fl : Addr} {fs : List Face} {p l : Addr} {ns : List Int} {n : Nat} {g : Int} (h : FsAt H fl fs) (hp : Pen H p l ns n g) (ne : fl ≠ p) (s : Off p H H') : FsAt H' fl fs := by
  obtain ⟨vs, h1, h2, h3⟩ := h.lst
  refine ⟨⟨vs, s _ _ ne h1, h2, fun i v hv => ?_⟩, h.ok⟩
  obtain ⟨f, hf, h⟩ := h3 i v hv
  exact ⟨f, hf, h.off hp s⟩
theorem FsAt.same {H H' : Hp} {fl : Addr} {fs : List Face} (h : FsAt H fl fs) (s : Same H H') : FsAt H' fl fs := by
  obtain ⟨vs, h1, h2, h3⟩ := h.lst
  refine ⟨⟨vs, s _ _ h1, h2, fun i v hv => ?_⟩, h.ok⟩
  obtain ⟨f, hf, h⟩ := h3 i v hv
  exact ⟨f, hf, h.same s⟩
theorem FsAt.push {H : Hp} {fl : Addr} {fs : List Face} {vs : List V} {v : V} {f : Face} (h : FsAt H fl fs) (e : H fl = some (.lst vs)) (hv : FcAt H v f) (ho : FOk f) : FsAt (upd H fl (.lst (vs ++ [v]))) fl (fs ++ [f]) := by
  obtain ⟨vs', h1, h2, h3⟩ := h.lst
  rw [h1] at e
  cases e
  refine ⟨⟨_, upd_same, by rw [List.length_append, List.length_append, h2]; rfl, fun i y hy => ?_⟩, fun x hx => ?_⟩
  · by_cases hi : i < vs.length
    · rw [List.getElem?_append_left hi] at hy
      obtain ⟨f', hf, h⟩ := h3 i y hy
      exact ⟨f', by rw [List.getElem?_append_left (by omega)]; exact hf, h.lst h1⟩
    · rw [List.getElem?_append_right (by omega)] at hy
      have hi0 : i - vs.length = 0 := by
        cases e : i - vs.length with
        | zero => rfl
        | succ n => rw [e] at hy; simp at hy
      rw [hi0] at hy
      obtain rfl : v = y := Option.some.inj hy
      have : i = fs.length := by omega
      subst this
      exact ⟨f, by simp, hv.lst h1⟩
  · rcases List.mem_append.mp hx with h' | h'
    · exact h.ok x h'
    · rw [List.mem_singleton.mp h']
      exact ho
abbrev names5 : List V := [.str "a", .str "b", .str "ab", .str "abcdefgh", .str "x1"]
theorem names5_ok : ∀ v ∈ names5, ∃ z : Str, v = .str z ∧ z.length ≤ 2000 ∧ PyData.strOk z = true ∧ isName z = true ∧ z ≠ "zz9" := by
  intro v hv
  simp only [List.mem_cons, List.not_mem_nil, or_false] at hv
  rcases hv with h | h | h | h | h <;> subst h
  · exact ⟨"a", rfl, by decide +kernel, by decide +kernel, by decide +kernel, by decide +kernel⟩
  · exact ⟨"b", rfl, by decide +kernel, by decide +kernel, by decide +kernel, by decide +kernel⟩
  · exact ⟨"ab", rfl, by decide +kernel, by decide +kernel, by decide +kernel, by decide +kernel⟩
  · exact ⟨"abcdefgh", rfl, by decide +kernel, by decide +kernel, by decide +kernel, by decide +kernel⟩
  · exact ⟨"x1", rfl, by decide +kernel, by decide +kernel, by decide +kernel, by decide +kernel⟩
theorem spots_ok {d : Int} (h0 : 0 ≤ d) (h1 : d < 99) : ∀ v ∈ ([.int 0, .int 1, .int 9, .int 10, .int ((10 : Int) ^ Int.toNat 30), .int d] : List V), ∃ m : Int, v = .int m ∧ 0 ≤ m ∧ m ≤ 1000000000000000000000000000000 := by
  intro v hv
  have h30 : (10 : Int) ^ Int.toNat 30 = 1000000000000000000000000000000 := by decide +kernel
  simp only [List.mem_cons, List.not_mem_nil, or_false] at hv
  rcases hv with h | h | h | h | h | h <;> subst h
  · exact ⟨_, rfl, by omega, by omega⟩
  · exact ⟨_, rfl, by omega, by omega⟩
  · exact ⟨_, rfl, by omega, by omega⟩
  · exact ⟨_, rfl, by omega, by omega⟩
  · exact ⟨_, rfl, by omega, by omega⟩
  · exact ⟨_, rfl, by omega, by omega⟩
theorem dp_face {K : PySem.W.Frag} {H : Hp} {v : V} {f : Face} (h : FcAt H v f) : Dp K H v (dFace f) := by
  obtain ⟨p, rfl, hp⟩ := h
  exact .tup (SqT.of hp) (.cons (.str _) (.cons (.int _) (.cons (.bl _) .nil)))
theorem shaped_face {f : Face} (h : f.Ok) : SeqAt.shaped (dFace f) = true := by
  unfold SeqAt.shaped dFace
  simp [PyData.canLay0, PyData.canLayAll0, PyData.depth, PyData.depthAll, h.ok]
section
variable {P : Program} {w : World} {K : PySem.W.Frag} {mg : Str → Option Value} {base : Heap}
def spFaces : Sp := fun vs H Q _ => ∃ (p l : Addr) (ns : List Int) (n : Nat) (g : Int) (m : Nat), vs = [.ref p, .int (m : Nat)] ∧ Pen H p l ns n g ∧ n < 900000 ∧ m ≤ 100 ∧
  ∀ (fs : List Face) (fl : Addr) (n' : Nat) (g' : Int) (H' : Hp), n' ≤ n + 4 * m → Off p H H' → Pen H' p l ns n' g' → fl ≠ p → (∀ b o, H b = some o → b ≠ fl) → FsAt H' fl fs → fs.length = m → Q (.ref fl) H'
theorem ok_faces {f fP fD : Addr} {fd fdP fdD : FuncData} (F : Fun K "_law_faces" "_law_faces" sFaces f fd) (W : Words K mg) (FP : Fun K "_law_pick" "_law_pick" sPick fP fdP) (bP : Binds K fdP ["_law_pen_here", "_law_some"] []) (gP : mg "_law_pick" = some (.ref fP))
    (GP : FnOk P w K mg base CX0 2 fP fdP ["_law_pen_here", "_law_some"] (spPick K)) (FD : Fun K "_law_draw" "_law_draw" sDraw fD fdD) (bD : Binds K fdD ["_law_pen_here", "_law_many"] []) (gD : mg "_law_draw" = some (.ref fD))
    (GD : FnOk P w K mg base CX0 1 fD fdD ["_law_pen_here", "_law_many"] spDraw) : FnOk P w K mg base CX0 3 f fd ["_law_pen_here", "_law_many"] spFaces := by
  refine F.ok scFaces (fun vs H Q E h => ?_) (fun cdv A outer s H vs Q E hr h => ?_)
  · obtain ⟨p, l, ns, n, g, m, rfl, _⟩ := h
    rfl
  · obtain ⟨p, l, ns, n, g, m, rfl, hp, hn, hm, k⟩ := h
    have hr1 : Room 1 _ := hr.mono (by decide)
    have hss := sizeLine_eq
    have hu : (A.deeper (envOfC "_law_faces" (defScope sFaces) s.heap.objs.size f cdv)).units < cLine := Nat.lt_of_le_of_lt (Nat.le_add_right _ _) hr.units
    refine ⟨_, pss_cons (ps_set (i := 2) scFaces.nd rfl (.inl rfl) (pe_lst pa_nil))
      (pss_cons (ps_while PassesOwn.never (pt_cmpR op_lt (pe_callB call_len_seq (by rfl) W.len PySem.boot_len (pa_cons (pv 2) pa_nil)) (pv 1) (nomark _))
        (pss_cons (ps_set (i := 3) scFaces.nd rfl (.inl rfl) (pe_call GP hr (by rfl) gP FP.kp bP .nil pass0 (pa_cons (pv 0) (pa_cons (pe_lst (pa_cons pe_str (pa_cons pe_str (pa_cons pe_str (pa_cons pe_str (pa_cons pe_str pa_nil)))))) pa_nil))))
        (pss_cons (ps_set (i := 4) scFaces.nd rfl (.inl rfl) (pe_call GP hr (by rfl) gP FP.kp bP .nil pass0 (pa_cons (pv 0) (pa_cons (pe_lst (pa_cons pe_int (pa_cons pe_int (pa_cons pe_int (pa_cons pe_int (pa_cons (pe_op op_pow pe_int pe_int) (pa_cons (pe_call GD hr1 (by rfl) gD FD.kp bD .nil pass0 (pa_cons (pv 0) (pa_cons pe_int pa_nil))) pa_nil))))))) pa_nil))))
        (pss_cons (ps_set (i := 5) scFaces.nd rfl (.inl rfl) (pe_tup (pa_cons (pv 3) (pa_cons (pv 4) (pa_cons (pe_cmpR op_eq (pe_call GD hr1 (by rfl) gD FD.kp bD .nil pass0 (pa_cons (pv 0) (pa_cons pe_int pa_nil))) pe_int (nomark _)) pa_nil)))))
        (pss_cons (ps_if (PW.pt (pw_and (pt_cmpR (op_neNil hu) (pv 2) (pe_lst pa_nil) (nomark _)) (pw_and1 (pt_cmpR (op_eqD hr.units) (pe_ix ix_list (pv 2) (pe_un un_neg pe_int) (fun _ _ => rfl)) (pv 5) (nomark _)))))
          (pss_one (ps_set (i := 5) scFaces.nd rfl (.inl rfl) (pe_tup (pa_cons (pv 3) (pa_cons (pv 4) (pa_cons (pe_not (pe_ix ix_tup (pv 5) pe_int (fun _ _ => rfl))) pa_nil)))))) pss_nil)
        (pss_one (ps_expr (pe_bm PySem.F.plainAttrs_list PySem.F.slot_list_append PySem.F.type_list_append mt_append (pv 2) (pa_cons (pv 5) pa_nil)))))))))
      (pss_one (ps_ret (pv 2)))), ?_⟩
    refine ⟨Nat.zero_le _, fun fl hfl => ?_⟩
    have pen0 := hp.new hfl (o := .lst [])
    have nfl := hp.ne hfl
    have off0 : Off p H (upd H fl (.lst [])) := offS (same_upd0 hfl)
    refine ⟨fun (r : Nat) (σ : L2.St) (H1 : Hp) => ∃ (x3 x4 x5 : Option V) (fs : List Face) (n1 : Nat) (g1 : Int), σ = [some (.ref p), some (.int (m : Nat)), some (.ref fl), x3, x4, x5] ∧ Pen H1 p l ns n1 g1 ∧ Off p H H1 ∧ FsAt H1 fl fs ∧ r + fs.length = m ∧ n1 ≤ n + 4 * fs.length,
      ⟨m, none, none, none, [], n, g, rfl, pen0, off0, ⟨⟨[], upd_same, rfl, fun i v hv => by simp at hv⟩, fun f hf => nomatch hf⟩, rfl, Nat.le_refl _⟩, ?_⟩
    rintro r σ H1 ⟨x3, x4, x5, fs, n1, g1, rfl, pen1, off1, hF1, hrm, hn1⟩
    obtain ⟨vs, hv1, hv2, hv3⟩ := id hF1.lst
    refine ⟨_, rfl, fl, vs, rfl, .inl (SqL.of hv1), _, rfl, _, _, rfl, rfl, _, rfl, ?_⟩
    by_cases hlt : ((vs.length : Nat) : Int) < ((m : Nat) : Int)
    case neg =>
      refine Eq.mpr (if_neg (fun z => hlt (of_decide_eq_true z))) ?_
      exact ⟨_, rfl, k fs fl n1 g1 H1 (by omega) off1 pen1 nfl (fun b o e z => by rw [z, hfl] at e; cases e) hF1 (by omega)⟩
    case pos =>
      refine Eq.mpr (if_pos (decide_eq_true hlt)) ?_
      refine ⟨fun (σ : L2.St) (H1 : Hp) => ∃ (x3 x4 x5 : Option V) (fs' : List Face) (n1 : Nat) (g1 : Int), σ = [some (.ref p), some (.int (m : Nat)), some (.ref fl), x3, x4, x5] ∧ Pen H1 p l ns n1 g1 ∧ Off p H H1 ∧ FsAt H1 fl fs' ∧ fs'.length = fs.length + 1 ∧ n1 ≤ n + 4 * fs'.length, ?_, ?_⟩
      · rintro σ' H' ⟨x3, x4, x5, fs', n2, g2, rfl, pen2, off2, hF2, hl2, hn2⟩
        exact ⟨m - fs'.length, by omega, x3, x4, x5, fs', n2, g2, rfl, pen2, off2, hF2, by omega, hn2⟩
      refine ⟨_, rfl, (by show 5 ≤ sizeLine; decide), fun q1 hq1 => ?_⟩
      have pen1' := pen1.new hq1 (o := .lst names5)
      refine ⟨p, l, ns, n1, g1, _, rfl, pen1', by omega, .inl ⟨q1, names5, rfl, pen1.ne hq1, upd_same, (by show 0 < 5; decide), (by show 5 ≤ 1000; decide), fun v n2 g2 H2 hv hn2 off2 pen2 => ?_⟩⟩
      obtain ⟨z, rfl, z1, z2, z3, z4⟩ := names5_ok v hv
      have off12 : Off p H1 H2 := (offS (same_upd0 hq1)).trans off2
      refine ⟨_, rfl, _, _, rfl, rfl, ⟨by decide, by decide, by decide⟩, _, rfl, p, l, ns, n2, g2, _, rfl, pen2, by omega, by decide, by decide, fun d n3 g3 H3 hd0 hd1 hn3 off3 pen3 => ⟨(by show 6 ≤ sizeLine; decide), fun q2 hq2 => ?_⟩⟩
      have pen3' := pen3.new hq2 (o := .lst [.int 0, .int 1, .int 9, .int 10, .int ((10 : Int) ^ Int.toNat 30), .int d])
      refine ⟨p, l, ns, n3, g3, _, rfl, pen3', by omega, .inl ⟨q2, _, rfl, pen3.ne hq2, upd_same, (by show 0 < 6; decide), (by show 6 ≤ 1000; decide), fun v n4 g4 H4 hv hn4 off4 pen4 => ?_⟩⟩
      obtain ⟨t, rfl, t0, t1⟩ := spots_ok hd0 hd1 v hv
      have off14 : Off p H1 H4 := (off12.trans off3).trans ((offS (same_upd0 hq2)).trans off4)
      refine ⟨_, rfl, _, rfl, _, rfl, p, l, ns, n4, g4, _, rfl, pen4, by omega, by decide, by decide, fun e n5 g5 H5 he0 he1 hn5 off5 pen5 => ⟨rfl, (by show 3 ≤ sizeLine; decide), fun q3 hq3 => ?_⟩⟩
      have off15 := off14.trans off5
      have hF5 := hF1.off pen1 nfl off15
      have s6 := same_upd0 (o := .tup [.str z, .int t, .bl (decide (V.int e = V.int 0))]) hq3
      have hf6 : FcAt (upd H5 q3 (.tup [.str z, .int t, .bl (decide (V.int e = V.int 0))])) (.ref q3) ⟨z, t, decide (V.int e = V.int 0)⟩ := ⟨q3, rfl, upd_same⟩
      revert s6 hf6
      generalize upd H5 q3 (.tup [.str z, .int t, .bl (decide (V.int e = V.int 0))]) = H6
      intro s6 hf6
      have ho : ∀ b : Bool, FOk ⟨z, t, b⟩ := fun b => ⟨⟨z1, z2, z3, t0, t1⟩, z4⟩
      have hv5 : H5 fl = some (.lst vs) := off15 _ _ nfl hv1
      have fin : ∀ (H7 : Hp) (q : Addr) (b : Bool), Same H5 H7 → FcAt H7 (.ref q) ⟨z, t, b⟩ → H7 fl = some (.lst vs) ∧ vs.length < sizeLine ∧ ∃ (fs' : List Face) (n1 : Nat) (g1 : Int), Pen (upd H7 fl (.lst (vs ++ [.ref q]))) p l ns n1 g1 ∧ Off p H (upd H7 fl (.lst (vs ++ [.ref q]))) ∧ FsAt (upd H7 fl (.lst (vs ++ [.ref q]))) fl fs' ∧ fs'.length = fs.length + 1 ∧ n1 ≤ n + 4 * fs'.length := by
        intro H7 q b s7 hf7
        have h7 := s7 _ _ hv5
        have pen7 := pen5.same s7
        refine ⟨h7, by omega, fs ++ [⟨z, t, b⟩], n5, g5, ⟨(upd_ne (Ne.symm nfl)).trans pen7.pen, (upd_ne ?_).trans pen7.cells, pen7.left⟩, ?_, (hF5.same s7).push h7 hf7 (ho b), by rw [List.length_append]; rfl, by rw [List.length_append, List.length_singleton]; omega⟩
        · intro e
          have hl0 : H fl = some (.lst (ns.map V.int)) := by rw [← e]; exact hp.cells
          rw [hfl] at hl0
          cases hl0
        · intro b' o ne eo
          have h1 : (upd H fl (.lst [])) b' = some o := same_upd0 hfl _ _ eo
          have h2 := s7 _ _ (off15 b' o ne (off1 b' o ne eo))
          exact (upd_ne (fun z => by rw [z, hfl] at eo; cases eo)).trans h2
      have app : ∀ (H7 : Hp) (q : Addr) (b : Bool), Same H5 H7 → FcAt H7 (.ref q) ⟨z, t, b⟩ → True := fun _ _ _ _ _ => trivial
      refine ⟨_, rfl, (by show 0 ≤ sizeLine; decide), fun q4 hq4 => ⟨fl, q4, vs, rfl, rfl, SqL.of (same_upd0 hq4 _ _ (s6 _ _ hv5)), SqL.of upd_same, ?_⟩⟩
      have s7 := s6.trans (same_upd0 (o := .lst []) hq4)
      have hf7 := hf6.same (same_upd0 (o := .lst []) hq4)
      revert s7 hf7
      generalize upd H6 q4 (.lst []) = H7
      intro s7 hf7
      obtain ⟨a1, a2, fs', n9, g9, r1, r2, r3, r4, r5⟩ := fin H7 q3 _ s7 hf7
      cases hE : vs.isEmpty with
      | true => exact ⟨_, rfl, iteF ⟨_, rfl, .inl ⟨rfl, _, SqL.of a1⟩, _, rfl, fl, vs, _, rfl, rfl, a1, a2, _, _, _, fs', n9, g9, rfl, r1, r2, r3, r4, r5⟩⟩
      | false =>
        have hvl : 0 < vs.length := by
          cases vs with
          | nil => cases hE
          | cons x r => exact Nat.succ_pos _
        have h9 : vs.length - 1 < vs.length := by omega
        obtain ⟨f9, hf9, hc9⟩ := hv3 (vs.length - 1) vs[vs.length - 1] (List.getElem?_eq_getElem h9)
        have em : atI vs (-1) = some vs[vs.length - 1] := by
          have e2 : ixN vs.length (-1) = some (vs.length - 1) := by
            unfold ixN
            rw [if_neg (by decide), if_pos (by omega)]
            exact congrArg some (by omega)
          unfold atI
          rw [e2]
          exact List.getElem?_eq_getElem h9
        have hc9' := (hc9.off pen1 off15).same s7
        have ho9 := (hF1.ok f9 (List.mem_of_getElem? hf9)).ok
        refine ⟨_, rfl, iteT ⟨_, rfl, _, rfl, fl, vs, _, _, rfl, rfl, SqL.of a1, em, _, rfl, _, _, dp_face hc9', dp_face hf7, shaped_face ho9, shaped_face (ho _).ok, _, rfl, ite2 (fun _ => ?_) (fun _ => ?_)⟩⟩
        · obtain ⟨q9, eq9, hq9⟩ := id hf7
          cases eq9
          refine ⟨_, rfl, _, rfl, _, rfl, q3, _, _, _, rfl, rfl, SqT.of hq9, atI_nat (j := 2) rfl, decide (V.int e = V.int 0), rfl, (by show 3 ≤ sizeLine; decide), fun q5 hq5 => ?_⟩
          have s8 := s7.trans (same_upd0 (o := .tup [.str z, .int t, .bl (!decide (V.int e = V.int 0))]) hq5)
          obtain ⟨a1, a2, fs', n9, g9, r1, r2, r3, r4, r5⟩ := fin _ q5 _ s8 ⟨q5, rfl, upd_same⟩
          exact ⟨_, rfl, .inl ⟨rfl, _, SqL.of a1⟩, _, rfl, fl, vs, _, rfl, rfl, a1, a2, _, _, _, fs', n9, g9, rfl, r1, r2, r3, r4, r5⟩
        · exact ⟨_, rfl, .inl ⟨rfl, _, SqL.of a1⟩, _, rfl, fl, vs, _, rfl, rfl, a1, a2, _, _, _, fs', n9, g9, rfl, r1, r2, r3, r4, r5⟩
end
end K31

namespace K31
open PySem PySem.Spec PyProof.Rows L2 So
abbrev sParts : Stmt := topS 39
abbrev partsN : List Str := ["_law_pen_here", "_law_many", "_law_faces_here", "_law_causes", "_law_k"]
theorem scParts : FnScope partsN ["_law_pen_here", "_law_many"] (defScope sParts) := ⟨rfl, rfl, rfl, by decide +kernel, rfl, by decide +kernel, by decide +kernel⟩
theorem ixl {X : Cx} {K : PySem.W.Frag} (h : X.K = K) : IxR X (rIxL K) := by
  subst h
  exact ix_list
/-- a row walked by itself: what follows it is said once -/
theorem ps_cut {X : Cx} {st : Stmt} {t : TS} (h : PS X st t) : PS X st (fun D σ H => ∃ N : L2.St → Hp → Prop, t { D with nx := N } σ H ∧ ∀ σ' H', N σ' H' → D.nx σ' H') :=
  ⟨fun pins s σ H D I ⟨N, h1, h2⟩ => wpAny_mono (h.run pins s σ H { D with nx := N } I h1) (fun fl s' z => by
    cases fl with
    | next =>
      obtain ⟨σ', H', I', q⟩ := z
      exact ⟨σ', H', I', h2 _ _ q⟩
    | ret v => exact z
    | brk => exact z
    | cont => exact z) fun _ _ z => z⟩
/-- a drawn part -/
structure POk (p : Part) : Prop where
  ok : p.Ok
  u : p.u.z ≠ "zz9"
  v : p.v.z ≠ "zz9"
  r5 : p.r ≠ .int 5
abbrev causes8 : List V := [.str "time", .str "time", .int 0, .int 1, .int 7, .int 10, .int 79, .int ((10 : Int) ^ Int.toNat 29)]
theorem causes8_ok : ∀ v ∈ causes8, isR v ∧ v ≠ .int 5 := by
  intro v hv
  have h29 : (10 : Int) ^ Int.toNat 29 = 100000000000000000000000000000 := by decide +kernel
  simp only [List.mem_cons, List.not_mem_nil, or_false] at hv
  rcases hv with h | h | h | h | h | h | h | h <;> subst h
  · exact ⟨.inr rfl, by decide⟩
  · exact ⟨.inr rfl, by decide⟩
  · exact ⟨.inl ⟨_, rfl, by omega, by omega⟩, by first | decide | (intro z; injection z with z; omega)⟩
  · exact ⟨.inl ⟨_, rfl, by omega, by omega⟩, by first | decide | (intro z; injection z with z; omega)⟩
  · exact ⟨.inl ⟨_, rfl, by omega, by omega⟩, by first | decide | (intro z; injection z with z; omega)⟩
  · exact ⟨.inl ⟨_, rfl, by omega, by omega⟩, by first | decide | (intro z; injection z with z; omega)⟩
  · exact ⟨.inl ⟨_, rfl, by omega, by omega⟩, by first | decide | (intro z; injection z with z; omega)⟩
  · exact ⟨.inl ⟨_, rfl, by omega, by omega⟩, by first | decide | (intro z; injection z with z; omega)⟩
theorem FsAt.setl {H : Hp} {fl : Addr} {fs : List Face} {vs : List V} (h : FsAt H fl fs) (e : H fl = some (.lst vs)) (h0 : 0 < fs.length) : ∃ v0, vs[0]? = some v0 ∧ ∃ fs', fs'.length = fs.length ∧ FsAt (upd H fl (.lst (vs.set (fs.length - 1) v0))) fl fs' := by
  obtain ⟨vs', h1, h2, h3⟩ := h.lst
  rw [h1] at e
  cases e
  have hv0 : 0 < vs.length := by omega
  obtain ⟨f0, hf0, hc0⟩ := h3 0 vs[0] (List.getElem?_eq_getElem hv0)
  refine ⟨vs[0], List.getElem?_eq_getElem hv0, fs.set (fs.length - 1) f0, List.length_set .., ⟨⟨_, upd_same, by rw [List.length_set, List.length_set, h2], fun i y hy => ?_⟩, fun x hx => ?_⟩⟩
  · by_cases hi : i = fs.length - 1
    · subst hi
      rw [List.getElem?_set_self (by omega)] at hy
      obtain rfl := Option.some.inj hy
      exact ⟨f0, List.getElem?_set_self (by omega), hc0.lst h1⟩
    · rw [List.getElem?_set_ne (Ne.symm hi)] at hy
      obtain ⟨f', hf', hc'⟩ := h3 i y hy
      exact ⟨f', by rw [List.getElem?_set_ne (Ne.symm hi)]; exact hf', hc'.lst h1⟩
  · rcases List.mem_or_eq_of_mem_set hx with h' | h'
    · exact h.ok x h'
    · rw [h']
      exact h.ok f0 (List.mem_of_getElem? hf0)
section
variable {P : Program} {w : World} {K : PySem.W.Frag} {mg : Str → Option Value} {base : Heap}
def spParts : Sp := fun vs H Q _ => ∃ (p l : Addr) (ns : List Int) (n : Nat) (g : Int) (m : Nat), vs = [.ref p, .int (m : Nat)] ∧ Pen H p l ns n g ∧ n < 800000 ∧ 1 ≤ m ∧ m ≤ 64 ∧
  ∀ (ps : List Part) (pl : Addr) (n' : Nat) (g' : Int) (H' : Hp), n' ≤ n + 400 → Off p H H' → Pen H' p l ns n' g' → pl ≠ p → PsAt H' pl ps → ps.length = m → Linked ps → (∀ x ∈ ps, POk x) → Q (.ref pl) H'
theorem ok_parts {f fP fD fF : Addr} {fd fdP fdD fdF : FuncData} (F : Fun K "_law_parts" "_law_parts" sParts f fd) (W : Words K mg) (mr : mg "range" = none) (FP : Fun K "_law_pick" "_law_pick" sPick fP fdP) (bP : Binds K fdP ["_law_pen_here", "_law_some"] []) (gP : mg "_law_pick" = some (.ref fP))
    (GP : FnOk P w K mg base CX0 2 fP fdP ["_law_pen_here", "_law_some"] (spPick K)) (FD : Fun K "_law_draw" "_law_draw" sDraw fD fdD) (bD : Binds K fdD ["_law_pen_here", "_law_many"] []) (gD : mg "_law_draw" = some (.ref fD))
    (GD : FnOk P w K mg base CX0 1 fD fdD ["_law_pen_here", "_law_many"] spDraw) (FF : Fun K "_law_faces" "_law_faces" sFaces fF fdF) (bF : Binds K fdF ["_law_pen_here", "_law_many"] []) (gF : mg "_law_faces" = some (.ref fF))
    (GF : FnOk P w K mg base CX0 3 fF fdF ["_law_pen_here", "_law_many"] spFaces) : FnOk P w K mg base CX0 4 f fd ["_law_pen_here", "_law_many"] spParts := by
  refine F.ok scParts (fun vs H Q E h => ?_) (fun cdv A outer s H vs Q E hr h => ?_)
  · obtain ⟨p, l, ns, n, g, m, rfl, _⟩ := h
    rfl
  · obtain ⟨p, l, ns, n, g, m, rfl, hp, hn, hm1, hm, k⟩ := h
    have hr1 : Room 1 _ := hr.mono (by decide)
    have hr2 : Room 2 _ := hr.mono (by decide)
    have hss := sizeLine_eq
    refine ⟨_, pss_cons (ps_set (i := 2) scParts.nd rfl (.inr rfl) (pe_call GF hr (by rfl) gF FF.kp bF .nil pass0 (pa_cons (pv 0) (pa_cons (pe_op op_add (pv 1) pe_int) pa_nil))))
      (pss_cons (ps_cut (ps_if (pt_cmpR op_eq (pe_call GD hr1 (by rfl) gD FD.kp bD .nil pass0 (pa_cons (pv 0) (pa_cons pe_int pa_nil))) pe_int (nomark _)) (pss_one (ps_asg (pe_ix ix_list (pv 2) pe_int (fun _ _ => rfl)) (pg_sub (pv 2) (pe_un un_neg pe_int) set_list))) pss_nil))
      (pss_cons (ps_set (i := 3) scParts.nd rfl (.inr rfl) (pe_lc (own := [("_law_k", 4)]) (g := gName 4) (tt := tYes) rfl scParts.nd (pi_range1 (by rfl) mr (pa_cons (pv 1) pa_nil)) (blkOk_by (N := partsN) (sc := defScope sParts) (by decide +kernel)) (fun _ _ _ _ _ => pg_name (i := 4) scParts.nd rfl (Or.inl rfl)) (fun _ _ _ _ _ => pts_nil)
          (fun _ _ _ _ _ => pe_call GP hr2 (by rfl) gP FP.kp bP .nil pass0 (pa_cons (pv 0) (pa_cons (pe_lst (pa_cons pe_str (pa_cons pe_str (pa_cons pe_int (pa_cons pe_int (pa_cons pe_int (pa_cons pe_int (pa_cons pe_int (pa_cons (pe_op op_pow pe_int pe_int) pa_nil))))))))) pa_nil)))))
      (pss_one (ps_ret (pe_lc (own := [("_law_k", 4)]) (g := gName 4) (tt := tYes) rfl scParts.nd (pi_range1 (by rfl) mr (pa_cons (pv 1) pa_nil)) (blkOk_by (N := partsN) (sc := defScope sParts) (by decide +kernel)) (fun _ _ _ _ _ => pg_name (i := 4) scParts.nd rfl (Or.inl rfl)) (fun _ _ _ _ _ => pts_nil)
          (fun _ _ _ _ _ => pe_tup (pa_cons (pe_ix (ixl (K := K) rfl) (pv 2) (pv 4) (fun _ _ => rfl)) (pa_cons (pe_ix (ixl (K := K) rfl) (pv 2) (pe_op op_add (pv 4) pe_int) (fun _ _ => rfl)) (pa_cons (pe_ix (ixl (K := K) rfl) (pv 3) (pv 4) (fun _ _ => rfl)) pa_nil))))))))), ?_⟩
    refine ⟨_, rfl, _, rfl, _, _, rfl, rfl, p, l, ns, n, g, m + 1, rfl, hp, by omega, by omega, fun fs fl n1 g1 H1 hn1 off1 pen1 nfl hnew hF1 hfl1 => ?_⟩
    refine ⟨fun σ H3 => ∃ (fs : List Face) (n3 : Nat) (g3 : Int), σ = [some (.ref p), some (.int (m : Nat)), some (.ref fl), none, none] ∧ Off p H H3 ∧ Pen H3 p l ns n3 g3 ∧ n3 ≤ n + 4 * (m + 1) + 1 ∧ FsAt H3 fl fs ∧ fs.length = m + 1, ?_, ?_⟩
    · refine ⟨_, rfl, p, l, ns, n1, g1, _, rfl, pen1, by omega, by decide, by decide, fun d n2 g2 H2 hd0 hd1 hn2 off2 pen2 => ?_⟩
      have hF2 := hF1.off pen1 nfl off2
      have off12 := off1.trans off2
      obtain ⟨vs0, hv1, hv2, hv3⟩ := id hF2.lst
      refine ⟨rfl, _, rfl, ite2 (fun _ => ?_) (fun _ => ?_)⟩
      · obtain ⟨v0, e0, fs', hl', hF3⟩ := hF2.setl hv1 (by omega)
        have hx : ixN vs0.length (-1) = some (fs.length - 1) := by
          unfold ixN
          rw [if_neg (by decide), if_pos (by omega)]
          exact congrArg some (by omega)
        refine ⟨_, rfl, fl, vs0, 0, v0, rfl, rfl, SqL.of hv1, atI_nat (j := 0) e0, _, rfl, _, rfl, fl, vs0, -1, fs.length - 1, rfl, rfl, hv1, hx, ?_⟩
        refine ⟨fs', n2, g2, rfl, ?_, ⟨(upd_ne (Ne.symm nfl)).trans pen2.pen, (upd_ne ?_).trans pen2.cells, pen2.left⟩, by omega, hF3, by omega⟩
        · intro b o ne eo
          exact (upd_ne (hnew b o eo)).trans (off12 b o ne eo)
        · exact hnew _ _ hp.cells
      · exact ⟨fs, n2, g2, rfl, off12, pen2, by omega, hF2, hfl1⟩
    rintro σ H3 ⟨fs, n3, g3, rfl, off3, pen3, hn3, hF3, hl3⟩
    have hmn : ((m : Nat) : Int).toNat = m := Int.toNat_natCast m
    have off0 := off3
    refine ⟨_, rfl, ((m : Nat) : Int), rfl, by omega, by omega, fun D hD => lc_range (lo := 0) (n := ((m : Nat) : Int).toNat) (fun j H' => ∃ (rs : List V) (n4 : Nat) (g4 : Int), Pen H' p l ns n4 g4 ∧ n4 ≤ n3 + j ∧ Off p H3 H' ∧ H' D = some (.lst rs) ∧ rs.length = j ∧ ∀ r ∈ rs, isR r ∧ r ≠ .int 5)
      ⟨[], n3, g3, pen3.new hD, by omega, offS (same_upd0 hD), upd_same, rfl, fun _ h => nomatch h⟩ ?_ ?_⟩
    · rintro j H4 hj ⟨rs, n4, g4, pen4, hn4, off4, hD4, hrl, hri⟩
      rw [hmn] at hj
      have nD := pen3.ne hD
      refine ⟨rfl, _, rfl, _, _, rfl, rfl, ⟨by decide, by decide, by decide⟩, (by show 8 ≤ sizeLine; decide), fun q hq => ?_⟩
      refine ⟨p, l, ns, n4, g4, _, rfl, pen4.new hq, by omega, .inl ⟨q, causes8, rfl, pen4.ne hq, upd_same, (by show 0 < 8; decide), (by show 8 ≤ 1000; decide), fun v n5 g5 H5 hv hn5 off5 pen5 => ?_⟩⟩
      have off45 := (offS (same_upd0 (o := .lst causes8) hq)).trans off5
      refine ⟨rs, off45 _ _ nD hD4, by omega, rs ++ [v], n5, g5, ⟨(upd_ne (Ne.symm nD)).trans pen5.pen, (upd_ne (ne_of_none pen3.cells hD)).trans pen5.cells, pen5.left⟩, by omega, ?_, upd_same, by rw [List.length_append, hrl]; rfl, fun r hr => ?_⟩
      · intro b o ne eo
        exact (upd_ne (fun z => by rw [z, hD] at eo; cases eo)).trans (off45 b o ne (off4 b o ne eo))
      · rcases List.mem_append.mp hr with h | h
        · exact hri r h
        · rw [List.mem_singleton.mp h]
          exact causes8_ok v hv
    rintro H4 ⟨rs, n4, g4, pen4, hn4, off4, hD4, hrl, hri⟩
    rw [hmn] at hn4 hrl
    have hF4 := hF3.off pen3 nfl off4
    obtain ⟨vs, hv1, hv2, hv3⟩ := id hF4.lst
    refine ⟨_, rfl, ((m : Nat) : Int), rfl, by omega, by omega, fun D2 hD2 => ?_⟩
    let pf : Nat → Part := fun i => ⟨fs.getD i ⟨"", 0, false⟩, fs.getD (i + 1) ⟨"", 0, false⟩, rs.getD i .non⟩
    have hps : ∀ i, i < m → ((List.range m).map pf)[i]? = some (pf i) := fun i hi => by
      rw [List.getElem?_map, List.getElem?_range hi]
      rfl
    have hlp : ((List.range m).map pf).length = m := by rw [List.length_map, List.length_range]
    have hfg : ∀ i, i < m + 1 → ∃ v, vs[i]? = some v ∧ FcAt H4 v (fs.getD i ⟨"", 0, false⟩) ∧ FOk (fs.getD i ⟨"", 0, false⟩) := fun i hi => by
      have h1 : i < vs.length := by omega
      obtain ⟨f0, hf0, hc0⟩ := hv3 i vs[i] (List.getElem?_eq_getElem h1)
      have e : fs.getD i ⟨"", 0, false⟩ = f0 := by rw [List.getD_eq_getElem?_getD, hf0]; rfl
      rw [e]
      exact ⟨_, List.getElem?_eq_getElem h1, hc0, hF4.ok f0 (List.mem_of_getElem? hf0)⟩
    have hrg : ∀ i, i < m → rs[i]? = some (rs.getD i .non) ∧ isR (rs.getD i .non) ∧ rs.getD i .non ≠ .int 5 := fun i hi => by
      have h1 : i < rs.length := by omega
      have e : rs.getD i .non = rs[i] := by rw [List.getD_eq_getElem?_getD, List.getElem?_eq_getElem h1]; rfl
      rw [e]
      exact ⟨List.getElem?_eq_getElem h1, hri _ (List.getElem_mem h1)⟩
    refine lc_range (lo := 0) (n := ((m : Nat) : Int).toNat) (fun j H' => Same H4 H' ∧ ∃ ys : List V, ys.length = j ∧ H' D2 = some (.lst ys) ∧ ∀ (i : Nat) (v : V), ys[i]? = some v → ∃ q, ((List.range m).map pf)[i]? = some q ∧ PtAt H' v q)
      ⟨same_upd0 hD2, [], rfl, upd_same, fun i v h => by simp at h⟩ ?_ ?_
    · rintro j H5 hj ⟨s5, ys, hyl, hDk, hys⟩
      rw [hmn] at hj
      obtain ⟨v1, hv1', c1, o1⟩ := hfg j (by omega)
      obtain ⟨v2, hv2', c2, o2⟩ := hfg (j + 1) (by omega)
      obtain ⟨r1, _⟩ := hrg j hj
      have hvs5 := s5 _ _ hv1
      have hrs5 := s5 _ _ hD4
      refine ⟨rfl, _, rfl, _, rfl, fl, vs, _, v1, rfl, rfl, SqL.of hvs5, ?_, _, rfl, _, rfl, _, _, rfl, rfl, fl, vs, _, v2, rfl, rfl, SqL.of hvs5, ?_, _, rfl, _, rfl, D, rs, _, rs.getD j .non, rfl, rfl, SqL.of hrs5, ?_, (by show 3 ≤ sizeLine; decide), fun t ht => ?_⟩
      · rw [Int.zero_add]; exact atI_nat hv1'
      · rw [Int.zero_add]; exact atI_nat hv2'
      · rw [Int.zero_add]; exact atI_nat r1
      have s6 := same_upd0 (o := .tup [v1, v2, rs.getD j .non]) ht
      have hDn := s6 _ _ hDk
      have new : PtAt (upd H5 t (.tup [v1, v2, rs.getD j .non])) (.ref t) (pf j) := ⟨t, v1, v2, rfl, upd_same, (c1.same s5).same s6, (c2.same s5).same s6⟩
      refine ⟨ys, hDn, by rw [hyl]; omega, Same.over (s5.trans s6) hD2, ys ++ [.ref t], by rw [List.length_append, hyl]; rfl, upd_same, fun i y hy => ?_⟩
      by_cases hi : i < ys.length
      · rw [List.getElem?_append_left hi] at hy
        obtain ⟨p1, e1, h1⟩ := hys i y hy
        exact ⟨p1, e1, (h1.same s6).lst hDn⟩
      · rw [List.getElem?_append_right (by omega)] at hy
        have hi0 : i - ys.length = 0 := by
          cases e : i - ys.length with
          | zero => rfl
          | succ n => rw [e] at hy; simp at hy
        rw [hi0] at hy
        obtain rfl : V.ref t = y := Option.some.inj hy
        have : i = j := by omega
        subst this
        exact ⟨pf i, hps i hj, new.lst hDn⟩
    rintro H5 ⟨s5, ys, hyl, hD5, hys⟩
    rw [hmn] at hyl
    refine k ((List.range m).map pf) D2 n4 g4 H5 (by omega) ((off0.trans off4).trans (offS s5)) (pen4.same s5) (pen4.ne hD2) ⟨ys, hD5, by rw [hyl, hlp], hys⟩ hlp ?_ ?_
    · intro i a b ha hb
      have hi : i + 1 < m := by rw [← hlp]; exact (List.getElem?_eq_some_iff.mp hb).1
      rw [hps i (by omega)] at ha
      rw [hps _ hi] at hb
      rw [← Option.some.inj ha, ← Option.some.inj hb]
    · intro x hx
      obtain ⟨i, hi, rfl⟩ := List.mem_map.mp hx
      have hi := List.mem_range.mp hi
      obtain ⟨_, _, _, o1⟩ := hfg i (by omega)
      obtain ⟨_, _, _, o2⟩ := hfg (i + 1) (by omega)
      exact ⟨⟨o1.ok, o2.ok, (hrg i hi).2.1⟩, o1.ne, o2.ne, (hrg i hi).2.2⟩
end
end K31

namespace So
open PySem PySem.Spec PyProof.Rows L2
section
variable {P : Program} {w : World} {K : PySem.W.Frag} {mg : Str → Option Value} {base : Heap} {CX : CXT} {sp : Sp} {fd : FuncData} {ps N : List Str} {k : Nat} {f c : Addr}
/-- a def by its body, the guards and the code object told -/
theorem fnG_ofC {x qual : Str} {st : Stmt} (F : Fun K x qual st f fd) (hcode : fd.code = .ref c) (S : FnScope N ps (defScope st)) (len : ∀ vs H Q E, sp vs H Q E → vs.length = ps.length)
    (hbody : ∀ (A : Around) (outer : List Env) (s : Shared) (H : Hp) (vs : List V) (Q : VK) (E : XK), A.guards = some [] → Room k (A.deeper (envOfC qual (defScope st) s.heap.objs.size f (.ref c))) → sp vs H Q E →
      ∃ t, PSs (cxOf CX P w K mg base N qual (defScope st) f (.ref c) A outer s H E).nox (defBody st) t ∧ t { nx := fun _ H' => Q .non H', rt := Q } (start N vs) H) : FnG P w K mg base CX (k + 1) f fd ps sp := by
  obtain ⟨oc, od, kV, doc, pm, an, cdv, ct, osl, rfl, lk, hcd⟩ := F.ex
  obtain rfl : cdv = .ref c := hcode
  constructor
  · exact len
  intro A outer s H args us vs Q E hg hr e0 hb r hsp
  have old : ∀ b o, base.get? b = some o → s.heap.get? b = some o := fun b o e => (e0.bs b o e).1
  have KX := e0.mod.kin.keeps old
  have lim := e0.mod.nolimit.keeps old
  refine codeAny_call_function hr.depth (KX _ _ lk) rfl S.co S.gen rfl (PySem.W.codeRec_of KX hcd) (hb _ _ _ _ ?_)
  refine wpAny_newFunctionEnv_cells S.kind (fun y hy => ?_) fun env he s1 x => ?_
  · rcases S.par y.1 (List.of_mem_zip (show (y.1, y.2) ∈ ps.zip us from hy)).1 with q | q
    · exact Or.inl q
    · exact Or.inr (And.intro q (PySem.W.cellsFrom_some _ _ _ (Or.inl q)))
  subst he
  refine And.intro (lim.keeps x.toInCall.keep) (codeAny_func ?_)
  obtain ⟨t, ht, hq⟩ := hbody A outer s H vs Q E hg (hr.deeper _) hsp
  refine wpAny_mono (ht.nox.run [] s1 (start N vs) H _ (inv_start S hr.hd e0 (len _ _ _ _ hsp) r x) hq) (fun fl s' hs => ?_) fun _ _ hs => hs
  match fl, hs with
  | .ret u, ⟨v, σ', H', J, rv, q⟩ => exact ⟨v, H', J.os, J.bare, J.base, J.hok, rv, q⟩
  | .next, ⟨σ', H', J, q⟩ => exact ⟨V.non, H', J.os, J.bare, J.base, J.hok, rfl, q⟩
  | .brk, ⟨_, _, _, q⟩ => exact q.elim
  | .cont, ⟨_, _, _, q⟩ => exact q.elim
end
end So

namespace So
open PySem PySem.Spec PyProof.Rows L2 LamX
/-- the law's call, its one table of code objects and the guards told -/
theorem law_callTG {P : Program} {w : World} {K : PySem.W.Frag} {mg mb : Str → Option Value} {CX : CXT} {k : Nat} {fa a c T : Addr} {fd : FuncData} {x : Str} {sp : Sp} {s₁ : Shared} {vs : List Value} {ns : List Int}
    (KX : K.In s₁.heap) (hns : s₁.heap.Ns mainGlobals mg) (hb : s₁.heap.Ns builtinsNs mb) (hbb : ∀ x : Str, x ≠ "__name__" → mb x = bootBuiltins x) (hlim : s₁.heap.NoLimit) (hg : s₁.gens = #[])
    (tab : s₁.heap.get? T = some { cls := .none, data := .fields #[] }) (noT : K.lookup T = none) (cd : PySem.W.CodeHd s₁.heap c T)
    (mod : ∃ (bm : Addr) (ob : Obj), mg "__builtins__" = some (.ref bm) ∧ bm ≠ builtinsNs ∧ s₁.heap.get? bm = some ob ∧ ob.cls = .type "module" ∧ ob.dict = some builtinsNs ∧ ob.data = .plain)
    (ha : s₁.heap.get? a = some { cls := .type "list", data := .seq vs.toArray }) (hi : IntsAre vs ns) (hl : ns.length ≤ sizeLine) (hr : Room k callerA)
    (F : ∀ base : Heap, K.In base → base.Ns mainGlobals mg → TabB base mg c T → FnG P w K mg base CX k fa fd [x] sp) (hbind : ∀ (s : Shared) (u : Value), BindsTo s fd ⟨[u], []⟩ [(x, u)])
    (hsp : ∀ H : Hp, H T = some (.tbl #[]) → SqL K H a (ns.map V.int) → sp [.ref a] H (fun v _ => v = .bl true) fun _ _ _ => False)
    (hCX : ∀ H e s', CX [] H s₁ (fun _ _ _ => False) e s' → False) :
    codeAny (model P w) callerA (.call (.ref fa) ⟨[.ref a], []⟩) (fun r s' => r = .ok (.ret (.bool true)) ∧ OldK s₁.heap s'.heap ∧ s'.os = s₁.os ∧ AllBare s'.gens) s₁ := by
  have aT : a ≠ T := fun z => by
    rw [z, tab] at ha
    have := congrArg Obj.data (Option.some.inj ha)
    cases this
  -- what may be tracked at the start: the table, and the script where the written part does not hold it
  have go : ∀ H : Hp, H T = some (.tbl #[]) → (∀ b u, H b = some u → b = T ∨ (b = a ∧ K.lookup a = none ∧ ∃ o xs, u = .frz o (.lst xs))) → SqL K H a (ns.map V.int) → HOk P w H s₁.heap →
      codeAny (model P w) callerA (.call (.ref fa) ⟨[.ref a], []⟩) (fun r s' => r = .ok (.ret (.bool true)) ∧ OldK s₁.heap s'.heap ∧ s'.os = s₁.os ∧ AllBare s'.gens) s₁ := by
    intro H hT hA hS hok
    -- an object that is neither the script's list nor the table stands in the base
    have free : ∀ {b : Addr} {o : Obj}, s₁.heap.get? b = some o → (∀ vs n, o.data ≠ .seq vs n) → o.data ≠ .fields #[] → H b = none := by
      intro b o e h1 h2
      cases q : H b with
      | none => rfl
      | some u =>
        rcases hA b u q with rfl | ⟨rfl, _⟩
        · rw [tab] at e
          cases e
          exact absurd rfl h2
        · rw [ha] at e
          cases e
          exact absurd rfl (h1 _ _)
    have toBase : ∀ {b : Addr} {o : Obj}, s₁.heap.get? b = some o → H b = none → (hidT s₁.heap H).get? b = some o := fun e n => hidT_get e n
    have nsB : ∀ {b : Addr} {m : Str → Option Value}, s₁.heap.Ns b m → (hidT s₁.heap H).Ns b m := by
      rintro b m ⟨o, es, ep, e, d, r⟩
      have n : H b = none := by
        refine free e ?_ ?_
        · intro vs n z
          rw [d] at z
          cases z
        · intro z
          rw [d] at z
          cases z
      exact ⟨o, es, ep, toBase e n, d, r⟩
    have kin : K.In (hidT s₁.heap H) := by
      intro b o e
      refine toBase (KX b o e) ?_
      cases q : H b with
      | none => rfl
      | some u =>
        rcases hA b u q with rfl | ⟨rfl, z, _⟩
        · rw [noT] at e
          cases e
        · rw [z] at e
          cases e
    have lim2 : (hidT s₁.heap H).NoLimit := by
      obtain ⟨mc, h1, h2⟩ := hlim
      exact ⟨mc, nsB h1, h2⟩
    have gT : mainGlobals ≠ T := fun z => by
      obtain ⟨o, es, ep, e, d, _⟩ := hns
      rw [z, tab] at e
      cases e
      cases d
    have cd2 : PySem.W.CodeHd (hidT s₁.heap H) c T := by
      obtain ⟨o, us, fl, tf, fg, tg, inF, tx, tt, e1, r1, r2, r3, r⟩ := cd
      refine ⟨o, us, fl, tf, fg, tg, inF, tx, tt, toBase e1 (free e1 ?_ ?_), r1, r2, r3, r⟩
      · intro vs n z
        rw [r2] at z
        cases z
      · intro z
        rw [r2] at z
        cases z
        simp at r3
    have bm2 : (hidT s₁.heap H).BuiltinsAt mg T := by
      obtain ⟨bm, ob, b1, b2, b3, b4, b5, b6⟩ := mod
      have n1 : bm ≠ mainGlobals := fun z => by
        obtain ⟨o, es, ep, e, d, _⟩ := hns
        rw [z, e] at b3
        cases b3
        rw [d] at b6
        cases b6
      have n2 : bm ≠ T := fun z => by
        rw [z, tab] at b3
        cases b3
        cases b6
      refine ⟨bm, ob, b1, b2, n1, n2, toBase b3 (free b3 ?_ ?_), b4, b5, b6⟩
      · intro vs n z
        rw [b6] at z
        cases z
      · intro z
        rw [b6] at z
        cases z
    have e0 : Env0 P w K mg (hidT s₁.heap H) callerA [] s₁ H := by
      refine ⟨rfl, ⟨kin, nsB hns, ⟨mb, nsB hb, hbb⟩, lim2⟩, fun b o e => of_hidT e, Nat.le_of_eq (hidT_size _ _), True.intro, ?_, hok, .of_eq hg⟩
      intro b hb
      cases hb
    refine codeAny_mono ((F _ kin (nsB hns) ⟨cd2, bm2, gT⟩).runG callerA [] s₁ H ⟨[.ref a], []⟩ [.ref a] [.ref a] _ _ rfl hr e0 (hbind s₁ (.ref a)) (.cons rfl .nil) (hsp H hT hS)) fun r s' h => ?_
    match r, h with
    | .error e, h => exact (hCX H e s' h).elim
    | .ok .next, h => exact h.elim
    | .ok .brk, h => exact h.elim
    | .ok .cont, h => exact h.elim
    | .ok (.ret u), ⟨v, H', os, bare, un, hok', rv, q⟩ =>
      have q2 : v = .bl true := q
      subst q2
      cases rv
      obtain ⟨more, hm⟩ := un.tbls T #[] hT
      have grown : s'.heap.get? T = some { cls := .none, data := .fields (#[] ++ more) } := hok' T _ hm
      have stay : ∀ b o, b ≠ T → s₁.heap.get? b = some o → s'.heap.get? b = some o := by
        intro b o n e
        cases q : H b with
        | none => exact un.keep b o e q (fun z => nomatch z) (fun z => nomatch z)
        | some u =>
          rcases hA b u q with z | ⟨_, _, ob, xs, rfl⟩
          · exact absurd z n
          · have z1 := (hok b _ q).1
            have z2 := (hok' b _ (un.frzs b ob _ q)).1
            rw [z1] at e
            rw [z2, e]
      refine ⟨rfl, ⟨fun b o e => ?_, fun b o e => ?_⟩, os, bare⟩
      · by_cases n : b = T
        · subst n
          rw [tab] at e
          cases e
          refine .inr (.inl ⟨(cd.tab tab).isCodeTable, rfl, #[], more, rfl, grown⟩)
        · exact .inl (stay b o n e)
      · by_cases n : b = T
        · subst n
          exact ⟨_, grown⟩
        · exact ⟨o, stay b o n e⟩
  have rv := vals_ints hi
  have hlen : (ns.map V.int).length ≤ sizeLine := by rw [List.length_map]; exact hl
  cases hk : K.lookup a with
  | some o =>
    have e := KX a o hk
    rw [ha] at e
    cases e
    refine go (fun b => if b = T then some (.tbl #[]) else none) (if_pos rfl) (fun b u z => ?_) (Or.inr ⟨_, vs.toArray, _, hk, rfl, rfl, rfl, by rw [List.size_toArray, hi.length]; exact hl, by simpa using rv⟩) fun b u z => ?_
    · try dsimp only at z
      by_cases n : b = T
      · exact Or.inl n
      · rw [if_neg n] at z
        cases z
    · try dsimp only at z
      by_cases n : b = T
      · rw [if_pos n] at z
        cases z
        rw [n]
        exact tab
      · rw [if_neg n] at z
        cases z
  | none =>
    refine go (fun b => if b = T then some (.tbl #[]) else if b = a then some (.frz { cls := .type "list", data := .seq vs.toArray } (.lst (ns.map V.int))) else none) (if_pos rfl) (fun b u z => ?_) (Or.inl (Or.inr ⟨_, (if_neg aT).trans (if_pos rfl)⟩)) fun b u z => ?_
    · try dsimp only at z
      by_cases n : b = T
      · exact Or.inl n
      · rw [if_neg n] at z
        by_cases n2 : b = a
        · rw [if_pos n2] at z
          cases z
          exact Or.inr ⟨n2, hk, _, _, rfl⟩
        · rw [if_neg n2] at z
          cases z
    · try dsimp only at z
      by_cases n : b = T
      · rw [if_pos n] at z
        cases z
        rw [n]
        exact tab
      · rw [if_neg n] at z
        by_cases n2 : b = a
        · rw [if_pos n2] at z
          cases z
          rw [n2]
          exact ⟨ha, hlen, vs, _, rv, ha⟩
        · rw [if_neg n2] at z
          cases z
end So

namespace So
open PySem PySem.Spec PyProof.Rows L2 LamX
/-- the law's call, its tables of code objects and the guards told -/
theorem law_callTGs {P : Program} {w : World} {K : PySem.W.Frag} {mg mb : Str → Option Value} {CX : CXT} {k : Nat} {fa a : Addr} {cs : List (Addr × Addr)} {fd : FuncData} {x : Str} {sp : Sp} {s₁ : Shared} {vs : List Value} {ns : List Int}
    (KX : K.In s₁.heap) (hns : s₁.heap.Ns mainGlobals mg) (hb : s₁.heap.Ns builtinsNs mb) (hbb : ∀ x : Str, x ≠ "__name__" → mb x = bootBuiltins x) (hlim : s₁.heap.NoLimit) (hg : s₁.gens = #[])
    (tabs : ∀ q ∈ cs, s₁.heap.get? q.2 = some { cls := .none, data := .fields #[] } ∧ K.lookup q.2 = none ∧ PySem.W.CodeHd s₁.heap q.1 q.2)
    (mod : ∃ (bm : Addr) (ob : Obj), mg "__builtins__" = some (.ref bm) ∧ bm ≠ builtinsNs ∧ s₁.heap.get? bm = some ob ∧ ob.cls = .type "module" ∧ ob.dict = some builtinsNs ∧ ob.data = .plain)
    (ha : s₁.heap.get? a = some { cls := .type "list", data := .seq vs.toArray }) (hi : IntsAre vs ns) (hl : ns.length ≤ sizeLine) (hr : Room k callerA)
    (F : ∀ base : Heap, K.In base → base.Ns mainGlobals mg → (∀ q ∈ cs, TabB base mg q.1 q.2) → FnG P w K mg base CX k fa fd [x] sp) (hbind : ∀ (s : Shared) (u : Value), BindsTo s fd ⟨[u], []⟩ [(x, u)])
    (hsp : ∀ H : Hp, (∀ q ∈ cs, H q.2 = some (.tbl #[])) → SqL K H a (ns.map V.int) → sp [.ref a] H (fun v _ => v = .bl true) fun _ _ _ => False)
    (hCX : ∀ H e s', CX [] H s₁ (fun _ _ _ => False) e s' → False) :
    codeAny (model P w) callerA (.call (.ref fa) ⟨[.ref a], []⟩) (fun r s' => r = .ok (.ret (.bool true)) ∧ OldK s₁.heap s'.heap ∧ s'.os = s₁.os ∧ AllBare s'.gens) s₁ := by
  have tab : ∀ {T : Addr}, (∃ q ∈ cs, q.2 = T) → s₁.heap.get? T = some { cls := .none, data := .fields #[] } := fun ⟨q, hq, e⟩ => e ▸ (tabs q hq).1
  have noT : ∀ {T : Addr}, (∃ q ∈ cs, q.2 = T) → K.lookup T = none := fun ⟨q, hq, e⟩ => e ▸ (tabs q hq).2.1
  have aT : ¬ ∃ q ∈ cs, q.2 = a := fun z => by
    rw [tab z] at ha
    have := congrArg Obj.data (Option.some.inj ha)
    cases this
  -- what may be tracked at the start: the table, and the script where the written part does not hold it
  have go : ∀ H : Hp, (∀ q ∈ cs, H q.2 = some (.tbl #[])) → (∀ b u, H b = some u → (∃ q ∈ cs, q.2 = b) ∨ (b = a ∧ K.lookup a = none ∧ ∃ o xs, u = .frz o (.lst xs))) → SqL K H a (ns.map V.int) → HOk P w H s₁.heap →
      codeAny (model P w) callerA (.call (.ref fa) ⟨[.ref a], []⟩) (fun r s' => r = .ok (.ret (.bool true)) ∧ OldK s₁.heap s'.heap ∧ s'.os = s₁.os ∧ AllBare s'.gens) s₁ := by
    intro H hT hA hS hok
    -- an object that is neither the script's list nor the table stands in the base
    have free : ∀ {b : Addr} {o : Obj}, s₁.heap.get? b = some o → (∀ vs n, o.data ≠ .seq vs n) → o.data ≠ .fields #[] → H b = none := by
      intro b o e h1 h2
      cases q : H b with
      | none => rfl
      | some u =>
        rcases hA b u q with hb | ⟨rfl, _⟩
        · rw [tab hb] at e
          cases e
          exact absurd rfl h2
        · rw [ha] at e
          cases e
          exact absurd rfl (h1 _ _)
    have toBase : ∀ {b : Addr} {o : Obj}, s₁.heap.get? b = some o → H b = none → (hidT s₁.heap H).get? b = some o := fun e n => hidT_get e n
    have nsB : ∀ {b : Addr} {m : Str → Option Value}, s₁.heap.Ns b m → (hidT s₁.heap H).Ns b m := by
      rintro b m ⟨o, es, ep, e, d, r⟩
      have n : H b = none := by
        refine free e ?_ ?_
        · intro vs n z
          rw [d] at z
          cases z
        · intro z
          rw [d] at z
          cases z
      exact ⟨o, es, ep, toBase e n, d, r⟩
    have kin : K.In (hidT s₁.heap H) := by
      intro b o e
      refine toBase (KX b o e) ?_
      cases q : H b with
      | none => rfl
      | some u =>
        rcases hA b u q with hb | ⟨rfl, z, _⟩
        · rw [noT hb] at e
          cases e
        · rw [z] at e
          cases e
    have lim2 : (hidT s₁.heap H).NoLimit := by
      obtain ⟨mc, h1, h2⟩ := hlim
      exact ⟨mc, nsB h1, h2⟩
    have TB : ∀ q ∈ cs, TabB (hidT s₁.heap H) mg q.1 q.2 := by
      rintro ⟨c, T⟩ hq
      have tab' : s₁.heap.get? T = some { cls := .none, data := .fields #[] } := tab ⟨_, hq, rfl⟩
      have cd : PySem.W.CodeHd s₁.heap c T := (tabs _ hq).2.2
      have gT : mainGlobals ≠ T := fun z => by
        obtain ⟨o, es, ep, e, d, _⟩ := hns
        rw [z, tab'] at e
        cases e
        cases d
      have cd2 : PySem.W.CodeHd (hidT s₁.heap H) c T := by
        obtain ⟨o, us, fl, tf, fg, tg, inF, tx, tt, e1, r1, r2, r3, r⟩ := cd
        refine ⟨o, us, fl, tf, fg, tg, inF, tx, tt, toBase e1 (free e1 ?_ ?_), r1, r2, r3, r⟩
        · intro vs n z
          rw [r2] at z
          cases z
        · intro z
          rw [r2] at z
          cases z
          simp at r3
      have bm2 : (hidT s₁.heap H).BuiltinsAt mg T := by
        obtain ⟨bm, ob, b1, b2, b3, b4, b5, b6⟩ := mod
        have n1 : bm ≠ mainGlobals := fun z => by
          obtain ⟨o, es, ep, e, d, _⟩ := hns
          rw [z, e] at b3
          cases b3
          rw [d] at b6
          cases b6
        have n2 : bm ≠ T := fun z => by
          rw [z, tab'] at b3
          cases b3
          cases b6
        refine ⟨bm, ob, b1, b2, n1, n2, toBase b3 (free b3 ?_ ?_), b4, b5, b6⟩
        · intro vs n z
          rw [b6] at z
          cases z
        · intro z
          rw [b6] at z
          cases z
      exact ⟨cd2, bm2, gT⟩
    have e0 : Env0 P w K mg (hidT s₁.heap H) callerA [] s₁ H := by
      refine ⟨rfl, ⟨kin, nsB hns, ⟨mb, nsB hb, hbb⟩, lim2⟩, fun b o e => of_hidT e, Nat.le_of_eq (hidT_size _ _), True.intro, ?_, hok, .of_eq hg⟩
      intro b hb
      cases hb
    refine codeAny_mono ((F _ kin (nsB hns) TB).runG callerA [] s₁ H ⟨[.ref a], []⟩ [.ref a] [.ref a] _ _ rfl hr e0 (hbind s₁ (.ref a)) (.cons rfl .nil) (hsp H hT hS)) fun r s' h => ?_
    match r, h with
    | .error e, h => exact (hCX H e s' h).elim
    | .ok .next, h => exact h.elim
    | .ok .brk, h => exact h.elim
    | .ok .cont, h => exact h.elim
    | .ok (.ret u), ⟨v, H', os, bare, un, hok', rv, q⟩ =>
      have q2 : v = .bl true := q
      subst q2
      cases rv
      have grown : ∀ {T : Addr}, (∃ q ∈ cs, q.2 = T) → ∃ more : Array Value, s'.heap.get? T = some { cls := .none, data := .fields (#[] ++ more) } := by
        rintro T ⟨q, hq, rfl⟩
        obtain ⟨more, hm⟩ := un.tbls q.2 #[] (hT q hq)
        exact ⟨more, hok' q.2 _ hm⟩
      have stay : ∀ b o, (¬ ∃ q ∈ cs, q.2 = b) → s₁.heap.get? b = some o → s'.heap.get? b = some o := by
        intro b o n e
        cases q : H b with
        | none => exact un.keep b o e q (fun z => nomatch z) (fun z => nomatch z)
        | some u =>
          rcases hA b u q with z | ⟨_, _, ob, xs, rfl⟩
          · exact absurd z n
          · have z1 := (hok b _ q).1
            have z2 := (hok' b _ (un.frzs b ob _ q)).1
            rw [z1] at e
            rw [z2, e]
      refine ⟨rfl, ⟨fun b o e => ?_, fun b o e => ?_⟩, os, bare⟩
      · by_cases n : ∃ q ∈ cs, q.2 = b
        · obtain ⟨more, hg⟩ := grown n
          have tb := tab n
          obtain ⟨q, hq, rfl⟩ := n
          rw [tb] at e
          cases e
          exact .inr (.inl ⟨((tabs q hq).2.2.tab tb).isCodeTable, rfl, #[], more, rfl, hg⟩)
        · exact .inl (stay b o n e)
      · by_cases n : ∃ q ∈ cs, q.2 = b
        · obtain ⟨more, hg⟩ := grown n
          exact ⟨_, hg⟩
        · exact ⟨o, stay b o n e⟩
  have rv := vals_ints hi
  have hlen : (ns.map V.int).length ≤ sizeLine := by rw [List.length_map]; exact hl
  cases hk : K.lookup a with
  | some o =>
    have e := KX a o hk
    rw [ha] at e
    cases e
    refine go (fun b => open Classical in if ∃ q ∈ cs, q.2 = b then some (.tbl #[]) else none) (fun q hq => if_pos ⟨q, hq, rfl⟩) (fun b u z => ?_) (Or.inr ⟨_, vs.toArray, _, hk, rfl, rfl, rfl, by rw [List.size_toArray, hi.length]; exact hl, by simpa using rv⟩) fun b u z => ?_
    · try dsimp only at z
      by_cases n : ∃ q ∈ cs, q.2 = b
      · exact Or.inl n
      · rw [if_neg n] at z
        cases z
    · try dsimp only at z
      by_cases n : ∃ q ∈ cs, q.2 = b
      · rw [if_pos n] at z
        cases z
        exact tab n
      · rw [if_neg n] at z
        cases z
  | none =>
    refine go (fun b => open Classical in if ∃ q ∈ cs, q.2 = b then some (.tbl #[]) else if b = a then some (.frz { cls := .type "list", data := .seq vs.toArray } (.lst (ns.map V.int))) else none) (fun q hq => if_pos ⟨q, hq, rfl⟩) (fun b u z => ?_) (Or.inl (Or.inr ⟨_, (if_neg aT).trans (if_pos rfl)⟩)) fun b u z => ?_
    · try dsimp only at z
      by_cases n : ∃ q ∈ cs, q.2 = b
      · exact Or.inl n
      · rw [if_neg n] at z
        by_cases n2 : b = a
        · rw [if_pos n2] at z
          cases z
          exact Or.inr ⟨n2, hk, _, _, rfl⟩
        · rw [if_neg n2] at z
          cases z
    · try dsimp only at z
      by_cases n : ∃ q ∈ cs, q.2 = b
      · rw [if_pos n] at z
        cases z
        exact tab n
      · rw [if_neg n] at z
        by_cases n2 : b = a
        · rw [if_pos n2] at z
          cases z
          rw [n2]
          exact ⟨ha, hlen, vs, _, rv, ha⟩
        · rw [if_neg n2] at z
          cases z
end So

/-! a lambda handed to a def that hands it on to another: x(lambda: body, e2), where x calls y(a) -/
namespace So
open PySem PySem.Spec PyProof.Rows L2 LamX
theorem un_frames {z fs : List Addr} {H H1 H2 : Hp} {h h1 h2 : Heap} (a : Un fs [] H H1 h h1) (b : Un (z ++ fs) [] H1 H2 h1 h2) (hz : ∀ c ∈ z, h.get? c = none) : Un fs [] H H2 h h2 where
  keep := fun c ob q n hc hx => b.keep c ob (a.keep c ob q n hc hx) (a.free c ob q n hx) (fun m => by
    rcases List.mem_append.mp m with m | m
    · rw [hz c m] at q; cases q
    · exact hc m) hx
  slot := fun c ob q n hc hx => by
    obtain ⟨sl, e1⟩ := a.slot c ob q n hc hx
    obtain ⟨sl', e2⟩ := b.slot c _ e1 (a.free c ob q n hx) (List.mem_append_right _ hc) hx
    exact ⟨sl', e2⟩
  free := fun c ob q n hx => by
    obtain ⟨o', e1⟩ := a.there c ob q hx
    exact b.free c o' e1 (a.free c ob q n hx) hx
  there := fun c ob q hx => by
    obtain ⟨o', e1⟩ := a.there c ob q hx
    exact b.there c o' e1 hx
  tups := fun c xs q => b.tups c xs (a.tups c xs q)
  frzs := fun c ob xs q => b.frzs c ob xs (a.frzs c ob xs q)
  tbls := fun c ps q => by
    obtain ⟨m1, e1⟩ := a.tbls c ps q
    obtain ⟨m2, e2⟩ := b.tbls c _ e1
    exact ⟨m1 ++ m2, by rw [e2, Array.append_assoc]⟩
theorem frs_env {q : Str} {sc : Scope} {n : Nat} {g : Addr} {cd : Value} {l : List Env} : frs (envOfC q sc n g cd :: l) = [n] ++ frs l := rfl
section
variable {X : Cx} {pins : List (Addr × Obj)} {σ : L2.St} {H HZ : Hp} {s s1 : Shared}
/-- x(), in a def that got the lambda through others: entered at s2 from the frames st2 -/
theorem pe_act2 {CXg : CXT} {Eg : XK} {Ng : List Str} {qg : Str} {sg : Scope} {g f c' : Addr} {cdg pm ctv : Value} {params : Arguments} {body : Expr} {scope : Scope} {k i : Nat} {a : Str} {pn : List (Addr × Obj)} {xe : Value → Shared → Prop} {W : WX} {E : XK} {tb : TE} {p1 p2 : Pos}
    {A2 : Around} {st2 : List Env} {s2 : Shared} {H2 : Hp} (I : Inv X pins σ H s) (hun : ∀ HZ s1, Un (frs st2) [] H2 HZ s2.heap s1 → Un (frs X.stack) [] H HZ s.heap s1)
    (L : LamS X.env.scope scope) (hf : s.heap.get? f = some (PySem.W.kla_obj "<lambda>" (X.env.qual ++ "<lambda>") params body scope (cloFrom X.env.cells scope.names []) pm c' ctv)) (hfn : H f = none) (hfr : f ∉ frs X.stack)
    (hbind : bindArgs (PySem.W.kla_fn "<lambda>" (X.env.qual ++ "<lambda>") params body scope (cloFrom X.env.cells scope.names []) pm (.ref c') ctv) ⟨[], []⟩ = pure [])
    (tk : Takes ((cxOf CXg X.prog X.w X.K X.mg X.base Ng qg sg g cdg A2 st2 s2 H2 Eg).tr pn xe) W) (hW : ∀ cls d σ' H', E cls d H' → W cls d σ' H') (hr : Room (k + 1) (A2.deeper (envOfC qg sg s2.heap.objs.size g cdg)))
    (hbody : ∀ (A : Around) (outer : List Env) (s : Shared) (H : Hp), Room k (A.deeper (lamEnv X scope s.heap.objs.size f c')) → PE (lamCx X A outer s H E scope f c') body tb)
    (hN : Ng[i]? = some a) (hv : Vis sg a) (hd : (a == ("__debug__" : Str)) = false := by decide) (hcd : (a == ("__classdict__" : Str)) = false := by decide) :
    PE ((cxOf CXg X.prog X.w X.K X.mg X.base Ng qg sg g cdg A2 st2 s2 H2 Eg).tr pn xe) (.Call (.Name a p1) [] [] p2)
      (fun σZ HZ Q => σZ[i]? = some (some (.ref f)) ∧ HZ c' = some (CodeO c' (X.env.qual ++ "<lambda>")) ∧ tb σ HZ Q) := by
  refine ⟨fun pinsZ sZ σZ HZ Q IZ h => ?_⟩
  obtain ⟨hs, hc, ht⟩ := h
  refine wpAny_Call_Name_kw (thn ((pe_var (pos := p1) (i := i) hN hv hd hcd).run pinsZ sZ σZ HZ (fun v H1 => v = .ref f ∧ H1 = HZ) IZ ⟨.ref f, hs, rfl, rfl⟩) fun u s1 ⟨v, H1, I1, r1, q1⟩ => ?_)
  obtain ⟨ev, eH⟩ := q1
  subst ev
  rw [eH] at I1
  obtain rfl : u = Value.ref f := r1
  have un : Un (frs X.stack) [] H HZ s.heap s1.heap := hun _ _ I1.base
  have of1 : s1.heap.get? f = some (PySem.W.kla_obj "<lambda>" (X.env.qual ++ "<lambda>") params body scope (cloFrom X.env.cells scope.names []) pm c' ctv) := un.keep f _ hf hfn hfr (fun z => nomatch z)
  refine PySem.W.callWith_F0 ⟨_, _, _, _, of1⟩ ?_
  obtain ⟨⟨oc, vs, t, hoc, hdc, hvc⟩, _, _⟩ := I1.hok c' _ hc
  have rc : codeAny (model X.prog X.w) (A2.deeper (envOfC qg sg s2.heap.objs.size g cdg)) (.call (.ref f) ⟨[], []⟩) (CR (L2.CX X.prog X.w) (envOfC qg sg s2.heap.objs.size g cdg :: st2) X.prog X.w HZ s1 Q E) s1 := by
    refine PySem.W.kla_callFunE hr.depth of1 rfl L.co L.gen rfl ⟨c', oc, vs, t, rfl, hoc, hdc, hvc⟩ ?_
    rw [hbind]
    refine wpAny_pure (wpAny_newFunctionEnv (fun y hy => (L.own y hy).2) (fun y hy => absurd hy (by simp)) (fun h₁ hns hsb => ⟨I1.nolimit.fresh _ hsb, ?_⟩) L.kind)
    show codeAny _ _ (.expr body (lamEnv X scope s1.heap.objs.size f c')) _ _
    have kp : ∀ b o, s1.heap.get? b = some o → h₁.get? b = some o := fun b o e => hsb.extBut b o (Nat.ne_of_lt (Heap.lt_size e)) (Heap.get?_push_of_some _ e)
    have J : Inv (lamCx X (A2.deeper (envOfC qg sg s2.heap.objs.size g cdg)) (envOfC qg sg s2.heap.objs.size g cdg :: st2) s1 HZ E scope f c') [] σ HZ { s1 with heap := h₁, toks := s1.toks + ([] : List (Str × Value)).length } :=
      lam_start2 I L I1.env0 hr.hd un hns kp
    refine PySem.W.kla_codeExpr (wpAny_mono ((hbody _ _ s1 HZ (hr.deeper _)).run [] _ _ HZ Q J ht) (fun v s' hq => ?_) fun e s' hq => hq)
    obtain ⟨w', H', J', rv, q⟩ := hq
    exact ⟨w', H', J'.os, J'.bare, J'.base, J'.hok, rv, q⟩
  have hx : Passes (L2.CX X.prog X.w) ((cxOf CXg X.prog X.w X.K X.mg X.base Ng qg sg g cdg A2 st2 s2 H2 Eg).tr pn xe) E := passes_call tk hW
  refine wpAny_call (codeAny_mono rc fun r s' hq => ?_)
  cases r with
  | error e => exact hx pinsZ σZ HZ s1 e s' I1 hq
  | ok fl =>
    cases fl with
    | ret u => exact I1.after hq
    | next => exact False.elim hq
    | brk => exact False.elim hq
    | cont => exact False.elim hq
end
/-- what stands where a def got a lambda and hands it on: Z its context, entered at s, i the lambda's place; TT: what the other def makes of it -/
theorem pe_hand {X : Cx} {pins : List (Addr × Obj)} {σ : L2.St} {H : Hp} {s : Shared} {TT : (XK → Hp → VK → Prop) → Hp → VK → Prop} {t : XK → TE}
    {Nz : List Str} {qz : Str} {sz : Scope} {z f c' : Addr} {cdz pm ctv : Value} {params : Arguments} {body : Expr} {scope : Scope} {k i : Nat} {a : Str}
    {y ay : Str} {g : Addr} {pg : Arguments} {bg : List Stmt} {sg : Scope} {dV kV doc pmg cdg ct oc : Value} {an od : Option Addr} {osl : Array (Option Value)} {Ng : List Str} {p1 p2 p3 : Pos}
    (I : Inv X pins σ H s) (L : LamS X.env.scope scope) (hf : s.heap.get? f = some (PySem.W.kla_obj "<lambda>" (X.env.qual ++ "<lambda>") params body scope (cloFrom X.env.cells scope.names []) pm c' ctv)) (hfn : H f = none) (hfr : f ∉ frs X.stack)
    (hbind : bindArgs (PySem.W.kla_fn "<lambda>" (X.env.qual ++ "<lambda>") params body scope (cloFrom X.env.cells scope.names []) pm (.ref c') ctv) ⟨[], []⟩ = pure [])
    (hr : Room (k + 2) (X.A.deeper (envOfC qz sz s.heap.objs.size z cdz)))
    (hbody : ∀ (A : Around) (outer : List Env) (s : Shared) (H : Hp) (E : XK), Room k (A.deeper (lamEnv X scope s.heap.objs.size f c')) → PE (lamCx X A outer s H E scope f c') body (t E))
    (hN : Nz[i]? = some a) (hv : Vis sz a)
    (hgl : Gl (cxOf C8.CX0 X.prog X.w X.K X.mg X.base Nz qz sz z cdz X.A X.stack s H C8.E0).nox y) (hm : X.mg y = some (.ref g)) (hk : PySem.W.keepIn X.K (.ref g) = true)
    (lk : X.K.lookup g = some ⟨oc, od, .func (PySem.W.fnOf y y pg bg sg dV kV doc pmg an cdg ct), osl⟩) (hcg : PySem.W.codeIn X.K cdg y = true) (hb : L2.Binds X.K (PySem.W.fnOf y y pg bg sg dV kV doc pmg an cdg ct) [ay] []) (Sg : FnScope Ng [ay] sg) (hNg : Ng[0]? = some ay) (hva : Vis sg ay)
    (hG : GivesTo (cxOf C8.CX0 X.prog X.w X.K X.mg X.base Nz qz sz z cdz X.A X.stack s H C8.E0).nox Ng y sg g cdg bg ay (X.env.qual ++ "<lambda>") TT)
    (hdb : (y == ("__debug__" : Str)) = false := by decide) (hd : (a == ("__debug__" : Str)) = false := by decide) (hcd : (a == ("__classdict__" : Str)) = false := by decide) (hd2 : (ay == ("__debug__" : Str)) = false := by decide) (hcd2 : (ay == ("__classdict__" : Str)) = false := by decide) :
    PE (cxOf C8.CX0 X.prog X.w X.K X.mg X.base Nz qz sz z cdz X.A X.stack s H C8.E0).nox (.Call (.Name y p1) [.Name a p3] [] p2)
      (fun σZ HZ Q => σZ[i]? = some (some (.ref f)) ∧ HZ c' = some (CodeO c' (X.env.qual ++ "<lambda>")) ∧ TT (fun E H' Q' => t E σ H' Q') HZ Q) := by
  refine ⟨fun pinsZ sZ σZ HZ Q IZ h => ?_⟩
  obtain ⟨hs, hc, ht⟩ := h
  refine wpAny_Call_Name_kw (ld_glob IZ hgl hm ?_ hdb)
  refine PySem.W.callWith_K (h₀ := X.base) IZ.ok.mod.kin hk ?_ (by rfl) (by rfl)
  show wpAny _ _ (spliced ((false, eval (.Name a p3) _) :: backTo p2 (starEach [] _))) _ _ sZ
  refine Calls.spliced_cons (thn ((pe_var (X := (cxOf C8.CX0 X.prog X.w X.K X.mg X.base Nz qz sz z cdz X.A X.stack s H C8.E0).nox) (pos := p3) (i := i) hN hv hd hcd).run pinsZ sZ σZ HZ (fun v H1 => v = .ref f ∧ H1 = HZ) IZ ⟨.ref f, hs, rfl, rfl⟩) fun u s1 ⟨v, H1, I1, r1, q1⟩ => ?_)
  obtain ⟨ev, eH⟩ := q1
  subst ev
  rw [eH] at I1
  obtain rfl : u = Value.ref f := r1
  refine Calls.spliced_nil ⟨I1.kIn, ?_⟩
  have unZ : Un (frs X.stack) [] H HZ s.heap s1.heap := I1.base
  have rc : codeAny (model X.prog X.w) (X.A.deeper (envOfC qz sz s.heap.objs.size z cdz)) (.call (.ref g) ⟨[.ref f], []⟩) (CR C8.CX0 (envOfC qz sz s.heap.objs.size z cdz :: X.stack) X.prog X.w HZ s1 Q C8.E0) s1 := by
    refine run_ofS (N := Ng) (ps := [ay]) (us := [.ref f]) (vs := [.ref f]) lk hcg Sg hr I1.env0 (hb s1 [.ref f] I1.kIn rfl) (.cons rfl .nil) rfl fun hr' => ?_
    have hun : ∀ HY h1, Un (frs (envOfC qz sz s.heap.objs.size z cdz :: X.stack)) [] HZ HY s1.heap h1 → Un (frs X.stack) [] H HY s.heap h1 := fun HY h1 un2 => un_frames (z := [s.heap.objs.size]) unZ (by rw [← frs_env (q := qz) (sc := sz) (g := z) (cd := cdz)]; exact un2) (fun c hc => by
        obtain rfl := List.mem_singleton.mp hc
        exact Heap.get?_none_of_le (Nat.le_refl _))
    have act := fun (W : WX) (pn : List (Addr × Obj)) (xe : Value → Shared → Prop) (E : XK) (p1 p2 : Pos) tk hW => pe_act2 (CXg := C8.CX0) (Eg := C8.E0) (Ng := Ng) (qg := y) (sg := sg) (g := g) (cdg := cdg) (pn := pn) (xe := xe) (W := W) (E := E) (p1 := p1) (p2 := p2) (i := 0) (A2 := X.A.deeper (envOfC qz sz s.heap.objs.size z cdz)) (st2 := envOfC qz sz s.heap.objs.size z cdz :: X.stack) (s2 := s1) (H2 := HZ) (tb := t E) I hun L hf hfn hfr hbind tk hW hr' (fun A outer s H hr2 => hbody A outer s H E hr2) hNg hva hd2 hcd2
    obtain ⟨t', ht', hq'⟩ := hG f c' s1 HZ Q (fun E H' Q' => t E σ H' Q') act hc ht
    exact ⟨t', ht'.nox, hq'⟩
  refine wpAny_call (codeAny_mono rc fun r s2 hq => ?_)
  cases r with
  | error e => exact (show False from hq).elim
  | ok fl =>
    cases fl with
    | ret u => exact I1.after hq
    | next => exact False.elim hq
    | brk => exact False.elim hq
    | cont => exact False.elim hq
/-- the def x that hands its first argument on to y -/
def GivesTo2 (X : Cx) (Nz : List Str) (x : Str) (sz : Scope) (z : Addr) (cdz : Value) (bz : List Stmt) (a y : Str) (q : Str) (TT : (XK → Hp → VK → Prop) → Hp → VK → Prop) (TT2 : (XK → Hp → VK → Prop) → V → Hp → VK → Prop) : Prop :=
  ∀ (f c' : Addr) (v2 : V) (s : Shared) (H : Hp) (Q : VK) (tl : XK → Hp → VK → Prop), Room 1 (X.A.deeper (envOfC x sz s.heap.objs.size z cdz)) →
    (∀ p1 p2 p3, PE (cxOf C8.CX0 X.prog X.w X.K X.mg X.base Nz x sz z cdz X.A X.stack s H C8.E0).nox (.Call (.Name y p1) [.Name a p3] [] p2) (fun σZ HZ Q => σZ[0]? = some (some (.ref f)) ∧ HZ c' = some (CodeO c' q) ∧ TT tl HZ Q)) →
    H c' = some (CodeO c' q) → TT2 tl v2 H Q →
    ∃ t, PSs (cxOf C8.CX0 X.prog X.w X.K X.mg X.base Nz x sz z cdz X.A X.stack s H C8.E0).nox bz t ∧ t { nx := fun _ H' => Q .non H', rt := Q } (L2.start Nz [.ref f, v2]) H
def tLam2 (T : List (Addr × Str)) (TT2 : (XK → Hp → VK → Prop) → V → Hp → VK → Prop) (t : XK → TE) (ta : TA) : TE := fun σ H Q => Tabs T H ∧ ∀ H1, ExtN H H1 → Tabs T H1 → ta σ H1 fun vs H2 => H2 = H1 ∧ ∃ v2, vs = [v2] ∧ TT2 (fun E H' Q' => t E σ H' Q') v2 H1 Q
/-- x(lambda: body, e2), x handing the lambda on to y -/
theorem pe_lamcall2 {X : Cx} {T : List (Addr × Str)} {TT : (XK → Hp → VK → Prop) → Hp → VK → Prop} {TT2 : (XK → Hp → VK → Prop) → V → Hp → VK → Prop} {x a b : Str} {z c P : Addr} {k : Nat} {pz : Arguments} {bz : List Stmt} {sz : Scope} {dVz kVz docz pmz cdz ctz ocz : Value} {anz odz : Option Addr} {oslz : Array (Option Value)} {Nz : List Str}
    {y ay : Str} {g : Addr} {pg : Arguments} {bg : List Stmt} {sg : Scope} {dV kV doc pmg cdg ct oc : Value} {an od : Option Addr} {osl : Array (Option Value)} {Ng : List Str}
    {params : Arguments} {body : Expr} {scope : Scope} {t : XK → TE} {e2 : Expr} {ta : TA} {p lpos pos : Pos} (hg : Gl X x) (hm : X.mg x = some (.ref z)) (hk : PySem.W.keepIn X.K (.ref z) = true)
    (lk : X.K.lookup z = some ⟨ocz, odz, .func (PySem.W.fnOf x x pz bz sz dVz kVz docz pmz anz cdz ctz), oslz⟩) (hcz : PySem.W.codeIn X.K cdz x = true) (hb : L2.Binds X.K (PySem.W.fnOf x x pz bz sz dVz kVz docz pmz anz cdz ctz) [a, b] []) (Sz : FnScope Nz [a, b] sz) (hNz : Nz[0]? = some a) (hvz : Vis sz a)
    (hgy : ∀ A st s H, Gl (cxOf C8.CX0 X.prog X.w X.K X.mg X.base Nz x sz z cdz A st s H C8.E0).nox y) (hmy : X.mg y = some (.ref g)) (hky : PySem.W.keepIn X.K (.ref g) = true)
    (lky : X.K.lookup g = some ⟨oc, od, .func (PySem.W.fnOf y y pg bg sg dV kV doc pmg an cdg ct), osl⟩) (hcg : PySem.W.codeIn X.K cdg y = true) (hby : L2.Binds X.K (PySem.W.fnOf y y pg bg sg dV kV doc pmg an cdg ct) [ay] []) (Sg : FnScope Ng [ay] sg) (hNg : Ng[0]? = some ay) (hva : Vis sg ay)
    (hG : ∀ A st s H, GivesTo (cxOf C8.CX0 X.prog X.w X.K X.mg X.base Nz x sz z cdz A st s H C8.E0).nox Ng y sg g cdg bg ay (X.env.qual ++ "<lambda>") TT)
    (hZ : GivesTo2 X Nz x sz z cdz bz a y (X.env.qual ++ "<lambda>") TT TT2)
    (TB : TabB X.base X.mg c P) (hcode : X.env.code = .ref c) (hmT : (P, X.env.qual ++ "<lambda>") ∈ T) (hu : ∀ p ∈ T, p.1 = P → p.2 = X.env.qual ++ "<lambda>") (hr : Room (k + 3) X.A) (L : LamS X.env.scope scope) (hdef : defaultsOf params X.env = ([], []))
    (hbind : ∀ (q : Str) (cl : List (Str × Addr)) (pm cv ctv : Value), bindArgs (PySem.W.kla_fn "<lambda>" q params body scope cl pm cv ctv) ⟨[], []⟩ = pure [])
    (hbody : ∀ (A : Around) (outer : List Env) (s : Shared) (H : Hp) (E : XK) (f c' : Addr), Room k (A.deeper (lamEnv X scope s.heap.objs.size f c')) → PE (lamCx X A outer s H E scope f c') body (t E))
    (ha : PA X [e2] ta) (he2 : starEach [e2] X.env = [(false, eval e2 X.env)] := by rfl)
    (hdb : (x == ("__debug__" : Str)) = false := by decide) (hd : (a == ("__debug__" : Str)) = false := by decide) (hcd : (a == ("__classdict__" : Str)) = false := by decide)
    (hdby : (y == ("__debug__" : Str)) = false := by decide) (hdy : (ay == ("__debug__" : Str)) = false := by decide) (hcdy : (ay == ("__classdict__" : Str)) = false := by decide) :
    PE X (.Call (.Name x p) [.Lambda params body scope lpos, e2] [] pos) (tLam2 T TT2 t ta) := by
  refine ⟨fun pins s σ H Q I h => ?_⟩
  obtain ⟨hT, h⟩ := h
  refine wpAny_Call_Name_kw (ld_glob I hg hm ?_ hdb)
  refine PySem.W.callWith_K (h₀ := X.base) I.ok.mod.kin hk ?_ (by rfl) (by rw [he2]; rfl)
  show wpAny _ _ (spliced ((false, eval (.Lambda params body scope lpos) X.env) :: backTo pos (starEach [e2] X.env))) _ _ s
  refine Calls.spliced_cons (lam_make2 I TB hcode hmT hu hT hdef (L.has I.ok) fun f c' pm' ctv H1 s' I1 eN T1 hf hfn hfr hco => ?_)
  have fl : f ≠ X.env.locals := fun e => by
    obtain ⟨m, ⟨o, es, ep, ho, hd, _⟩, _⟩ := I1.loc
    rw [← e, hf] at ho
    cases ho
    cases hd
  have ff : f ∉ X.fs := fun e => hfr (by
    rcases I1.ok.stk with h | ⟨h, _⟩
    · rw [h]; exact e
    · rw [h]
      unfold frs
      rw [List.filterMap_cons]
      split
      · exact e
      · exact List.mem_cons_of_mem _ e)
  have I1' : Inv X ((f, PySem.W.kla_obj "<lambda>" (X.env.qual ++ "<lambda>") params body scope (cloFrom X.env.cells scope.names []) pm' c' ctv) :: pins) σ H1 s' := I1.pins_of fun q hq => by
    rcases List.mem_cons.mp hq with rfl | hq
    · exact ⟨hf, hfn, fl, ff, fun v z => nomatch z⟩
    · exact I1.pin q (List.mem_append_right _ hq)
  refine thn (ha.run pos _ s' σ H1 _ I1' (h H1 eN T1)) fun us s2 ⟨vs, H2, I2, rv, eH, v2, ev, q⟩ => ?_
  subst ev eH
  obtain ⟨u2, rfl, ru⟩ : ∃ u2, us = [u2] ∧ RelV v2 u2 := by
    cases rv with
    | cons r rr => cases rr; exact ⟨_, rfl, r⟩
  obtain ⟨hf2, hfn2, _, _, _⟩ := I2.pin (f, _) (List.mem_append_right _ List.mem_cons_self)
  have I3 : Inv X pins σ H2 s2 := I2.pins_of fun q hq => I2.pin q (List.mem_append_right _ (List.mem_cons_of_mem _ hq))
  refine ⟨I3.kIn, ?_⟩
  have rc : codeAny (model X.prog X.w) X.A (.call (.ref z) ⟨[.ref f, u2], []⟩) (CR C8.CX0 X.stack X.prog X.w H2 s2 Q C8.E0) s2 := by
    refine run_ofS (N := Nz) (ps := [a, b]) (us := [.ref f, u2]) (vs := [.ref f, v2]) lk hcz Sz hr I3.env0 (hb s2 [.ref f, u2] I3.kIn rfl) (.cons rfl (.cons ru .nil)) rfl fun hr' => ?_
    obtain ⟨t', ht', hq'⟩ := hZ f c' v2 s2 H2 Q (fun E H' Q' => t E σ H' Q') (hr'.mono (by omega)) (fun p1 p2 p3 => pe_hand (i := 0) I3 L hf2 hfn2 hfr (hbind _ _ _ _ _) hr' (fun A outer s H E hr2 => hbody A outer s H E f c' hr2) hNz hvz (hgy _ _ _ _) hmy hky lky hcg hby Sg hNg hva (hG _ _ _ _) hdby hd hcd hdy hcdy) hco q
    exact ⟨t', ht'.nox, hq'⟩
  refine wpAny_call (codeAny_mono rc fun r s3 hq => ?_)
  cases r with
  | error e => exact (show False from hq).elim
  | ok fl =>
    cases fl with
    | ret u => exact I3.after hq
    | next => exact False.elim hq
    | brk => exact False.elim hq
    | cont => exact False.elim hq
end So

namespace K31
open PySem PySem.Spec PyProof.Rows L2 So LamX
abbrev sHeard : Stmt := topS 37
abbrev sBad : Stmt := topS 47
abbrev heardN : List Str := ["_law_ask", "_law_caught", "error"]
abbrev badN : List Str := ["_law_ask", "_law_due_here", "_law_caught"]
theorem scHeard : FnScope heardN ["_law_ask"] (defScope sHeard) := ⟨rfl, rfl, rfl, by decide +kernel, rfl, by decide +kernel, by decide +kernel⟩
theorem scBad : FnScope badN ["_law_ask", "_law_due_here"] (defScope sBad) := ⟨rfl, rfl, rfl, by decide +kernel, rfl, by decide +kernel, by decide +kernel⟩
theorem pe_imp {X : Cx} {e : Expr} {t : TE} (h : PE X e t) : PE X e (fun σ H Q => ∃ Q0 : VK, t σ H Q0 ∧ ∀ v H', Q0 v H' → Q v H') :=
  ⟨fun pins s σ H Q I ⟨Q0, h1, h2⟩ => thn (h.run pins s σ H Q0 I h1) fun u s' ⟨v, H', I', r, q⟩ => ⟨v, H', I', r, h2 v H' q⟩⟩
theorem takes_len {X : Cx} {W : WX} (tk : Takes X W) : Takes X (fun c d σ H => σ.length = X.N.length → W c d σ H) := fun u s' ⟨a, B, sI, pins, σ, H, cls, d, e, I, nb, up, sky, na, os, ag, w⟩ =>
  tk u s' ⟨a, B, sI, pins, σ, H, cls, d, e, I, nb, up, sky, na, os, ag, w I.len⟩
/-- a call that raises BadChain: what is kept of it -/
def EchB (CB : Addr) (Q : VK) : XK := fun cls d H' => ∃ (v : V) (dd : Addr), cls = .ref CB ∧ d = some dd ∧ H' dd = some (.xd [("at", v)]) ∧ ∀ (H'' : Hp) (r : Addr), Same H' H'' → H'' r = some (Xo (.ref CB) (some dd) r) → Q (.ref r) H''
def TTh (CB : Addr) : (XK → Hp → VK → Prop) → Hp → VK → Prop := fun tl H Q => tl (EchB CB Q) H (fun _ _ => False)
/-- what the top says of BadChain, to the law -/
structure Hrd (K : PySem.W.Frag) (mg : Str → Option Value) (CT CB : Addr) : Prop where
  gT : mg "TillError" = some (.ref CT)
  gB : mg "BadChain" = some (.ref CB)
  isi : mg "isinstance" = none
  rpr : mg "repr" = none
  te : PySem.W.exmOne K (.ref CB) (.ref CT) = some true
  er : Err K CB
  bb : PySem.W.kitOne K (.ref CB) (.ref CB) = some true
  fB : PySem.W.findIn K (.ref CB) "at" = some none
theorem heard_gives {X : Cx} {q : Str} {g CT CB : Addr} {cdg : Value} (R : Hrd X.K X.mg CT CB) : GivesTo X heardN "_law_heard" (defScope sHeard) g cdg (defBody sHeard) "_law_ask" q (TTh CB) := by
  intro f c' s H Q tl act hc h
  refine ⟨_, (pss_cons (ps_set (i := 1) scHeard.nd rfl (.inl rfl) pe_non)
      (pss_cons (ps_try_keep (X := (cxOf C8.CX0 X.prog X.w X.K X.mg X.base heardN "_law_heard" (defScope sHeard) g cdg X.A X.stack s H C8.E0).nox) (i := 2) (n := "error") (c := .ref CT)
        (tb := fun W D σ H => ∃ Ech : XK, (∀ cls d σ' H', Ech cls d H' → σ'.length = 3 → W cls d σ' H') ∧ σ[0]? = some (some (.ref f)) ∧ H c' = some (CodeO c' q) ∧ ∃ Q0 : VK, tl Ech H Q0 ∧ ∀ v H', Q0 v H' → D.nx σ H')
        rfl rfl rfl scHeard.nd rfl rfl ⟨rfl, by decide, .inl R.gT⟩ LamX.takes0 (fun W pn xe tk _ => ?_) (fun a pn => pss_one (ps_set (i := 1) scHeard.nd rfl (.inl rfl) (pv 2))))
      (pss_one (ps_ret (pv 1))))), ?_⟩
  · refine ⟨fun pins s' σ H' D I h' => ?_⟩
    obtain ⟨Ech, hW, h1, h2, Q0, h3, h4⟩ := h'
    exact (pss_one (ps_expr (pe_imp (act (fun c d σ H => σ.length = 3 → W c d σ H) pn xe Ech _ _ (takes_len tk) hW)))).run pins s' σ H' D I ⟨Q0, ⟨h1, h2, h3⟩, fun v H'' z => h4 v H'' z⟩
  · refine ⟨EchB CB Q, fun cls d σ' H' ⟨v, dd, e1, e2, e3, q3⟩ hl => ?_, rfl, hc, fun _ _ => False, h, fun v H' z => z.elim⟩
    obtain ⟨x0, x1, x2, rfl⟩ : ∃ x0 x1 x2, σ' = [x0, x1, x2] := by
      match σ', hl with
      | [x0, x1, x2], _ => exact ⟨x0, x1, x2, rfl⟩
    subst e1 e2
    refine ⟨true, R.te, fun _ a ha => ?_, fun y => nomatch y⟩
    refine ⟨_, rfl, _, rfl, ?_⟩
    exact q3 _ a (same_upd0 ha) upd_same
/-- what the law makes of a call that must raise BadChain with the value at -/
def QBad (K : PySem.W.Frag) (CB : Addr) (v2 : V) (Q : VK) : VK := fun y H1 => ∃ (a dd : Addr) (dv : PyData), y = .ref a ∧ H1 a = some (Xo (.ref CB) (some dd) a) ∧ H1 dd = some (.xd [("at", v2)]) ∧ Dd K H1 v2 dv ∧ OkD 1000000 20 dv ∧ Q (.bl true) H1
def TTb (K : PySem.W.Frag) (CB : Addr) : (XK → Hp → VK → Prop) → V → Hp → VK → Prop := fun tl v2 H Q => tl (EchB CB (QBad K CB v2 Q)) H (fun _ _ => False)
theorem bad_gives {X : Cx} {q : Str} {z CT CB : Addr} {cdz : Value} (hg : X.A.guards = some []) (R : Hrd X.K X.mg CT CB) : GivesTo2 X badN "_law_is_bad" (defScope sBad) z cdz (defBody sBad) "_law_ask" "_law_heard" q (TTh CB) (TTb X.K CB) := by
  intro f c' v2 s H Q tl hr act hc h
  have hg2 : (X.A.deeper (envOfC "_law_is_bad" (defScope sBad) s.heap.objs.size z cdz)).guards = some [] := hg
  refine ⟨_, (pss_cons (ps_set (i := 2) scBad.nd rfl (.inl rfl) (pe_imp (act _ _ _)))
    (pss_one (ps_ret (pe_and (pe_callB call_isXo (by rfl) R.isi (by decide +kernel) (pa_cons (pv 2) (pa_cons (pe_glob (v := .ref CB) rfl R.gB rfl) pa_nil)))
      (pe_one (pe_cmpR op_eq (pe_callB (call_reprG hg2 hr.units) (by rfl) R.rpr (by decide +kernel) (pa_cons (pe_xo R.er R.fB (pv 2)) pa_nil)) (pe_callB (call_reprG hg2 hr.units) (by rfl) R.rpr (by decide +kernel) (pa_cons (pv 1) pa_nil)) (nomark _))))))), ?_⟩
  refine ⟨QBad X.K CB v2 Q, ⟨rfl, hc, h⟩, fun y H1 ⟨a, dd, dv, e1, e2, e3, e4, e5, q1⟩ => ?_⟩
  subst e1
  obtain ⟨o1, o2, o3⟩ := e5.repr (by decide) (by decide)
  refine ⟨_, rfl, a, _, dd, _, _, _, true, rfl, e2, e3, R.er, .own CB, R.bb, _, rfl, iteT ?_⟩
  refine ⟨_, rfl, a, dd, _, v2, rfl, e2, e3, by simp [List.lookup], _, dv, rfl, e4, o1, o2, o3, _, rfl, _, dv, rfl, e4, o1, o2, o3, rfl, ?_⟩
  rw [show decide (V.str dv.shown = V.str dv.shown) = true from decide_eq_true rfl]
  exact q1
end K31

namespace K31
open PySem PySem.Spec PyProof.Rows L2 So LamX
def OffN (p : Addr) (H H' : Hp) : Prop := ∀ b o, b ≠ p → H b = some o → (∀ ps, o ≠ .tbl ps) → H' b = some o
theorem lst_ne {xs : List V} : ∀ ps, HO.lst xs ≠ .tbl ps := fun ps z => nomatch z
theorem tup_ne {xs : List V} : ∀ ps, HO.tup xs ≠ .tbl ps := fun ps z => nomatch z
theorem ins_ne {C d : Addr} {fs : List (Str × V)} : ∀ ps, HO.ins C d fs ≠ .tbl ps := fun ps z => nomatch z
theorem dk_ne {kvs : List (Key × V)} : ∀ ps, HO.dK kvs ≠ .tbl ps := fun ps z => nomatch z
theorem OffN.refl {p : Addr} {H : Hp} : OffN p H H := fun _ _ _ e _ => e
theorem OffN.trans {p : Addr} {H H1 H2 : Hp} (a : OffN p H H1) (b : OffN p H1 H2) : OffN p H H2 := fun c o n e t => b c o n (a c o n e t) t
theorem OffN.same {p : Addr} {H H1 : Hp} (s : Same H H1) : OffN p H H1 := fun c o _ e _ => s c o e
theorem OffN.off {p : Addr} {H H1 : Hp} (s : Off p H H1) : OffN p H H1 := fun c o n e _ => s c o n e
theorem OffN.ext {p : Addr} {H H1 : Hp} (s : ExtN H H1) : OffN p H H1 := fun c o _ e t => s c o e t
theorem tabs_off {T : List (Addr × Str)} {H H' : Hp} {p : Addr} {xs : List V} (hp : H p = some (.lst xs)) (t : Tabs T H) (o : Off p H H') : Tabs T H' := by
  intro y hy
  obtain ⟨ps, h1, h2, h3⟩ := t y hy
  refine ⟨ps, o _ _ (ne_of h1 hp (fun z => nomatch z)) h1, h2, fun pos cv hc => ?_⟩
  obtain ⟨c, e, hcode⟩ := h3 pos cv hc
  exact ⟨c, e, o _ _ (ne_of hcode hp (fun z => nomatch z)) hcode⟩
theorem tabs_same {T : List (Addr × Str)} {H H' : Hp} (t : Tabs T H) (s : Same H H') : Tabs T H' := t.ext s
theorem Pen.ext {H H' : Hp} {p l : Addr} {ns : List Int} {n : Nat} {g : Int} (h : Pen H p l ns n g) (s : ExtN H H') : Pen H' p l ns n g := ⟨s _ _ h.pen lst_ne, s _ _ h.cells lst_ne, h.left⟩
section
variable {p l : Addr} {ns : List Int} {n : Nat} {g : Int} {H H' : Hp}
theorem FcAt.offN {v : V} {f : Face} (h : FcAt H v f) (hp : Pen H p l ns n g) (s : OffN p H H') : FcAt H' v f := by
  obtain ⟨q, e, h⟩ := h
  exact ⟨q, e, s _ _ (fun z => by rw [z, hp.pen] at h; cases h) h tup_ne⟩
theorem PtAt.offN {v : V} {q : Part} (h : PtAt H v q) (hp : Pen H p l ns n g) (s : OffN p H H') : PtAt H' v q := by
  obtain ⟨t, u, x, e, ht, hu, hx⟩ := h
  exact ⟨t, u, x, e, s _ _ (fun z => by rw [z, hp.pen] at ht; cases ht) ht tup_ne, hu.offN hp s, hx.offN hp s⟩
theorem PsAt.offN {pl : Addr} {ps : List Part} (h : PsAt H pl ps) (hp : Pen H p l ns n g) (ne : pl ≠ p) (s : OffN p H H') : PsAt H' pl ps := by
  obtain ⟨vs, h1, h2, h3⟩ := h
  refine ⟨vs, s _ _ ne h1 lst_ne, h2, fun i v hv => ?_⟩
  obtain ⟨q, hq, h⟩ := h3 i v hv
  exact ⟨q, hq, h.offN hp s⟩
theorem SayAt.offN {CS : Addr} {u : V} {f : Face} (h : SayAt CS H u f) (hp : Pen H p l ns n g) (s : OffN p H H') : SayAt CS H' u f := by
  obtain ⟨a, e, dx, ha⟩ := h
  exact ⟨a, e, dx, s _ _ (fun z => by rw [z, hp.pen] at ha; cases ha) ha ins_ne⟩
theorem StAt.offN {CS C a : Addr} {q : Part} (h : StAt CS C H a q) (hp : Pen H p l ns n g) (s : OffN p H H') : StAt CS C H' a q := by
  obtain ⟨dx, u, v, ha, hu, hv⟩ := h
  exact ⟨dx, u, v, s _ _ (fun z => by rw [z, hp.pen] at ha; cases ha) ha ins_ne, hu.offN hp s, hv.offN hp s⟩
end
/-- what must be raised, with the law's is_bad behind it -/
theorem bad_of {K : PySem.W.Frag} {CB : Addr} {v2 : V} {dv : PyData} {H : Hp} {Q : VK} (hd : ∀ H'', Same H H'' → Dd K H'' v2 dv) (ok : OkD 1000000 20 dv) (q : ∀ H'', Same H H'' → Q (.bl true) H'') : Bad CB v2 H (EchB CB (QBad K CB v2 Q)) :=
  fun d H' s e => ⟨v2, d, rfl, rfl, e, fun H'' r s2 hr => ⟨r, d, dv, rfl, hr, s2 _ _ e, hd H'' (s.trans s2), ok, q H'' (s.trans s2)⟩⟩
theorem Bad.same {CB : Addr} {v : V} {H H1 : Hp} {E : XK} (h : Bad CB v H E) (s : Same H H1) : Bad CB v H1 E := fun d H' s2 e => h d H' (s.trans s2) e
theorem madeT3 {K : PySem.W.Frag} {CS CB C x dx : Addr} {u v r : V} {H1 : Hp} {Q3 : VK} {E : XK} (hx : H1 x = none) (hd : H1 dx = none) (ne : dx ≠ x) (hu : Sy CS H1 u) (hv : Sy CS H1 v) (hr : ∀ H, Rsn K H r true) (h : ∀ (H' : Hp), Same H1 H' → H' x = some (.ins C dx (pf u v r)) → Q3 .non H') :
    spTInit K CS CB C [.ref x, u, v, r] (upd (upd H1 dx (.own x)) x (.ins C dx [])) Q3 E := by
  have s0 : Same H1 (upd (upd H1 dx (.own x)) x (.ins C dx [])) := fun c o e => by
    rw [upd_ne (ne_of_none e hx), upd_ne (ne_of_none e hd)]
    exact e
  have sy : ∀ {y : V}, Sy CS H1 y → Sy CS (upd (upd H1 dx (.own x)) x (.ins C dx [])) y := fun ⟨a, z, m, b, e, d, ha⟩ => ⟨a, z, m, b, e, d, s0 _ _ ha⟩
  exact ⟨x, dx, u, v, r, rfl, upd_same, .inr ⟨sy hu, .inr ⟨sy hv, .inr ⟨hr _, fun H' o e => h H' (fun c u k => o c u (ne_of_none k hx) (s0 c u k)) e⟩⟩⟩⟩
/-- a step compared -/
theorem ownT {K : PySem.W.Frag} {mg : Str → Option Value} {CS CT a a' : Addr} {q q' : Part} {H : Hp} {g : Bool → Bool} {Q : VK} {E : XK} (S : Stp K mg CT) (OT : Own1 K CT) (h : StAt CS CT H a q) (h' : StAt CS CT H a' q') (o : q.Ok) (o' : q'.Ok) (k : ∀ H', Same H H' → Q (.bl (g (decide (q = q')))) H') :
    So.rOwn CT K (spTEq K CS CT) E g (.ref a) (.ref a') H Q := by
  obtain ⟨d1, u1, v1, e1, _⟩ := id h
  obtain ⟨d2, u2, v2, e2, _⟩ := id h'
  exact ⟨a, d1, _, .ref CT, rfl, e1, .base (.ins e2 S.cl OT.ha OT.hn OT.htk OT.hm), OT.nf, a, .ref a', q, rfl, h, o, .inl ⟨a', q', rfl, h', o', fun H' s => ⟨_, rfl, k H' s⟩⟩⟩
theorem ownTN {K : PySem.W.Frag} {CS CT a : Addr} {y : V} {t : Value} {q : Part} {H : Hp} {g : Bool → Bool} {Q : VK} {E : XK} (h : StAt CS CT H a q) (o : q.Ok) (ty : TyX K H y t) (hk : PySem.W.kitOne K t (.ref CT) = some false) (hf : PySem.W.notFirst K CT t = true) (k : Q (.bl (g false)) H) :
    So.rOwn CT K (spTEq K CS CT) E g (.ref a) y H Q := by
  obtain ⟨d1, u1, v1, e1, _⟩ := id h
  exact ⟨a, d1, _, t, rfl, e1, ty, hf, a, y, q, rfl, h, o, .inr ⟨t, ty, hk, _, rfl, k⟩⟩
/-- an odd value: of a built-in type, whatever comes behind -/
def OddV (K : PySem.W.Frag) (p : Addr) (H : Hp) (v : V) (T : String) : Prop := ∀ H', OffN p H H' → TyX K H' v (.type T)
end K31

namespace K31
open PySem PySem.Spec PyProof.Rows L2 So LamX
abbrev sSr : Stmt := topS 48
abbrev srN : List Str := ["_law_pen_here", "_law_parts_here", "_law_u", "_law_v", "_law_turned_here", "_law_unlike", "_law_cause", "_law_made_here", "_law_odd", "_law_wrong", "_law_thing"]
theorem scSr : FnScope srN ["_law_pen_here", "_law_parts_here"] (defScope sSr) := ⟨rfl, rfl, rfl, by decide +kernel, rfl, by decide +kernel, by decide +kernel⟩
theorem op_eqOwnK {X : Cx} {K : PySem.W.Frag} {CX : CXT} {k : Nat} {C f : Addr} {fd : FuncData} {ps : List Str} {sp : Sp} {E : XK} (h : X.K = K) (F : FnOk X.prog X.w X.K X.mg X.base CX k f fd ps sp) (hs : PySem.W.findIn X.K (.ref C) "__eq__" = some (some (.ref f))) (hf : PySem.W.isFn X.K (.ref f) = true) (hb : Binds X.K fd ps []) (hx : Passes CX X E) (hr : Room k X.A) :
    OpR X (compareOp .Eq) (So.rOwn C K sp E id) := by
  subst h
  exact op_eqOwn F hs hf hb hx hr
theorem shaped_e : SeqAt.shaped (.list []) = true := by decide +kernel
theorem eqv_e : PyData.eqv (.list []) (.list []) = true := by decide +kernel
theorem same2 {H1 : Hp} {x dx : Addr} {o : HO} (hx : H1 x = none) (hd : H1 dx = none) : Same H1 (upd (upd H1 dx (.own x)) x o) := fun c u e => by
  rw [upd_ne (ne_of_none e hx), upd_ne (ne_of_none e hd)]
  exact e
/-- reason, other, one: the keywords as the law gives them -/
def kRoo {α : Type} : List α → List α → List α
  | [u], [r, o, n] => [u, n, o, r]
  | _, _ => []
section
variable {P : Program} {w : World} {K : PySem.W.Frag} {mg : Str → Option Value} {base : Heap}
def spSr (T : List (Addr × Str)) : Sp := fun vs H Q _ => ∃ (p l pl : Addr) (ns : List Int) (n : Nat) (g : Int) (ps : List Part), vs = [.ref p, .ref pl] ∧ Pen H p l ns n g ∧ n < 900000 ∧ pl ≠ p ∧ PsAt H pl ps ∧ ps ≠ [] ∧ ps.length ≤ 64 ∧ (∀ x ∈ ps, POk x) ∧ Tabs T H ∧
  ∀ (n' : Nat) (g' : Int) (H' : Hp), n' ≤ n + 6 → OffN p H H' → Pen H' p l ns n' g' → Tabs T H' → Q (.bl true) H'
theorem ok_sr {T : List (Addr × Str)} {CS CT CB CE f fI fS fTu fM fV fE fX fP fH fB fZ c1 P1 : Addr} {fd fdI fdS fdTu fdM fdV fdE fdX fdP fdH fdB fdZ : FuncData} (F : Fun K "_law_step_right" "_law_step_right" sSr f fd) (hcode : fd.code = .ref c1) (TB : TabB base mg c1 P1)
    (hT1 : ∀ n f' c', (P1, (envOfC "_law_step_right" (defScope sSr) n f' c').qual ++ "<lambda>") ∈ T) (hT2 : ∀ n f' c', ∀ q ∈ T, q.1 = P1 → q.2 = (envOfC "_law_step_right" (defScope sSr) n f' c').qual ++ "<lambda>")
    (W : Words K mg) (TS : Say K mg CS) (S : Stp K mg CT) (OT : Own1 K CT) (OS : Own1 K CS) (R : Hrd K mg CE CB)
    (M : Mk K CT fI) (bI : Binds K fdI ["self", "one", "other", "reason"] []) (kI : KBn K fdI ["self", "one", "other", "reason"] 1 ["reason", "other", "one"] kRoo kRoo) (GI : FnOk P w K mg base (L2.CX P w) 3 fI fdI ["self", "one", "other", "reason"] (spTInit K CS CB CT))
    (FS : Fun K "_law_saying" "_law_saying" sSaying fS fdS) (bS : Binds K fdS ["_law_face_here"] []) (gS : mg "_law_saying" = some (.ref fS)) (GS : FnOk P w K mg base CX0 6 fS fdS ["_law_face_here"] (spLSay CS))
    (FX : Fun K "_law_text" "_law_text" sText fX fdX) (bX : Binds K fdX ["_law_face_here"] []) (gX : mg "_law_text" = some (.ref fX))
    (FTu : Fun K "_law_turned" "_law_turned" sTurned fTu fdTu) (bTu : Binds K fdTu ["_law_parts_here"] []) (gTu : mg "_law_turned" = some (.ref fTu)) (GTu : FnOk P w K mg base CX0 2 fTu fdTu ["_law_parts_here"] spTurned)
    (FM : Fun K "_law_made" "_law_made" sMade fM fdM) (bM : Binds K fdM ["_law_parts_here"] []) (gM : mg "_law_made" = some (.ref fM)) (GM : FnOk P w K mg base CX0 7 fM fdM ["_law_parts_here"] (spMade CS CT))
    (sV : PySem.W.findIn K (.ref CT) "__invert__" = some (some (.ref fV))) (iV : PySem.W.isFn K (.ref fV) = true) (bV : Binds K fdV ["self"] []) (GV : FnOk P w K mg base CX0 7 fV fdV ["self"] (spTInv CS CT))
    {fSV : Addr} {fdSV : FuncData} (sSV : PySem.W.findIn K (.ref CS) "__invert__" = some (some (.ref fSV))) (iSV : PySem.W.isFn K (.ref fSV) = true) (bSV : Binds K fdSV ["self"] []) (GSV : FnOk P w K mg base CX0 6 fSV fdSV ["self"] (spInv CS))
    (sE : PySem.W.findIn K (.ref CT) "__eq__" = some (some (.ref fE))) (iE : PySem.W.isFn K (.ref fE) = true) (bE : Binds K fdE ["self", "other"] []) (nE : PySem.W.findIn K (.ref CT) "__ne__" = some (some (.builtin "object.__ne__"))) (GE : FnOk P w K mg base CX0 4 fE fdE ["self", "other"] (spTEq K CS CT))
    (sZ : PySem.W.findIn K (.ref CT) "__str__" = some (some (.ref fZ))) (iZ : PySem.W.isFn K (.ref fZ) = true) (bZ : Binds K fdZ ["self"] []) (GZ : FnOk P w K mg base CX0 3 fZ fdZ ["self"] (spTStr CS CT))
    (FP : Fun K "_law_pick" "_law_pick" sPick fP fdP) (bP : Binds K fdP ["_law_pen_here", "_law_some"] []) (gP : mg "_law_pick" = some (.ref fP)) (GP : FnOk P w K mg base CX0 2 fP fdP ["_law_pen_here", "_law_some"] (spPick K))
    (FH : Fun K "_law_heard" "_law_heard" sHeard fH fdH) (bH : Binds K fdH ["_law_ask"] []) (gH : mg "_law_heard" = some (.ref fH))
    (FB : Fun K "_law_is_bad" "_law_is_bad" sBad fB fdB) (bB : Binds K fdB ["_law_ask", "_law_due_here"] []) (gB : mg "_law_is_bad" = some (.ref fB)) :
    FnG P w K mg base CX0 13 f fd ["_law_pen_here", "_law_parts_here"] (spSr T) := by
  have GX : FnOk P w K mg base CX0 1 fX fdX ["_law_face_here"] spLText := ok_ltext FX W
  obtain ⟨ocH, odH, kVH, docH, pmH, anH, cdvH, ctH, oslH, efdH, lkH, hcH⟩ := FH.ex
  subst efdH
  obtain ⟨ocB, odB, kVB, docB, pmB, anB, cdvB, ctB, oslB, efdB, lkB, hcB⟩ := FB.ex
  subst efdB
  refine fnG_ofC F hcode scSr (fun vs H Q E h => ?_) (fun A outer s H vs Q E hg hr h => ?_)
  · obtain ⟨_, _, _, _, _, _, _, rfl, _⟩ := h
    rfl
  · obtain ⟨p, l, pl, ns, n, g, ps, rfl, hp, hn, npl, hP, hne, h64, hok, hT, q⟩ := h
    have hr1 : Room 1 _ := hr.mono (by decide)
    have hr2 : Room 2 _ := hr.mono (by decide)
    have hr4 : Room 4 _ := hr.mono (by decide)
    have hr5 : Room 5 _ := hr.mono (by decide)
    have hr6 : Room 6 _ := hr.mono (by decide)
    have hr7 : Room 7 _ := hr.mono (by decide)
    have hg2 : (A.deeper (envOfC "_law_step_right" (defScope sSr) s.heap.objs.size f (.ref c1))).guards = some [] := hg
    refine ⟨_, (pss_cons (ps_asg (pe_ix ix_list (pv 1) pe_int (fun _ _ => rfl)) (pg_tup rfl (pgs_cons (pg_name (i := 2) scSr.nd rfl (Or.inl rfl)) (pgs_cons (pg_name (i := 3) scSr.nd rfl (Or.inl rfl)) (pgs_cons (pg_name (i := 6) scSr.nd rfl (Or.inr rfl)) pgs_nil)))))
      (pss_cons (ps_set (i := 7) scSr.nd rfl (.inr rfl) (pe_makeK0 M GI hr4 (by rfl) S.mgC kI passNo (pk_cons (pv 6) (pk_cons (pe_call GS hr6 (by rfl) gS FS.kp bS .nil pass0 (pa_cons (pv 3) pa_nil)) (pk_cons (pe_call GS hr6 (by rfl) gS FS.kp bS .nil pass0 (pa_cons (pv 2) pa_nil)) pk_nil)))))
      (pss_cons (ps_cut (ps_if (pt_cmpR op_ne (pe_callTy (call_strOwn GZ sZ iZ bZ pass0 hr5) (by rfl) W.str (by decide +kernel) (pa_cons (pv 7) pa_nil)) (pe_op op_add_str (pe_op op_add_str (pe_op op_add_str (pe_op op_add_str (pe_call GX hr1 (by rfl) gX FX.kp bX .nil pass0 (pa_cons (pv 2) pa_nil)) pe_str) (pe_call GX hr1 (by rfl) gX FX.kp bX .nil pass0 (pa_cons (pv 3) pa_nil))) pe_str) (pe_callTy (So.CallR.or call_str_int SkE.call_str_str) (by rfl) W.str (by decide +kernel) (pa_cons (pv 6) pa_nil))) (nomark _)) (pss_one (ps_ret pe_bl)) pss_nil))
      (pss_cons (ps_set (i := 4) scSr.nd rfl (.inl rfl) (pe_ix ix_list (pe_call GM hr7 (by rfl) gM FM.kp bM .nil pass0 (pa_cons (pe_call GTu hr2 (by rfl) gTu FTu.kp bTu .nil pass0 (pa_cons (pe_slice sl_list (pv 1) po_none (po_some pe_int)) pa_nil)) pa_nil)) pe_int (fun _ _ => rfl)))
      (pss_cons (ps_if (PW.pt (pw_or (pt_cmpR (op_neOwn GE sE iE bE pass0 hr5 nE OT.hm) (pe_un (un_invOwn GV sV iV bV pass0 hr7) (pv 7)) (pv 4) (nomark _)) (pw_or (pt_not (pt_cmpR (op_eqOwn GE sE iE bE pass0 hr4) (pe_un (un_invOwn GV sV iV bV pass0 hr7) (pv 4)) (pv 7) (nomark _)))
          (pw_or (pt_cmpR (op_eqOwn GE sE iE bE pass0 hr4) (pv 7) (pe_callTy (call_strOwn GZ sZ iZ bZ pass0 hr5) (by rfl) W.str (by decide +kernel) (pa_cons (pv 7) pa_nil)) (nomark _)) (pw_or1 (pt_cmpR (op_eqOwn GE sE iE bE pass0 hr4) (pv 7) (pe_tup (pa_cons (pv 2) (pa_cons (pv 3) (pa_cons (pv 6) pa_nil)))) (nomark _))))))) (pss_one (ps_ret pe_bl)) pss_nil)
      (pss_cons (ps_set (i := 5) scSr.nd rfl (.inl rfl) (pe_lst (pa_cons (pe_make M GI hr4 (by rfl) S.mgC bI .nil passNo (pa_cons (pe_un (un_invOwn GSV sSV iSV bSV pass0 hr6) (pe_fld (pv 7) rfl)) (pa_cons (pe_fld (pv 7) rfl) (pa_cons (pv 6) pa_nil))))
          (pa_cons (pe_make M GI hr4 (by rfl) S.mgC bI .nil passNo (pa_cons (pe_fld (pv 7) rfl) (pa_cons (pe_un (un_invOwn GSV sSV iSV bSV pass0 hr6) (pe_fld (pv 7) rfl)) (pa_cons (pv 6) pa_nil))))
          (pa_cons (pe_make M GI hr4 (by rfl) S.mgC bI .nil passNo (pa_cons (pe_fld (pv 7) rfl) (pa_cons (pe_fld (pv 7) rfl) (pa_cons pe_int pa_nil)))) pa_nil)))))
      (pss_cons (ps_if (pt_cmpR (op_neD hr.units) (pe_lc (own := [("_law_thing", 10)]) (g := gName 10) (tt := _) rfl scSr.nd (pi_list (pv 5)) (blkOk_by (N := srN) (sc := defScope sSr) (by decide +kernel)) (fun _ _ _ _ _ => pg_name (i := 10) scSr.nd rfl (Or.inl rfl)) (fun _ _ _ _ _ => pts_one (pt_cmpR (op_eqOwnK (K := K) rfl GE sE iE bE pass0 hr4) (pv 10) (pv 7) (nomark _)))
          (fun _ _ _ _ _ => pv 10)) (pe_lst pa_nil) (nomark _)) (pss_one (ps_ret pe_bl)) pss_nil)
      (pss_cons (ps_set (i := 8) scSr.nd rfl (.inr rfl) (pe_call GP hr2 (by rfl) gP FP.kp bP .nil pass0 (pa_cons (pv 0) (pa_cons (pe_lst (pa_cons pe_non (pa_cons pe_int (pa_cons pe_str (pa_cons (pe_tup (pa_cons pe_str (pa_cons pe_int (pa_cons pe_bl pa_nil)))) (pa_cons pe_dnewK (pa_cons pe_bl pa_nil))))))) pa_nil))))
      (pss_cons (ps_set (i := 9) scSr.nd rfl (.inr rfl) (pe_call GP hr2 (by rfl) gP FP.kp bP .nil pass0 (pa_cons (pv 0) (pa_cons (pe_lst (pa_cons pe_non (pa_cons (pe_un un_neg pe_int) (pa_cons pe_bl (pa_cons pe_str (pa_cons pe_str (pa_cons (pe_tup (pa_cons pe_str pa_nil)) (pa_cons pe_str (pa_cons pe_dnewK pa_nil))))))))) pa_nil))))
      (pss_cons (ps_if (pt_not (pt_val (pe_lamcall2 (T := T) (TT := TTh CB) (TT2 := TTb K CB) (t := _) (k := 9) (by rfl) gB FB.kp lkB hcB bB scBad rfl (Or.inl rfl) (fun _ _ _ _ => by rfl) gH FH.kp lkH hcH bH scHeard rfl (Or.inl rfl) (fun _ _ _ _ => heard_gives R) (bad_gives hg2 R) TB rfl (hT1 _ _ _) (hT2 _ _ _) hr
            (lamS_by (sc := defScope sSr) (by decide +kernel)) rfl (fun _ _ _ _ _ => rfl) (fun A outer s H E f c' hr' => pe_make M GI (hr'.mono (by decide)) (by rfl) S.mgC bI .nil (passes_call (takes_of rfl rfl rfl rfl) (fun _ _ _ _ h => h)) (pa_cons (pv 8) (pa_cons (pv 8) (pa_cons (pv 9) pa_nil)))) (pa_cons pe_int pa_nil)))) (pss_one (ps_ret pe_bl)) pss_nil)
      (pss_cons (ps_if (pt_not (pt_val (pe_lamcall2 (T := T) (TT := TTh CB) (TT2 := TTb K CB) (t := _) (k := 9) (by rfl) gB FB.kp lkB hcB bB scBad rfl (Or.inl rfl) (fun _ _ _ _ => by rfl) gH FH.kp lkH hcH bH scHeard rfl (Or.inl rfl) (fun _ _ _ _ => heard_gives R) (bad_gives hg2 R) TB rfl (hT1 _ _ _) (hT2 _ _ _) hr
            (lamS_by (sc := defScope sSr) (by decide +kernel)) rfl (fun _ _ _ _ _ => rfl) (fun A outer s H E f c' hr' => pe_make M GI (hr'.mono (by decide)) (by rfl) S.mgC bI .nil (passes_call (takes_of rfl rfl rfl rfl) (fun _ _ _ _ h => h)) (pa_cons (pv 8) (pa_cons (pe_fldK (K := K) rfl (pv 7) rfl) (pa_cons (pv 6) pa_nil)))) (pa_cons pe_int pa_nil)))) (pss_one (ps_ret pe_bl)) pss_nil)
      (pss_cons (ps_if (pt_not (pt_val (pe_lamcall2 (T := T) (TT := TTh CB) (TT2 := TTb K CB) (t := _) (k := 9) (by rfl) gB FB.kp lkB hcB bB scBad rfl (Or.inl rfl) (fun _ _ _ _ => by rfl) gH FH.kp lkH hcH bH scHeard rfl (Or.inl rfl) (fun _ _ _ _ => heard_gives R) (bad_gives hg2 R) TB rfl (hT1 _ _ _) (hT2 _ _ _) hr
            (lamS_by (sc := defScope sSr) (by decide +kernel)) rfl (fun _ _ _ _ _ => rfl) (fun A outer s H E f c' hr' => pe_make M GI (hr'.mono (by decide)) (by rfl) S.mgC bI .nil (passes_call (takes_of rfl rfl rfl rfl) (fun _ _ _ _ h => h)) (pa_cons (pe_fldK (K := K) rfl (pv 7) rfl) (pa_cons (pv 8) (pa_cons (pv 9) pa_nil)))) (pa_cons pe_int pa_nil)))) (pss_one (ps_ret pe_bl)) pss_nil)
      (pss_one (ps_ret (pe_lamcall2 (T := T) (TT := TTh CB) (TT2 := TTb K CB) (t := _) (k := 9) (by rfl) gB FB.kp lkB hcB bB scBad rfl (Or.inl rfl) (fun _ _ _ _ => by rfl) gH FH.kp lkH hcH bH scHeard rfl (Or.inl rfl) (fun _ _ _ _ => heard_gives R) (bad_gives hg2 R) TB rfl (hT1 _ _ _) (hT2 _ _ _) hr
            (lamS_by (sc := defScope sSr) (by decide +kernel)) rfl (fun _ _ _ _ _ => rfl) (fun A outer s H E f c' hr' => pe_make M GI (hr'.mono (by decide)) (by rfl) S.mgC bI .nil (passes_call (takes_of rfl rfl rfl rfl) (fun _ _ _ _ h => h)) (pa_cons (pe_fldK (K := K) rfl (pv 7) rfl) (pa_cons (pe_fldK (K := K) rfl (pv 7) rfl) (pa_cons (pv 9) pa_nil)))) (pa_cons pe_int pa_nil)))))))))))))))), ?_⟩
    obtain ⟨vs, hl, hvl, hvs⟩ := id hP
    have hn0 : 0 < ps.length := List.length_pos_iff.mpr hne
    have hss := sizeLine_eq
    obtain ⟨q0, hq0, t0, u0, x0, ev0, ht0, hu0, hx0⟩ := hvs 0 vs[0] (List.getElem?_eq_getElem (by omega))
    have hv0 : vs[0]? = some (.ref t0) := by rw [List.getElem?_eq_getElem (by omega), ev0]
    have hk0 := hok q0 (List.mem_of_getElem? hq0)
    have ho := hk0.ok
    refine ⟨_, rfl, pl, vs, 0, .ref t0, rfl, rfl, SqL.of hl, atI_nat (j := 0) hv0, t0, _, rfl, SqT.of ht0, rfl, _, _, rfl, _, _, rfl, _, _, rfl, rfl, ?_⟩
    refine ⟨_, rfl, _, rfl, x0, q0.v, rfl, hx0, ho.v, fun H1 a1 s1 h1 => ⟨_, rfl, u0, q0.u, rfl, hu0.same s1, ho.u, fun H2 a2 s2 h2 => ?_⟩⟩
    refine ⟨rfl, rfl, fun b db eq1 eq2 eq3 => ?_⟩
    show spTInit K CS CB CT [V.ref b, a2, a1, q0.r] _ _ _
    refine madeT3 eq1 eq2 eq3 h2.sy (h1.same s2).sy (fun _ => ho.r.rsn) fun H3 s3 hb => ⟨rfl, ?_⟩
    have s123 := (s1.trans s2).trans s3
    have hB3 : StAt CS CT H3 b q0 := ⟨db, _, _, hb, h2.same s3, h1.same (s2.trans s3)⟩
    have hl3 := s123 _ _ hl
    have hu3 := hu0.same s123
    have hx3 := hx0.same s123
    have hP3 := hP.same s123
    revert s123 hB3 hl3 hu3 hx3 hP3
    clear s1 s2 s3 h1 h2 hb
    intro s123 hB3 hl3 hu3 hx3 hP3
    have e0 : Str.empty.length = 0 := by decide
    have c1 : ((", " : String) : Str).length = 2 := by decide
    have c2 : ((" by " : String) : Str).length = 4 := by decide
    have l1 := face_len ho.u
    have l2 := face_len ho.v
    have l3 := txtR_len ho.r
    obtain ⟨d3, y3, z3, hb3, hy3, hz3⟩ := id hB3
    refine ⟨fun σ H' => σ = [some (.ref p), some (.ref pl), some u0, some x0, none, none, some q0.r, some (.ref b), none, none, none] ∧ Same H3 H', ?_, ?_⟩
    · refine ⟨_, rfl, b, d3, _, rfl, hb3, b, q0, rfl, hB3, ho, fun H4 s4 => ⟨q0.txt, rfl, ?_⟩⟩
      refine ⟨_, rfl, u0, q0.u, rfl, hu3.same s4, ho.u, fun H5 s5 => ⟨_, _, rfl, rfl, by rw [c1]; omega, _, rfl, x0, q0.v, rfl, hx3.same (s4.trans s5), ho.v, fun H6 s6 => ⟨_, _, rfl, rfl, ?_, _, _, rfl, rfl, ?_, _, rfl, ?_⟩⟩⟩
      · rw [Str.length_append, c1]; omega
      · rw [Str.length_append, Str.length_append, c1, c2]; omega
      have s46 := (s4.trans s5).trans s6
      have etx : q0.txt = q0.u.txt ++ ((", " : String) : Str) ++ q0.v.txt ++ ((" by " : String) : Str) ++ txtR q0.r := by
        unfold Part.txt
        rw [show Str.empty ++ q0.u.txt = q0.u.txt from Str.ext' (by rw [Str.cps_append]; exact Array.empty_append)]
      have len : (q0.u.txt ++ ((", " : String) : Str) ++ q0.v.txt ++ ((" by " : String) : Str)).length + (txtR q0.r).length ≤ sizeLine := by
        simp only [Str.length_append, c1, c2]
        omega
      have no : ∀ y : Str, y = txtR q0.r → (!decide (V.str q0.txt = V.str (q0.u.txt ++ ((", " : String) : Str) ++ q0.v.txt ++ ((" by " : String) : Str) ++ y))) = false := by
        rintro y rfl
        rw [← etx, decide_eq_true rfl]
        rfl
      rcases ho.r with ⟨j, e, h0, h1⟩ | e
      · refine .inl ⟨j, by rw [e], mom_log h0 h1, _, _, rfl, rfl, by rw [e] at len; exact len, rfl, _, rfl, ?_⟩
        rw [no _ (by rw [e]; try rfl)]
        exact iteF ⟨rfl, s46⟩
      · refine .inr ⟨"time", by rw [e], _, _, rfl, rfl, by rw [e] at len; exact len, rfl, _, rfl, ?_⟩
        rw [no _ (by rw [e]; try rfl)]
        exact iteF ⟨rfl, s46⟩
    rintro σ H6 ⟨rfl, s36⟩
    have hB6 := hB3.same s36
    have hl6 := s36 _ _ hl3
    have hu6 := hu3.same s36
    have hx6 := hx3.same s36
    have hP6 := hP3.same s36
    have s06 := s123.trans s36
    clear s36 s123 hB3 hl3 hu3 hx3 hP3 hb3 hy3 hz3
    -- turned
    have hcut : cutV vs none (some 1) = [.ref t0] := by
      cases vs with
      | nil => cases hv0
      | cons a r => 
        obtain rfl : a = .ref t0 := Option.some.inj hv0
        rfl
    refine ⟨_, rfl, 1, rfl, pl, vs, rfl, SqL.of hl6, fun lc hlc => ?_⟩
    have hPc : PsAt (upd H6 lc (.lst (cutV vs none (some 1)))) lc [q0] := by
      rw [hcut]
      refine ⟨[.ref t0], upd_same, rfl, fun i v hv => ?_⟩
      cases i with
      | zero =>
        obtain rfl : V.ref t0 = v := Option.some.inj hv
        obtain ⟨vs2, e1, _, e3⟩ := hP6
        rw [hl6] at e1
        cases e1
        obtain ⟨q1, hq1, pt⟩ := e3 0 _ hv0
        rw [hq0] at hq1
        obtain rfl := Option.some.inj hq1
        exact ⟨q0, rfl, pt.same (same_upd0 hlc)⟩
      | succ n => cases hv
    have s7 := same_upd0 (o := .lst (cutV vs none (some 1))) hlc
    refine ⟨lc, [q0], rfl, hPc, by show 1 ≤ 1000; decide, fun H8 lt s8 hPt => ?_⟩
    have hqn : q0.nt.Ok := ho.nt
    refine ⟨lt, [q0.nt], rfl, hPt, by show 1 ≤ 1000; decide, fun x hx => by rw [List.mem_singleton.mp hx]; exact hqn, fun H9 lm um s9 hSm => ?_⟩
    obtain ⟨hm1, hm2, hm3⟩ := hSm
    obtain ⟨bt, rfl, hBt⟩ : ∃ bt, um = [.ref bt] ∧ StAt CS CT H9 bt q0.nt := by
      match um, hm2, hm3 with
      | [v], _, h =>
        obtain ⟨q1, hq1, a, rfl, hA⟩ := h 0 v rfl
        obtain rfl := Option.some.inj hq1
        exact ⟨a, rfl, hA⟩
    refine ⟨lm, _, 0, .ref bt, rfl, rfl, SqL.of hm1, atI_nat (j := 0) rfl, ?_⟩
    have s69 := (s7.trans s8).trans s9
    have hB9 := hB6.same s69
    have hu9 := hu6.same s69
    have hx9 := hx6.same s69
    have hP9 := hP6.same s69
    have s09 := s06.trans s69
    clear s7 s8 s9 s69 s06 hB6 hu6 hx6 hP6 hPc hPt hm1 hm3 hlc
    obtain ⟨d9, y9, z9, hb9, hy9, hz9⟩ := id hB9
    obtain ⟨d9', y9', z9', hb9', hy9', hz9'⟩ := id hBt
    have tr : ∀ q : Part, (!decide (q = q)) = false := fun q => by rw [decide_eq_true rfl]; rfl
    refine ⟨_, rfl, b, d9, _, rfl, hb9, b, q0, rfl, hB9, ho, fun H10 b1 s10 hb1 => ⟨_, rfl, ownT S OT hb1 (hBt.same s10) hqn hqn fun H11 s11 => ⟨_, rfl, ?_⟩⟩⟩
    rw [tr]
    refine iteF ?_
    have s911 := s10.trans s11
    refine ⟨_, rfl, bt, d9', _, rfl, s911 _ _ hb9', bt, q0.nt, rfl, hBt.same s911, hqn, fun H12 b2 s12 hb2 => ⟨_, rfl, ownT S OT hb2 (hB9.same (s911.trans s12)) hqn.nt ho fun H13 s13 => ⟨_, rfl, ?_⟩⟩⟩
    have enn : q0.nt.nt = q0 := by
      obtain ⟨⟨z, m, x⟩, ⟨z', m', x'⟩, r⟩ := q0
      simp [Part.nt, Face.nt]
    rw [enn, show id (decide (q0 = q0)) = true from decide_eq_true rfl]
    refine iteF ?_
    have s913 := (s911.trans s12).trans s13
    have hB13 := hB9.same s913
    refine ⟨_, rfl, _, rfl, b, d9, _, rfl, s913 _ _ hb9, b, q0, rfl, hB13, ho, fun H14 s14 => ⟨q0.txt, rfl, ownTN (hB13.same s14) ho (.base (.str _)) (OT.no "str" (by simp)).1 (OT.no "str" (by simp)).2 ⟨_, rfl, iteF ?_⟩⟩⟩
    have s914 := s913.trans s14
    refine ⟨_, rfl, _, rfl, _, rfl, _, rfl, (by show 3 ≤ sizeLine; decide), fun tq htq => ?_⟩
    have s15 := same_upd0 (o := .tup [u0, x0, q0.r]) htq
    refine ownTN (hB9.same (s914.trans s15)) ho (.base (.tup upd_same)) (OT.no "tuple" (by simp)).1 (OT.no "tuple" (by simp)).2 ⟨_, rfl, iteF ?_⟩
    have s9_15 := s914.trans s15
    generalize upd H14 tq (.tup [u0, x0, q0.r]) = H15 at s9_15
    have hB15 := hB9.same s9_15
    have hu15 := hu9.same s9_15
    have hx15 := hx9.same s9_15
    have hP15 := hP9.same s9_15
    have s015 := s09.trans s9_15
    clear s9_15 s914 s15 s913 s911 s09 hB9 hu9 hx9 hP9 hBt hb9 hb9' htq hB13
    obtain ⟨d15, y15, z15, hb15, ⟨au, rfl, du, hu⟩, ⟨av, rfl, dv, hv⟩⟩ := id hB15
    have hyu : SayAt CS H15 (.ref au) q0.u := ⟨au, rfl, du, hu⟩
    have hyv : SayAt CS H15 (.ref av) q0.v := ⟨av, rfl, dv, hv⟩
    refine ⟨_, rfl, b, CT, d15, _, _, rfl, hb15, S.cl, S.nO, pf_one _ _ _, au, du, _, rfl, hu, au, _, _, _, rfl, ⟨du, hu⟩, ho.u.len, ho.u.nm, ho.u.m0, ho.u.m1, fun H16 a1 s16 k1 => ?_⟩
    refine ⟨_, rfl, b, CT, d15, _, _, rfl, s16 _ _ hb15, S.cl, S.nT, pf_other _ _ _, _, rfl, fun w1 dw1 e11 e12 e13 => ?_⟩
    have y1 : SayAt CS H16 (.ref a1) q0.u.nt := ⟨a1, rfl, k1⟩
    refine madeT3 e11 e12 e13 y1.sy (hyv.same s16).sy (fun _ => ho.r.rsn) fun H17 s17 hw1 => ⟨rfl, ?_⟩
    have s15_17 := s16.trans s17
    refine ⟨_, rfl, b, CT, d15, _, _, rfl, s15_17 _ _ hb15, S.cl, S.nO, pf_one _ _ _, _, rfl, b, CT, d15, _, _, rfl, s15_17 _ _ hb15, S.cl, S.nT, pf_other _ _ _, av, dv, _, rfl, s15_17 _ _ hv, av, _, _, _, rfl, ⟨dv, s15_17 _ _ hv⟩, ho.v.len, ho.v.nm, ho.v.m0, ho.v.m1, fun H18 a2 s18 k2 => ⟨_, rfl, fun w2 dw2 e21 e22 e23 => ?_⟩⟩
    have y2 : SayAt CS H18 (.ref a2) q0.v.nt := ⟨a2, rfl, k2⟩
    refine madeT3 e21 e22 e23 (hyu.same (s15_17.trans s18)).sy y2.sy (fun _ => ho.r.rsn) fun H19 s19 hw2 => ⟨rfl, ?_⟩
    have s15_19 := (s15_17.trans s18).trans s19
    refine ⟨_, rfl, b, CT, d15, _, _, rfl, s15_19 _ _ hb15, S.cl, S.nO, pf_one _ _ _, _, rfl, b, CT, d15, _, _, rfl, s15_19 _ _ hb15, S.cl, S.nT, pf_other _ _ _, fun w3 dw3 e31 e32 e33 => ?_⟩
    refine madeT3 e31 e32 e33 (hyu.same s15_19).sy (hyv.same s15_19).sy (fun H => .inl ⟨5, rfl, by decide⟩) fun H20 s20 hw3 => ⟨rfl, by show 3 ≤ sizeLine; decide, fun lu hlu => ?_⟩
    have s21 := same_upd0 (o := .lst [.ref w1, .ref w2, .ref w3]) hlu
    have s15_21 := (s15_19.trans s20).trans s21
    have s17_21 := ((s18.trans s19).trans s20).trans s21
    have s19_21 := s20.trans s21
    have q1 : ∃ x : Part, StAt CS CT (upd H20 lu (.lst [.ref w1, .ref w2, .ref w3])) w1 x ∧ x.Ok ∧ x ≠ q0 := ⟨⟨q0.u.nt, q0.v, q0.r⟩, ⟨dw1, _, _, s17_21 _ _ hw1, (y1.same s17).same s17_21, hyv.same s15_21⟩, ⟨ho.u.nt, ho.v, ho.r⟩, fun e => by
      have := congrArg (fun y : Part => y.u.b) e
      cases hb : q0.u.b <;> simp [Face.nt, hb] at this⟩
    have q2 : ∃ x : Part, StAt CS CT (upd H20 lu (.lst [.ref w1, .ref w2, .ref w3])) w2 x ∧ x.Ok ∧ x ≠ q0 := ⟨⟨q0.u, q0.v.nt, q0.r⟩, ⟨dw2, _, _, s19_21 _ _ hw2, hyu.same s15_21, (y2.same s19).same s19_21⟩, ⟨ho.u, ho.v.nt, ho.r⟩, fun e => by
      have := congrArg (fun y : Part => y.v.b) e
      cases hb : q0.v.b <;> simp [Face.nt, hb] at this⟩
    have q3 : ∃ x : Part, StAt CS CT (upd H20 lu (.lst [.ref w1, .ref w2, .ref w3])) w3 x ∧ x.Ok ∧ x ≠ q0 := ⟨⟨q0.u, q0.v, .int 5⟩, ⟨dw3, _, _, s21 _ _ hw3, hyu.same s15_21, hyv.same s15_21⟩, ⟨ho.u, ho.v, .inl ⟨5, rfl, by decide, by decide⟩⟩, fun e => hk0.r5 (congrArg (fun y : Part => y.r) e).symm⟩
    have hlu21 : (upd H20 lu (.lst [.ref w1, .ref w2, .ref w3])) lu = some (.lst [.ref w1, .ref w2, .ref w3]) := upd_same
    generalize upd H20 lu (.lst [.ref w1, .ref w2, .ref w3]) = H21 at s15_21 q1 q2 q3 hlu21
    have hB21 := hB15.same s15_21
    have hu21 := hu15.same s15_21
    have hx21 := hx15.same s15_21
    have hP21 := hP15.same s15_21
    have s021 := s015.trans s15_21
    clear s21 s17_21 s19_21 s15_19 s15_17 s16 s17 s18 s19 s20 hlu e11 e12 e13 e21 e22 e23 e31 e32 e33 hw1 hw2 hw3 k1 k2 y1 y2 hyu hyv hu hv hb15 s15_21 hB15 hu15 hx15 hP15 s015
    have qall : ∀ (i : Nat) (v : V), ([.ref w1, .ref w2, .ref w3] : List V)[i]? = some v → ∃ (a : Addr) (x : Part), v = .ref a ∧ StAt CS CT H21 a x ∧ x.Ok ∧ x ≠ q0 := fun i v hv => by
      obtain ⟨x1, a1, b1, c1⟩ := q1
      obtain ⟨x2, a2, b2, c2⟩ := q2
      obtain ⟨x3, a3, b3, c3⟩ := q3
      match i, hv with
      | 0, hv => exact ⟨w1, x1, (Option.some.inj hv).symm, a1, b1, c1⟩
      | 1, hv => exact ⟨w2, x2, (Option.some.inj hv).symm, a2, b2, c2⟩
      | 2, hv => exact ⟨w3, x3, (Option.some.inj hv).symm, a3, b3, c3⟩
    refine ⟨_, rfl, lu, rfl, ⟨_, SqL.of hlu21⟩, fun D hD => ?_⟩
    refine lc_it (walk_list (xs := [.ref w1, .ref w2, .ref w3])) (fun i G => G D = some (.lst []) ∧ Same H21 G) ⟨upd_same, same_upd0 hD⟩ (fun _ _ _ y => SqL.of (y.2 _ _ hlu21)) ?_ ?_
    · rintro i v G G' hi ⟨hDl, sm⟩ ⟨rfl, hv⟩
      obtain ⟨a, x, rfl, hx, ox, nx⟩ := qall i v hv
      refine ⟨rfl, _, rfl, _, rfl, ownT S OT (hx.same sm) (hB21.same sm) ox ho fun H' s' => ⟨_, rfl, ?_⟩⟩
      rw [show id (decide (x = q0)) = false from decide_eq_false nx]
      exact iteF ⟨s' _ _ hDl, sm.trans s'⟩
    rintro G ⟨hDl, sm⟩
    refine ⟨by show 0 ≤ sizeLine; decide, fun em hem => ?_⟩
    have s22 := sm.trans (same_upd0 (o := .lst []) hem)
    refine ⟨.list [], .list [], .lst (SqL.of (same_upd0 hem _ _ hDl)) .nil, .lst (SqL.of upd_same) .nil, shaped_e, shaped_e, _, rfl, ?_⟩
    rw [eqv_e]
    refine iteF ?_
    generalize upd G em (.lst []) = H22 at s22
    have hB22 := hB21.same s22
    have hP22 := hP21.same s22
    have s022 := s021.trans s22
    clear s22 sm hDl hem hD hB21 hu21 hx21 hP21 s021 q1 q2 q3 qall hlu21
    have pen22 := hp.same s022
    have T22 := tabs_same hT s022
    -- the odd values
    refine ⟨_, rfl, by show 3 ≤ sizeLine; decide, fun a1 ha1 => fun a2 ha2 => ⟨by show 6 ≤ sizeLine; decide, fun o1 ho1 => ?_⟩⟩
    have s23 := ((same_upd0 (o := .tup [.str "a", .int 3, .bl true]) ha1).trans (same_upd0 (o := .dK []) ha2)).trans (same_upd0 (o := .lst [.non, .int 0, .str "a 3 sound", .ref a1, .ref a2, .bl true]) ho1)
    have n1 : a1 ≠ p := pen22.ne ha1
    have n2 : a2 ≠ p := (pen22.same (same_upd0 (o := .tup [.str "a", .int 3, .bl true]) ha1)).ne ha2
    have f1 := same_upd0 (o := .lst [.non, .int 0, .str "a 3 sound", .ref a1, .ref a2, .bl true]) ho1 _ _ (same_upd0 (o := .dK []) ha2 _ _ (upd_same (H := H22) (a := a1) (o := .tup [.str "a", .int 3, .bl true])))
    have f2 := same_upd0 (o := .lst [.non, .int 0, .str "a 3 sound", .ref a1, .ref a2, .bl true]) ho1 _ _ (upd_same (H := upd H22 a1 (.tup [.str "a", .int 3, .bl true])) (a := a2) (o := .dK []))
    have pen23 := pen22.same s23
    have n3 : o1 ≠ p := (pen22.same ((same_upd0 (o := .tup [.str "a", .int 3, .bl true]) ha1).trans (same_upd0 (o := .dK []) ha2))).ne ho1
    refine ⟨p, l, ns, n, g, _, rfl, pen23, by omega, .inl ⟨o1, _, rfl, n3, upd_same, by show 0 < 6; decide, by show 6 ≤ 1000; decide, fun odd m1 g1 H24 hodd hm1 off1 pen24 => ?_⟩⟩
    have f1' := off1 _ _ n1 f1
    have f2' := off1 _ _ n2 f2
    have oddT : ∃ T, T ∈ ["tuple", "str", "NoneType", "int", "bool", "list", "dict"] ∧ OddV K p H24 odd T := by
      simp only [List.mem_cons, List.not_mem_nil, or_false] at hodd
      rcases hodd with h | h | h | h | h | h <;> subst h
      · exact ⟨"NoneType", by simp, fun H' _ => .base .non⟩
      · exact ⟨"int", by simp, fun H' _ => .base (.int _)⟩
      · exact ⟨"str", by simp, fun H' _ => .base (.str _)⟩
      · exact ⟨"tuple", by simp, fun H' s' => .base (.tup (s' _ _ n1 f1' tup_ne))⟩
      · exact ⟨"dict", by simp, fun H' s' => .base (.dK (s' _ _ n2 f2' dk_ne))⟩
      · exact ⟨"bool", by simp, fun H' _ => .base (.bl _)⟩
    have off24 : Off p H22 H24 := (offS s23).trans off1
    have T24 := tabs_off pen22.pen T22 off24
    have hB24 := hB22.offN pen22 (OffN.off off24)
    have offA : OffN p H H24 := (OffN.same s022).trans (OffN.off off24)
    clear s23 f1 f2 f1' f2' n1 n2 n3 off24 off1 ha1 ha2 ho1 hodd pen23 T22 hB22
    refine ⟨_, rfl, _, rfl, by show 1 ≤ sizeLine; decide, fun b1 hb1 => fun b2 hb2 => ⟨by show 8 ≤ sizeLine; decide, fun o2 ho2 => ?_⟩⟩
    have s25 := ((same_upd0 (o := .tup [.str "time"]) hb1).trans (same_upd0 (o := .dK []) hb2)).trans (same_upd0 (o := .lst [.non, .int (-1), .bl true, .str "Time", .str "", .ref b1, .str "0", .ref b2]) ho2)
    have n1 : b1 ≠ p := pen24.ne hb1
    have n2 : b2 ≠ p := (pen24.same (same_upd0 (o := .tup [.str "time"]) hb1)).ne hb2
    have f1 := same_upd0 (o := .lst [.non, .int (-1), .bl true, .str "Time", .str "", .ref b1, .str "0", .ref b2]) ho2 _ _ (same_upd0 (o := .dK []) hb2 _ _ (upd_same (H := H24) (a := b1) (o := .tup [.str "time"])))
    have f2 := same_upd0 (o := .lst [.non, .int (-1), .bl true, .str "Time", .str "", .ref b1, .str "0", .ref b2]) ho2 _ _ (upd_same (H := upd H24 b1 (.tup [.str "time"])) (a := b2) (o := .dK []))
    have pen25 := pen24.same s25
    have n3 : o2 ≠ p := (pen24.same ((same_upd0 (o := .tup [.str "time"]) hb1).trans (same_upd0 (o := .dK []) hb2))).ne ho2
    refine ⟨p, l, ns, m1, g1, _, rfl, pen25, by omega, .inl ⟨o2, _, rfl, n3, upd_same, by show 0 < 8; decide, by show 8 ≤ 1000; decide, fun wr m2 g2 H26 hwr hm2 off2 pen26 => ?_⟩⟩
    have f1' := off2 _ _ n1 f1
    have f2' := off2 _ _ n2 f2
    have wrR : ∀ H', OffN p H26 H' → Rsn K H' wr false := by
      simp only [List.mem_cons, List.not_mem_nil, or_false] at hwr
      rcases hwr with h | h | h | h | h | h | h | h <;> subst h
      · exact fun H' _ => .inr (.inr ⟨"NoneType", by simp [OddT], by decide, .base .non, rfl⟩)
      · exact fun H' _ => .inl ⟨-1, rfl, by decide⟩
      · exact fun H' _ => .inr (.inr ⟨"bool", by simp [OddT], by decide, .base (.bl _), rfl⟩)
      · exact fun H' _ => .inr (.inl ⟨"Time", rfl, by decide, by decide +kernel⟩)
      · exact fun H' _ => .inr (.inl ⟨"", rfl, by decide, by decide +kernel⟩)
      · exact fun H' s' => .inr (.inr ⟨"tuple", by simp [OddT], by decide, .base (.tup (s' _ _ n1 f1' tup_ne)), rfl⟩)
      · exact fun H' _ => .inr (.inl ⟨"0", rfl, by decide, by decide +kernel⟩)
      · exact fun H' s' => .inr (.inr ⟨"dict", by simp [OddT], by decide, .base (.dK (s' _ _ n2 f2' dk_ne)), rfl⟩)
    have off26 : Off p H24 H26 := (offS s25).trans off2
    have T26 := tabs_off pen24.pen T24 off26
    have hB26 := hB24.offN pen24 (OffN.off off26)
    have offB : OffN p H H26 := offA.trans (OffN.off off26)
    have noO : ∀ H', OffN p H26 H' → NoS K CS H' odd := fun H' s' => by
      obtain ⟨T0, hT0, ov⟩ := oddT
      exact ⟨_, ov H' ((OffN.off off26).trans s'), (OS.no T0 hT0).1⟩
    clear s25 f1 f2 f1' f2' n1 n2 n3 off2 hb1 hb2 ho2 hwr pen25 T24 hB24 oddT offA off26
    have okI : ∀ i : Int, 0 ≤ i → i < 3 → OkD 1000000 20 (.int i) := fun i h0 h1 => (OkD.int (by omega)).mono (by decide) (by decide)
    -- a lambda: what stays
    have J : ∀ {Ha Hb Hc : Hp} {x dx : Addr} {ho : HO}, (OffN p H26 Ha ∧ Tabs T Ha ∧ Pen Ha p l ns m2 g2) → ExtN Ha Hb → Tabs T Hb → Hb x = none → Hb dx = none → Same (upd (upd Hb dx (.own x)) x ho) Hc → (OffN p H26 Hc ∧ Tabs T Hc ∧ Pen Hc p l ns m2 g2) := fun a1 a3 a4 a5 a6 a7 => ⟨(a1.1.trans (OffN.ext a3)).trans (OffN.same ((same2 a5 a6).trans a7)), tabs_same a4 ((same2 a5 a6).trans a7), (a1.2.2.ext a3).same ((same2 a5 a6).trans a7)⟩
    have J0 : OffN p H26 H26 ∧ Tabs T H26 ∧ Pen H26 p l ns m2 g2 := ⟨OffN.refl, T26, pen26⟩
    refine ⟨T26, fun Ha ea Ta => ⟨rfl, _, rfl, _, rfl, _, rfl, _, rfl, fun x dx e1 e2 e3 => ⟨x, dx, odd, odd, wr, rfl, upd_same, .inl ⟨noO _ ((OffN.ext ea).trans (OffN.same (same2 e1 e2))), bad_of (dv := .int 0) (fun _ _ => .int 0) (okI 0 (by decide) (by decide)) fun Hb sb => ⟨_, rfl, iteF ?_⟩⟩⟩⟩⟩
    have Jb := J J0 ea Ta e1 e2 sb
    clear sb e1 e2 e3 ea Ta
    refine ⟨Jb.2.1, fun Hc ec Tc => ⟨rfl, _, rfl, _, rfl, ?_⟩⟩
    have oc := Jb.1.trans (OffN.ext ec)
    obtain ⟨dc, yc, zc, hbc, huc, hvc⟩ := hB26.offN pen26 oc
    refine ⟨_, rfl, b, CT, dc, _, _, rfl, hbc, S.cl, S.nT, pf_other _ _ _, _, rfl, fun x dx e1 e2 e3 => ⟨x, dx, odd, zc, q0.r, rfl, upd_same, .inl ⟨noO _ (oc.trans (OffN.same (same2 e1 e2))), bad_of (dv := .int 0) (fun _ _ => .int 0) (okI 0 (by decide) (by decide)) fun Hd sd => ⟨_, rfl, iteF ?_⟩⟩⟩⟩
    have Jd := J Jb ec Tc e1 e2 sd
    clear sd e1 e2 e3 Tc oc huc hvc hbc
    refine ⟨Jd.2.1, fun He ee Te => ⟨rfl, _, rfl, ?_⟩⟩
    have oe := Jd.1.trans (OffN.ext ee)
    obtain ⟨de, ye, ze, hbe, hue, hve⟩ := hB26.offN pen26 oe
    refine ⟨_, rfl, b, CT, de, _, _, rfl, hbe, S.cl, S.nO, pf_one _ _ _, _, rfl, _, rfl, fun x dx e1 e2 e3 => ⟨x, dx, ye, odd, wr, rfl, upd_same, .inr ⟨(hue.same (same2 e1 e2)).sy, .inl ⟨noO _ (oe.trans (OffN.same (same2 e1 e2))), bad_of (dv := .int 1) (fun _ _ => .int 1) (okI 1 (by decide) (by decide)) fun Hf sf => ⟨_, rfl, iteF ?_⟩⟩⟩⟩⟩
    have Jf := J Jd ee Te e1 e2 sf
    clear sf e1 e2 e3 Te oe hue hve hbe
    refine ⟨Jf.2.1, fun Hg eg Tg => ⟨rfl, _, rfl, ?_⟩⟩
    have og := Jf.1.trans (OffN.ext eg)
    obtain ⟨dg, yg, zg, hbg, hug, hvg⟩ := hB26.offN pen26 og
    refine ⟨_, rfl, b, CT, dg, _, _, rfl, hbg, S.cl, S.nO, pf_one _ _ _, _, rfl, b, CT, dg, _, _, rfl, hbg, S.cl, S.nT, pf_other _ _ _, _, rfl, fun x dx e1 e2 e3 => ⟨x, dx, yg, zg, wr, rfl, upd_same, .inr ⟨(hug.same (same2 e1 e2)).sy, .inr ⟨(hvg.same (same2 e1 e2)).sy, .inl ⟨wrR _ (og.trans (OffN.same (same2 e1 e2))), bad_of (dv := .int 2) (fun _ _ => .int 2) (okI 2 (by decide) (by decide)) fun Hh sh => ?_⟩⟩⟩⟩⟩
    have Jh := J Jf eg Tg e1 e2 sh
    exact q m2 g2 Hh (by omega) (offB.trans Jh.1) Jh.2.2 Jh.2.1
end
end K31

namespace K31
open PySem PySem.Spec PyProof.Rows L2 So
abbrev sChain : Stmt := topS 41
theorem scChain : FnScope ["_law_some"] ["_law_some"] (defScope sChain) := ⟨rfl, rfl, rfl, by decide +kernel, rfl, by decide +kernel, by decide +kernel⟩
theorem ps_imp {X : Cx} {st : Stmt} {t u : TS} (h : PS X st t) (i : ∀ D σ H, u D σ H → t D σ H) : PS X st u := ⟨fun pins s σ H D I q => h.run pins s σ H D I (i _ _ _ q)⟩
theorem pss_imp {X : Cx} {st : List Stmt} {t u : TS} (h : PSs X st t) (i : ∀ D σ H, u D σ H → t D σ H) : PSs X st u := ⟨fun pins s σ H D I q => h.run pins s σ H D I (i _ _ _ q)⟩
/-- the list of the things that a chain is made of -/
def tArm (K : PySem.W.Frag) (CS CT CB C : Addr) (E : XK) (k : Nat) : TS := fun D σ H => ∃ (l : Addr) (its : List (V × Option Part)), σ = [some (.ref l)] ∧ H l = some (.lst (its.map Prod.fst)) ∧ (its.length = k → Made K CS CT CB C its H E D.rt) ∧ (its.length ≠ k → D.nx σ H)
section
variable {P : Program} {w : World} {K : PySem.W.Frag} {mg : Str → Option Value} {base : Heap}
abbrev xCh (P : Program) (w : World) (K : PySem.W.Frag) (mg : Str → Option Value) (base : Heap) (f : Addr) (cdv : Value) (A : Around) (outer : List Env) (s : Shared) (H : Hp) (E : XK) : Cx := cxOf (L2.CX P w) P w K mg base ["_law_some"] "_law_chain" (defScope sChain) f cdv A outer s H E
abbrev stA (i : Nat) : Stmt := (defBody sChain).getD i (.Pass ⟨0, 0, 0, 0⟩)
variable {f C CS CT CB fI : Addr} {cdv : Value} {A : Around} {outer : List Env} {s : Shared} {H0 : Hp} {E : XK}
theorem arm0 (W : Words K mg) (TC : Chn K mg C) (M : Mk K C fI) (GI : FnR P w K mg base (L2.CX P w) 5 fI (spCI K CS CT CB C)) (hr : Room 6 (xCh P w K mg base f cdv A outer s H0 E).A) :
    PS (xCh P w K mg base f cdv A outer s H0 E) (stA 0) (tArm K CS CT CB C E 0) := by
  refine ps_imp (ps_if (pt_cmpR op_eq (pe_callB call_len_seq (by rfl) W.len PySem.boot_len (pa_cons (pv 0) pa_nil)) pe_int (nomark _)) (pss_one (ps_ret (pe_makeR0 M GI hr (by rfl) TC.mgC (passes_call (takes_of rfl rfl rfl rfl) (fun _ _ _ _ h => h))))) pss_nil) ?_
  rintro D σ H ⟨l, its, rfl, hl, hy, hn⟩
  refine ⟨_, rfl, l, _, rfl, .inl (SqL.of hl), rfl, _, rfl, ite2 (fun e => ?_) (fun e => ?_)⟩
  · have e1 := V.int.inj (of_decide_eq_true e)
    rw [List.length_map] at e1
    have hk : its.length = 0 := by omega
    have hm := madeC (hy hk)
    obtain rfl := List.eq_nil_of_length_eq_zero hk
    exact hm
  · refine hn fun hk => e (decide_eq_true ?_)
    rw [List.length_map, hk]
    rfl
theorem arm1 (W : Words K mg) (TC : Chn K mg C) (M : Mk K C fI) (GI : FnR P w K mg base (L2.CX P w) 5 fI (spCI K CS CT CB C)) (hr : Room 6 (xCh P w K mg base f cdv A outer s H0 E).A) :
    PS (xCh P w K mg base f cdv A outer s H0 E) (stA 1) (tArm K CS CT CB C E 1) := by
  refine ps_imp (ps_if (pt_cmpR op_eq (pe_callB call_len_seq (by rfl) W.len PySem.boot_len (pa_cons (pv 0) pa_nil)) pe_int (nomark _)) (pss_one (ps_ret (StX.pe_makeR M GI hr (by rfl) TC.mgC (passes_call (takes_of rfl rfl rfl rfl) (fun _ _ _ _ h => h)) (pa_cons (pe_ix ix_list (pv 0) pe_int (fun _ _ => rfl)) pa_nil)))) pss_nil) ?_
  rintro D σ H ⟨l, its, rfl, hl, hy, hn⟩
  refine ⟨_, rfl, l, _, rfl, .inl (SqL.of hl), rfl, _, rfl, ite2 (fun e => ?_) (fun e => ?_)⟩
  · have e1 := V.int.inj (of_decide_eq_true e)
    rw [List.length_map] at e1
    have hk : its.length = 1 := by omega
    have hm := madeC (hy hk)
    match its, hk with
    | [a0], _ => exact ⟨_, rfl, l, _, _, _, rfl, rfl, SqL.of hl, atI_nat (j := 0) rfl, hm⟩
  · refine hn fun hk => e (decide_eq_true ?_)
    rw [List.length_map, hk]
    rfl
theorem arm2 (W : Words K mg) (TC : Chn K mg C) (M : Mk K C fI) (GI : FnR P w K mg base (L2.CX P w) 5 fI (spCI K CS CT CB C)) (hr : Room 6 (xCh P w K mg base f cdv A outer s H0 E).A) :
    PS (xCh P w K mg base f cdv A outer s H0 E) (stA 2) (tArm K CS CT CB C E 2) := by
  refine ps_imp (ps_if (pt_cmpR op_eq (pe_callB call_len_seq (by rfl) W.len PySem.boot_len (pa_cons (pv 0) pa_nil)) pe_int (nomark _)) (pss_one (ps_ret (StX.pe_makeR M GI hr (by rfl) TC.mgC (passes_call (takes_of rfl rfl rfl rfl) (fun _ _ _ _ h => h)) (pa_cons (pe_ix ix_list (pv 0) pe_int (fun _ _ => rfl)) (pa_cons (pe_ix ix_list (pv 0) pe_int (fun _ _ => rfl)) pa_nil))))) pss_nil) ?_
  rintro D σ H ⟨l, its, rfl, hl, hy, hn⟩
  refine ⟨_, rfl, l, _, rfl, .inl (SqL.of hl), rfl, _, rfl, ite2 (fun e => ?_) (fun e => ?_)⟩
  · have e1 := V.int.inj (of_decide_eq_true e)
    rw [List.length_map] at e1
    have hk : its.length = 2 := by omega
    have hm := madeC (hy hk)
    match its, hk with
    | [a0, a1], _ => exact ⟨_, rfl, l, _, _, _, rfl, rfl, SqL.of hl, atI_nat (j := 0) rfl, _, rfl, l, _, _, _, rfl, rfl, SqL.of hl, atI_nat (j := 1) rfl, hm⟩
  · refine hn fun hk => e (decide_eq_true ?_)
    rw [List.length_map, hk]
    rfl
end
end K31

namespace K31
open PySem PySem.Spec PyProof.Rows L2 So
section
variable {P : Program} {w : World} {K : PySem.W.Frag} {mg : Str → Option Value} {base : Heap}
variable {f C CS CT CB fI : Addr} {cdv : Value} {A : Around} {outer : List Env} {s : Shared} {H0 : Hp} {E : XK}
theorem arm3 (W : Words K mg) (TC : Chn K mg C) (M : Mk K C fI) (GI : FnR P w K mg base (L2.CX P w) 5 fI (spCI K CS CT CB C)) (hr : Room 6 (xCh P w K mg base f cdv A outer s H0 E).A) :
    PS (xCh P w K mg base f cdv A outer s H0 E) (stA 3) (tArm K CS CT CB C E 3) := by
  refine ps_imp (ps_if (pt_cmpR op_eq (pe_callB call_len_seq (by rfl) W.len PySem.boot_len (pa_cons (pv 0) pa_nil)) pe_int (nomark _)) (pss_one (ps_ret (StX.pe_makeR M GI hr (by rfl) TC.mgC (passes_call (takes_of rfl rfl rfl rfl) (fun _ _ _ _ h => h)) (pa_cons (pe_ix ix_list (pv 0) pe_int (fun _ _ => rfl)) (pa_cons (pe_ix ix_list (pv 0) pe_int (fun _ _ => rfl)) (pa_cons (pe_ix ix_list (pv 0) pe_int (fun _ _ => rfl)) pa_nil)))))) pss_nil) ?_
  rintro D σ H ⟨l, its, rfl, hl, hy, hn⟩
  refine ⟨_, rfl, l, _, rfl, .inl (SqL.of hl), rfl, _, rfl, ite2 (fun e => ?_) (fun e => ?_)⟩
  · have e1 := V.int.inj (of_decide_eq_true e)
    rw [List.length_map] at e1
    have hk : its.length = 3 := by omega
    have hm := madeC (hy hk)
    match its, hk with
    | [a0, a1, a2], _ => exact ⟨_, rfl, l, _, _, _, rfl, rfl, SqL.of hl, atI_nat (j := 0) rfl, _, rfl, l, _, _, _, rfl, rfl, SqL.of hl, atI_nat (j := 1) rfl, _, rfl, l, _, _, _, rfl, rfl, SqL.of hl, atI_nat (j := 2) rfl, hm⟩
  · refine hn fun hk => e (decide_eq_true ?_)
    rw [List.length_map, hk]
    rfl
theorem arm4 (W : Words K mg) (TC : Chn K mg C) (M : Mk K C fI) (GI : FnR P w K mg base (L2.CX P w) 5 fI (spCI K CS CT CB C)) (hr : Room 6 (xCh P w K mg base f cdv A outer s H0 E).A) :
    PS (xCh P w K mg base f cdv A outer s H0 E) (stA 4) (tArm K CS CT CB C E 4) := by
  refine ps_imp (ps_if (pt_cmpR op_eq (pe_callB call_len_seq (by rfl) W.len PySem.boot_len (pa_cons (pv 0) pa_nil)) pe_int (nomark _)) (pss_one (ps_ret (StX.pe_makeR M GI hr (by rfl) TC.mgC (passes_call (takes_of rfl rfl rfl rfl) (fun _ _ _ _ h => h)) (pa_cons (pe_ix ix_list (pv 0) pe_int (fun _ _ => rfl)) (pa_cons (pe_ix ix_list (pv 0) pe_int (fun _ _ => rfl)) (pa_cons (pe_ix ix_list (pv 0) pe_int (fun _ _ => rfl)) (pa_cons (pe_ix ix_list (pv 0) pe_int (fun _ _ => rfl)) pa_nil))))))) pss_nil) ?_
  rintro D σ H ⟨l, its, rfl, hl, hy, hn⟩
  refine ⟨_, rfl, l, _, rfl, .inl (SqL.of hl), rfl, _, rfl, ite2 (fun e => ?_) (fun e => ?_)⟩
  · have e1 := V.int.inj (of_decide_eq_true e)
    rw [List.length_map] at e1
    have hk : its.length = 4 := by omega
    have hm := madeC (hy hk)
    match its, hk with
    | [a0, a1, a2, a3], _ => exact ⟨_, rfl, l, _, _, _, rfl, rfl, SqL.of hl, atI_nat (j := 0) rfl, _, rfl, l, _, _, _, rfl, rfl, SqL.of hl, atI_nat (j := 1) rfl, _, rfl, l, _, _, _, rfl, rfl, SqL.of hl, atI_nat (j := 2) rfl, _, rfl, l, _, _, _, rfl, rfl, SqL.of hl, atI_nat (j := 3) rfl, hm⟩
  · refine hn fun hk => e (decide_eq_true ?_)
    rw [List.length_map, hk]
    rfl
end
end K31

namespace K31
open PySem PySem.Spec PyProof.Rows L2 So
section
variable {P : Program} {w : World} {K : PySem.W.Frag} {mg : Str → Option Value} {base : Heap}
variable {f C CS CT CB fI : Addr} {cdv : Value} {A : Around} {outer : List Env} {s : Shared} {H0 : Hp} {E : XK}
theorem arm5 (TC : Chn K mg C) (M : Mk K C fI) (GI : FnR P w K mg base (L2.CX P w) 5 fI (spCI K CS CT CB C)) (hr : Room 6 (xCh P w K mg base f cdv A outer s H0 E).A) :
    PS (xCh P w K mg base f cdv A outer s H0 E) (stA 5) (fun D σ H => ∃ (l : Addr) (its : List (V × Option Part)), σ = [some (.ref l)] ∧ H l = some (.lst (its.map Prod.fst)) ∧ its.length = 5 ∧ Made K CS CT CB C its H E D.rt) := by
  refine ps_imp (ps_ret (StX.pe_makeR M GI hr (by rfl) TC.mgC (passes_call (takes_of rfl rfl rfl rfl) (fun _ _ _ _ h => h)) (pa_cons (pe_ix ix_list (pv 0) pe_int (fun _ _ => rfl)) (pa_cons (pe_ix ix_list (pv 0) pe_int (fun _ _ => rfl)) (pa_cons (pe_ix ix_list (pv 0) pe_int (fun _ _ => rfl)) (pa_cons (pe_ix ix_list (pv 0) pe_int (fun _ _ => rfl)) (pa_cons (pe_ix ix_list (pv 0) pe_int (fun _ _ => rfl)) pa_nil))))))) ?_
  rintro D σ H ⟨l, its, rfl, hl, hk, hy⟩
  have hm := madeC hy
  match its, hk with
  | [a0, a1, a2, a3, a4], _ => exact ⟨_, rfl, l, _, _, _, rfl, rfl, SqL.of hl, atI_nat (j := 0) rfl, _, rfl, l, _, _, _, rfl, rfl, SqL.of hl, atI_nat (j := 1) rfl, _, rfl, l, _, _, _, rfl, rfl, SqL.of hl, atI_nat (j := 2) rfl, _, rfl, l, _, _, _, rfl, rfl, SqL.of hl, atI_nat (j := 3) rfl, _, rfl, l, _, _, _, rfl, rfl, SqL.of hl, atI_nat (j := 4) rfl, hm⟩
/-- the law's chain of none to five things -/
def spChain (K : PySem.W.Frag) (CS CT CB C : Addr) : Sp := fun vs H Q E => ∃ (l : Addr) (its : List (V × Option Part)), vs = [.ref l] ∧ H l = some (.lst (its.map Prod.fst)) ∧ its.length ≤ 5 ∧ Made K CS CT CB C its H E Q
theorem ok_chain {f C CS CT CB fI : Addr} {fd : FuncData} (F : Fun K "_law_chain" "_law_chain" sChain f fd) (W : Words K mg) (TC : Chn K mg C) (M : Mk K C fI) (GI : FnR P w K mg base (L2.CX P w) 5 fI (spCI K CS CT CB C)) : FnOk P w K mg base (L2.CX P w) 7 f fd ["_law_some"] (spChain K CS CT CB C) := by
  refine F.okX scChain (fun vs H Q E h => ?_) (fun cdv A outer s H vs Q E hr h => ?_)
  · obtain ⟨_, _, rfl, _⟩ := h
    rfl
  · obtain ⟨l, its, rfl, hl, h5, q⟩ := h
    refine ⟨_, pss_cons (arm0 W TC M GI hr) (pss_cons (arm1 W TC M GI hr) (pss_cons (arm2 W TC M GI hr) (pss_cons (arm3 W TC M GI hr) (pss_cons (arm4 W TC M GI hr) (pss_one (arm5 TC M GI hr)))))), ?_⟩
    refine ⟨l, its, rfl, hl, fun _ => q, fun n0 => ⟨l, its, rfl, hl, fun _ => q, fun n1 => ⟨l, its, rfl, hl, fun _ => q, fun n2 => ⟨l, its, rfl, hl, fun _ => q, fun n3 => ⟨l, its, rfl, hl, fun _ => q, fun n4 => ⟨l, its, rfl, hl, by omega, q⟩⟩⟩⟩⟩⟩
end
end K31

/-! o[i] of an own class with __getitem__ -/
namespace So
open PySem PySem.Spec PyProof.Rows L2
section
variable {X : Cx} {CX : CXT} {k : Nat} {C f : Addr} {fd : FuncData} {ps : List Str} {sp : Sp} {E : XK}
def rIxO (C : Addr) (sp : Sp) (E : XK) : R2 := fun x y H Q => ∃ a dx fs, x = .ref a ∧ H a = some (.ins C dx fs) ∧ sp [.ref a, y] H Q E
theorem pe_ixO {o i : Expr} {pos : Pos} {ta tb : TE} (ho : PE X o ta) (hi : PE X i tb) (F : FnOk X.prog X.w X.K X.mg X.base CX k f fd ps sp) (hs : PySem.W.findIn X.K (.ref C) "__getitem__" = some (some (.ref f))) (hfn : PySem.W.fnIn X.K f = true) (hf : PySem.W.isFn X.K (.ref f) = true)
    (hb : Binds X.K fd ps []) (hx : Passes CX X E) (hr : Room (k + 1) X.A) (hsl : ∀ v u, subscripted i true v u = runValue (.builtin "lifetime.subscript" ⟨[v, u], []⟩) := by intro _ _; rfl) : PE X (.Subscript o i pos) (tOp (rIxO C sp E) ta tb) := by
  refine ⟨fun pins s σ H Q I h => Subscript_ (binT ho hi I h fun v u s2 x y H2 I2 rx ry q => ?_)⟩
  obtain ⟨a, dx, fs, rfl, ha, q⟩ := q
  cases rx
  obtain ⟨mA, J, _⟩ := ins_get I2.hok ha
  obtain ⟨od, J, _⟩ := J.look
  obtain ⟨m, hF⟩ := I2.fr
  refine PySem.W.sub_K hF I2.ok.mod.kin J hs hfn hf ?_ (hsl _ _)
  have hr1 : Room k X.A.in1 := hr.in1
  have e0 : Env0 X.prog X.w X.K X.mg X.base X.A.in1 X.stack s2 H2 := I2.env0.in1
  have hl : ([Value.ref a, u] ++ ([] : List Value)).length = ps.length := (F.len _ _ _ _ q : [V.ref a, y].length = ps.length)
  refine wpAny_call (codeAny_mono (F.run X.A.in1 X.stack s2 H2 ⟨[.ref a, u], []⟩ ([.ref a, u] ++ []) [.ref a, y] _ E hr1 e0 (hb s2 [.ref a, u] I2.kIn hl) (.cons rfl (.cons ry .nil)) q) fun r s' hq => ?_)
  match r, hq with
  | .error e, hq => exact hx pins σ H2 s2 e s' I2 hq
  | .ok (.ret w), hq =>
    obtain ⟨z, H', I', rz, q'⟩ := I2.after hq
    exact ⟨z, H', I', rz, q'⟩
  | .ok .next, hq => exact hq.elim
  | .ok .brk, hq => exact hq.elim
  | .ok .cont, hq => exact hq.elim
end
end So

/-! own binary operators of two instances of one class -/
namespace So
open PySem PySem.Spec PyProof.Rows L2
section
variable {X : Cx} {CX : CXT} {k : Nat} {C f : Addr} {fd : FuncData} {ps : List Str} {sp : Sp} {E : XK}
def rBinOwn (C : Addr) (sp : Sp) (E : XK) : R2 := fun x y H Q => ∃ (a dx : Addr) (fs : List (Str × V)) (a' dx' : Addr) (fs' : List (Str × V)), x = .ref a ∧ y = .ref a' ∧ H a = some (.ins C dx fs) ∧ H a' = some (.ins C dx' fs') ∧ sp [.ref a, .ref a'] H Q E
theorem op_binOwn {op : Operator} (F : FnOk X.prog X.w X.K X.mg X.base CX k f fd ps sp) (hs : PySem.W.findIn X.K (.ref C) (PySem.dunder op.info.2) = some (some (.ref f))) (hf : PySem.W.isFn X.K (.ref f) = true) (hb : Binds X.K fd ps []) (hx : Passes CX X E) (hr : Room k X.A)
    (hc : PySem.W.selfFirst X.K C = true) : OpR X (binaryOp op) (rBinOwn C sp E) := by
  intro pins s σ H x y v u Q I rx ry h
  obtain ⟨a, dx, fs, a', dx', fs', rfl, rfl, ha, ha', q⟩ := h
  cases rx
  cases ry
  obtain ⟨mA, J, _⟩ := ins_get I.hok ha
  obtain ⟨od, J, _⟩ := J.look
  obtain ⟨mB, J', _⟩ := ins_get I.hok ha'
  obtain ⟨od', J', _⟩ := J'.look
  obtain ⟨m, hF⟩ := I.fr
  refine PySem.W.binop_K hF I.ok.mod.kin J J'.type hc hs hf ?_
  refine wpAny_mono (run_fn (us := [.ref a, .ref a']) (vs := [.ref a, .ref a']) F hr hb .nil hx I (.cons rfl (.cons rfl .nil)) q) (fun w s' z => ?_) fun _ _ z => z
  obtain ⟨v, H', I', r, q'⟩ := z
  cases w <;> first | exact ⟨v, H', I', r, q'⟩ | (cases v <;> simp [L2.RelV] at r)
end
end So

namespace K31
open PySem PySem.Spec PyProof.Rows L2 So LamX
/-- a chain of which the thing at k is the first that cannot stand -/
theorem made_badat {K : PySem.W.Frag} {CS CT CB C : Addr} {its : List (V × Option Part)} {H : Hp} {E : XK} {Q : VK} (h64 : its.length ≤ 1000) (hit : ∀ e ∈ its, ItAt K CS CT H e) (k : Nat) (hk : k < its.length) (h1 : okAt (its.map Prod.snd) k = false) (h2 : ∀ j, j < k → okAt (its.map Prod.snd) j = true)
    (bad : Bad CB (.int (k : Nat)) H E) : Made K CS CT CB C its H E Q := by
  refine ⟨h64, hit, fun e => ?_, fun j hj e1 e2 => ?_, fun _ hall => ?_⟩
  · rw [e] at hk
    cases hk
  · have : j = k := by
      rcases Nat.lt_trichotomy j k with h | h | h
      · rw [h2 j h] at e1
        cases e1
      · exact h
      · rw [e2 k h] at h1
        cases h1
    rw [this]
    exact bad
  · rw [hall k hk] at h1
    cases h1
theorem okAt_congr {os os' : List (Option Part)} {j : Nat} (h : ∀ i, i ≤ j → os[i]? = os'[i]?) : okAt os j = okAt os' j := by
  unfold okAt
  rw [h j (Nat.le_refl _), h (j - 1) (Nat.sub_le ..)]
theorem okAt_none {os : List (Option Part)} {k : Nat} (h : os[k]? = some none) : okAt os k = false := by
  unfold okAt
  rw [h]
theorem okAt_far {os : List (Option Part)} {k : Nat} {p q : Part} (h1 : os[k + 1]? = some (some p)) (h2 : os[k]? = some (some q)) (h3 : p.u.z ≠ q.v.z) : okAt os (k + 1) = false := by
  unfold okAt
  rw [h1, show k + 1 - 1 = k from rfl, h2]
  show (decide (k + 1 = 0) || decide (p.u = q.v)) = false
  rw [decide_eq_false (Nat.succ_ne_zero k), decide_eq_false (fun e => h3 (by rw [e]))]
  rfl
theorem cut_take (xs : List V) (k : Nat) (h : k ≤ xs.length) : cutV xs none (some (k : Int)) = xs.take k := by
  unfold cutV
  rw [HT.sIx_none, HT.sIx_nat]
  show (xs.drop 0).take (min k xs.length - 0) = _
  rw [List.drop_zero, Nat.min_eq_left h, Nat.sub_zero]
theorem cut_drop (xs : List V) (k : Nat) (h : k ≤ xs.length) : cutV xs (some (k : Int)) none = xs.drop k := by
  unfold cutV
  rw [HT.sIx_none, HT.sIx_nat, Nat.min_eq_left h]
  refine List.take_of_length_le ?_
  rw [List.length_drop]
  exact Nat.le_refl _
theorem StV.offN {CS CT : Addr} {H H' : Hp} {v : V} {q : Part} {p l : Addr} {ns : List Int} {n : Nat} {g : Int} (h : StV CS CT H v q) (hp : Pen H p l ns n g) (s : OffN p H H') : StV CS CT H' v q := by
  obtain ⟨a, e, h⟩ := h
  exact ⟨a, e, h.offN hp s⟩
theorem SsAt.offN {CS CT : Addr} {H H' : Hp} {lm : Addr} {us : List V} {ps : List Part} {p l : Addr} {ns : List Int} {n : Nat} {g : Int} (h : SsAt CS CT H lm us ps) (hp : Pen H p l ns n g) (ne : lm ≠ p) (s : OffN p H H') : SsAt CS CT H' lm us ps := by
  obtain ⟨h1, h2, h3⟩ := h
  refine ⟨s _ _ ne h1 lst_ne, h2, fun i v hv => ?_⟩
  obtain ⟨q, hq, h⟩ := h3 i v hv
  exact ⟨q, hq, h.offN hp s⟩
theorem SsAt.same {CS CT : Addr} {H H' : Hp} {lm : Addr} {us : List V} {ps : List Part} (h : SsAt CS CT H lm us ps) (s : Same H H') : SsAt CS CT H' lm us ps := by
  obtain ⟨h1, h2, h3⟩ := h
  refine ⟨s _ _ h1, h2, fun i v hv => ?_⟩
  obtain ⟨q, hq, h⟩ := h3 i v hv
  exact ⟨q, hq, h.same s⟩
theorem SsAt.ne {CS CT : Addr} {H : Hp} {lm : Addr} {us : List V} {ps : List Part} {p l : Addr} {ns : List Int} {n : Nat} {g : Int} (h : SsAt CS CT H lm us ps) (hp : Pen H p l ns n g) : lm ≠ p := fun e => by
  obtain ⟨h1, h2, h3⟩ := h
  rw [e, hp.pen] at h1
  obtain rfl := HO.lst.inj (Option.some.inj h1)
  obtain ⟨q, _, a, e, _⟩ := h3 1 (.int n) rfl
  cases e
/-- the things of a list, known or odd -/
theorem mem_zip2 {α β : Type} {xs : List α} {ys : List β} {e : α × β} (h : e ∈ xs.zip ys) : ∃ i : Nat, xs[i]? = some e.1 ∧ ys[i]? = some e.2 := by
  obtain ⟨i, hi, rfl⟩ := List.mem_iff_getElem.mp h
  rw [List.length_zip] at hi
  refine ⟨i, ?_, ?_⟩
  · rw [List.getElem_zip, List.getElem?_eq_getElem (by omega)]
  · rw [List.getElem_zip, List.getElem?_eq_getElem (by omega)]
/-- a list in which the thing at k is put in the place of another -/
theorem put_get {α : Type} {xs : List α} {x : α} {k : Nat} (hk : k < xs.length) (i : Nat) : (xs.take k ++ [x] ++ xs.drop (k + 1) : List α)[i]? = (if i = k then some x else xs[i]? : Option α) := by
  have hl : (xs.take k).length = k := by rw [List.length_take]; omega
  by_cases h1 : i < k
  · rw [if_neg (by omega), List.append_assoc, List.getElem?_append_left (by omega), List.getElem?_take_of_lt h1]
  · rw [List.append_assoc, List.getElem?_append_right (by omega), hl]
    by_cases h2 : i = k
    · rw [if_pos h2, h2, Nat.sub_self]
      rfl
    · rw [if_neg h2]
      have e : i - k = (i - (k + 1)) + 1 := by omega
      rw [e]
      show (xs.drop (k + 1))[i - (k + 1)]? = _
      rw [List.getElem?_drop]
      congr 1
      omega
/-- a list with a thing more behind the k-th -/
theorem ins_get {α : Type} {xs : List α} {x : α} {k : Nat} (hk : k < xs.length) (i : Nat) : (xs.take (k + 1) ++ [x] ++ xs.drop (k + 1) : List α)[i]? = (if i ≤ k then xs[i]? else if i = k + 1 then some x else xs[i - 1]? : Option α) := by
  have hl : (xs.take (k + 1)).length = k + 1 := by rw [List.length_take]; omega
  by_cases h1 : i ≤ k
  · rw [if_pos h1, List.append_assoc, List.getElem?_append_left (by omega), List.getElem?_take_of_lt (by omega)]
  · rw [if_neg h1, List.append_assoc, List.getElem?_append_right (by omega), hl]
    by_cases h2 : i = k + 1
    · rw [if_pos h2, h2, Nat.sub_self]
      rfl
    · rw [if_neg h2]
      have e : i - (k + 1) = (i - (k + 2)) + 1 := by omega
      rw [e]
      show (xs.drop (k + 1))[i - (k + 2)]? = _
      rw [List.getElem?_drop]
      congr 1
      omega
end K31

namespace K31
open PySem PySem.Spec PyProof.Rows L2 So LamX
variable {K : PySem.W.Frag} {CS CT CB C : Addr} {H : Hp} {E : XK} {Q : VK}
theorem okAt_pre {os : List (Option Part)} {ps : List Part} (hln : Linked ps) {j : Nat} (hj : j < ps.length) (h : ∀ i, i ≤ j → os[i]? = (ps.map some)[i]?) : okAt os j = true := by
  rw [okAt_congr h]
  exact okAt_linked hln hj
theorem madeS3 {x dx : Addr} {z : Str} {m : Int} {b : Bool} {H1 : Hp} {Q3 : VK} (hx : H1 x = none) (hd : H1 dx = none) (ne : dx ≠ x) (hz : z.length ≤ 2000) (hn : isName z = true) (h0 : 0 ≤ m) (h1 : m ≤ 1000000000000000000000000000000) (h : ∀ (H' : Hp), Same H1 H' → At C H' x z m b → Q3 .non H') :
    spInit C [.ref x, .str z, .int m, .bl b] (upd (upd H1 dx (.own x)) x (.ins C dx [])) Q3 E := by
  have s0 : Same H1 (upd (upd H1 dx (.own x)) x (.ins C dx [])) := same2 hx hd
  exact ⟨x, dx, z, m, b, rfl, upd_same, hz, hn, h0, h1, fun H' o e => h H' (fun c u k => o c u (ne_of_none k hx) (s0 c u k)) ⟨dx, e⟩⟩
theorem spCI_mono {vs : List V} {Q' : VK} (h : spCI K CS CT CB C vs H Q E) (i : ∀ H', Q .non H' → Q' .non H') : spCI K CS CT CB C vs H Q' E := by
  obtain ⟨ws, rest, e1, e2, e3, k⟩ := h
  refine ⟨ws, rest, e1, e2, e3, fun p hp => ?_⟩
  obtain ⟨x, dx, p', its, f1, f2, f3, f4, f5, f6, f7, f8⟩ := k p hp
  exact ⟨x, dx, p', its, f1, f2, f3, f4, f5, f6, f7, fun a b H' c d => i H' (f8 a b H' c d)⟩
/-- a chain of one step, made -/
theorem madeC1 {x dx fa : Addr} {fp : Part} {H1 : Hp} {Q3 : VK} (hx : H1 x = none) (hd : H1 dx = none) (ne : dx ≠ x) (hF : StAt CS CT H1 fa fp) (ho : fp.Ok) (h : ∀ (H' : Hp) (t : Addr), Same H1 H' → ChAt CS CT C H' x t [.ref fa] [fp] → Q3 .non H') :
    spCI K CS CT CB C [.ref x, .ref fa] (upd (upd H1 dx (.own x)) x (.ins C dx [])) Q3 E := by
  have all1 : ∀ (i : Nat) (v : V), ([.ref fa] : List V)[i]? = some v → ∃ p, ([fp] : List Part)[i]? = some p ∧ StV CS CT H1 v p := fun i v hv => by
    cases i with
    | zero => exact ⟨fp, rfl, fa, (Option.some.inj hv).symm, hF⟩
    | succ n => cases hv
  have h0 := madeC (E := E) (Q := fun y H2 => ∃ a t, y = V.ref a ∧ Same H1 H2 ∧ ChAt CS CT C H2 a t [.ref fa] [fp]) (made_linked (K := K) (CB := CB) (us := [.ref fa]) (rs := [fp]) all1 rfl (fun e => nomatch e) (by show 1 ≤ 1000; decide) (fun p hp => by rw [List.mem_singleton.mp hp]; exact ho) (fun i a b _ hb => by simp at hb) fun H' a t s hc => ⟨a, t, rfl, s, hc⟩) x dx hx hd ne
  exact spCI_mono h0 fun H' ⟨_, a, t, e, s, hc⟩ => h H' t s (by cases e; exact hc)
theorem ChAt.offN {H H' : Hp} {a t : Addr} {vs : List V} {ps : List Part} {p l : Addr} {ns : List Int} {n : Nat} {g : Int} (h : ChAt CS CT C H a t vs ps) (hp : Pen H p l ns n g) (s : OffN p H H') : ChAt CS CT C H' a t vs ps := by
  obtain ⟨dx, e⟩ := h.self
  have nt := h.tup
  refine ⟨⟨dx, s _ _ (fun z => by rw [z, hp.pen] at e; cases e) e ins_ne⟩, s _ _ (fun z => by rw [z, hp.pen] at nt; cases nt) nt tup_ne, fun i v hv => ?_, h.len, h.ok, h.ne⟩
  obtain ⟨q, hq, hs⟩ := h.all i v hv
  exact ⟨q, hq, hs.offN hp s⟩
/-- odd things from the sp-th on -/
theorem bent_made {bs us : List V} {ps : List Part} {odd : V} {sp : Nat} (hul : us.length = ps.length) (h5 : us.length ≤ 1000) (hbl : bs.length = us.length) (hsp : sp < us.length) (hS : ∀ (i : Nat) (v : V), us[i]? = some v → ∃ p, ps[i]? = some p ∧ StV CS CT H v p) (hok : ∀ p ∈ ps, p.Ok) (hln : Linked ps)
    (h1 : ∀ j, j < sp → bs[j]? = us[j]?) (h2 : bs[sp]? = some odd) (h3 : ∀ (i : Nat) (v : V), bs[i]? = some v → v = odd ∨ us[i]? = some v) (ho : NoT K CT H odd) (bad : Bad CB (.int (sp : Nat)) H E) :
    ∃ its : List (V × Option Part), its.map Prod.fst = bs ∧ its.length = us.length ∧ Made K CS CT CB C its H E Q := by
  let os : List (Option Part) := (List.range us.length).map fun i => if i ≠ sp ∧ bs[i]? = us[i]? then ps[i]? else none
  have hos : ∀ i, i < us.length → os[i]? = some (if i ≠ sp ∧ bs[i]? = us[i]? then ps[i]? else none) := fun i hi => by
    show ((List.range us.length).map _)[i]? = _
    rw [List.getElem?_map, List.getElem?_range hi]
    rfl
  have hol : os.length = us.length := by
    show ((List.range us.length).map _).length = _
    rw [List.length_map, List.length_range]
  have e1 : (bs.zip os).map Prod.fst = bs := List.map_fst_zip (by omega)
  have e2 : (bs.zip os).map Prod.snd = os := List.map_snd_zip (by omega)
  have el : (bs.zip os).length = us.length := by rw [List.length_zip]; omega
  refine ⟨bs.zip os, e1, el, made_badat (by omega) (fun e he => ?_) sp (by omega) ?_ (fun j hj => ?_) bad⟩
  · obtain ⟨i, hb, ho'⟩ := mem_zip2 he
    have hi : i < us.length := by
      have := (List.getElem?_eq_some_iff.mp hb).1
      omega
    rw [hos i hi] at ho'
    obtain ⟨v, o⟩ := e
    simp only at hb ho'
    obtain rfl := (Option.some.inj ho').symm
    split
    · rename_i hc
      rw [hc.2] at hb
      obtain ⟨q, hq, a, rfl, hA⟩ := hS i v hb
      rw [hq]
      exact .inl ⟨a, q, rfl, hA, hok q (List.mem_of_getElem? hq)⟩
    · rename_i hc
      refine .inr ⟨v, rfl, ?_⟩
      by_cases hi2 : i = sp
      · subst hi2
        rw [h2] at hb
        rw [← Option.some.inj hb]
        exact ho
      · rcases h3 i v hb with h | h
        · rw [h]
          exact ho
        · exact absurd ⟨hi2, by rw [hb, h]⟩ hc
  · rw [e2]
    refine okAt_none ?_
    rw [hos sp hsp, if_neg (fun h => h.1 rfl)]
  · rw [e2]
    refine okAt_pre hln (by omega) fun i hi => ?_
    rw [hos i (by omega), if_pos ⟨by omega, h1 i (by omega)⟩, List.getElem?_map]
    have : i < ps.length := by omega
    rw [List.getElem?_eq_getElem this]
    rfl
/-- a step that does not meet, behind the sp-th -/
theorem loose_made {us : List V} {ps : List Part} {far : Addr} {fp : Part} {sp : Nat} (hul : us.length = ps.length) (h5 : us.length ≤ 900) (hsp : sp < us.length) (hS : ∀ (i : Nat) (v : V), us[i]? = some v → ∃ p, ps[i]? = some p ∧ StV CS CT H v p) (hok : ∀ p ∈ ps, p.Ok) (hln : Linked ps)
    (hf : StAt CS CT H far fp) (hfo : fp.Ok) (hz : ∀ p ∈ ps, fp.u.z ≠ p.v.z) (bad : Bad CB (.int ((sp + 1 : Nat) : Int)) H E) :
    ∃ its : List (V × Option Part), its.map Prod.fst = us.take (sp + 1) ++ [.ref far] ++ us.drop (sp + 1) ∧ its.length = us.length + 1 ∧ Made K CS CT CB C its H E Q := by
  have hb := fun i => ins_get (x := V.ref far) hsp i
  have ho : ∀ i, ((ps.take (sp + 1) ++ [fp] ++ ps.drop (sp + 1)).map some)[i]? = (if i ≤ sp then ps[i]? else if i = sp + 1 then some fp else ps[i - 1]?).map some := fun i => by
    rw [List.getElem?_map, ins_get (x := fp) (by omega) i]
  have hbl : (us.take (sp + 1) ++ [V.ref far] ++ us.drop (sp + 1)).length = us.length + 1 := by
    simp only [List.length_append, List.length_take, List.length_drop, List.length_singleton]
    omega
  have hol : ((ps.take (sp + 1) ++ [fp] ++ ps.drop (sp + 1)).map some).length = us.length + 1 := by
    simp only [List.length_map, List.length_append, List.length_take, List.length_drop, List.length_singleton]
    omega
  have e1 := List.map_fst_zip (l₁ := us.take (sp + 1) ++ [V.ref far] ++ us.drop (sp + 1)) (l₂ := (ps.take (sp + 1) ++ [fp] ++ ps.drop (sp + 1)).map some) (by omega)
  have e2 := List.map_snd_zip (l₁ := us.take (sp + 1) ++ [V.ref far] ++ us.drop (sp + 1)) (l₂ := (ps.take (sp + 1) ++ [fp] ++ ps.drop (sp + 1)).map some) (by omega)
  have el : ((us.take (sp + 1) ++ [V.ref far] ++ us.drop (sp + 1)).zip ((ps.take (sp + 1) ++ [fp] ++ ps.drop (sp + 1)).map some)).length = us.length + 1 := by rw [List.length_zip]; omega
  refine ⟨_, e1, el, made_badat (by omega) (fun e he => ?_) (sp + 1) (by omega) ?_ (fun j hj => ?_) bad⟩
  · obtain ⟨i, hv, hq⟩ := mem_zip2 he
    rw [hb] at hv
    rw [ho] at hq
    obtain ⟨v, o⟩ := e
    simp only at hv hq
    have known : ∀ k, us[k]? = some v → (ps[k]?).map some = some o → ItAt K CS CT H (v, o) := fun k h1 h2 => by
      obtain ⟨q, hq9, a, rfl, hA⟩ := hS k v h1
      rw [hq9] at h2
      obtain rfl := (Option.some.inj h2).symm
      exact .inl ⟨a, q, rfl, hA, hok q (List.mem_of_getElem? hq9)⟩
    by_cases c1 : i ≤ sp
    · rw [if_pos c1] at hv hq
      exact known i hv hq
    · rw [if_neg c1] at hv hq
      by_cases c2 : i = sp + 1
      · rw [if_pos c2] at hv hq
        obtain rfl := Option.some.inj hv
        obtain rfl := (Option.some.inj hq).symm
        exact .inl ⟨far, fp, rfl, hf, hfo⟩
      · rw [if_neg c2] at hv hq
        exact known (i - 1) hv hq
  · rw [e2]
    have hp : sp < ps.length := by omega
    refine okAt_far (p := fp) (q := ps[sp]) ?_ ?_ (hz _ (List.getElem_mem hp))
    · rw [ho, if_neg (by omega), if_pos rfl]
      rfl
    · rw [ho, if_pos (Nat.le_refl _), List.getElem?_eq_getElem hp]
      rfl
  · rw [e2]
    refine okAt_pre hln (by omega) fun i hi => ?_
    rw [ho, if_pos (by omega), List.getElem?_map]
/-- two chains that do not meet -/
theorem add_made {us us' : List V} {ps ps' : List Part} (hul : us.length = ps.length) (hul' : us'.length = ps'.length) (h5 : us.length + us'.length ≤ 1000) (hS : ∀ (i : Nat) (v : V), us[i]? = some v → ∃ p, ps[i]? = some p ∧ StV CS CT H v p) (hS' : ∀ (i : Nat) (v : V), us'[i]? = some v → ∃ p, ps'[i]? = some p ∧ StV CS CT H v p)
    (hok : ∀ p ∈ ps, p.Ok) (hok' : ∀ p ∈ ps', p.Ok) (hln : Linked ps) (hne : ps ≠ []) (hne' : ps' ≠ []) (hz : ∀ p ∈ ps, ∀ q ∈ ps', q.u.z ≠ p.v.z) (bad : Bad CB (.int (ps.length : Nat)) H E) : Made K CS CT CB C ((us ++ us').zip ((ps ++ ps').map some)) H E Q := by
  have h0 : 0 < ps.length := List.length_pos_iff.mpr hne
  have h0' : 0 < ps'.length := List.length_pos_iff.mpr hne'
  have e2 := List.map_snd_zip (l₁ := us ++ us') (l₂ := (ps ++ ps').map some) (by simp only [List.length_append, List.length_map]; omega)
  have el : ((us ++ us').zip ((ps ++ ps').map some)).length = us.length + us'.length := by
    simp only [List.length_zip, List.length_append, List.length_map]
    omega
  refine made_badat (by omega) (fun e he => ?_) ps.length (by omega) ?_ (fun j hj => ?_) bad
  · obtain ⟨i, hv, hq⟩ := mem_zip2 he
    rw [List.getElem?_map] at hq
    obtain ⟨v, o⟩ := e
    simp only at hv hq
    by_cases hi : i < us.length
    · rw [List.getElem?_append_left hi] at hv
      rw [List.getElem?_append_left (by omega)] at hq
      obtain ⟨q, hq1, a, rfl, hA⟩ := hS i v hv
      rw [hq1] at hq
      obtain rfl := (Option.some.inj hq).symm
      exact .inl ⟨a, q, rfl, hA, hok q (List.mem_of_getElem? hq1)⟩
    · rw [List.getElem?_append_right (by omega)] at hv
      rw [List.getElem?_append_right (by omega), ← hul] at hq
      obtain ⟨q, hq1, a, rfl, hA⟩ := hS' _ v hv
      rw [hq1] at hq
      obtain rfl := (Option.some.inj hq).symm
      exact .inl ⟨a, q, rfl, hA, hok' q (List.mem_of_getElem? hq1)⟩
  · rw [e2]
    obtain ⟨k, hk⟩ : ∃ k, ps.length = k + 1 := ⟨ps.length - 1, by omega⟩
    rw [hk]
    refine okAt_far (p := ps'[0]) (q := ps[k]) ?_ ?_ (hz _ (List.getElem_mem _) _ (List.getElem_mem _))
    · rw [List.getElem?_map, List.getElem?_append_right (by omega), show k + 1 - ps.length = 0 by omega, List.getElem?_eq_getElem h0']
      rfl
    · rw [List.getElem?_map, List.getElem?_append_left (by omega), List.getElem?_eq_getElem (by omega)]
      rfl
  · rw [e2]
    refine okAt_pre hln hj fun i hi => ?_
    rw [List.getElem?_map, List.getElem?_map, List.getElem?_append_left (by omega)]
end K31

namespace K31
open PySem PySem.Spec PyProof.Rows L2 So LamX
abbrev sRr : Stmt := topS 49
abbrev rrN : List Str := ["_law_pen_here", "_law_parts_here", "_law_some", "_law_spot", "_law_odd", "_law_far", "_law_alone", "_law_bent", "_law_chain_here", "_law_k", "_law_loose"]
theorem scRr : FnScope rrN ["_law_pen_here", "_law_parts_here"] (defScope sRr) := ⟨rfl, rfl, rfl, by decide +kernel, rfl, by decide +kernel, by decide +kernel⟩
section
variable {P : Program} {w : World} {K : PySem.W.Frag} {mg : Str → Option Value} {base : Heap}
def spRr (T : List (Addr × Str)) : Sp := fun vs H Q _ => ∃ (p l pl : Addr) (ns : List Int) (n : Nat) (g : Int) (ps : List Part), vs = [.ref p, .ref pl] ∧ Pen H p l ns n g ∧ n < 900000 ∧ pl ≠ p ∧ PsAt H pl ps ∧ ps ≠ [] ∧ ps.length ≤ 5 ∧ Linked ps ∧ (∀ x ∈ ps, POk x) ∧ Tabs T H ∧
  ∀ (n' : Nat) (g' : Int) (H' : Hp), n' ≤ n + 6 → OffN p H H' → Pen H' p l ns n' g' → Tabs T H' → Q (.bl true) H'
theorem ok_rr {T : List (Addr × Str)} {C CS CT CB CE f fI fSI fM fP fD fH fB fC fA fG fCI c1 P1 : Addr} {fd fdI fdSI fdM fdP fdD fdH fdB fdC fdA fdG : FuncData} (F : Fun K "_law_refused_right" "_law_refused_right" sRr f fd) (hcode : fd.code = .ref c1) (TB : TabB base mg c1 P1)
    (hT1 : ∀ n f' c', (P1, (envOfC "_law_refused_right" (defScope sRr) n f' c').qual ++ "<lambda>") ∈ T) (hT2 : ∀ n f' c', ∀ q ∈ T, q.1 = P1 → q.2 = (envOfC "_law_refused_right" (defScope sRr) n f' c').qual ++ "<lambda>")
    (W : Words K mg) (L : WordsC mg) (TS : Say K mg CS) (S : Stp K mg CT) (TC : Chn K mg C) (OT : Own1 K CT) (OS : Own1 K CS) (R : Hrd K mg CE CB)
    (MS : Mk K CS fSI) (bSI : Binds K fdSI ["self", "tool", "moment", "is_sound"] []) (GSI : FnOk P w K mg base CX0 4 fSI fdSI ["self", "tool", "moment", "is_sound"] (spInit CS))
    (M : Mk K CT fI) (bI : Binds K fdI ["self", "one", "other", "reason"] []) (GI : FnOk P w K mg base (L2.CX P w) 3 fI fdI ["self", "one", "other", "reason"] (spTInit K CS CB CT))
    (MC : Mk K C fCI) (GCI : FnR P w K mg base (L2.CX P w) 5 fCI (spCI K CS CT CB C))
    (FM : Fun K "_law_made" "_law_made" sMade fM fdM) (bM : Binds K fdM ["_law_parts_here"] []) (gM : mg "_law_made" = some (.ref fM)) (GM : FnOk P w K mg base CX0 7 fM fdM ["_law_parts_here"] (spMade CS CT))
    (FD : Fun K "_law_draw" "_law_draw" sDraw fD fdD) (bD : Binds K fdD ["_law_pen_here", "_law_many"] []) (gD : mg "_law_draw" = some (.ref fD)) (GD : FnOk P w K mg base CX0 1 fD fdD ["_law_pen_here", "_law_many"] spDraw)
    (FP : Fun K "_law_pick" "_law_pick" sPick fP fdP) (bP : Binds K fdP ["_law_pen_here", "_law_some"] []) (gP : mg "_law_pick" = some (.ref fP)) (GP : FnOk P w K mg base CX0 2 fP fdP ["_law_pen_here", "_law_some"] (spPick K))
    (FC : Fun K "_law_chain" "_law_chain" sChain fC fdC) (bC : Binds K fdC ["_law_some"] []) (gC : mg "_law_chain" = some (.ref fC)) (GC : FnOk P w K mg base (L2.CX P w) 7 fC fdC ["_law_some"] (spChain K CS CT CB C))
    (sA : PySem.W.findIn K (.ref C) (PySem.dunder (Operator.info .Add).2) = some (some (.ref fA))) (iA : PySem.W.isFn K (.ref fA) = true) (bA : Binds K fdA ["self", "other"] []) (GA : FnOk P w K mg base (L2.CX P w) 7 fA fdA ["self", "other"] (spAdd K CS CT CB C)) (sf : PySem.W.selfFirst K C = true)
    (sG : PySem.W.findIn K (.ref C) "__getitem__" = some (some (.ref fG))) (nG : PySem.W.fnIn K fG = true) (iG : PySem.W.isFn K (.ref fG) = true) (bG : Binds K fdG ["self", "k"] []) (GG : FnOk P w K mg base (L2.CX P w) 3 fG fdG ["self", "k"] (spGet K CS CT CB C))
    (FH : Fun K "_law_heard" "_law_heard" sHeard fH fdH) (bH : Binds K fdH ["_law_ask"] []) (gH : mg "_law_heard" = some (.ref fH))
    (FB : Fun K "_law_is_bad" "_law_is_bad" sBad fB fdB) (bB : Binds K fdB ["_law_ask", "_law_due_here"] []) (gB : mg "_law_is_bad" = some (.ref fB)) :
    FnG P w K mg base CX0 13 f fd ["_law_pen_here", "_law_parts_here"] (spRr T) := by
  obtain ⟨ocH, odH, kVH, docH, pmH, anH, cdvH, ctH, oslH, efdH, lkH, hcH⟩ := FH.ex
  subst efdH
  obtain ⟨ocB, odB, kVB, docB, pmB, anB, cdvB, ctB, oslB, efdB, lkB, hcB⟩ := FB.ex
  subst efdB
  refine fnG_ofC F hcode scRr (fun vs H Q E h => ?_) (fun A outer s H vs Q E hg hr h => ?_)
  · obtain ⟨_, _, _, _, _, _, _, rfl, _⟩ := h
    rfl
  · obtain ⟨p, l, pl, ns, n, g, ps, rfl, hp, hn, npl, hP, hne, h5, hln, hok, hT, q⟩ := h
    have hr1 : Room 1 _ := hr.mono (by decide)
    have hr2 : Room 2 _ := hr.mono (by decide)
    have hr4 : Room 4 _ := hr.mono (by decide)
    have hr5 : Room 5 _ := hr.mono (by decide)
    have hr6 : Room 6 _ := hr.mono (by decide)
    have hr7 : Room 7 _ := hr.mono (by decide)
    have hg2 : (A.deeper (envOfC "_law_refused_right" (defScope sRr) s.heap.objs.size f (.ref c1))).guards = some [] := hg
    refine ⟨_, (pss_cons (ps_set (i := 2) scRr.nd rfl (.inl rfl) (pe_call GM hr7 (by rfl) gM FM.kp bM .nil pass0 (pa_cons (pv 1) pa_nil)))
      (pss_cons (ps_set (i := 3) scRr.nd rfl (.inl rfl) (pe_call GD hr1 (by rfl) gD FD.kp bD .nil pass0 (pa_cons (pv 0) (pa_cons (pe_callB call_len_seq (by rfl) W.len PySem.boot_len (pa_cons (pv 2) pa_nil)) pa_nil))))
      (pss_cons (ps_set (i := 4) scRr.nd rfl (.inl rfl) (pe_call GP hr2 (by rfl) gP FP.kp bP .nil pass0 (pa_cons (pv 0) (pa_cons (pe_lst (pa_cons pe_non (pa_cons pe_str (pa_cons pe_int (pa_cons (pv 2) (pa_cons (pe_callTy call_tuple_of (by rfl) L.tuple (by decide +kernel) (pa_cons (pv 2) pa_nil)) (pa_cons pe_dnewK pa_nil))))))) pa_nil))))
      (pss_cons (ps_set (i := 7) scRr.nd rfl (.inr rfl) (pe_op op_cat (pe_op op_cat (pe_slice sl_list (pv 2) po_none (po_some (pv 3))) (pe_lst (pa_cons (pv 4) pa_nil))) (pe_slice sl_list (pv 2) (po_some (pe_op op_add (pv 3) pe_int)) po_none)))
      (pss_cons (ps_cut (ps_if (pt_cmpR op_eq (pe_call GD hr1 (by rfl) gD FD.kp bD .nil pass0 (pa_cons (pv 0) (pa_cons pe_int pa_nil))) pe_int (nomark _)) (pss_one (ps_asg (pv 4) (pg_sub (pv 7) (pe_un un_neg pe_int) set_list))) pss_nil))
      (pss_cons (ps_if (pt_not (pt_val (pe_lamcall2 (T := T) (TT := TTh CB) (TT2 := TTb K CB) (t := _) (k := 9) (by rfl) gB FB.kp lkB hcB bB scBad rfl (Or.inl rfl) (fun _ _ _ _ => by rfl) gH FH.kp lkH hcH bH scHeard rfl (Or.inl rfl) (fun _ _ _ _ => heard_gives R) (bad_gives hg2 R) TB rfl (hT1 _ _ _) (hT2 _ _ _) hr
            (lamS_by (sc := defScope sRr) (by decide +kernel)) rfl (fun _ _ _ _ _ => rfl) (fun A outer s H E f c' hr' => pe_call GC (hr'.mono (by decide)) (by rfl) gC FC.kp bC .nil (passes_call (takes_of rfl rfl rfl rfl) (fun _ _ _ _ h => h)) (pa_cons (pv 7) pa_nil)) (pa_cons (pv 3) pa_nil)))) (pss_one (ps_ret pe_bl)) pss_nil)
      (pss_cons (ps_if (pt_not (pt_val (pe_lamcall2 (T := T) (TT := TTh CB) (TT2 := TTb K CB) (t := _) (k := 9) (by rfl) gB FB.kp lkB hcB bB scBad rfl (Or.inl rfl) (fun _ _ _ _ => by rfl) gH FH.kp lkH hcH bH scHeard rfl (Or.inl rfl) (fun _ _ _ _ => heard_gives R) (bad_gives hg2 R) TB rfl (hT1 _ _ _) (hT2 _ _ _) hr
            (lamS_by (sc := defScope sRr) (by decide +kernel)) rfl (fun _ _ _ _ _ => rfl) (fun A outer s H E f c' hr' => pe_call GC (hr'.mono (by decide)) (by rfl) gC FC.kp bC .nil (passes_call (takes_of rfl rfl rfl rfl) (fun _ _ _ _ h => h)) (pa_cons (pe_lst pa_nil) pa_nil)) (pa_cons pe_non pa_nil)))) (pss_one (ps_ret pe_bl)) pss_nil)
      (pss_cons (ps_set (i := 5) scRr.nd rfl (.inl rfl) (pe_make M GI hr4 (by rfl) S.mgC bI .nil passNo (pa_cons (pe_make MS GSI hr5 (by rfl) TS.mgC bSI .nil pass0 (pa_cons pe_str (pa_cons pe_int (pa_cons pe_bl pa_nil)))) (pa_cons (pe_make MS GSI hr5 (by rfl) TS.mgC bSI .nil pass0 (pa_cons pe_str (pa_cons pe_int (pa_cons pe_bl pa_nil)))) (pa_cons pe_str pa_nil)))))
      (pss_cons (ps_set (i := 10) scRr.nd rfl (.inr rfl) (pe_op op_cat (pe_op op_cat (pe_slice sl_list (pv 2) po_none (po_some (pe_op op_add (pv 3) pe_int))) (pe_lst (pa_cons (pv 5) pa_nil))) (pe_slice sl_list (pv 2) (po_some (pe_op op_add (pv 3) pe_int)) po_none)))
      (pss_cons (ps_cut (ps_if (PW.pt (pw_and (pt_cmpR op_lt (pe_callB call_len_seq (by rfl) W.len PySem.boot_len (pa_cons (pv 2) pa_nil)) pe_int (nomark _)) (pw_and1 (pt_not (pt_val (pe_lamcall2 (T := T) (TT := TTh CB) (TT2 := TTb K CB) (t := _) (k := 9) (by rfl) gB FB.kp lkB hcB bB scBad rfl (Or.inl rfl) (fun _ _ _ _ => by rfl) gH FH.kp lkH hcH bH scHeard rfl (Or.inl rfl) (fun _ _ _ _ => heard_gives R) (bad_gives hg2 R) TB rfl (hT1 _ _ _) (hT2 _ _ _) hr
            (lamS_by (sc := defScope sRr) (by decide +kernel)) rfl (fun _ _ _ _ _ => rfl) (fun A outer s H E f c' hr' => pe_call GC (hr'.mono (by decide)) (by rfl) gC FC.kp bC .nil (passes_call (takes_of rfl rfl rfl rfl) (fun _ _ _ _ h => h)) (pa_cons (pv 10) pa_nil)) (pa_cons (pe_op op_add (pv 3) pe_int) pa_nil))))))) (pss_one (ps_ret pe_bl)) pss_nil))
      (pss_cons (ps_asg (pe_tup (pa_cons (pe_call GC hr7 (by rfl) gC FC.kp bC .nil passNo (pa_cons (pv 2) pa_nil)) (pa_cons (StX.pe_makeR MC GCI hr6 (by rfl) TC.mgC passNo (pa_cons (pv 5) pa_nil)) pa_nil))) (pg_tup rfl (pgs_cons (pg_name (i := 8) scRr.nd rfl (Or.inr rfl)) (pgs_cons (pg_name (i := 6) scRr.nd rfl (Or.inr rfl)) pgs_nil))))
      (pss_cons (ps_if (pt_not (pt_val (pe_lamcall2 (T := T) (TT := TTh CB) (TT2 := TTb K CB) (t := _) (k := 9) (by rfl) gB FB.kp lkB hcB bB scBad rfl (Or.inl rfl) (fun _ _ _ _ => by rfl) gH FH.kp lkH hcH bH scHeard rfl (Or.inl rfl) (fun _ _ _ _ => heard_gives R) (bad_gives hg2 R) TB rfl (hT1 _ _ _) (hT2 _ _ _) hr
            (lamS_by (sc := defScope sRr) (by decide +kernel)) rfl (fun _ _ _ _ _ => rfl) (fun A outer s H E f c' hr' => pe_op (op_binOwn (op := .Add) GA sA iA bA (passes_call (takes_of rfl rfl rfl rfl) (fun _ _ _ _ h => h)) (hr'.mono (by decide)) sf) (pv 8) (pv 6)) (pa_cons (pe_callB call_len_seq (by rfl) W.len PySem.boot_len (pa_cons (pv 2) pa_nil)) pa_nil)))) (pss_one (ps_ret pe_bl)) pss_nil)
      (pss_cons (ps_if (pt_not (pt_val (pe_lamcall2 (T := T) (TT := TTh CB) (TT2 := TTb K CB) (t := _) (k := 9) (by rfl) gB FB.kp lkB hcB bB scBad rfl (Or.inl rfl) (fun _ _ _ _ => by rfl) gH FH.kp lkH hcH bH scHeard rfl (Or.inl rfl) (fun _ _ _ _ => heard_gives R) (bad_gives hg2 R) TB rfl (hT1 _ _ _) (hT2 _ _ _) hr
            (lamS_by (sc := defScope sRr) (by decide +kernel)) rfl (fun _ _ _ _ _ => rfl) (fun A outer s H E f c' hr' => pe_op (op_binOwn (op := .Add) GA sA iA bA (passes_call (takes_of rfl rfl rfl rfl) (fun _ _ _ _ h => h)) (hr'.mono (by decide)) sf) (pv 6) (pv 8)) (pa_cons pe_int pa_nil)))) (pss_one (ps_ret pe_bl)) pss_nil)
      (pss_cons (ps_for PassesOwn.never rfl (pi_list (pe_lst (pa_cons (pe_un un_neg pe_int) (pa_cons (pe_callB call_len_seq (by rfl) W.len PySem.boot_len (pa_cons (pv 2) pa_nil)) (pa_cons pe_non (pa_cons pe_bl (pa_cons pe_str (pa_cons (pe_tup (pa_cons pe_int pa_nil)) pa_nil)))))))) (pg_name (i := 9) scRr.nd rfl (Or.inr rfl))
        (pss_one (ps_if (pt_not (pt_val (pe_lamcall2 (T := T) (TT := TTh CB) (TT2 := TTb K CB) (t := _) (k := 9) (by rfl) gB FB.kp lkB hcB bB scBad rfl (Or.inl rfl) (fun _ _ _ _ => by rfl) gH FH.kp lkH hcH bH scHeard rfl (Or.inl rfl) (fun _ _ _ _ => heard_gives R) (bad_gives hg2 R) TB rfl (hT1 _ _ _) (hT2 _ _ _) hr
            (lamS_by (sc := defScope sRr) (by decide +kernel)) rfl (fun _ _ _ _ _ => rfl) (fun A outer s H E f c' hr' => pe_ixO (pv 8) (pv 9) GG sG nG iG bG (passes_call (takes_of rfl rfl rfl rfl) (fun _ _ _ _ h => h)) (hr'.mono (by decide))) (pa_cons (pv 9) pa_nil)))) (pss_one (ps_ret pe_bl)) pss_nil)))
      (pss_one (ps_ret pe_bl)))))))))))))))), ?_⟩
    have hss := sizeLine_eq
    have hn0 : 0 < ps.length := List.length_pos_iff.mpr hne
    refine ⟨_, rfl, pl, ps, rfl, hP, by omega, fun x hx => (hok x hx).ok, fun H1 lm us s1 hS1 => ?_⟩
    have pen1 := hp.same s1
    have nlm := hS1.ne pen1
    obtain ⟨hlm1, hul, _⟩ := id hS1
    refine ⟨_, rfl, _, rfl, lm, us, rfl, .inl (SqL.of hlm1), p, l, ns, n, g, _, rfl, pen1, by omega, by omega, ?_, fun d n2 g2 H2 hd0 hd1 hn2 off2 pen2 => ?_⟩
    · rw [Int.natAbs_natCast]
      exact Nat.lt_of_le_of_lt (show us.length ≤ 5 by omega) (by decide)
    obtain ⟨sp, rfl⟩ : ∃ sp : Nat, d = sp := ⟨d.toNat, by omega⟩
    have hsp : sp < us.length := by omega
    have hS2 := hS1.offN pen1 nlm (OffN.off off2)
    have T2 := tabs_off pen1.pen (tabs_same hT s1) off2
    have offA : OffN p H H2 := (OffN.same s1).trans (OffN.off off2)
    clear hd0 hd1
    refine ⟨_, rfl, _, rfl, _, rfl, lm, us, rfl, .inl ⟨SqL.of hS2.1, fun tl htl => ?_⟩⟩
    refine fun a2 ha2 => ⟨by show 6 ≤ sizeLine; decide, fun o1 ho1 => ?_⟩
    have s3 := ((same_upd0 (o := .tup us) htl).trans (same_upd0 (o := .dK []) ha2)).trans (same_upd0 (o := .lst [.non, .str "time", .int 0, .ref lm, .ref tl, .ref a2]) ho1)
    have n1 : tl ≠ p := pen2.ne htl
    have n2' : a2 ≠ p := (pen2.same (same_upd0 (o := .tup us) htl)).ne ha2
    have f1 := same_upd0 (o := .lst [.non, .str "time", .int 0, .ref lm, .ref tl, .ref a2]) ho1 _ _ (same_upd0 (o := .dK []) ha2 _ _ (upd_same (H := H2) (a := tl) (o := .tup us)))
    have f2 := same_upd0 (o := .lst [.non, .str "time", .int 0, .ref lm, .ref tl, .ref a2]) ho1 _ _ (upd_same (H := upd H2 tl (.tup us)) (a := a2) (o := .dK []))
    have pen3 := pen2.same s3
    have n3 : o1 ≠ p := (pen2.same ((same_upd0 (o := .tup us) htl).trans (same_upd0 (o := .dK []) ha2))).ne ho1
    refine ⟨p, l, ns, n2, g2, _, rfl, pen3, by omega, .inl ⟨o1, _, rfl, n3, upd_same, by show 0 < 6; decide, by show 6 ≤ 1000; decide, fun odd n4 g4 H4 hodd hn4 off4 pen4 => ?_⟩⟩
    have off24 : Off p H2 H4 := (offS s3).trans off4
    have hS4 := hS2.offN pen2 nlm (OffN.off off24)
    have noT : ∀ H', OffN p H4 H' → NoT K CT H' odd := by
      have f1' := off4 _ _ n1 f1
      have f2' := off4 _ _ n2' f2
      have kk : ∀ T, T ∈ ["tuple", "str", "NoneType", "int", "bool", "list", "dict"] → (∀ H', OffN p H4 H' → TyX K H' odd (.type T)) → ∀ H', OffN p H4 H' → NoT K CT H' odd := fun T hT h H' s' => ⟨_, fun H'' s2 => h H'' (s'.trans (OffN.same s2)), (OT.no T hT).1⟩
      simp only [List.mem_cons, List.not_mem_nil, or_false] at hodd
      rcases hodd with h | h | h | h | h | h <;> subst h
      · exact kk "NoneType" (by simp) fun H' _ => .base .non
      · exact kk "str" (by simp) fun H' _ => .base (.str _)
      · exact kk "int" (by simp) fun H' _ => .base (.int _)
      · exact kk "list" (by simp) fun H' s' => .base (.lst (s' _ _ nlm hS4.1 lst_ne))
      · exact kk "tuple" (by simp) fun H' s' => .base (.tup (s' _ _ n1 f1' tup_ne))
      · exact kk "dict" (by simp) fun H' s' => .base (.dK (s' _ _ n2' f2' dk_ne))
    have T4 := tabs_off pen2.pen T2 off24
    have offB : OffN p H H4 := offA.trans (OffN.off off24)
    clear s3 f1 f2 n1 n2' n3 off4 off24 htl ha2 ho1 hodd pen3 T2 hS2 hS1 hlm1 pen1 pen2 offA off2
    -- bent
    have hus5 : us.length ≤ 5 := by omega
    have ct1 : cutV us none (some ((sp : Nat) : Int)) = us.take sp := cut_take us sp (by omega)
    have ct2 : cutV us (some (((sp : Nat) : Int) + 1)) none = us.drop (sp + 1) := cut_drop us (sp + 1) (by omega)
    refine ⟨_, rfl, _, rfl, _, rfl, lm, us, rfl, SqL.of hS4.1, fun c1 hc1 => ⟨_, rfl, by show 1 ≤ sizeLine; decide, fun c2 hc2 => ?_⟩⟩
    have t1 := same_upd0 (o := .lst (cutV us none (some ((sp : Nat) : Int)))) hc1
    have t2 := same_upd0 (o := .lst [odd]) hc2
    refine ⟨c1, c2, _, _, rfl, rfl, t2 _ _ upd_same, upd_same, ?_, fun c3 hc3 => ?_⟩
    · rw [ct1, List.length_take]
      show _ + 1 ≤ sizeLine
      omega
    have t3 := same_upd0 (o := .lst (cutV us none (some ((sp : Nat) : Int)) ++ [odd])) hc3
    refine ⟨_, rfl, _, rfl, _, _, rfl, rfl, _, rfl, lm, us, rfl, SqL.of (((t1.trans t2).trans t3) _ _ hS4.1), fun c4 hc4 => ?_⟩
    have t4 := same_upd0 (o := .lst (cutV us (some (((sp : Nat) : Int) + 1)) none)) hc4
    refine ⟨c3, c4, _, _, rfl, rfl, t4 _ _ upd_same, upd_same, ?_, fun bl hbl => ?_⟩
    · rw [ct1, ct2]
      simp only [List.length_append, List.length_take, List.length_drop, List.length_singleton]
      omega
    have t5 := same_upd0 (o := .lst (cutV us none (some ((sp : Nat) : Int)) ++ [odd] ++ cutV us (some (((sp : Nat) : Int) + 1)) none)) hbl
    have s45 := (((t1.trans t2).trans t3).trans t4).trans t5
    have hbl5 := upd_same (H := upd (upd (upd (upd H4 c1 (.lst (cutV us none (some ((sp : Nat) : Int))))) c2 (.lst [odd])) c3 (.lst (cutV us none (some ((sp : Nat) : Int)) ++ [odd]))) c4 (.lst (cutV us (some (((sp : Nat) : Int) + 1)) none))) (a := bl) (o := .lst (cutV us none (some ((sp : Nat) : Int)) ++ [odd] ++ cutV us (some (((sp : Nat) : Int) + 1)) none))
    have hfresh : ∀ b o, H4 b = some o → b ≠ bl := fun b o e z => by
      rw [z] at e
      have := (((t1.trans t2).trans t3).trans t4) _ _ e
      rw [hbl] at this
      cases this
    generalize upd (upd (upd (upd (upd H4 c1 (.lst (cutV us none (some ((sp : Nat) : Int))))) c2 (.lst [odd])) c3 (.lst (cutV us none (some ((sp : Nat) : Int)) ++ [odd]))) c4 (.lst (cutV us (some (((sp : Nat) : Int) + 1)) none))) bl (.lst (cutV us none (some ((sp : Nat) : Int)) ++ [odd] ++ cutV us (some (((sp : Nat) : Int) + 1)) none)) = H5 at s45 hbl5
    clear t1 t2 t3 t4 t5 hc1 hc2 hc3 hc4 hbl
    rw [ct1, ct2] at hbl5
    have pen5 := pen4.same s45
    have nbl : bl ≠ p := Ne.symm (hfresh _ _ pen4.pen)
    have hbg := fun i => put_get (x := odd) hsp i
    have hbl0 : (us.take sp ++ [odd] ++ us.drop (sp + 1)).length = us.length := by
      simp only [List.length_append, List.length_take, List.length_drop, List.length_singleton]
      omega
    refine ⟨fun σ H' => ∃ (bs : List V) (n6 : Nat) (g6 : Int), σ = [some (.ref p), some (.ref pl), some (.ref lm), some (.int (sp : Nat)), some odd, none, none, some (.ref bl), none, none, none] ∧ Pen H' p l ns n6 g6 ∧ n6 ≤ n4 + 1 ∧ Off p H4 H' ∧ H' bl = some (.lst bs) ∧ bs.length = us.length ∧ (∀ j, j < sp → bs[j]? = us[j]?) ∧ bs[sp]? = some odd ∧ (∀ (i : Nat) (v : V), bs[i]? = some v → v = odd ∨ us[i]? = some v), ?_, ?_⟩
    · refine ⟨_, rfl, p, l, ns, n4, g4, _, rfl, pen5, by omega, by decide, by decide, fun d n6 g6 H6 hd0 hd1 hn6 off6 pen6 => ?_⟩
      have hb6 := off6 _ _ nbl hbl5
      have off46 : Off p H4 H6 := (offS s45).trans off6
      have old : ∀ (i : Nat) (v : V), (us.take sp ++ [odd] ++ us.drop (sp + 1))[i]? = some v → v = odd ∨ us[i]? = some v := fun i v hv => by
        rw [hbg] at hv
        by_cases c : i = sp
        · rw [if_pos c] at hv
          exact .inl (Option.some.inj hv).symm
        · rw [if_neg c] at hv
          exact .inr hv
      refine ⟨rfl, _, rfl, ite2 (fun _ => ?_) (fun _ => ?_)⟩
      · have hx : ixN (us.take sp ++ [odd] ++ us.drop (sp + 1)).length (-1) = some (us.length - 1) := by
          unfold ixN
          rw [if_neg (by decide), if_pos (by omega)]
          exact congrArg some (by omega)
        refine ⟨_, rfl, _, rfl, _, rfl, bl, _, -1, us.length - 1, rfl, rfl, hb6, hx, ?_⟩
        refine ⟨_, n6, g6, rfl, ⟨(upd_ne (Ne.symm nbl)).trans pen6.pen, (upd_ne (hfresh _ _ pen4.cells)).trans pen6.cells, pen6.left⟩, by omega, fun b o ne eo => (upd_ne (hfresh b o eo)).trans (off46 b o ne eo), upd_same, by rw [List.length_set, hbl0], fun j hj => ?_, ?_, fun i v hv => ?_⟩
        · rw [List.getElem?_set_ne (by omega), hbg, if_neg (by omega)]
        · by_cases c : sp = us.length - 1
          · rw [← c, List.getElem?_set_self (by omega)]
          · rw [List.getElem?_set_ne (by omega), hbg, if_pos rfl]
        · by_cases c : i = us.length - 1
          · rw [c, List.getElem?_set_self (by omega)] at hv
            exact .inl (Option.some.inj hv).symm
          · rw [List.getElem?_set_ne (by omega)] at hv
            exact old i v hv
      · exact ⟨_, n6, g6, rfl, pen6, by omega, off46, hb6, hbl0, fun j hj => by rw [hbg, if_neg (by omega)], by rw [hbg, if_pos rfl], old⟩
    rintro σ H6 ⟨bs, n6, g6, rfl, pen6, hn6, off6, hb6, hbl6, hb1, hb2, hb3⟩
    have hS6 := hS4.offN pen4 nlm (OffN.off off6)
    have T6 := tabs_off pen4.pen T4 off6
    have offC : OffN p H H6 := offB.trans (OffN.off off6)
    have noT6 : ∀ H', OffN p H6 H' → NoT K CT H' odd := fun H' s' => noT H' ((OffN.off off6).trans s')
    clear off6 noT T4 offB hS4 pen5 hbl5 s45 hbg hbl0 hfresh ct1 ct2
    have hokk : ∀ x ∈ ps, x.Ok := fun x hx => (hok x hx).ok
    -- what stays behind a lambda
    have J : ∀ {Ha Hb Hc : Hp}, (OffN p H6 Ha ∧ Tabs T Ha ∧ Pen Ha p l ns n6 g6) → ExtN Ha Hb → Tabs T Hb → Same Hb Hc → (OffN p H6 Hc ∧ Tabs T Hc ∧ Pen Hc p l ns n6 g6) := fun a1 a3 a4 a7 => ⟨(a1.1.trans (OffN.ext a3)).trans (OffN.same a7), tabs_same a4 a7, (a1.2.2.ext a3).same a7⟩
    have J0 : OffN p H6 H6 ∧ Tabs T H6 ∧ Pen H6 p l ns n6 g6 := ⟨OffN.refl, T6, pen6⟩
    have okI : ∀ i : Int, 0 ≤ i → i < 10 → OkD 1000000 20 (.int i) := fun i h0 h1 => (OkD.int (by omega)).mono (by decide) (by decide)
    refine ⟨T6, fun Ha ea Ta => ⟨_, rfl, rfl, _, rfl, _, rfl, ?_⟩⟩
    have hSa := hS6.offN pen6 nlm (OffN.ext ea)
    have use : ∀ QQ : VK, (∀ Hb, Same Ha Hb → QQ (.bl true) Hb) → spChain K CS CT CB C [.ref bl] Ha (fun _ _ => False) (EchB CB (QBad K CB (.int (sp : Nat)) QQ)) := fun QQ hq => by
      obtain ⟨its, i1, i2, i3⟩ := bent_made (K := K) (CB := CB) (C := C) (Q := fun _ _ => False) hul (by omega) hbl6 hsp hSa.2.2 hokk hln hb1 hb2 hb3 (noT6 Ha (OffN.ext ea)) (bad_of (dv := .int (sp : Nat)) (fun _ _ => .int _) (okI _ (by omega) (by omega)) hq)
      exact ⟨bl, its, rfl, by rw [i1]; exact ea _ _ hb6 lst_ne, by omega, i3⟩
    refine use _ fun Hb sb => ⟨_, rfl, iteF ?_⟩
    have Jb := J J0 ea Ta sb
    clear use hSa sb ea Ta
    -- no step at all
    refine ⟨Jb.2.1, fun Hc ec Tc => ⟨rfl, _, rfl, by show 0 ≤ sizeLine; decide, fun em hem => ?_⟩⟩
    have sem := same_upd0 (o := .lst []) hem
    have use : ∀ QQ : VK, (∀ Hd, Same (upd Hc em (.lst [])) Hd → QQ (.bl true) Hd) → spChain K CS CT CB C [.ref em] (upd Hc em (.lst [])) (fun _ _ => False) (EchB CB (QBad K CB .non QQ)) := fun QQ hq =>
      ⟨em, [], rfl, upd_same, by show 0 ≤ 5; decide, by show 0 ≤ 1000; decide, fun e he => absurd he List.not_mem_nil, fun _ => bad_of (dv := .none) (fun _ _ => .non) (OkD.none.mono (by decide) (by decide)) hq, fun k hk => absurd hk (Nat.not_lt_zero k), fun h => absurd rfl h⟩
    refine use _ fun Hd sd => ⟨_, rfl, iteF ?_⟩
    have Jd := J Jb ec Tc (sem.trans sd)
    clear use sem sd hem Tc ec Jb
    -- the far step
    have nz : isName "zz9" = true := by decide +kernel
    refine fun y1 dy1 e1 e2 e3 => madeS3 e1 e2 e3 (by decide) nz (by decide) (by decide) fun He se hy1 => ⟨rfl, fun y2 dy2 e4 e5 e6 => madeS3 e4 e5 e6 (by decide) nz (by decide) (by decide) fun Hf sf hy2 => ⟨rfl, fun fa dfa e7 e8 e9 => ?_⟩⟩
    have fu : SayAt CS Hf (.ref y1) ⟨"zz9", 5, true⟩ := SayAt.same ⟨y1, rfl, hy1⟩ sf
    have fv : SayAt CS Hf (.ref y2) ⟨"zz9", 4, true⟩ := ⟨y2, rfl, hy2⟩
    refine madeT3 e7 e8 e9 fu.sy fv.sy (fun H => .inr (.inl ⟨"time", rfl, by decide, by decide +kernel⟩)) fun Hg sg hfa => ⟨rfl, ?_⟩
    let fp : Part := ⟨⟨"zz9", 5, true⟩, ⟨"zz9", 4, true⟩, .str "time"⟩
    have hF : StAt CS CT Hg fa fp := ⟨dfa, _, _, hfa, fu.same sg, fv.same sg⟩
    have zok : PyData.strOk "zz9" = true := by decide +kernel
    have hfo : fp.Ok := ⟨⟨by decide, zok, nz, by decide, by decide⟩, ⟨by decide, zok, nz, by decide, by decide⟩, .inr rfl⟩
    have sdg := (se.trans sf).trans sg
    have Jg : OffN p H6 Hg ∧ Tabs T Hg ∧ Pen Hg p l ns n6 g6 := ⟨Jd.1.trans (OffN.same sdg), tabs_same Jd.2.1 sdg, Jd.2.2.same sdg⟩
    clear e1 e2 e3 e4 e5 e6 e7 e8 e9 se sf sg hy1 hy2 fu fv hfa sdg Jd
    have hSg := hS6.offN pen6 nlm Jg.1
    have ct1 : cutV us none (some (((sp : Nat) : Int) + 1)) = us.take (sp + 1) := cut_take us (sp + 1) (by omega)
    have ct2 : cutV us (some (((sp : Nat) : Int) + 1)) none = us.drop (sp + 1) := cut_drop us (sp + 1) (by omega)
    refine ⟨_, rfl, _, rfl, _, _, rfl, rfl, _, rfl, lm, us, rfl, SqL.of hSg.1, fun c1 hc1 => ⟨_, rfl, by show 1 ≤ sizeLine; decide, fun c2 hc2 => ?_⟩⟩
    have t1 := same_upd0 (o := .lst (cutV us none (some (((sp : Nat) : Int) + 1)))) hc1
    have t2 := same_upd0 (o := .lst [.ref fa]) hc2
    refine ⟨c1, c2, _, _, rfl, rfl, t2 _ _ upd_same, upd_same, ?_, fun c3 hc3 => ?_⟩
    · rw [ct1, List.length_take]
      show _ + 1 ≤ sizeLine
      omega
    have t3 := same_upd0 (o := .lst (cutV us none (some (((sp : Nat) : Int) + 1)) ++ [.ref fa])) hc3
    refine ⟨_, rfl, _, rfl, _, _, rfl, rfl, _, rfl, lm, us, rfl, SqL.of (((t1.trans t2).trans t3) _ _ hSg.1), fun c4 hc4 => ?_⟩
    have t4 := same_upd0 (o := .lst (cutV us (some (((sp : Nat) : Int) + 1)) none)) hc4
    refine ⟨c3, c4, _, _, rfl, rfl, t4 _ _ upd_same, upd_same, ?_, fun ll hll => ?_⟩
    · rw [ct1, ct2]
      simp only [List.length_append, List.length_take, List.length_drop, List.length_singleton]
      omega
    have t5 := same_upd0 (o := .lst (cutV us none (some (((sp : Nat) : Int) + 1)) ++ [.ref fa] ++ cutV us (some (((sp : Nat) : Int) + 1)) none)) hll
    have sgh := (((t1.trans t2).trans t3).trans t4).trans t5
    have hll5 := upd_same (H := upd (upd (upd (upd Hg c1 (.lst (cutV us none (some (((sp : Nat) : Int) + 1))))) c2 (.lst [.ref fa])) c3 (.lst (cutV us none (some (((sp : Nat) : Int) + 1)) ++ [.ref fa]))) c4 (.lst (cutV us (some (((sp : Nat) : Int) + 1)) none))) (a := ll) (o := .lst (cutV us none (some (((sp : Nat) : Int) + 1)) ++ [.ref fa] ++ cutV us (some (((sp : Nat) : Int) + 1)) none))
    generalize upd (upd (upd (upd (upd Hg c1 (.lst (cutV us none (some (((sp : Nat) : Int) + 1))))) c2 (.lst [.ref fa])) c3 (.lst (cutV us none (some (((sp : Nat) : Int) + 1)) ++ [.ref fa]))) c4 (.lst (cutV us (some (((sp : Nat) : Int) + 1)) none))) ll (.lst (cutV us none (some (((sp : Nat) : Int) + 1)) ++ [.ref fa] ++ cutV us (some (((sp : Nat) : Int) + 1)) none)) = Hh at sgh hll5
    clear t1 t2 t3 t4 t5 hc1 hc2 hc3 hc4 hll
    rw [ct1, ct2] at hll5
    have Jh : OffN p H6 Hh ∧ Tabs T Hh ∧ Pen Hh p l ns n6 g6 := ⟨Jg.1.trans (OffN.same sgh), tabs_same Jg.2.1 sgh, Jg.2.2.same sgh⟩
    have hFh := hF.same sgh
    have hSh := hSg.same sgh
    have nll : ll ≠ p := fun e => by
      rw [e, Jh.2.2.pen] at hll5
      have h1 := HO.lst.inj (Option.some.inj hll5)
      have h2 := congrArg (fun x : List V => x[1]?) h1
      have h3 : (us.take (sp + 1) ++ [V.ref fa] ++ us.drop (sp + 1))[1]? = some (V.int (n6 : Nat)) := h2.symm
      rw [ins_get hsp] at h3
      have kno : ∀ k, us[k]? ≠ some (V.int (n6 : Nat)) := fun k hk => by
        obtain ⟨_, _, a, e, _⟩ := hSh.2.2 k _ hk
        cases e
      split at h3
      · exact kno _ h3
      · split at h3
        · cases h3
        · exact kno _ h3
    clear Jg hSg hF sgh ct1 ct2
    have zu : ∀ x ∈ ps, fp.u.z ≠ x.v.z := fun x hx e => (hok x hx).v e.symm
    refine ⟨fun σ H' => σ = [some (.ref p), some (.ref pl), some (.ref lm), some (.int (sp : Nat)), some odd, some (.ref fa), none, some (.ref bl), none, none, some (.ref ll)] ∧ OffN p Hh H' ∧ Tabs T H' ∧ Pen H' p l ns n6 g6, ?_, ?_⟩
    · refine ⟨_, rfl, lm, us, rfl, .inl (SqL.of hSh.1), _, _, rfl, rfl, ?_⟩
      refine ⟨_, rfl, ite2 (fun e5 => ?_) (fun _ => ?_)⟩
      · have e5' : ((us.length : Nat) : Int) < 5 := of_decide_eq_true e5
        refine ⟨Jh.2.1, fun Ha ea Ta => ⟨_, rfl, _, _, rfl, rfl, rfl, _, rfl, _, rfl, ?_⟩⟩
        have hSa := hSh.offN Jh.2.2 nlm (OffN.ext ea)
        have hFa := hFh.offN Jh.2.2 (OffN.ext ea)
        have use : ∀ QQ : VK, (∀ Hb, Same Ha Hb → QQ (.bl true) Hb) → spChain K CS CT CB C [.ref ll] Ha (fun _ _ => False) (EchB CB (QBad K CB (.int ((sp + 1 : Nat) : Int)) QQ)) := fun QQ hq => by
          obtain ⟨its, i1, i2, i3⟩ := loose_made (K := K) (CB := CB) (C := C) (Q := fun _ _ => False) hul (by omega) hsp hSa.2.2 hokk hln hFa hfo zu (bad_of (dv := .int ((sp + 1 : Nat) : Int)) (fun _ _ => .int _) (okI _ (by omega) (by omega)) hq)
          exact ⟨ll, its, rfl, by rw [i1]; exact ea _ _ hll5 lst_ne, by omega, i3⟩
        refine use _ fun Hb sb => ⟨_, rfl, iteF ⟨rfl, (OffN.ext ea).trans (OffN.same sb), tabs_same Ta sb, (Jh.2.2.ext ea).same sb⟩⟩
      · exact ⟨rfl, OffN.refl, Jh.2.1, Jh.2.2⟩
    rintro σ Hi ⟨rfl, oi, Ti, peni⟩
    have hSi := hSh.offN Jh.2.2 nlm oi
    have hFi := hFh.offN Jh.2.2 oi
    have Ji : OffN p H6 Hi ∧ Tabs T Hi ∧ Pen Hi p l ns n6 g6 := ⟨Jh.1.trans oi, Ti, peni⟩
    clear oi Ti peni hSh hFh Jh hll5 nll
    refine ⟨_, rfl, lm, us.zip (ps.map some), rfl, ?_, ?_, made_linked hSi.2.2 hSi.2.1 hne (by omega) hokk hln fun Hj ca ct sj hcj => ?_⟩
    · rw [List.map_fst_zip (by rw [List.length_map]; omega)]
      exact hSi.1
    · rw [List.length_zip, List.length_map]
      omega
    refine ⟨_, rfl, fun al dal e1 e2 e3 => madeC1 e1 e2 e3 (hFi.same sj) hfo fun Hk ta sk hal => ⟨rfl, by show 2 ≤ sizeLine; decide, fun tp htp => ⟨tp, _, rfl, SqT.of upd_same, rfl, _, _, rfl, _, _, rfl, rfl, ?_⟩⟩⟩
    have s2 := same_upd0 (o := .tup [.ref ca, .ref al]) htp
    have sik := (sj.trans sk).trans s2
    have hc := (hcj.same sk).same s2
    have ha := hal.same s2
    have hS := hSi.same sik
    have J2 : OffN p H6 (upd Hk tp (.tup [.ref ca, .ref al])) ∧ Tabs T (upd Hk tp (.tup [.ref ca, .ref al])) ∧ Pen (upd Hk tp (.tup [.ref ca, .ref al])) p l ns n6 g6 := ⟨Ji.1.trans (OffN.same sik), tabs_same Ji.2.1 sik, Ji.2.2.same sik⟩
    generalize upd Hk tp (.tup [.ref ca, .ref al]) = Hl at hc ha hS J2
    clear s2 sik sj sk hcj hal hSi hFi Ji e1 e2 e3 htp
    have far1 : ∀ p' ∈ ps, ∀ q' ∈ [fp], q'.u.z ≠ p'.v.z := fun p' hp' q' hq' => by
      rw [List.mem_singleton.mp hq']
      exact zu p' hp'
    have far2 : ∀ p' ∈ [fp], ∀ q' ∈ ps, q'.u.z ≠ p'.v.z := fun p' hp' q' hq' => by
      rw [List.mem_singleton.mp hp']
      exact (hok q' hq').u
    have ln1 : Linked [fp] := fun i a b _ hb => by simp at hb
    have ok1 : ∀ p' ∈ [fp], p'.Ok := fun p' hp' => by
      rw [List.mem_singleton.mp hp']
      exact hfo
    refine ⟨J2.2.1, fun Ha ea Ta => ⟨_, rfl, lm, us, rfl, .inl (SqL.of (ea _ _ hS.1 lst_ne)), rfl, _, rfl, _, rfl, _, rfl, ?_⟩⟩
    have hca := hc.offN J2.2.2 (OffN.ext ea)
    have haa := ha.offN J2.2.2 (OffN.ext ea)
    obtain ⟨d1, hd1⟩ := hca.self
    obtain ⟨d2, hd2⟩ := haa.self
    have use : ∀ QQ : VK, (∀ Hb, Same Ha Hb → QQ (.bl true) Hb) → spAdd K CS CT CB C [.ref ca, .ref al] Ha (fun _ _ => False) (EchB CB (QBad K CB (.int (us.length : Nat)) QQ)) := fun QQ hq => by
      refine ⟨ca, ct, al, ta, us, [.ref fa], ps, [fp], rfl, hca, haa, by rw [List.length_singleton]; omega, fun H' s' => ?_⟩
      rw [hul]
      exact add_made hul rfl (by rw [List.length_singleton]; omega) (hca.same s').all (haa.same s').all hokk ok1 hln hne (fun e => nomatch e) far1 (bad_of (dv := .int (ps.length : Nat)) (fun _ _ => .int _) (okI _ (by omega) (by omega)) fun Hb sb => hq Hb (s'.trans sb))
    refine ⟨ca, d1, _, al, d2, _, rfl, rfl, hd1, hd2, use _ fun Hb sb => ⟨_, rfl, iteF ?_⟩⟩
    have J3 := J J2 ea Ta sb
    have o3 : OffN p Hl Hb := (OffN.ext ea).trans (OffN.same sb)
    have hc3 := hc.offN J2.2.2 o3
    have ha3 := ha.offN J2.2.2 o3
    have hS3 := hS.offN J2.2.2 nlm o3
    clear use hca haa hd1 hd2 sb o3 hc ha hS J2 ea Ta
    refine ⟨J3.2.1, fun Hc ec Tc => ⟨rfl, _, rfl, _, rfl, _, rfl, ?_⟩⟩
    have hca := hc3.offN J3.2.2 (OffN.ext ec)
    have haa := ha3.offN J3.2.2 (OffN.ext ec)
    obtain ⟨d1, hd1⟩ := hca.self
    obtain ⟨d2, hd2⟩ := haa.self
    have use : ∀ QQ : VK, (∀ Hd, Same Hc Hd → QQ (.bl true) Hd) → spAdd K CS CT CB C [.ref al, .ref ca] Hc (fun _ _ => False) (EchB CB (QBad K CB (.int 1) QQ)) := fun QQ hq => by
      refine ⟨al, ta, ca, ct, [.ref fa], us, [fp], ps, rfl, haa, hca, by rw [List.length_singleton]; omega, fun H' s' => ?_⟩
      exact add_made (ps := [fp]) rfl hul (by rw [List.length_singleton]; omega) (haa.same s').all (hca.same s').all ok1 hokk ln1 (fun e => nomatch e) hne far2 (bad_of (dv := .int 1) (fun _ _ => .int 1) (okI 1 (by decide) (by decide)) fun Hd sd => hq Hd (s'.trans sd))
    refine ⟨al, d2, _, ca, d1, _, rfl, rfl, hd2, hd1, use _ fun Hd sd => ⟨_, rfl, iteF ?_⟩⟩
    have J4 := J J3 ec Tc sd
    have o4 : OffN p Hb Hd := (OffN.ext ec).trans (OffN.same sd)
    have hc4 := hc3.offN J3.2.2 o4
    have hS4 := hS3.offN J3.2.2 nlm o4
    clear use hca haa hd1 hd2 sd o4 hc3 ha3 hS3 J3 ec Tc
    -- asked for odd indexes
    refine ⟨_, rfl, _, rfl, lm, us, rfl, .inl (SqL.of hS4.1), by show 1 ≤ sizeLine; decide, fun tz htz => ⟨by show 6 ≤ sizeLine; decide, fun lz hlz => ?_⟩⟩
    have t1 := same_upd0 (o := .tup [.int 0]) htz
    have t2 := same_upd0 (o := .lst [.int (-1), .int (us.length : Nat), .non, .bl true, .str "0", .ref tz]) hlz
    have ntz : tz ≠ p := J4.2.2.ne htz
    have nlz : lz ≠ p := (J4.2.2.same t1).ne hlz
    have ftz := t2 _ _ (upd_same (H := Hd) (a := tz) (o := .tup [.int 0]))
    have flz := upd_same (H := upd Hd tz (.tup [.int 0])) (a := lz) (o := .lst [.int (-1), .int (us.length : Nat), .non, .bl true, .str "0", .ref tz])
    have t12 := t1.trans t2
    generalize upd (upd Hd tz (.tup [.int 0])) lz (.lst [.int (-1), .int (us.length : Nat), .non, .bl true, .str "0", .ref tz]) = Hm at t12 ftz flz
    have hc5 := hc4.same t12
    have J5 : OffN p H6 Hm ∧ Tabs T Hm ∧ Pen Hm p l ns n6 g6 := ⟨J4.1.trans (OffN.same t12), tabs_same J4.2.1 t12, J4.2.2.same t12⟩
    clear t1 t2 t12 htz hlz hc4 hS4 J4
    have item : ∀ v ∈ ([.int (-1), .int (us.length : Nat), .non, .bl true, .str "0", .ref tz] : List V), ∃ dv : PyData, OkD 1000000 20 dv ∧ (∀ H', OffN p Hm H' → Dd K H' v dv) ∧ ((∃ i : Int, v = .int i ∧ ¬ (0 ≤ i ∧ i < ((ps.length : Nat) : Int))) ∨ (∃ T, OddT T ∧ ∀ H', OffN p Hm H' → TyX K H' v (.type T))) := by
      intro v hv
      simp only [List.mem_cons, List.not_mem_nil, or_false] at hv
      rcases hv with h | h | h | h | h | h <;> subst h
      · exact ⟨.int (-1), (OkD.int (by decide)).mono (by decide) (by decide), fun _ _ => .int _, .inl ⟨-1, rfl, by omega⟩⟩
      · exact ⟨.int (us.length : Nat), okI _ (by omega) (by omega), fun _ _ => .int _, .inl ⟨_, rfl, by omega⟩⟩
      · exact ⟨.none, OkD.none.mono (by decide) (by decide), fun _ _ => .non, .inr ⟨"NoneType", by simp [OddT], fun _ _ => .base .non⟩⟩
      · exact ⟨.bool true, (OkD.bool true).mono (by decide) (by decide), fun _ _ => .bl _, .inr ⟨"bool", by simp [OddT], fun _ _ => .base (.bl _)⟩⟩
      · exact ⟨.str "0", (OkD.str (by decide +kernel) (by decide)).mono (by decide) (by decide), fun _ _ => .str _, .inr ⟨"str", by simp [OddT], fun _ _ => .base (.str _)⟩⟩
      · refine ⟨.tuple [.int 0], (OkD.tuple (n := 2000) (m := 0) (ds := [.int 0]) fun d hd => ?_).mono (by decide) (by decide), fun H' s' => .tup (SqT.of (s' _ _ ntz ftz tup_ne)) (.cons (.int 0) .nil), .inr ⟨"tuple", by simp [OddT], fun H' s' => .base (.tup (s' _ _ ntz ftz tup_ne))⟩⟩
        rw [List.mem_singleton.mp hd]
        exact .int (by decide)
    refine ⟨lz, rfl, ⟨_, SqL.of flz⟩, for_it (walk_list (K := K) (a := lz) (xs := [.int (-1), .int (us.length : Nat), .non, .bl true, .str "0", .ref tz])) (fun i σ H' => (∃ x9, σ = [some (.ref p), some (.ref pl), some (.ref lm), some (.int (sp : Nat)), some odd, some (.ref fa), some (.ref al), some (.ref bl), some (.ref ca), x9, some (.ref ll)]) ∧ OffN p Hm H' ∧ Tabs T H' ∧ Pen H' p l ns n6 g6) ⟨⟨_, rfl⟩, OffN.refl, J5.2⟩ (fun _ _ _ _ y => SqL.of (y.2.1 _ _ nlz flz lst_ne)) ?_ ?_⟩
    · rintro i y σ G G' hi ⟨⟨x9, rfl⟩, og, Tg, pg⟩ ⟨rfl, hy⟩
      obtain ⟨dv, o1, o2, o3⟩ := item y (List.mem_of_getElem? hy)
      refine ⟨Tg, fun He ee Te => ⟨_, rfl, rfl, _, rfl, _, rfl, _, rfl, ?_⟩⟩
      have oe := og.trans (OffN.ext ee)
      have hce := hc5.offN J5.2.2 oe
      obtain ⟨d1, hd1⟩ := hce.self
      have use : ∀ QQ : VK, (∀ Hf, Same He Hf → QQ (.bl true) Hf) → spGet K CS CT CB C [.ref ca, y] He (fun _ _ => False) (EchB CB (QBad K CB y QQ)) := fun QQ hq => by
        have bad : Bad CB y He (EchB CB (QBad K CB y QQ)) := bad_of (dv := dv) (fun H'' s'' => o2 H'' (oe.trans (OffN.same s''))) o1 hq
        refine ⟨ca, ct, us, ps, y, rfl, hce, ?_⟩
        rcases o3 with ⟨j, rfl, hj⟩ | ⟨T', hT', ty⟩
        · exact .inr (.inl ⟨j, rfl, hj, bad⟩)
        · exact .inr (.inr ⟨T', hT', ty He oe, bad⟩)
      exact ⟨ca, d1, _, rfl, hd1, use _ fun Hf sf => ⟨_, rfl, iteF ⟨⟨_, rfl⟩, oe.trans (OffN.same sf), tabs_same Te sf, (pg.ext ee).same sf⟩⟩⟩
    · rintro σ G ⟨⟨x9, rfl⟩, og, Tg, pg⟩
      exact q n6 g6 G (by omega) (offC.trans (J5.1.trans og)) pg Tg
end
end K31

namespace K31
open PySem PySem.Spec PyProof.Rows L2 So
theorem cutL63 (xs : List V) : cutV xs none (some 63) = xs.take 63 := by
  unfold cutV
  rw [HT.sIx_none, show HT.sIx xs.length xs.length (some 63) = min 63 xs.length from HT.sIx_nat xs.length xs.length 63]
  simp
theorem same3 {H : Hp} {a b c : Addr} {o1 o2 o3 : HO} (ha : H a = none) (hb : upd H a o1 b = none) (hc : upd (upd H a o1) b o2 c = none) : Same H (upd (upd (upd H a o1) b o2) c o3) ∧ H c = none :=
  have s2 := (same_upd0 (o := o1) ha).trans (same_upd0 (o := o2) hb)
  ⟨s2.trans (same_upd0 hc), s2.free hc⟩
section
variable {P : Program} {w : World} {K : PySem.W.Frag} {mg : Str → Option Value} {base : Heap}
def spPen (K : PySem.W.Frag) : Sp := fun vs H Q _ => ∃ (a : Addr) (ns : List Int), vs = [.ref a] ∧ SqL K H a (ns.map V.int) ∧ ∀ (H' : Hp) (p l : Addr) (ns' : List Int), Same H H' → Pen H' p l ns' 0 0 → Q (.ref p) H'
theorem ok_pen {f : Addr} {fd : FuncData} (F : Fun K "_law_pen" "_law_pen" sPen f fd) (ml : mg "list" = none) : FnOk P w K mg base CX0 1 f fd ["_law_script"] (spPen K) := by
  refine F.ok scPen (fun vs H Q E h => ?_) (fun cdv A outer s H vs Q E hr h => ?_)
  · obtain ⟨a, ns, rfl, _⟩ := h
    rfl
  · obtain ⟨a, ns, rfl, hS, q⟩ := h
    refine ⟨_, pss_one (ps_ret (pe_lst (pa_cons (pe_callTy call_list_of (by rfl) ml (by decide +kernel) (pa_cons (pe_slice sl_list (pv 0) po_none (po_some pe_int)) pa_nil)) (pa_cons pe_int (pa_cons pe_int pa_nil))))), ?_⟩
    refine ⟨_, rfl, 63, rfl, a, ns.map V.int, rfl, hS, fun c hc => ?_⟩
    rw [cutL63, ← List.map_take]
    refine ⟨c, _, rfl, .inl (SqL.of upd_same), fun l hl => ?_⟩
    refine ⟨by show 3 ≤ sizeLine; decide, fun p hp => ?_⟩
    have s1 : Same H (upd (upd (upd H c (.lst ((ns.take 63).map V.int))) l (.lst ((ns.take 63).map V.int))) p (.lst [.ref l, .int 0, .int 0])) := by
      refine ((same_upd0 hc).trans (same_upd0 hl)).trans (same_upd0 hp)
    have nlp : l ≠ p := fun e => by
      rw [e, upd_same] at hp
      cases hp
    exact q _ p l (ns.take 63) s1 ⟨upd_same, (upd_ne nlp).trans upd_same, Int.le_refl 0⟩
end
end K31

namespace K31
open PySem PySem.Spec PyProof.Rows L2 So LamX
abbrev sLaw : Stmt := topS 50
abbrev lawN : List Str := ["_law_script", "_law_pen_here", "_law_turn", "_law_parts_here", "_law_some", "_law_chain_here", "_law_cut", "_law_whole", "_law_k"]
theorem scLaw : FnScope lawN ["_law_script"] (defScope sLaw) := ⟨rfl, rfl, rfl, by decide +kernel, rfl, by decide +kernel, by decide +kernel⟩
theorem op_neOwnK {X : Cx} {K : PySem.W.Frag} {CX : CXT} {k : Nat} {C f : Addr} {fd : FuncData} {ps : List Str} {sp : Sp} {E : XK} (h : X.K = K) (F : FnOk X.prog X.w X.K X.mg X.base CX k f fd ps sp) (hs : PySem.W.findIn X.K (.ref C) "__eq__" = some (some (.ref f))) (hf : PySem.W.isFn X.K (.ref f) = true) (hb : Binds X.K fd ps []) (hx : Passes CX X E) (hr : Room (k + 1) X.A)
    (hn : PySem.W.findIn X.K (.ref C) "__ne__" = some (some (.builtin "object.__ne__"))) (hm : PySem.W.mroIn X.K C (.type "object") = some true) : OpR X (compareOp .NotEq) (So.rOwn C K sp E (!·)) := by
  subst h
  exact op_neOwn F hs hf hb hx hr hn hm
theorem nt_nt (q : Part) : q.nt.nt = q := by
  obtain ⟨⟨z, m, x⟩, ⟨z', m', x'⟩, r⟩ := q
  simp [Part.nt, Face.nt]
theorem rev_rev (ps : List Part) : (ps.reverse.map Part.nt).reverse.map Part.nt = ps := by
  rw [← List.map_reverse, List.reverse_reverse, List.map_map]
  conv => rhs; rw [← List.map_id ps]
  refine List.map_congr_left fun x _ => nt_nt x
theorem get_take {α : Type} {xs : List α} {k i : Nat} {v : α} (h : (xs.take k)[i]? = some v) : i < k ∧ xs[i]? = some v := by
  by_cases hi : i < k
  · rw [List.getElem?_take_of_lt hi] at h
    exact ⟨hi, h⟩
  · rw [List.getElem?_eq_none (by rw [List.length_take]; omega)] at h
    cases h
theorem get_drop {α : Type} {xs : List α} {k i : Nat} {v : α} (h : (xs.drop k)[i]? = some v) : xs[k + i]? = some v := by
  rw [List.getElem?_drop] at h
  exact h
theorem Linked.take {ps : List Part} (h : Linked ps) (k : Nat) : Linked (ps.take k) := fun i a b ha hb => h i a b (get_take ha).2 (get_take hb).2
theorem Linked.drop {ps : List Part} (h : Linked ps) (k : Nat) : Linked (ps.drop k) := fun i a b ha hb => h (k + i) a b (get_drop ha) (by have := get_drop hb; rw [← Nat.add_assoc] at this; exact this)
theorem all_take {CS CT : Addr} {H : Hp} {us : List V} {ps : List Part} (h : ∀ (i : Nat) (v : V), us[i]? = some v → ∃ p, ps[i]? = some p ∧ StV CS CT H v p) (k : Nat) : ∀ (i : Nat) (v : V), (us.take k)[i]? = some v → ∃ p, (ps.take k)[i]? = some p ∧ StV CS CT H v p := fun i v hv => by
  obtain ⟨hi, hv⟩ := get_take hv
  obtain ⟨p, hp, hs⟩ := h i v hv
  exact ⟨p, by rw [List.getElem?_take_of_lt hi]; exact hp, hs⟩
theorem all_drop {CS CT : Addr} {H : Hp} {us : List V} {ps : List Part} (h : ∀ (i : Nat) (v : V), us[i]? = some v → ∃ p, ps[i]? = some p ∧ StV CS CT H v p) (k : Nat) : ∀ (i : Nat) (v : V), (us.drop k)[i]? = some v → ∃ p, (ps.drop k)[i]? = some p ∧ StV CS CT H v p := fun i v hv => by
  obtain ⟨p, hp, hs⟩ := h (k + i) v (get_drop hv)
  exact ⟨p, by rw [List.getElem?_drop]; exact hp, hs⟩
section
variable {P : Program} {w : World} {K : PySem.W.Frag} {mg : Str → Option Value} {base : Heap}
/-- two chains compared -/
theorem ownC {CS CT C a a' t t' : Addr} {us us' : List V} {ps : List Part} {H : Hp} {g : Bool → Bool} {Q : VK} {E : XK} (TC : Chn K mg C) (OC : Own1 K C) (h : ChAt CS CT C H a t us ps) (h' : ChAt CS CT C H a' t' us' ps) (k : ∀ H', Same H H' → Q (.bl (g true)) H') : So.rOwn C K (spCEq K CS CT C) E g (.ref a) (.ref a') H Q := by
  obtain ⟨d1, e1⟩ := h.self
  obtain ⟨d2, e2⟩ := h'.self
  exact ⟨a, d1, _, .ref C, rfl, e1, .base (.ins e2 TC.cl OC.ha OC.hn OC.htk OC.hm), OC.nf, a, t, us, ps, .ref a', rfl, h, .inl ⟨a', t', us', rfl, h', fun H' s => ⟨_, rfl, k H' s⟩⟩⟩
theorem ownCN {CS CT C a t : Addr} {us : List V} {ps : List Part} {y : V} {T : String} {H : Hp} {g : Bool → Bool} {Q : VK} {E : XK} (OC : Own1 K C) (h : ChAt CS CT C H a t us ps) (hT : T ∈ ["tuple", "str", "NoneType", "int", "bool", "list", "dict"]) (ty : TyX K H y (.type T)) (k : Q (.bl (g false)) H) : So.rOwn C K (spCEq K CS CT C) E g (.ref a) y H Q := by
  obtain ⟨d1, e1⟩ := h.self
  exact ⟨a, d1, _, .type T, rfl, e1, ty, (OC.no T hT).2, a, t, us, ps, y, rfl, h, .inr (.inr ⟨.type T, ty, (OC.no T hT).1, _, rfl, k⟩)⟩
theorem ownCL {CS CT C a a' t t' : Addr} {us us' : List V} {ps ps' : List Part} {H : Hp} {g : Bool → Bool} {Q : VK} {E : XK} (TC : Chn K mg C) (OC : Own1 K C) (h : ChAt CS CT C H a t us ps) (h' : ChAt CS CT C H a' t' us' ps') (hl : ps.length ≠ ps'.length) (hp : ∀ (i : Nat) (p q : Part), ps[i]? = some p → ps'[i]? = some q → p = q) (k : ∀ H', Same H H' → Q (.bl (g false)) H') : So.rOwn C K (spCEq K CS CT C) E g (.ref a) (.ref a') H Q := by
  obtain ⟨d1, e1⟩ := h.self
  obtain ⟨d2, e2⟩ := h'.self
  exact ⟨a, d1, _, .ref C, rfl, e1, .base (.ins e2 TC.cl OC.ha OC.hn OC.htk OC.hm), OC.nf, a, t, us, ps, .ref a', rfl, h, .inr (.inl ⟨a', t', us', ps', rfl, h', hl, hp, fun H' s => ⟨_, rfl, k H' s⟩⟩)⟩
def spLaw (K : PySem.W.Frag) (T : List (Addr × Str)) : Sp := fun vs H Q _ => ∃ (a : Addr) (ns : List Int), vs = [.ref a] ∧ SqL K H a (ns.map V.int) ∧ Tabs T H ∧ ∀ H', Q (.bl true) H'
theorem ok_law {T : List (Addr × Str)} {C CS CT CB CE f fPen fD fPa fM fC fTo fDu fTu fSr fRr fV fE fA fG fZ fSE : Addr} {fd fdPen fdD fdPa fdM fdC fdTo fdDu fdTu fdSr fdRr fdV fdE fdA fdG fdZ fdSE : FuncData} (F : Fun K "law" "law" sLaw f fd) (W : Words K mg) (R : Hrd K mg CE CB) (mr : mg "range" = none)
    (S : Stp K mg CT) (TC : Chn K mg C) (OT : Own1 K CT) (OC : Own1 K C)
    (FPen : Fun K "_law_pen" "_law_pen" sPen fPen fdPen) (bPen : Binds K fdPen ["_law_script"] []) (gPen : mg "_law_pen" = some (.ref fPen)) (GPen : FnOk P w K mg base CX0 1 fPen fdPen ["_law_script"] (spPen K))
    (FD : Fun K "_law_draw" "_law_draw" sDraw fD fdD) (bD : Binds K fdD ["_law_pen_here", "_law_many"] []) (gD : mg "_law_draw" = some (.ref fD)) (GD : FnOk P w K mg base CX0 1 fD fdD ["_law_pen_here", "_law_many"] spDraw)
    (FPa : Fun K "_law_parts" "_law_parts" sParts fPa fdPa) (bPa : Binds K fdPa ["_law_pen_here", "_law_many"] []) (gPa : mg "_law_parts" = some (.ref fPa)) (GPa : FnOk P w K mg base CX0 4 fPa fdPa ["_law_pen_here", "_law_many"] spParts)
    (FM : Fun K "_law_made" "_law_made" sMade fM fdM) (bM : Binds K fdM ["_law_parts_here"] []) (gM : mg "_law_made" = some (.ref fM)) (GM : FnOk P w K mg base CX0 7 fM fdM ["_law_parts_here"] (spMade CS CT))
    (FC : Fun K "_law_chain" "_law_chain" sChain fC fdC) (bC : Binds K fdC ["_law_some"] []) (gC : mg "_law_chain" = some (.ref fC)) (GC : FnOk P w K mg base (L2.CX P w) 7 fC fdC ["_law_some"] (spChain K CS CT CB C))
    (FTo : Fun K "_law_told" "_law_told" sTold fTo fdTo) (bTo : Binds K fdTo ["_law_chain_here"] []) (gTo : mg "_law_told" = some (.ref fTo)) (GTo : FnOk P w K mg base CX0 8 fTo fdTo ["_law_chain_here"] (spTold K CS CT C))
    (FDu : Fun K "_law_due" "_law_due" sDue fDu fdDu) (bDu : Binds K fdDu ["_law_parts_here"] []) (gDu : mg "_law_due" = some (.ref fDu)) (GDu : FnOk P w K mg base CX0 3 fDu fdDu ["_law_parts_here"] (spDue K))
    (FTu : Fun K "_law_turned" "_law_turned" sTurned fTu fdTu) (bTu : Binds K fdTu ["_law_parts_here"] []) (gTu : mg "_law_turned" = some (.ref fTu)) (GTu : FnOk P w K mg base CX0 2 fTu fdTu ["_law_parts_here"] spTurned)
    (FSr : Fun K "_law_step_right" "_law_step_right" sSr fSr fdSr) (bSr : Binds K fdSr ["_law_pen_here", "_law_parts_here"] []) (gSr : mg "_law_step_right" = some (.ref fSr)) (GSr : FnG P w K mg base CX0 13 fSr fdSr ["_law_pen_here", "_law_parts_here"] (spSr T))
    (FRr : Fun K "_law_refused_right" "_law_refused_right" sRr fRr fdRr) (bRr : Binds K fdRr ["_law_pen_here", "_law_parts_here"] []) (gRr : mg "_law_refused_right" = some (.ref fRr)) (GRr : FnG P w K mg base CX0 13 fRr fdRr ["_law_pen_here", "_law_parts_here"] (spRr T))
    (sV : PySem.W.findIn K (.ref C) "__invert__" = some (some (.ref fV))) (iV : PySem.W.isFn K (.ref fV) = true) (bV : Binds K fdV ["self"] []) (GV : FnOk P w K mg base CX0 8 fV fdV ["self"] (spCInv CS CT C))
    (sE : PySem.W.findIn K (.ref C) "__eq__" = some (some (.ref fE))) (iE : PySem.W.isFn K (.ref fE) = true) (bE : Binds K fdE ["self", "other"] []) (nE : PySem.W.findIn K (.ref C) "__ne__" = some (some (.builtin "object.__ne__"))) (GE : FnOk P w K mg base CX0 6 fE fdE ["self", "other"] (spCEq K CS CT C))
    (sSE : PySem.W.findIn K (.ref CT) "__eq__" = some (some (.ref fSE))) (iSE : PySem.W.isFn K (.ref fSE) = true) (bSE : Binds K fdSE ["self", "other"] []) (nSE : PySem.W.findIn K (.ref CT) "__ne__" = some (some (.builtin "object.__ne__"))) (GSE : FnOk P w K mg base CX0 4 fSE fdSE ["self", "other"] (spTEq K CS CT))
    (sZ : PySem.W.findIn K (.ref C) "__str__" = some (some (.ref fZ))) (iZ : PySem.W.isFn K (.ref fZ) = true) (bZ : Binds K fdZ ["self"] []) (GZ : FnOk P w K mg base CX0 5 fZ fdZ ["self"] (spCStr CS CT C))
    (sA : PySem.W.findIn K (.ref C) (PySem.dunder (Operator.info .Add).2) = some (some (.ref fA))) (iA : PySem.W.isFn K (.ref fA) = true) (bA : Binds K fdA ["self", "other"] []) (GA : FnOk P w K mg base (L2.CX P w) 7 fA fdA ["self", "other"] (spAdd K CS CT CB C)) (sf : PySem.W.selfFirst K C = true)
    (sG : PySem.W.findIn K (.ref C) "__getitem__" = some (some (.ref fG))) (nG : PySem.W.fnIn K fG = true) (iG : PySem.W.isFn K (.ref fG) = true) (bG : Binds K fdG ["self", "k"] []) (GG : FnOk P w K mg base (L2.CX P w) 3 fG fdG ["self", "k"] (spGet K CS CT CB C)) :
    FnG P w K mg base CX0 15 f fd ["_law_script"] (spLaw K T) := by
  refine fnG_of F scLaw (fun vs H Q E h => ?_) (fun cdv A outer s H vs Q E hg hr h => ?_)
  · obtain ⟨a, ns, rfl, _⟩ := h
    rfl
  · obtain ⟨a, ns, rfl, hS, hT0, q⟩ := h
    have hr1 : Room 1 _ := hr.mono (by decide)
    have hr2 : Room 2 _ := hr.mono (by decide)
    have hr3 : Room 3 _ := hr.mono (by decide)
    have hr4 : Room 4 _ := hr.mono (by decide)
    have hr5 : Room 5 _ := hr.mono (by decide)
    have hr6 : Room 6 _ := hr.mono (by decide)
    have hr7 : Room 7 _ := hr.mono (by decide)
    have hr8 : Room 8 _ := hr.mono (by decide)
    have hr13 : Room 13 _ := hr.mono (by decide)
    refine ⟨_, (pss_cons (ps_set (i := 1) scLaw.nd rfl (.inl rfl) (pe_call GPen hr1 (by rfl) gPen FPen.kp bPen .nil pass0 (pa_cons (pv 0) pa_nil)))
      (pss_cons (ps_for PassesOwn.never rfl (pi_range1 (by rfl) mr (pa_cons pe_int pa_nil)) (pg_name (i := 2) scLaw.nd rfl (Or.inl rfl))
      (pss_cons (ps_set (i := 3) scLaw.nd rfl (.inl rfl) (pe_call GPa hr4 (by rfl) gPa FPa.kp bPa .nil pass0 (pa_cons (pv 1) (pa_cons (pe_op op_add pe_int (pe_call GD hr1 (by rfl) gD FD.kp bD .nil pass0 (pa_cons (pv 1) (pa_cons pe_int pa_nil)))) pa_nil))))
      (pss_cons (ps_set (i := 4) scLaw.nd rfl (.inr rfl) (pe_call GM hr7 (by rfl) gM FM.kp bM .nil pass0 (pa_cons (pv 3) pa_nil)))
      (pss_cons (ps_set (i := 5) scLaw.nd rfl (.inr rfl) (pe_call GC hr7 (by rfl) gC FC.kp bC .nil passNo (pa_cons (pv 4) pa_nil)))
      (pss_cons (ps_if (pt_cmpR op_ne (pe_callB (call_reprG hg hr.units) (by rfl) R.rpr (by decide +kernel) (pa_cons (pe_call GTo hr8 (by rfl) gTo FTo.kp bTo .nil pass0 (pa_cons (pv 5) pa_nil)) pa_nil)) (pe_callB (call_reprG hg hr.units) (by rfl) R.rpr (by decide +kernel) (pa_cons (pe_call GDu hr3 (by rfl) gDu FDu.kp bDu .nil pass0 (pa_cons (pv 3) pa_nil)) pa_nil)) (nomark _)) (pss_one (ps_ret pe_bl)) pss_nil)
      (pss_cons (ps_if (pt_cmpR op_ne (pe_callB (call_reprG hg hr.units) (by rfl) R.rpr (by decide +kernel) (pa_cons (pe_call GTo hr8 (by rfl) gTo FTo.kp bTo .nil pass0 (pa_cons (pe_un (un_invOwn GV sV iV bV pass0 hr8) (pv 5)) pa_nil)) pa_nil)) (pe_callB (call_reprG hg hr.units) (by rfl) R.rpr (by decide +kernel) (pa_cons (pe_call GDu hr3 (by rfl) gDu FDu.kp bDu .nil pass0 (pa_cons (pe_call GTu hr2 (by rfl) gTu FTu.kp bTu .nil pass0 (pa_cons (pv 3) pa_nil)) pa_nil)) pa_nil)) (nomark _)) (pss_one (ps_ret pe_bl)) pss_nil)
      (pss_cons (ps_if (PW.pt (pw_or (pt_cmpR (op_neOwn GE sE iE bE pass0 hr7 nE OC.hm) (pe_un (un_invOwn GV sV iV bV pass0 hr8) (pe_un (un_invOwn GV sV iV bV pass0 hr8) (pv 5))) (pv 5) (nomark _)) (pw_or (pt_cmpR (op_eqOwn GE sE iE bE pass0 hr6) (pv 5) (pv 4) (nomark _))
          (pw_or1 (pt_cmpR (op_eqOwn GE sE iE bE pass0 hr6) (pv 5) (pe_callTy (call_strOwn GZ sZ iZ bZ pass0 hr7) (by rfl) W.str (by decide +kernel) (pa_cons (pv 5) pa_nil)) (nomark _)))))) (pss_one (ps_ret pe_bl)) pss_nil)
      (pss_cons (ps_set (i := 6) scLaw.nd rfl (.inl rfl) (pe_call GD hr1 (by rfl) gD FD.kp bD .nil pass0 (pa_cons (pv 1) (pa_cons (pe_callB call_len_seq (by rfl) W.len PySem.boot_len (pa_cons (pv 3) pa_nil)) pa_nil))))
      (pss_cons (ps_cut (ps_if (pt_cmpR op_gt (pv 6) pe_int (nomark _))
          (pss_cons (ps_set (i := 7) scLaw.nd rfl (.inl rfl) (pe_op (op_binOwn (E := fun _ _ _ => False) (op := .Add) GA sA iA bA passNo hr7 sf) (pe_call GC hr7 (by rfl) gC FC.kp bC .nil passNo (pa_cons (pe_slice sl_list (pv 4) po_none (po_some (pv 6))) pa_nil)) (pe_call GC hr7 (by rfl) gC FC.kp bC .nil passNo (pa_cons (pe_slice sl_list (pv 4) (po_some (pv 6)) po_none) pa_nil))))
          (pss_one (ps_if (PW.pt (pw_or (pt_cmpR (op_neOwn GE sE iE bE pass0 hr7 nE OC.hm) (pv 7) (pv 5) (nomark _)) (pw_or1 (pt_cmpR (op_eqOwn GE sE iE bE pass0 hr6) (pe_call GC hr7 (by rfl) gC FC.kp bC .nil passNo (pa_cons (pe_slice sl_list (pv 4) po_none (po_some (pv 6))) pa_nil)) (pv 5) (nomark _))))) (pss_one (ps_ret pe_bl)) pss_nil))) pss_nil))
      (pss_cons (ps_if (pt_cmpR (op_neD hr.units) (pe_lc (own := [("_law_k", 8)]) (g := gName 8) (tt := _) rfl scLaw.nd (pi_range1 (by rfl) mr (pa_cons (pe_callB call_len_seq (by rfl) W.len PySem.boot_len (pa_cons (pv 4) pa_nil)) pa_nil)) (blkOk_by (N := lawN) (sc := defScope sLaw) (by decide +kernel)) (fun _ _ _ _ _ => pg_name (i := 8) scLaw.nd rfl (Or.inl rfl)) (fun _ _ _ _ _ => pts_one (pt_cmpR (op_neOwnK (K := K) rfl GSE sSE iSE bSE pass0 hr5 nSE OT.hm) (pe_ixO (E := fun _ _ _ => False) (pv 5) (pv 8) GG sG nG iG bG passNo hr4) (pe_ix (ixl (K := K) rfl) (pv 4) (pv 8) (fun _ _ => rfl)) (nomark _)))
          (fun _ _ _ _ _ => pv 8)) (pe_lst pa_nil) (nomark _)) (pss_one (ps_ret pe_bl)) pss_nil)
      (pss_one (ps_if (PW.pt (pw_or (pt_not (pt_val (pe_callG GSr hg hr13 (by rfl) gSr FSr.kp bSr .nil pass0 (pa_cons (pv 1) (pa_cons (pv 3) pa_nil))))) (pw_or1 (pt_not (pt_val (pe_callG GRr hg hr13 (by rfl) gRr FRr.kp bRr .nil pass0 (pa_cons (pv 1) (pa_cons (pv 3) pa_nil)))))))) (pss_one (ps_ret pe_bl)) pss_nil))))))))))))
      (pss_one (ps_ret pe_bl)))), ?_⟩
    have hss := sizeLine_eq
    refine ⟨_, rfl, a, ns, rfl, hS, fun H1 p l cs s1 pen1 => ?_⟩
    have T1 := tabs_same hT0 s1
    refine ⟨5, rfl, by decide, by decide, for_range (lo := 0) (n := 5) (fun i σ H' => ∃ x2 x3 x4 x5 x6 x7 n' g', σ = [some (.ref a), some (.ref p), x2, x3, x4, x5, x6, x7, none] ∧ Pen H' p l cs n' g' ∧ n' ≤ 500 * i ∧ Tabs T H')
      ⟨none, none, none, none, none, none, 0, 0, rfl, pen1, Nat.zero_le _, T1⟩ ?_ ?_⟩
    case refine_2 =>
      rintro σ H2 ⟨x2, x3, x4, x5, x6, x7, n', g', rfl, _⟩
      exact q _
    rintro i σ H2 hi ⟨x2, x3, x4, x5, x6, x7, n2, g2, rfl, pen2, hn2, T2⟩
    refine ⟨_, rfl, _, rfl, p, l, cs, n2, g2, _, rfl, pen2, by omega, by decide, by decide, fun d n3 g3 H3 hd0 hd1 hn3 off3 pen3 => ?_⟩
    obtain ⟨k, rfl⟩ : ∃ k : Nat, d = k := ⟨d.toNat, by omega⟩
    refine ⟨_, _, rfl, rfl, p, l, cs, n3, g3, 1 + k, rfl, pen3, by omega, by omega, by omega, fun ps pl n4 g4 H4 hn4 off4 pen4 npl hP4 hpl hln hok => ?_⟩
    have T4 := tabs_off pen2.pen T2 (off3.trans off4)
    have okk : ∀ x ∈ ps, x.Ok := fun x hx => (hok x hx).ok
    have hne : ps ≠ [] := fun e => by rw [e] at hpl; simp at hpl; omega
    have h5 : ps.length ≤ 5 := by omega
    clear off3 off4 T2 pen3 pen2 T1 pen1 s1
    refine ⟨_, rfl, pl, ps, rfl, hP4, by omega, okk, fun H5 lm us s5 hS5 => ?_⟩
    have hul := hS5.2.1
    refine ⟨_, rfl, lm, us.zip (ps.map some), rfl, ?_, ?_, made_linked hS5.2.2 hul hne (by omega) okk hln fun H6 ca ct s6 hc6 => ?_⟩
    · rw [List.map_fst_zip (by rw [List.length_map]; omega)]
      exact hS5.1
    · rw [List.length_zip, List.length_map]
      omega
    have s46 := s5.trans s6
    have hP6 := hP4.same s46
    have hS6 := hS5.same s6
    have pen6 := pen4.same s46
    have T6 := tabs_same T4 s46
    clear hS5 s5 s6 s46 hP4 T4
    have nlm := hS6.ne pen6
    have tr : ∀ z : Str, (!decide (V.str z = V.str z)) = false := fun z => by rw [decide_eq_true rfl]; rfl
    have same1 : ∀ {ps : List Part} {n1 n2 : List Int}, n1.Pairwise (· < ·) → n2.Pairwise (· < ·) → (∀ k, k ∈ n1 ↔ k ∈ nums ps) → (∀ k, k ∈ n2 ↔ k ∈ nums ps) → n1 = n2 := fun a1 a2 a3 a4 => ints_one a1 a2 fun k => (a3 k).trans (a4 k).symm
    refine ⟨_, rfl, ca, ct, us, ps, rfl, hc6, by omega, fun H7 lt1 m1 s7 hw1 hm1 hd1 => ?_⟩
    obtain ⟨r1, r2, r3⟩ := (told_ok (by omega) okk hw1 hm1).repr (by decide) (by decide)
    refine ⟨_, _, rfl, hd1, r1, r2, r3, _, rfl, pl, ps, rfl, hP6.same s7, by omega, hne, okk, fun H8 lt2 m2 s8 hw2 hm2 hd2 => ?_⟩
    obtain rfl := same1 hw1 hw2 hm1 hm2
    refine ⟨_, _, rfl, hd2, r1, r2, r3, rfl, _, rfl, ?_⟩
    rw [tr]
    refine iteF ?_
    have s68 := s7.trans s8
    have hc8 := hc6.same s68
    obtain ⟨d8, e8⟩ := hc8.self
    refine ⟨_, rfl, ca, d8, _, rfl, e8, ca, ct, us, ps, rfl, hc8, by omega, hln, fun H9 cv tv uv s9 hcv => ?_⟩
    have rl : (ps.reverse.map Part.nt).length = ps.length := by rw [List.length_map, List.length_reverse]
    have rok : ∀ x ∈ ps.reverse.map Part.nt, x.Ok := fun x hx => by
      obtain ⟨y, hy, rfl⟩ := List.mem_map.mp hx
      exact (okk y (List.mem_reverse.mp hy)).nt
    have rne : ps.reverse.map Part.nt ≠ [] := fun e => hne (List.reverse_eq_nil_iff.mp (List.map_eq_nil_iff.mp e))
    refine ⟨cv, tv, uv, _, rfl, hcv, by omega, fun H10 lt3 m3 s10 hw3 hm3 hd3 => ?_⟩
    obtain ⟨r1, r2, r3⟩ := (told_ok (by omega) rok hw3 hm3).repr (by decide) (by decide)
    have s6_10 := (s68.trans s9).trans s10
    refine ⟨_, _, rfl, hd3, r1, r2, r3, _, rfl, pl, ps, rfl, hP6.same s6_10, by omega, fun H11 ltu s11 hPt => ⟨ltu, _, rfl, hPt, by omega, rne, rok, fun H12 lt4 m4 s12 hw4 hm4 hd4 => ?_⟩⟩
    obtain rfl := same1 hw3 hw4 hm3 hm4
    refine ⟨_, _, rfl, hd4, r1, r2, r3, rfl, _, rfl, ?_⟩
    rw [tr]
    refine iteF ?_
    have s6_12 := (s6_10.trans s11).trans s12
    have hc12 := hc6.same s6_12
    have hS12 := hS6.same s6_12
    have hP12 := hP6.same s6_12
    have pen12 := pen6.same s6_12
    have T12 := tabs_same T6 s6_12
    clear s6_12 s6_10 s68 s7 s8 s9 s10 s11 s12 hd1 hd2 hd3 hd4 hPt hcv hc8 e8 hc6 hS6 hP6 pen6 T6
    obtain ⟨d12, e12⟩ := hc12.self
    refine ⟨_, rfl, ca, d12, _, rfl, e12, ca, ct, us, ps, rfl, hc12, by omega, hln, fun H13 cv tv uv s13 hcv => ?_⟩
    obtain ⟨dv, ev⟩ := hcv.self
    refine ⟨cv, dv, _, rfl, ev, cv, tv, uv, _, rfl, hcv, by omega, hln.nt, fun H14 cw tw uw s14 hcw => ?_⟩
    rw [rev_rev] at hcw
    have s12_14 := s13.trans s14
    refine ⟨_, rfl, ownC TC OC hcw (hc12.same s12_14) fun H15 s15 => ⟨_, rfl, iteF ?_⟩⟩
    have s12_15 := s12_14.trans s15
    refine ⟨_, rfl, _, rfl, ownCN OC (hc12.same s12_15) (T := "list") (by simp) (.base (.lst (s12_15 _ _ hS12.1))) ⟨_, rfl, iteF ?_⟩⟩
    refine ⟨_, rfl, _, rfl, ca, d12, _, rfl, s12_15 _ _ e12, ca, ct, us, ps, rfl, hc12.same s12_15, by omega, fun H16 s16 => ⟨_, rfl, ownCN OC (hc12.same (s12_15.trans s16)) (T := "str") (by simp) (.base (.str _)) ⟨_, rfl, iteF ?_⟩⟩⟩
    have s12_16 := s12_15.trans s16
    have hc16 := hc12.same s12_16
    have hS16 := hS12.same s12_16
    have hP16 := hP12.same s12_16
    have pen16 := pen12.same s12_16
    have T16 := tabs_same T12 s12_16
    clear s12_16 s12_15 s12_14 s13 s14 s15 s16 hcv hcw ev hc12 hS12 hP12 pen12 T12 e12
    obtain ⟨vp, hvp, hvl, _⟩ := id hP16
    refine ⟨_, rfl, _, rfl, pl, vp, rfl, .inl (SqL.of hvp), p, l, cs, n4, g4, _, rfl, pen16, by omega, by omega, ?_, fun d n5 g5 H17 hd0 hd1 hn5 off17 pen17 => ?_⟩
    · rw [Int.natAbs_natCast]
      exact Nat.lt_of_le_of_lt (show vp.length ≤ 5 by omega) (by decide)
    obtain ⟨ck, rfl⟩ : ∃ ck : Nat, d = ck := ⟨d.toNat, by omega⟩
    have hc17 := hc16.offN pen16 (OffN.off off17)
    have hS17 := hS16.offN pen16 nlm (OffN.off off17)
    have hP17 := hP16.offN pen16 npl (OffN.off off17)
    have T17 := tabs_off pen16.pen T16 off17
    have hck : ck < us.length := by omega
    clear off17 hc16 hS16 hP16 pen16 T16 hvp
    refine ⟨fun σ H' => ∃ x2 x7, σ = [some (.ref a), some (.ref p), x2, some (.ref pl), some (.ref lm), some (.ref ca), some (.int (ck : Nat)), x7, none] ∧ Same H17 H', ?_, ?_⟩
    · refine ⟨_, rfl, _, _, rfl, rfl, _, rfl, ite2 (fun c0 => ?_) (fun _ => ⟨_, _, rfl, Same.refl _⟩)⟩
      have hck0 : 0 < ck := by
        have : ((0 : Nat) : Int) < ((ck : Nat) : Int) := of_decide_eq_true c0
        omega
      have ct1 : cutV us none (some ((ck : Nat) : Int)) = us.take ck := cut_take us ck (by omega)
      have ct2 : cutV us (some ((ck : Nat) : Int)) none = us.drop ck := cut_drop us ck (by omega)
      have ltk : (us.take ck).length = (ps.take ck).length := by rw [List.length_take, List.length_take, hul]
      have ldk : (us.drop ck).length = (ps.drop ck).length := by rw [List.length_drop, List.length_drop, hul]
      have ntk : ps.take ck ≠ [] := fun e => by
        have h0 : (ps.take ck).length = 0 := by rw [e]; rfl
        rw [List.length_take] at h0
        omega
      have ndk : ps.drop ck ≠ [] := fun e => by
        have h0 : (ps.drop ck).length = 0 := by rw [e]; rfl
        rw [List.length_drop] at h0
        omega
      have okt : ∀ x ∈ ps.take ck, x.Ok := fun x hx => okk x (List.mem_of_mem_take hx)
      have okd : ∀ x ∈ ps.drop ck, x.Ok := fun x hx => okk x (List.mem_of_mem_drop hx)
      have lt5 : (ps.take ck).length ≤ 5 := by rw [List.length_take]; omega
      have ld5 : (ps.drop ck).length ≤ 5 := by rw [List.length_drop]; omega
      refine ⟨_, rfl, _, rfl, _, rfl, lm, us, rfl, SqL.of hS17.1, fun c1 hc1 => ?_⟩
      have t1 := same_upd0 (o := .lst (cutV us none (some ((ck : Nat) : Int)))) hc1
      refine ⟨c1, (us.take ck).zip ((ps.take ck).map some), rfl, ?_, ?_, made_linked (all_take (hS17.same t1).2.2 ck) ltk ntk (by omega) okt (hln.take ck) fun H18 k1 u1 s18 hk1 => ?_⟩
      · rw [List.map_fst_zip (by rw [List.length_map]; omega), ← ct1]
        exact upd_same
      · rw [List.length_zip, List.length_map]
        omega
      have s17_18 := t1.trans s18
      refine ⟨_, rfl, _, rfl, _, rfl, lm, us, rfl, SqL.of (s17_18 _ _ hS17.1), fun c2 hc2 => ?_⟩
      have t2 := same_upd0 (o := .lst (cutV us (some ((ck : Nat) : Int)) none)) hc2
      refine ⟨c2, (us.drop ck).zip ((ps.drop ck).map some), rfl, ?_, ?_, made_linked (all_drop (hS17.same (s17_18.trans t2)).2.2 ck) ldk ndk (by omega) okd (hln.drop ck) fun H19 k2 u2 s19 hk2 => ?_⟩
      · rw [List.map_fst_zip (by rw [List.length_map]; omega), ← ct2]
        exact upd_same
      · rw [List.length_zip, List.length_map]
        omega
      have s17_19 := (s17_18.trans t2).trans s19
      have hk1' := hk1.same (t2.trans s19)
      obtain ⟨e1, f1⟩ := hk1'.self
      obtain ⟨e2, f2⟩ := hk2.self
      refine ⟨k1, e1, _, k2, e2, _, rfl, rfl, f1, f2, k1, u1, k2, u2, us.take ck, us.drop ck, ps.take ck, ps.drop ck, rfl, hk1', hk2, by omega, fun H20 s20 => ?_⟩
      rw [List.take_append_drop, List.take_append_drop]
      refine made_linked (hS17.same (s17_19.trans s20)).2.2 hul hne (by omega) okk hln fun H21 wa wt s21 hw => ?_
      have s17_21 := (s17_19.trans s20).trans s21
      have hc21 := hc17.same s17_21
      refine ⟨_, rfl, _, rfl, ownC TC OC hw hc21 fun H22 s22 => ⟨_, rfl, iteF ?_⟩⟩
      have s17_22 := s17_21.trans s22
      refine ⟨_, rfl, _, rfl, _, rfl, lm, us, rfl, SqL.of (s17_22 _ _ hS17.1), fun c3 hc3 => ?_⟩
      have t3 := same_upd0 (o := .lst (cutV us none (some ((ck : Nat) : Int)))) hc3
      have s17_23 := s17_22.trans t3
      refine ⟨c3, (us.take ck).zip ((ps.take ck).map some), rfl, ?_, ?_, made_linked (all_take (hS17.same s17_23).2.2 ck) ltk ntk (by omega) okt (hln.take ck) fun H24 k3 u3 s24 hk3 => ?_⟩
      · rw [List.map_fst_zip (by rw [List.length_map]; omega), ← ct1]
        exact upd_same
      · rw [List.length_zip, List.length_map]
        omega
      have s17_24 := s17_23.trans s24
      refine ⟨_, rfl, ownCL TC OC hk3 (hc17.same s17_24) (by rw [List.length_take]; omega) (fun i p q hp hq => by
          have h1 := (get_take hp).2
          rw [hq] at h1
          exact (Option.some.inj h1).symm) fun H25 s25 => ⟨_, rfl, iteF ⟨_, _, rfl, s17_24.trans s25⟩⟩⟩
    rintro σ H26 ⟨x2', x7', rfl, s26⟩
    have hc26 := hc17.same s26
    have hS26 := hS17.same s26
    have hP26 := hP17.same s26
    have pen26 := pen17.same s26
    have T26 := tabs_same T17 s26
    clear s26 hc17 hS17 hP17 pen17 T17
    have hun : ((us.length : Nat) : Int).toNat = us.length := Int.toNat_natCast _
    refine ⟨_, rfl, lm, us, rfl, .inl (SqL.of hS26.1), ((us.length : Nat) : Int), rfl, by omega, by omega, fun D hD => lc_range (lo := 0) (n := ((us.length : Nat) : Int).toNat) (fun j G => G D = some (.lst []) ∧ Same H26 G) ⟨upd_same, same_upd0 hD⟩ ?_ ?_⟩
    · rintro j G hj ⟨hDl, sm⟩
      rw [hun] at hj
      obtain ⟨p0, hp0, b0, eb0, hb0⟩ := hS26.2.2 j us[j] (List.getElem?_eq_getElem hj)
      have hcg := hc26.same sm
      obtain ⟨dg, eg⟩ := hcg.self
      have hbg := hb0.same sm
      have ho0 := okk p0 (List.mem_of_getElem? hp0)
      refine ⟨rfl, _, rfl, _, rfl, ca, dg, _, rfl, eg, ca, ct, us, ps, _, rfl, hcg, .inl ⟨j, us[j], by rw [Int.zero_add], List.getElem?_eq_getElem hj, ?_⟩⟩
      refine ⟨_, rfl, _, rfl, lm, us, _, us[j], rfl, rfl, SqL.of (sm _ _ hS26.1), by rw [Int.zero_add]; exact atI_nat (List.getElem?_eq_getElem hj), ?_⟩
      rw [eb0]
      refine ownT S OT hbg hbg ho0 ho0 fun G2 s2 => ⟨_, rfl, ?_⟩
      rw [show (!decide (p0 = p0)) = false by rw [decide_eq_true rfl]; rfl]
      exact iteF ⟨s2 _ _ hDl, sm.trans s2⟩
    rintro G ⟨hDl, sm⟩
    refine ⟨by show 0 ≤ sizeLine; decide, fun em hem => ?_⟩
    have s27 := sm.trans (same_upd0 (o := .lst []) hem)
    refine ⟨.list [], .list [], .lst (SqL.of (same_upd0 hem _ _ hDl)) .nil, .lst (SqL.of upd_same) .nil, shaped_e, shaped_e, _, rfl, ?_⟩
    rw [eqv_e]
    refine iteF ?_
    have hP27 := hP26.same s27
    have pen27 := pen26.same s27
    have T27 := tabs_same T26 s27
    refine ⟨_, rfl, _, rfl, p, l, pl, cs, n5, g5, ps, rfl, pen27, by omega, npl, hP27, hne, by omega, hok, T27, fun n6 g6 H28 hn6 o28 pen28 T28 => ⟨_, rfl, iteF ?_⟩⟩
    have hP28 := hP27.offN pen27 npl o28
    refine ⟨_, rfl, _, rfl, p, l, pl, cs, n6, g6, ps, rfl, pen28, by omega, npl, hP28, hne, h5, hln, hok, T28, fun n7 g7 H29 hn7 o29 pen29 T29 => ⟨_, rfl, iteF ?_⟩⟩
    exact ⟨_, _, _, _, _, _, n7, g7, rfl, pen29, by omega, T29⟩
end
end K31

namespace K31
open PySem PySem.Spec PyProof.Rows L2 So LamX
def strOf? : Value → Option Str
  | .str x _ => some x
  | _ => none
theorem vals_strs : ∀ {ss : List Str} {us : List Value}, us.map strOf? = ss.map some → Vals (ss.map V.str) us
  | [], [], _ => .nil
  | [], _ :: _, h => by simp at h
  | _ :: _, [], h => by simp at h
  | x :: ss, u :: us, h => by
    simp only [List.map_cons, List.cons.injEq] at h
    refine .cons ?_ (vals_strs h.2)
    cases u <;> simp [strOf?] at h
    rename_i y t
    exact ⟨t, by rw [h.1]⟩
theorem tab_seq {K : PySem.W.Frag} {a : Addr} {od : Option Addr} {its : Array Value} {n : Nat} {sl : Array (Option Value)} {ss : List Str} (l : K.lookup a = some ⟨.type "tuple", od, .seq its n, sl⟩) (v : its.toList.map strOf? = ss.map some) (hz : ss.length ≤ 1000) (H : Hp) : SqT K H a (ss.map V.str) := by
  have hv := vals_strs v
  refine .inr ⟨_, its, n, l, rfl, rfl, ?_, hv⟩
  have := hv.length
  rw [List.length_map] at this
  rw [← Array.length_toList, ← this]
  exact Nat.le_trans hz (by decide)
section
variable {K : PySem.W.Frag}
theorem exm_own {D S : Addr} (h2 : PySem.W.isClsIn K S = true) (h3 : PySem.W.typeIn K (.ref S) = some (.type "type")) (h1 : PySem.W.subIn K (.ref S) (.type "BaseException") = some true) (h4 : PySem.W.subIn K (.ref D) (.ref S) = some true) (_ : PySem.W.subIn K (.ref S) (.ref S) = some true) : PySem.W.exmOne K (.ref D) (.ref S) = some true := by
  unfold PySem.W.exmOne PySem.W.kitCls
  unfold PySem.W.isClsIn at h2
  simp [h1, h2, h3, h4]
theorem tab_by {x : Str} {f c P : Addr} {o1 u1 : Value} {o2 u2 : Option Addr} {o3 u3 : Array (Option Value)} {fd : FuncData} {vs : Array Value} (a : PySem.W.nsIn K mainGlobals x = some (some (.ref f))) (l : K.lookup f = some ⟨o1, o2, .func fd, o3⟩) (hc : fd.code = .ref c)
    (lc : K.lookup c = some ⟨u1, u2, .fields vs, u3⟩) (hv : (vs[11]? : Option Value) = some (.ref P)) : PySem.W.tabIn K x = some (c, P) := by
  unfold PySem.W.tabIn
  rw [a]
  simp only [l, hc, lc, hv]
theorem kit_VE {D : Addr} (h : PySem.W.subIn K (.ref D) (.type "ValueError") = some true) : PySem.W.kitOne K (.ref D) (.type "ValueError") = some true := by
  unfold PySem.W.kitOne PySem.W.kitCls
  have e : PySem.W.kitMeta "ValueError" = true := by decide +kernel
  simp [h, e]
theorem kit_own {D C : Addr} {b : Bool} (hc : PySem.W.isClsIn K C = true) (ht : PySem.W.typeIn K (.ref C) = some (.type "type")) (hs : PySem.W.subIn K (.ref D) (.ref C) = some b) (self : PySem.W.subIn K (.ref C) (.ref C) = some true) : PySem.W.kitOne K (.ref D) (.ref C) = some b := by
  by_cases e : D = C
  · subst e
    rw [self] at hs
    rw [kit_self, hs]
  · unfold PySem.W.kitOne PySem.W.kitCls
    unfold PySem.W.isClsIn at hc
    simp [hc, ht, hs, e]
end
def TT (P0 P1 : Addr) : List (Addr × Str) := [(P0, (envOfC "_law_step_right" (defScope sSr) 0 0 .none).qual ++ "<lambda>"), (P1, (envOfC "_law_refused_right" (defScope sRr) 0 0 .none).qual ++ "<lambda>")]
theorem TT_in0 {P0 P1 : Addr} : ∀ n f' c', (P0, (envOfC "_law_step_right" (defScope sSr) n f' c').qual ++ "<lambda>") ∈ TT P0 P1 := fun _ _ _ => List.mem_cons_self
theorem TT_un0 {P0 P1 : Addr} (ne01 : P0 ≠ P1) : ∀ n f' c', ∀ q ∈ TT P0 P1, q.1 = P0 → q.2 = (envOfC "_law_step_right" (defScope sSr) n f' c').qual ++ "<lambda>" := by
  intro n f' c' q hq h
  unfold TT at hq
  simp only [List.mem_cons, List.not_mem_nil, or_false] at hq
  rcases hq with e | e <;> subst e
  · rfl
  · exact absurd h.symm ne01
theorem TT_in1 {P0 P1 : Addr} : ∀ n f' c', (P1, (envOfC "_law_refused_right" (defScope sRr) n f' c').qual ++ "<lambda>") ∈ TT P0 P1 := fun _ _ _ => List.mem_cons_of_mem _ (List.mem_cons_self)
theorem TT_un1 {P0 P1 : Addr} (ne01 : P0 ≠ P1) : ∀ n f' c', ∀ q ∈ TT P0 P1, q.1 = P1 → q.2 = (envOfC "_law_refused_right" (defScope sRr) n f' c').qual ++ "<lambda>" := by
  intro n f' c' q hq h
  unfold TT at hq
  simp only [List.mem_cons, List.not_mem_nil, or_false] at hq
  rcases hq with e | e <;> subst e
  · exact absurd h ne01
  · rfl
theorem kb_roo {K : PySem.W.Frag} {fd : FuncData} (h : ∀ (s : Shared) (u r o n : Value), BindsTo s fd ⟨[u], [("reason", r), ("other", o), ("one", n)]⟩ [("self", u), ("one", n), ("other", o), ("reason", r)]) : KBn K fd ["self", "one", "other", "reason"] 1 ["reason", "other", "one"] kRoo kRoo := by
  refine ⟨fun s us ws _ h1 h2 => ?_, fun {vs us zs ws} r rz => ?_⟩
  · match us, h1, ws, h2 with
    | [u], _, [a, b, c], _ => exact h s u a b c
  · cases r with
    | nil => exact .nil
    | cons r1 r =>
      cases r with
      | cons _ _ => exact .nil
      | nil =>
        cases rz with
        | nil => exact .nil
        | cons r2 rz =>
          cases rz with
          | nil => exact .nil
          | cons r3 rz =>
            cases rz with
            | nil => exact .nil
            | cons r4 rz =>
              cases rz with
              | nil => exact .cons r1 (.cons r4 (.cons r3 (.cons r2 .nil)))
              | cons _ _ => exact .nil
theorem all_mk {l : PySem.W.OpenLaw} {w : World} {K : PySem.W.Frag} {h : Heap} {mg : Str → Option Value} {fa fpen fdraw fpick flsay flface fheard ffaces fparts fmade fchain fltext flnot fturned ftold fdue fbad fsr c_sr P_sr frr c_rr P_rr flaw fwhole fmoment fisname fcheck fwordof CY fyinit fyinv fyeq fystr pypt fypt CP ftinit ftinv fteq ftstr CC fcinit pcsrc fcsrc pcgoal fcgoal pcst fcst pcnum fcnum fclen fcget fcadd fcinv fceq fcstr aNo CT CB feB : Addr} (X : K.In h) (G : h.Ns mainGlobals mg) (hfa : mg "law" = some (.ref fa))
    {odpen anpen oddraw andraw odpick anpick odlsay anlsay odlface anlface odheard anheard odfaces anfaces odparts anparts odmade anmade odchain anchain odltext anltext odlnot anlnot odturned anturned odtold antold oddue andue odbad anbad odsr ansr odrr anrr odlaw anlaw odwhole anwhole odmoment anmoment odisname anisname odcheck ancheck odwordof anwordof odyinit anyinit odyinv anyinv odyeq anyeq odystr anystr odypt anypt odtinit antinit odtinv antinv odteq anteq odtstr antstr odcinit ancinit odcsrc ancsrc odcgoal ancgoal odcst ancst odcnum ancnum odclen anclen odcget ancget odcadd ancadd odcinv ancinv odceq anceq odcstr ancstr odN odeB aneB odcsr odcrr : Option Addr} {slpen sldraw slpick sllsay sllface slheard slfaces slparts slmade slchain slltext sllnot slturned sltold sldue slbad slsr slrr sllaw slwhole slmoment slisname slcheck slwordof slyinit slyinv slyeq slystr slypt sltinit sltinv slteq sltstr slcinit slcsrc slcgoal slcst slcnum slclen slcget slcadd slcinv slceq slcstr slN sleB slcsr slcrr : Array (Option Value)} {ocpen kVpen dcpen pmpen ctpen cdpen ocdraw kVdraw dcdraw pmdraw ctdraw cddraw ocpick kVpick dcpick pmpick ctpick cdpick oclsay kVlsay dclsay pmlsay ctlsay cdlsay oclface kVlface dclface pmlface ctlface cdlface ocheard kVheard dcheard pmheard ctheard cdheard ocfaces kVfaces dcfaces pmfaces ctfaces cdfaces ocparts kVparts dcparts pmparts ctparts cdparts ocmade kVmade dcmade pmmade ctmade cdmade occhain kVchain dcchain pmchain ctchain cdchain ocltext kVltext dcltext pmltext ctltext cdltext oclnot kVlnot dclnot pmlnot ctlnot cdlnot octurned kVturned dcturned pmturned ctturned cdturned octold kVtold dctold pmtold cttold cdtold ocdue kVdue dcdue pmdue ctdue cddue ocbad kVbad dcbad pmbad ctbad cdbad ocsr kVsr dcsr pmsr ctsr ocrr kVrr dcrr pmrr ctrr oclaw kVlaw dclaw pmlaw ctlaw cdlaw ocwhole kVwhole dcwhole pmwhole ctwhole cdwhole ocmoment kVmoment dcmoment pmmoment ctmoment cdmoment ocisname kVisname dcisname pmisname ctisname cdisname occheck kVcheck dccheck pmcheck ctcheck cdcheck ocwordof kVwordof dcwordof pmwordof ctwordof cdwordof ocyinit kVyinit dcyinit pmyinit ctyinit cdyinit ocyinv kVyinv dcyinv pmyinv ctyinv cdyinv ocyeq kVyeq dcyeq pmyeq ctyeq cdyeq ocystr kVystr dcystr pmystr ctystr cdystr ocypt kVypt dcypt pmypt ctypt cdypt octinit kVtinit dctinit pmtinit cttinit cdtinit octinv kVtinv dctinv pmtinv cttinv cdtinv octeq kVteq dcteq pmteq ctteq cdteq octstr kVtstr dctstr pmtstr cttstr cdtstr occinit kVcinit dccinit pmcinit ctcinit cdcinit occsrc kVcsrc dccsrc pmcsrc ctcsrc cdcsrc occgoal kVcgoal dccgoal pmcgoal ctcgoal cdcgoal occst kVcst dccst pmcst ctcst cdcst occnum kVcnum dccnum pmcnum ctcnum cdcnum occlen kVclen dcclen pmclen ctclen cdclen occget kVcget dccget pmcget ctcget cdcget occadd kVcadd dccadd pmcadd ctcadd cdcadd occinv kVcinv dccinv pmcinv ctcinv cdcinv occeq kVceq dcceq pmceq ctceq cdceq occstr kVcstr dccstr pmcstr ctcstr cdcstr oceB kVeB dceB pmeB cteB cdeB occsr occrr : Value} {restypt restcsrc restcgoal restcst restcnum : List Value}  {tG tL tA tD : Tok} {itsN : Array Value} {nN : Nat} {vssr : Array Value} {vsrr : Array Value} {nmB qB : Str} {NB : Addr} {bsB subB : List Value} {snB : List Str} {abB : Bool} {colB : Option Bool} {ddB : Option Addr} {m0B m1B m2B m3B m5B : Option Value}
    (apen : PySem.W.nsIn K mainGlobals "_law_pen" = some (some (.ref fpen)))
    (lpen : K.lookup fpen = some ⟨ocpen, odpen, .func (PySem.W.fnOf "_law_pen" "_law_pen" (defArgs sPen) (defBody sPen) (defScope sPen) .none kVpen dcpen pmpen anpen cdpen ctpen), slpen⟩)
    (cpen : PySem.W.codeIn K cdpen "_law_pen" = true)
    (kpen : PySem.W.keepIn K (.ref fpen) = true)
    (adraw : PySem.W.nsIn K mainGlobals "_law_draw" = some (some (.ref fdraw)))
    (ldraw : K.lookup fdraw = some ⟨ocdraw, oddraw, .func (PySem.W.fnOf "_law_draw" "_law_draw" (defArgs sDraw) (defBody sDraw) (defScope sDraw) .none kVdraw dcdraw pmdraw andraw cddraw ctdraw), sldraw⟩)
    (cdraw : PySem.W.codeIn K cddraw "_law_draw" = true)
    (kdraw : PySem.W.keepIn K (.ref fdraw) = true)
    (apick : PySem.W.nsIn K mainGlobals "_law_pick" = some (some (.ref fpick)))
    (lpick : K.lookup fpick = some ⟨ocpick, odpick, .func (PySem.W.fnOf "_law_pick" "_law_pick" (defArgs sPick) (defBody sPick) (defScope sPick) .none kVpick dcpick pmpick anpick cdpick ctpick), slpick⟩)
    (cpick : PySem.W.codeIn K cdpick "_law_pick" = true)
    (kpick : PySem.W.keepIn K (.ref fpick) = true)
    (alsay : PySem.W.nsIn K mainGlobals "_law_saying" = some (some (.ref flsay)))
    (llsay : K.lookup flsay = some ⟨oclsay, odlsay, .func (PySem.W.fnOf "_law_saying" "_law_saying" (defArgs sSaying) (defBody sSaying) (defScope sSaying) .none kVlsay dclsay pmlsay anlsay cdlsay ctlsay), sllsay⟩)
    (clsay : PySem.W.codeIn K cdlsay "_law_saying" = true)
    (klsay : PySem.W.keepIn K (.ref flsay) = true)
    (alface : PySem.W.nsIn K mainGlobals "_law_face" = some (some (.ref flface)))
    (llface : K.lookup flface = some ⟨oclface, odlface, .func (PySem.W.fnOf "_law_face" "_law_face" (defArgs sFace) (defBody sFace) (defScope sFace) .none kVlface dclface pmlface anlface cdlface ctlface), sllface⟩)
    (clface : PySem.W.codeIn K cdlface "_law_face" = true)
    (klface : PySem.W.keepIn K (.ref flface) = true)
    (aheard : PySem.W.nsIn K mainGlobals "_law_heard" = some (some (.ref fheard)))
    (lheard : K.lookup fheard = some ⟨ocheard, odheard, .func (PySem.W.fnOf "_law_heard" "_law_heard" (defArgs sHeard) (defBody sHeard) (defScope sHeard) .none kVheard dcheard pmheard anheard cdheard ctheard), slheard⟩)
    (cheard : PySem.W.codeIn K cdheard "_law_heard" = true)
    (kheard : PySem.W.keepIn K (.ref fheard) = true)
    (afaces : PySem.W.nsIn K mainGlobals "_law_faces" = some (some (.ref ffaces)))
    (lfaces : K.lookup ffaces = some ⟨ocfaces, odfaces, .func (PySem.W.fnOf "_law_faces" "_law_faces" (defArgs sFaces) (defBody sFaces) (defScope sFaces) .none kVfaces dcfaces pmfaces anfaces cdfaces ctfaces), slfaces⟩)
    (cfaces : PySem.W.codeIn K cdfaces "_law_faces" = true)
    (kfaces : PySem.W.keepIn K (.ref ffaces) = true)
    (aparts : PySem.W.nsIn K mainGlobals "_law_parts" = some (some (.ref fparts)))
    (lparts : K.lookup fparts = some ⟨ocparts, odparts, .func (PySem.W.fnOf "_law_parts" "_law_parts" (defArgs sParts) (defBody sParts) (defScope sParts) .none kVparts dcparts pmparts anparts cdparts ctparts), slparts⟩)
    (cparts : PySem.W.codeIn K cdparts "_law_parts" = true)
    (kparts : PySem.W.keepIn K (.ref fparts) = true)
    (amade : PySem.W.nsIn K mainGlobals "_law_made" = some (some (.ref fmade)))
    (lmade : K.lookup fmade = some ⟨ocmade, odmade, .func (PySem.W.fnOf "_law_made" "_law_made" (defArgs sMade) (defBody sMade) (defScope sMade) .none kVmade dcmade pmmade anmade cdmade ctmade), slmade⟩)
    (cmade : PySem.W.codeIn K cdmade "_law_made" = true)
    (kmade : PySem.W.keepIn K (.ref fmade) = true)
    (achain : PySem.W.nsIn K mainGlobals "_law_chain" = some (some (.ref fchain)))
    (lchain : K.lookup fchain = some ⟨occhain, odchain, .func (PySem.W.fnOf "_law_chain" "_law_chain" (defArgs sChain) (defBody sChain) (defScope sChain) .none kVchain dcchain pmchain anchain cdchain ctchain), slchain⟩)
    (cchain : PySem.W.codeIn K cdchain "_law_chain" = true)
    (kchain : PySem.W.keepIn K (.ref fchain) = true)
    (altext : PySem.W.nsIn K mainGlobals "_law_text" = some (some (.ref fltext)))
    (lltext : K.lookup fltext = some ⟨ocltext, odltext, .func (PySem.W.fnOf "_law_text" "_law_text" (defArgs sText) (defBody sText) (defScope sText) .none kVltext dcltext pmltext anltext cdltext ctltext), slltext⟩)
    (cltext : PySem.W.codeIn K cdltext "_law_text" = true)
    (kltext : PySem.W.keepIn K (.ref fltext) = true)
    (alnot : PySem.W.nsIn K mainGlobals "_law_not" = some (some (.ref flnot)))
    (llnot : K.lookup flnot = some ⟨oclnot, odlnot, .func (PySem.W.fnOf "_law_not" "_law_not" (defArgs sNot) (defBody sNot) (defScope sNot) .none kVlnot dclnot pmlnot anlnot cdlnot ctlnot), sllnot⟩)
    (clnot : PySem.W.codeIn K cdlnot "_law_not" = true)
    (klnot : PySem.W.keepIn K (.ref flnot) = true)
    (aturned : PySem.W.nsIn K mainGlobals "_law_turned" = some (some (.ref fturned)))
    (lturned : K.lookup fturned = some ⟨octurned, odturned, .func (PySem.W.fnOf "_law_turned" "_law_turned" (defArgs sTurned) (defBody sTurned) (defScope sTurned) .none kVturned dcturned pmturned anturned cdturned ctturned), slturned⟩)
    (cturned : PySem.W.codeIn K cdturned "_law_turned" = true)
    (kturned : PySem.W.keepIn K (.ref fturned) = true)
    (atold : PySem.W.nsIn K mainGlobals "_law_told" = some (some (.ref ftold)))
    (ltold : K.lookup ftold = some ⟨octold, odtold, .func (PySem.W.fnOf "_law_told" "_law_told" (defArgs sTold) (defBody sTold) (defScope sTold) .none kVtold dctold pmtold antold cdtold cttold), sltold⟩)
    (ctold : PySem.W.codeIn K cdtold "_law_told" = true)
    (ktold : PySem.W.keepIn K (.ref ftold) = true)
    (adue : PySem.W.nsIn K mainGlobals "_law_due" = some (some (.ref fdue)))
    (ldue : K.lookup fdue = some ⟨ocdue, oddue, .func (PySem.W.fnOf "_law_due" "_law_due" (defArgs sDue) (defBody sDue) (defScope sDue) .none kVdue dcdue pmdue andue cddue ctdue), sldue⟩)
    (cdue : PySem.W.codeIn K cddue "_law_due" = true)
    (kdue : PySem.W.keepIn K (.ref fdue) = true)
    (abad : PySem.W.nsIn K mainGlobals "_law_is_bad" = some (some (.ref fbad)))
    (lbad : K.lookup fbad = some ⟨ocbad, odbad, .func (PySem.W.fnOf "_law_is_bad" "_law_is_bad" (defArgs sBad) (defBody sBad) (defScope sBad) .none kVbad dcbad pmbad anbad cdbad ctbad), slbad⟩)
    (cbad : PySem.W.codeIn K cdbad "_law_is_bad" = true)
    (kbad : PySem.W.keepIn K (.ref fbad) = true)
    (asr : PySem.W.nsIn K mainGlobals "_law_step_right" = some (some (.ref fsr)))
    (lsr : K.lookup fsr = some ⟨ocsr, odsr, .func (PySem.W.fnOf "_law_step_right" "_law_step_right" (defArgs sSr) (defBody sSr) (defScope sSr) .none kVsr dcsr pmsr ansr (.ref c_sr) ctsr), slsr⟩)
    (csr : PySem.W.codeIn K (.ref c_sr) "_law_step_right" = true)
    (ksr : PySem.W.keepIn K (.ref fsr) = true)
    (arr : PySem.W.nsIn K mainGlobals "_law_refused_right" = some (some (.ref frr)))
    (lrr : K.lookup frr = some ⟨ocrr, odrr, .func (PySem.W.fnOf "_law_refused_right" "_law_refused_right" (defArgs sRr) (defBody sRr) (defScope sRr) .none kVrr dcrr pmrr anrr (.ref c_rr) ctrr), slrr⟩)
    (crr : PySem.W.codeIn K (.ref c_rr) "_law_refused_right" = true)
    (krr : PySem.W.keepIn K (.ref frr) = true)
    (alaw : PySem.W.nsIn K mainGlobals "law" = some (some (.ref flaw)))
    (llaw : K.lookup flaw = some ⟨oclaw, odlaw, .func (PySem.W.fnOf "law" "law" (defArgs sLaw) (defBody sLaw) (defScope sLaw) .none kVlaw dclaw pmlaw anlaw cdlaw ctlaw), sllaw⟩)
    (claw : PySem.W.codeIn K cdlaw "law" = true)
    (klaw : PySem.W.keepIn K (.ref flaw) = true)
    (awhole : PySem.W.nsIn K mainGlobals "is_whole" = some (some (.ref fwhole)))
    (lwhole : K.lookup fwhole = some ⟨ocwhole, odwhole, .func (PySem.W.fnOf "is_whole" "is_whole" (defArgs sWhole) (defBody sWhole) (defScope sWhole) .none kVwhole dcwhole pmwhole anwhole cdwhole ctwhole), slwhole⟩)
    (cwhole : PySem.W.codeIn K cdwhole "is_whole" = true)
    (kwhole : PySem.W.keepIn K (.ref fwhole) = true)
    (amoment : PySem.W.nsIn K mainGlobals "is_moment" = some (some (.ref fmoment)))
    (lmoment : K.lookup fmoment = some ⟨ocmoment, odmoment, .func (PySem.W.fnOf "is_moment" "is_moment" (defArgs sMoment) (defBody sMoment) (defScope sMoment) .none kVmoment dcmoment pmmoment anmoment cdmoment ctmoment), slmoment⟩)
    (cmoment : PySem.W.codeIn K cdmoment "is_moment" = true)
    (kmoment : PySem.W.keepIn K (.ref fmoment) = true)
    (aisname : PySem.W.nsIn K mainGlobals "is_name" = some (some (.ref fisname)))
    (lisname : K.lookup fisname = some ⟨ocisname, odisname, .func (PySem.W.fnOf "is_name" "is_name" (defArgs sName) (defBody sName) (defScope sName) .none kVisname dcisname pmisname anisname cdisname ctisname), slisname⟩)
    (cisname : PySem.W.codeIn K cdisname "is_name" = true)
    (kisname : PySem.W.keepIn K (.ref fisname) = true)
    (acheck : PySem.W.nsIn K mainGlobals "check_form" = some (some (.ref fcheck)))
    (lcheck : K.lookup fcheck = some ⟨occheck, odcheck, .func (PySem.W.fnOf "check_form" "check_form" (defArgs sCheck) (defBody sCheck) (defScope sCheck) .none kVcheck dccheck pmcheck ancheck cdcheck ctcheck), slcheck⟩)
    (ccheck : PySem.W.codeIn K cdcheck "check_form" = true)
    (kcheck : PySem.W.keepIn K (.ref fcheck) = true)
    (awordof : PySem.W.nsIn K mainGlobals "word_of" = some (some (.ref fwordof)))
    (lwordof : K.lookup fwordof = some ⟨ocwordof, odwordof, .func (PySem.W.fnOf "word_of" "word_of" (defArgs sWordOf) (defBody sWordOf) (defScope sWordOf) .none kVwordof dcwordof pmwordof anwordof cdwordof ctwordof), slwordof⟩)
    (cwordof : PySem.W.codeIn K cdwordof "word_of" = true)
    (kwordof : PySem.W.keepIn K (.ref fwordof) = true)
    (thn : PySem.W.specialIn K (.builtin "object.__class__") "__get__" = some (some (.builtin "getset_descriptor.__get__")))
    (tht : PySem.W.takesIn K (.builtin "object.__class__") = some true)
    (aCY : PySem.W.nsIn K mainGlobals "Saying" = some (some (.ref CY)))
    (pgCY : PySem.W.plainGet K CY Str.empty = true)
    (hdCY : PySem.W.hasDictIn K CY = true)
    (poCY : PySem.W.plainOver K CY = true)
    (saCY : PySem.W.findIn K (.ref CY) "__setattr__" = some (some (.builtin "object.__setattr__")))
    (mkCY : PySem.W.makesIn K CY = true)
    (kcCY : PySem.W.keepIn K (.ref CY) = true)
    (nCY_tool : PySem.W.findIn K (.ref CY) "tool" = some none)
    (nCY_moment : PySem.W.findIn K (.ref CY) "moment" = some none)
    (nCY_is_sound : PySem.W.findIn K (.ref CY) "is_sound" = some none)
    (thaCY : PySem.W.findIn K (.ref CY) "__class__" = some (some (.builtin "object.__class__")))
    (thmCY : PySem.W.mroIn K CY (.type "object") = some true)
    (hclsCY : PySem.W.isClsIn K CY = true)
    (htypCY : PySem.W.typeIn K (.ref CY) = some (.type "type"))
    (ayinit : PySem.W.findIn K (.ref CY) "__init__" = some (some (.ref fyinit)))
    (iyinit : PySem.W.isFn K (.ref fyinit) = true)
    (lyinit : K.lookup fyinit = some ⟨ocyinit, odyinit, .func (PySem.W.fnOf "__init__" "Saying.__init__" (defArgs sInit) (defBody sInit) (defScope sInit) .none kVyinit dcyinit pmyinit anyinit cdyinit ctyinit), slyinit⟩)
    (cyinit : PySem.W.codeIn K cdyinit "Saying.__init__" = true)
    (kyinit : PySem.W.keepIn K (.ref fyinit) = true)
    (ayinv : PySem.W.findIn K (.ref CY) "__invert__" = some (some (.ref fyinv)))
    (iyinv : PySem.W.isFn K (.ref fyinv) = true)
    (lyinv : K.lookup fyinv = some ⟨ocyinv, odyinv, .func (PySem.W.fnOf "__invert__" "Saying.__invert__" (defArgs sInv) (defBody sInv) (defScope sInv) .none kVyinv dcyinv pmyinv anyinv cdyinv ctyinv), slyinv⟩)
    (cyinv : PySem.W.codeIn K cdyinv "Saying.__invert__" = true)
    (kyinv : PySem.W.keepIn K (.ref fyinv) = true)
    (ayeq : PySem.W.findIn K (.ref CY) "__eq__" = some (some (.ref fyeq)))
    (iyeq : PySem.W.isFn K (.ref fyeq) = true)
    (lyeq : K.lookup fyeq = some ⟨ocyeq, odyeq, .func (PySem.W.fnOf "__eq__" "Saying.__eq__" (defArgs sEq) (defBody sEq) (defScope sEq) .none kVyeq dcyeq pmyeq anyeq cdyeq ctyeq), slyeq⟩)
    (cyeq : PySem.W.codeIn K cdyeq "Saying.__eq__" = true)
    (kyeq : PySem.W.keepIn K (.ref fyeq) = true)
    (aystr : PySem.W.findIn K (.ref CY) "__str__" = some (some (.ref fystr)))
    (iystr : PySem.W.isFn K (.ref fystr) = true)
    (lystr : K.lookup fystr = some ⟨ocystr, odystr, .func (PySem.W.fnOf "__str__" "Saying.__str__" (defArgs sStr) (defBody sStr) (defScope sStr) .none kVystr dcystr pmystr anystr cdystr ctystr), slystr⟩)
    (cystr : PySem.W.codeIn K cdystr "Saying.__str__" = true)
    (kystr : PySem.W.keepIn K (.ref fystr) = true)
    (aypt : PySem.W.findIn K (.ref CY) "point" = some (some (.ref pypt)))
    (gypt : PySem.W.specialIn K (.ref pypt) "__get__" = some (some (.builtin "property.__get__")))
    (typt : PySem.W.takesIn K (.ref pypt) = some true)
    (rypt : PySem.W.recIn K pypt "property" = some (.ref fypt :: restypt))
    (lypt : K.lookup fypt = some ⟨ocypt, odypt, .func (PySem.W.fnOf "point" "Saying.point" (defArgs sPoint) (defBody sPoint) (defScope sPoint) .none kVypt dcypt pmypt anypt cdypt ctypt), slypt⟩)
    (cypt : PySem.W.codeIn K cdypt "Saying.point" = true)
    (kypt : PySem.W.keepIn K (.ref fypt) = true)
    (yne : PySem.W.findIn K (.ref CY) "__ne__" = some (some (.builtin "object.__ne__")))
    (aCP : PySem.W.nsIn K mainGlobals "Step" = some (some (.ref CP)))
    (pgCP : PySem.W.plainGet K CP Str.empty = true)
    (hdCP : PySem.W.hasDictIn K CP = true)
    (poCP : PySem.W.plainOver K CP = true)
    (saCP : PySem.W.findIn K (.ref CP) "__setattr__" = some (some (.builtin "object.__setattr__")))
    (mkCP : PySem.W.makesIn K CP = true)
    (kcCP : PySem.W.keepIn K (.ref CP) = true)
    (nCP_one : PySem.W.findIn K (.ref CP) "one" = some none)
    (nCP_other : PySem.W.findIn K (.ref CP) "other" = some none)
    (nCP_reason : PySem.W.findIn K (.ref CP) "reason" = some none)
    (thaCP : PySem.W.findIn K (.ref CP) "__class__" = some (some (.builtin "object.__class__")))
    (thmCP : PySem.W.mroIn K CP (.type "object") = some true)
    (hclsCP : PySem.W.isClsIn K CP = true)
    (htypCP : PySem.W.typeIn K (.ref CP) = some (.type "type"))
    (atinit : PySem.W.findIn K (.ref CP) "__init__" = some (some (.ref ftinit)))
    (itinit : PySem.W.isFn K (.ref ftinit) = true)
    (ltinit : K.lookup ftinit = some ⟨octinit, odtinit, .func (PySem.W.fnOf "__init__" "Step.__init__" (defArgs sTInit) (defBody sTInit) (defScope sTInit) .none kVtinit dctinit pmtinit antinit cdtinit cttinit), sltinit⟩)
    (ctinit : PySem.W.codeIn K cdtinit "Step.__init__" = true)
    (ktinit : PySem.W.keepIn K (.ref ftinit) = true)
    (atinv : PySem.W.findIn K (.ref CP) "__invert__" = some (some (.ref ftinv)))
    (itinv : PySem.W.isFn K (.ref ftinv) = true)
    (ltinv : K.lookup ftinv = some ⟨octinv, odtinv, .func (PySem.W.fnOf "__invert__" "Step.__invert__" (defArgs sTInv) (defBody sTInv) (defScope sTInv) .none kVtinv dctinv pmtinv antinv cdtinv cttinv), sltinv⟩)
    (ctinv : PySem.W.codeIn K cdtinv "Step.__invert__" = true)
    (ktinv : PySem.W.keepIn K (.ref ftinv) = true)
    (ateq : PySem.W.findIn K (.ref CP) "__eq__" = some (some (.ref fteq)))
    (iteq : PySem.W.isFn K (.ref fteq) = true)
    (lteq : K.lookup fteq = some ⟨octeq, odteq, .func (PySem.W.fnOf "__eq__" "Step.__eq__" (defArgs sTEq) (defBody sTEq) (defScope sTEq) .none kVteq dcteq pmteq anteq cdteq ctteq), slteq⟩)
    (cteq : PySem.W.codeIn K cdteq "Step.__eq__" = true)
    (kteq : PySem.W.keepIn K (.ref fteq) = true)
    (atstr : PySem.W.findIn K (.ref CP) "__str__" = some (some (.ref ftstr)))
    (itstr : PySem.W.isFn K (.ref ftstr) = true)
    (ltstr : K.lookup ftstr = some ⟨octstr, odtstr, .func (PySem.W.fnOf "__str__" "Step.__str__" (defArgs sTStr) (defBody sTStr) (defScope sTStr) .none kVtstr dctstr pmtstr antstr cdtstr cttstr), sltstr⟩)
    (ctstr : PySem.W.codeIn K cdtstr "Step.__str__" = true)
    (ktstr : PySem.W.keepIn K (.ref ftstr) = true)
    (tne : PySem.W.findIn K (.ref CP) "__ne__" = some (some (.builtin "object.__ne__")))
    (aCC : PySem.W.nsIn K mainGlobals "Chain" = some (some (.ref CC)))
    (pgCC : PySem.W.plainGet K CC Str.empty = true)
    (hdCC : PySem.W.hasDictIn K CC = true)
    (poCC : PySem.W.plainOver K CC = true)
    (saCC : PySem.W.findIn K (.ref CC) "__setattr__" = some (some (.builtin "object.__setattr__")))
    (mkCC : PySem.W.makesIn K CC = true)
    (kcCC : PySem.W.keepIn K (.ref CC) = true)
    (nCC__steps : PySem.W.findIn K (.ref CC) "_steps" = some none)
    (thaCC : PySem.W.findIn K (.ref CC) "__class__" = some (some (.builtin "object.__class__")))
    (thmCC : PySem.W.mroIn K CC (.type "object") = some true)
    (hclsCC : PySem.W.isClsIn K CC = true)
    (htypCC : PySem.W.typeIn K (.ref CC) = some (.type "type"))
    (acinit : PySem.W.findIn K (.ref CC) "__init__" = some (some (.ref fcinit)))
    (icinit : PySem.W.isFn K (.ref fcinit) = true)
    (lcinit : K.lookup fcinit = some ⟨occinit, odcinit, .func (PySem.W.fnOf "__init__" "Chain.__init__" (defArgs sCInit) (defBody sCInit) (defScope sCInit) .none kVcinit dccinit pmcinit ancinit cdcinit ctcinit), slcinit⟩)
    (ccinit : PySem.W.codeIn K cdcinit "Chain.__init__" = true)
    (kcinit : PySem.W.keepIn K (.ref fcinit) = true)
    (acsrc : PySem.W.findIn K (.ref CC) "source" = some (some (.ref pcsrc)))
    (gcsrc : PySem.W.specialIn K (.ref pcsrc) "__get__" = some (some (.builtin "property.__get__")))
    (tcsrc : PySem.W.takesIn K (.ref pcsrc) = some true)
    (rcsrc : PySem.W.recIn K pcsrc "property" = some (.ref fcsrc :: restcsrc))
    (lcsrc : K.lookup fcsrc = some ⟨occsrc, odcsrc, .func (PySem.W.fnOf "source" "Chain.source" (defArgs sCSource) (defBody sCSource) (defScope sCSource) .none kVcsrc dccsrc pmcsrc ancsrc cdcsrc ctcsrc), slcsrc⟩)
    (ccsrc : PySem.W.codeIn K cdcsrc "Chain.source" = true)
    (kcsrc : PySem.W.keepIn K (.ref fcsrc) = true)
    (acgoal : PySem.W.findIn K (.ref CC) "goal" = some (some (.ref pcgoal)))
    (gcgoal : PySem.W.specialIn K (.ref pcgoal) "__get__" = some (some (.builtin "property.__get__")))
    (tcgoal : PySem.W.takesIn K (.ref pcgoal) = some true)
    (rcgoal : PySem.W.recIn K pcgoal "property" = some (.ref fcgoal :: restcgoal))
    (lcgoal : K.lookup fcgoal = some ⟨occgoal, odcgoal, .func (PySem.W.fnOf "goal" "Chain.goal" (defArgs sCGoal) (defBody sCGoal) (defScope sCGoal) .none kVcgoal dccgoal pmcgoal ancgoal cdcgoal ctcgoal), slcgoal⟩)
    (ccgoal : PySem.W.codeIn K cdcgoal "Chain.goal" = true)
    (kcgoal : PySem.W.keepIn K (.ref fcgoal) = true)
    (acst : PySem.W.findIn K (.ref CC) "steps" = some (some (.ref pcst)))
    (gcst : PySem.W.specialIn K (.ref pcst) "__get__" = some (some (.builtin "property.__get__")))
    (tcst : PySem.W.takesIn K (.ref pcst) = some true)
    (rcst : PySem.W.recIn K pcst "property" = some (.ref fcst :: restcst))
    (lcst : K.lookup fcst = some ⟨occst, odcst, .func (PySem.W.fnOf "steps" "Chain.steps" (defArgs sCSteps) (defBody sCSteps) (defScope sCSteps) .none kVcst dccst pmcst ancst cdcst ctcst), slcst⟩)
    (ccst : PySem.W.codeIn K cdcst "Chain.steps" = true)
    (kcst : PySem.W.keepIn K (.ref fcst) = true)
    (acnum : PySem.W.findIn K (.ref CC) "numbers" = some (some (.ref pcnum)))
    (gcnum : PySem.W.specialIn K (.ref pcnum) "__get__" = some (some (.builtin "property.__get__")))
    (tcnum : PySem.W.takesIn K (.ref pcnum) = some true)
    (rcnum : PySem.W.recIn K pcnum "property" = some (.ref fcnum :: restcnum))
    (lcnum : K.lookup fcnum = some ⟨occnum, odcnum, .func (PySem.W.fnOf "numbers" "Chain.numbers" (defArgs sCNum) (defBody sCNum) (defScope sCNum) .none kVcnum dccnum pmcnum ancnum cdcnum ctcnum), slcnum⟩)
    (ccnum : PySem.W.codeIn K cdcnum "Chain.numbers" = true)
    (kcnum : PySem.W.keepIn K (.ref fcnum) = true)
    (aclen : PySem.W.findIn K (.ref CC) "__len__" = some (some (.ref fclen)))
    (iclen : PySem.W.isFn K (.ref fclen) = true)
    (lclen : K.lookup fclen = some ⟨occlen, odclen, .func (PySem.W.fnOf "__len__" "Chain.__len__" (defArgs sCLen) (defBody sCLen) (defScope sCLen) .none kVclen dcclen pmclen anclen cdclen ctclen), slclen⟩)
    (cclen : PySem.W.codeIn K cdclen "Chain.__len__" = true)
    (kclen : PySem.W.keepIn K (.ref fclen) = true)
    (acget : PySem.W.findIn K (.ref CC) "__getitem__" = some (some (.ref fcget)))
    (icget : PySem.W.isFn K (.ref fcget) = true)
    (lcget : K.lookup fcget = some ⟨occget, odcget, .func (PySem.W.fnOf "__getitem__" "Chain.__getitem__" (defArgs sCGet) (defBody sCGet) (defScope sCGet) .none kVcget dccget pmcget ancget cdcget ctcget), slcget⟩)
    (ccget : PySem.W.codeIn K cdcget "Chain.__getitem__" = true)
    (kcget : PySem.W.keepIn K (.ref fcget) = true)
    (ficget : PySem.W.fnIn K fcget = true)
    (acadd : PySem.W.findIn K (.ref CC) "__add__" = some (some (.ref fcadd)))
    (icadd : PySem.W.isFn K (.ref fcadd) = true)
    (lcadd : K.lookup fcadd = some ⟨occadd, odcadd, .func (PySem.W.fnOf "__add__" "Chain.__add__" (defArgs sCAdd) (defBody sCAdd) (defScope sCAdd) .none kVcadd dccadd pmcadd ancadd cdcadd ctcadd), slcadd⟩)
    (ccadd : PySem.W.codeIn K cdcadd "Chain.__add__" = true)
    (kcadd : PySem.W.keepIn K (.ref fcadd) = true)
    (sfC : PySem.W.selfFirst K CC = true)
    (acinv : PySem.W.findIn K (.ref CC) "__invert__" = some (some (.ref fcinv)))
    (icinv : PySem.W.isFn K (.ref fcinv) = true)
    (lcinv : K.lookup fcinv = some ⟨occinv, odcinv, .func (PySem.W.fnOf "__invert__" "Chain.__invert__" (defArgs sCInv) (defBody sCInv) (defScope sCInv) .none kVcinv dccinv pmcinv ancinv cdcinv ctcinv), slcinv⟩)
    (ccinv : PySem.W.codeIn K cdcinv "Chain.__invert__" = true)
    (kcinv : PySem.W.keepIn K (.ref fcinv) = true)
    (aceq : PySem.W.findIn K (.ref CC) "__eq__" = some (some (.ref fceq)))
    (iceq : PySem.W.isFn K (.ref fceq) = true)
    (lceq : K.lookup fceq = some ⟨occeq, odceq, .func (PySem.W.fnOf "__eq__" "Chain.__eq__" (defArgs sCEq) (defBody sCEq) (defScope sCEq) .none kVceq dcceq pmceq anceq cdceq ctceq), slceq⟩)
    (cceq : PySem.W.codeIn K cdceq "Chain.__eq__" = true)
    (kceq : PySem.W.keepIn K (.ref fceq) = true)
    (cne : PySem.W.findIn K (.ref CC) "__ne__" = some (some (.builtin "object.__ne__")))
    (acstr : PySem.W.findIn K (.ref CC) "__str__" = some (some (.ref fcstr)))
    (icstr : PySem.W.isFn K (.ref fcstr) = true)
    (lcstr : K.lookup fcstr = some ⟨occstr, odcstr, .func (PySem.W.fnOf "__str__" "Chain.__str__" (defArgs sCStr) (defBody sCStr) (defScope sCStr) .none kVcstr dccstr pmcstr ancstr cdcstr ctcstr), slcstr⟩)
    (ccstr : PySem.W.codeIn K cdcstr "Chain.__str__" = true)
    (kcstr : PySem.W.keepIn K (.ref fcstr) = true)
    (gG : PySem.W.nsIn K mainGlobals "GREATEST" = some (some (.int 1000000000000000000000000000000 tG)))
    (gL : PySem.W.nsIn K mainGlobals "LONGEST_NAME" = some (some (.int 8 tL)))
    (gA : PySem.W.nsIn K mainGlobals "LETTERS" = some (some (.str letters tA)))
    (gD : PySem.W.nsIn K mainGlobals "DIGITS" = some (some (.str digits tD)))
    (gN : PySem.W.nsIn K mainGlobals "NO_NAMES" = some (some (.ref aNo)))
    (lN : K.lookup aNo = some ⟨.type "tuple", odN, .seq itsN nN, slN⟩)
    (vN : itsN.toList.map strOf? = noNames.map some)
    (b_isinstance : PySem.W.nsIn K mainGlobals "isinstance" = some none)
    (b_int : PySem.W.nsIn K mainGlobals "int" = some none)
    (b_bool : PySem.W.nsIn K mainGlobals "bool" = some none)
    (b_str : PySem.W.nsIn K mainGlobals "str" = some none)
    (b_len : PySem.W.nsIn K mainGlobals "len" = some none)
    (b_all : PySem.W.nsIn K mainGlobals "all" = some none)
    (b_list : PySem.W.nsIn K mainGlobals "list" = some none)
    (b_tuple : PySem.W.nsIn K mainGlobals "tuple" = some none)
    (b_abs : PySem.W.nsIn K mainGlobals "abs" = some none)
    (b_repr : PySem.W.nsIn K mainGlobals "repr" = some none)
    (b_range : PySem.W.nsIn K mainGlobals "range" = some none)
    (b_sorted : PySem.W.nsIn K mainGlobals "sorted" = some none)
    (b_set : PySem.W.nsIn K mainGlobals "set" = some none)
    (b_enumerate : PySem.W.nsIn K mainGlobals "enumerate" = some none)
    (aT : PySem.W.nsIn K mainGlobals "TillError" = some (some (.ref CT)))
    (iT : PySem.W.isClsIn K CT = true)
    (tT : PySem.W.typeIn K (.ref CT) = some (.type "type"))
    (eT : PySem.W.subIn K (.ref CT) (.type "BaseException") = some true)
    (sT : PySem.W.subIn K (.ref CT) (.ref CT) = some true)
    (aB : PySem.W.nsIn K mainGlobals "BadChain" = some (some (.ref CB)))
    (xB : K.lookup CB = some (excClassObj nmB qB CB NB bsB [.ref CT, .type "ValueError", .type "Exception", .type "BaseException", .type "object"] true snB subB abB colB ddB m0B m1B m2B m3B m5B "ValueError.__new__"))
    (seB : PySem.W.findIn K (.ref CB) "__setattr__" = some (some (.builtin "object.__setattr__")))
    (geB : PySem.W.findIn K (.ref CB) "__getattribute__" = some (some (.builtin "BaseException.__getattribute__")))
    (heB : PySem.W.findIn K (.ref CB) "__getattr__" = some none)
    (neB : PySem.W.findIn K (.ref CB) "at" = some none)
    (aeB : PySem.W.findIn K (.ref CB) "__init__" = some (some (.ref feB)))
    (teB : PySem.W.typeIn K (.ref feB) = some (.type "function"))
    (leB : K.lookup feB = some ⟨oceB, odeB, .func (PySem.W.fnOf "__init__" "BadChain.__init__" (defArgs sEC) (defBody sEC) (defScope sEC) .none kVeB dceB pmeB aneB cdeB cteB), sleB⟩)
    (ceB : PySem.W.codeIn K cdeB "BadChain.__init__" = true)
    (keB : PySem.W.keepIn K (.ref feB) = true)
    (kkeB : PySem.W.keepIn K (.ref CB) = true)
    (exeB : PySem.W.subIn K (.ref CB) (.type "BaseException") = some true)
    (tyeB : PySem.W.typeIn K (.ref CB) = some (.type "type"))
    (hdeB : PySem.W.hasDictIn K CB = true)
    (iceB : PySem.W.isClsIn K CB = true)
    (veeB : PySem.W.subIn K (.ref CB) (.type "ValueError") = some true)
    (uteB : PySem.W.subIn K (.ref CB) (.ref CT) = some true)
    (caeB : PySem.W.findIn K (.ref CB) "__class__" = some (some (.builtin "object.__class__")))
    (cmeB : PySem.W.mroIn K CB (.type "object") = some true)
    (lcsr : K.lookup c_sr = some ⟨occsr, odcsr, .fields vssr, slcsr⟩)
    (vcsr : (vssr[11]? : Option Value) = some (.ref P_sr))
    (nTsr : K.lookup P_sr = none)
    (lcrr : K.lookup c_rr = some ⟨occrr, odcrr, .fields vsrr, slcrr⟩)
    (vcrr : (vsrr[11]? : Option Value) = some (.ref P_rr))
    (nTrr : K.lookup P_rr = none)
    (neP01 : P_sr ≠ P_rr)
    : ∃ (fd : FuncData) (c0 P0 c1 P1 : Addr), PySem.W.tabIn K "_law_step_right" = some (c0, P0) ∧ K.lookup P0 = none ∧ PySem.W.tabIn K "_law_refused_right" = some (c1, P1) ∧ K.lookup P1 = none ∧ (∀ (s : Shared) (v : Value), BindsTo s fd ⟨[v], []⟩ [("_law_script", v)]) ∧
      ∀ base : Heap, K.In base → base.Ns mainGlobals mg → (∀ q ∈ [(c0, P0), (c1, P1)], TabB base mg q.1 q.2) → FnG l.prog w K mg base CX0 15 fa fd ["_law_script"] (spLaw K (TT P0 P1)) := by
  have e := hfa.symm.trans (PySem.W.mg_of X G alaw)
  cases e
  have g1 := fun {n : Str} {v : Value} (e : PySem.W.nsIn K mainGlobals n = some (some v)) => PySem.W.mg_of X G e
  have g0 := fun {n : Str} (e : PySem.W.nsIn K mainGlobals n = some none) => PySem.W.mg_none_of X G e
  have F_pen := fun_mk (st := sPen) lpen cpen kpen
  have F_draw := fun_mk (st := sDraw) ldraw cdraw kdraw
  have F_pick := fun_mk (st := sPick) lpick cpick kpick
  have F_lsay := fun_mk (st := sSaying) llsay clsay klsay
  have F_lface := fun_mk (st := sFace) llface clface klface
  have F_heard := fun_mk (st := sHeard) lheard cheard kheard
  have F_faces := fun_mk (st := sFaces) lfaces cfaces kfaces
  have F_parts := fun_mk (st := sParts) lparts cparts kparts
  have F_made := fun_mk (st := sMade) lmade cmade kmade
  have F_chain := fun_mk (st := sChain) lchain cchain kchain
  have F_ltext := fun_mk (st := sText) lltext cltext kltext
  have F_lnot := fun_mk (st := sNot) llnot clnot klnot
  have F_turned := fun_mk (st := sTurned) lturned cturned kturned
  have F_told := fun_mk (st := sTold) ltold ctold ktold
  have F_due := fun_mk (st := sDue) ldue cdue kdue
  have F_bad := fun_mk (st := sBad) lbad cbad kbad
  have F_sr := fun_mk (st := sSr) lsr csr ksr
  have F_rr := fun_mk (st := sRr) lrr crr krr
  have F_law := fun_mk (st := sLaw) llaw claw klaw
  have F_whole := fun_mk (st := sWhole) lwhole cwhole kwhole
  have F_moment := fun_mk (st := sMoment) lmoment cmoment kmoment
  have F_isname := fun_mk (st := sName) lisname cisname kisname
  have F_check := fun_mk (st := sCheck) lcheck ccheck kcheck
  have F_wordof := fun_mk (st := sWordOf) lwordof cwordof kwordof
  have F_yinit := fun_mk (st := sInit) lyinit cyinit kyinit
  have F_yinv := fun_mk (st := sInv) lyinv cyinv kyinv
  have F_yeq := fun_mk (st := sEq) lyeq cyeq kyeq
  have F_ystr := fun_mk (st := sStr) lystr cystr kystr
  have F_ypt := fun_mk (st := sPoint) lypt cypt kypt
  have F_tinit := fun_mk (st := sTInit) ltinit ctinit ktinit
  have F_tinv := fun_mk (st := sTInv) ltinv ctinv ktinv
  have F_teq := fun_mk (st := sTEq) lteq cteq kteq
  have F_tstr := fun_mk (st := sTStr) ltstr ctstr ktstr
  have F_csrc := fun_mk (st := sCSource) lcsrc ccsrc kcsrc
  have F_cgoal := fun_mk (st := sCGoal) lcgoal ccgoal kcgoal
  have F_cst := fun_mk (st := sCSteps) lcst ccst kcst
  have F_cnum := fun_mk (st := sCNum) lcnum ccnum kcnum
  have F_clen := fun_mk (st := sCLen) lclen cclen kclen
  have F_cget := fun_mk (st := sCGet) lcget ccget kcget
  have F_cadd := fun_mk (st := sCAdd) lcadd ccadd kcadd
  have F_cinv := fun_mk (st := sCInv) lcinv ccinv kcinv
  have F_ceq := fun_mk (st := sCEq) lceq cceq kceq
  have F_cstr := fun_mk (st := sCStr) lcstr ccstr kcstr
  have F_eB := fun_mk (st := sEC) leB ceB keB
  have b_pen_ := F_pen.binds (ps := ["_law_script"]) fun _ _ _ _ _ _ us hl => match us, hl with | [_], _ => rfl
  have b_draw_ := F_draw.binds (ps := ["_law_pen_here", "_law_many"]) fun _ _ _ _ _ _ us hl => match us, hl with | [_, _], _ => rfl
  have b_pick_ := F_pick.binds (ps := ["_law_pen_here", "_law_some"]) fun _ _ _ _ _ _ us hl => match us, hl with | [_, _], _ => rfl
  have b_lsay_ := F_lsay.binds (ps := ["_law_face_here"]) fun _ _ _ _ _ _ us hl => match us, hl with | [_], _ => rfl
  have b_lface_ := F_lface.binds (ps := ["_law_saying_here"]) fun _ _ _ _ _ _ us hl => match us, hl with | [_], _ => rfl
  have b_heard_ := F_heard.binds (ps := ["_law_ask"]) fun _ _ _ _ _ _ us hl => match us, hl with | [_], _ => rfl
  have b_faces_ := F_faces.binds (ps := ["_law_pen_here", "_law_many"]) fun _ _ _ _ _ _ us hl => match us, hl with | [_, _], _ => rfl
  have b_parts_ := F_parts.binds (ps := ["_law_pen_here", "_law_many"]) fun _ _ _ _ _ _ us hl => match us, hl with | [_, _], _ => rfl
  have b_made_ := F_made.binds (ps := ["_law_parts_here"]) fun _ _ _ _ _ _ us hl => match us, hl with | [_], _ => rfl
  have b_chain_ := F_chain.binds (ps := ["_law_some"]) fun _ _ _ _ _ _ us hl => match us, hl with | [_], _ => rfl
  have b_ltext_ := F_ltext.binds (ps := ["_law_face_here"]) fun _ _ _ _ _ _ us hl => match us, hl with | [_], _ => rfl
  have b_lnot_ := F_lnot.binds (ps := ["_law_face_here"]) fun _ _ _ _ _ _ us hl => match us, hl with | [_], _ => rfl
  have b_turned_ := F_turned.binds (ps := ["_law_parts_here"]) fun _ _ _ _ _ _ us hl => match us, hl with | [_], _ => rfl
  have b_told_ := F_told.binds (ps := ["_law_chain_here"]) fun _ _ _ _ _ _ us hl => match us, hl with | [_], _ => rfl
  have b_due_ := F_due.binds (ps := ["_law_parts_here"]) fun _ _ _ _ _ _ us hl => match us, hl with | [_], _ => rfl
  have b_bad_ := F_bad.binds (ps := ["_law_ask", "_law_due_here"]) fun _ _ _ _ _ _ us hl => match us, hl with | [_, _], _ => rfl
  have b_sr_ := F_sr.binds (ps := ["_law_pen_here", "_law_parts_here"]) fun _ _ _ _ _ _ us hl => match us, hl with | [_, _], _ => rfl
  have b_rr_ := F_rr.binds (ps := ["_law_pen_here", "_law_parts_here"]) fun _ _ _ _ _ _ us hl => match us, hl with | [_, _], _ => rfl
  have b_law_ := F_law.binds (ps := ["_law_script"]) fun _ _ _ _ _ _ us hl => match us, hl with | [_], _ => rfl
  have b_whole_ := F_whole.binds (ps := ["value"]) fun _ _ _ _ _ _ us hl => match us, hl with | [_], _ => rfl
  have b_moment_ := F_moment.binds (ps := ["value"]) fun _ _ _ _ _ _ us hl => match us, hl with | [_], _ => rfl
  have b_isname_ := F_isname.binds (ps := ["value"]) fun _ _ _ _ _ _ us hl => match us, hl with | [_], _ => rfl
  have b_check_ := F_check.binds (ps := ["value", "form"]) fun _ _ _ _ _ _ us hl => match us, hl with | [_, _], _ => rfl
  have b_wordof_ := F_wordof.binds (ps := ["value"]) fun _ _ _ _ _ _ us hl => match us, hl with | [_], _ => rfl
  have b_yinit_ := F_yinit.binds (ps := ["self", "tool", "moment", "is_sound"]) fun _ _ _ _ _ _ us hl => match us, hl with | [_, _, _, _], _ => rfl
  have b_yinv_ := F_yinv.binds (ps := ["self"]) fun _ _ _ _ _ _ us hl => match us, hl with | [_], _ => rfl
  have b_yeq_ := F_yeq.binds (ps := ["self", "other"]) fun _ _ _ _ _ _ us hl => match us, hl with | [_, _], _ => rfl
  have b_ystr_ := F_ystr.binds (ps := ["self"]) fun _ _ _ _ _ _ us hl => match us, hl with | [_], _ => rfl
  have b_ypt_ := F_ypt.binds (ps := ["self"]) fun _ _ _ _ _ _ us hl => match us, hl with | [_], _ => rfl
  have b_tinit_ := F_tinit.binds (ps := ["self", "one", "other", "reason"]) fun _ _ _ _ _ _ us hl => match us, hl with | [_, _, _, _], _ => rfl
  have b_tinv_ := F_tinv.binds (ps := ["self"]) fun _ _ _ _ _ _ us hl => match us, hl with | [_], _ => rfl
  have b_teq_ := F_teq.binds (ps := ["self", "other"]) fun _ _ _ _ _ _ us hl => match us, hl with | [_, _], _ => rfl
  have b_tstr_ := F_tstr.binds (ps := ["self"]) fun _ _ _ _ _ _ us hl => match us, hl with | [_], _ => rfl
  have b_csrc_ := F_csrc.binds (ps := ["self"]) fun _ _ _ _ _ _ us hl => match us, hl with | [_], _ => rfl
  have b_cgoal_ := F_cgoal.binds (ps := ["self"]) fun _ _ _ _ _ _ us hl => match us, hl with | [_], _ => rfl
  have b_cst_ := F_cst.binds (ps := ["self"]) fun _ _ _ _ _ _ us hl => match us, hl with | [_], _ => rfl
  have b_cnum_ := F_cnum.binds (ps := ["self"]) fun _ _ _ _ _ _ us hl => match us, hl with | [_], _ => rfl
  have b_clen_ := F_clen.binds (ps := ["self"]) fun _ _ _ _ _ _ us hl => match us, hl with | [_], _ => rfl
  have b_cget_ := F_cget.binds (ps := ["self", "k"]) fun _ _ _ _ _ _ us hl => match us, hl with | [_, _], _ => rfl
  have b_cadd_ := F_cadd.binds (ps := ["self", "other"]) fun _ _ _ _ _ _ us hl => match us, hl with | [_, _], _ => rfl
  have b_cinv_ := F_cinv.binds (ps := ["self"]) fun _ _ _ _ _ _ us hl => match us, hl with | [_], _ => rfl
  have b_ceq_ := F_ceq.binds (ps := ["self", "other"]) fun _ _ _ _ _ _ us hl => match us, hl with | [_, _], _ => rfl
  have b_cstr_ := F_cstr.binds (ps := ["self"]) fun _ _ _ _ _ _ us hl => match us, hl with | [_], _ => rfl
  have b_eB_ := F_eB.binds (ps := ["self", "at"]) fun _ _ _ _ _ _ us hl => match us, hl with | [_, _], _ => rfl
  have L_CY : Cls K CY := ⟨pgCY, hdCY, poCY, saCY⟩
  have P_ypt : PropOf K CY "point" pypt fypt := ⟨aypt, gypt, typt, ⟨_, rypt⟩⟩
  have L_CP : Cls K CP := ⟨pgCP, hdCP, poCP, saCP⟩
  have L_CC : Cls K CC := ⟨pgCC, hdCC, poCC, saCC⟩
  have F_cinit := fun_mk (st := sCInit) lcinit ccinit kcinit
  have P_csrc : PropOf K CC "source" pcsrc fcsrc := ⟨acsrc, gcsrc, tcsrc, ⟨_, rcsrc⟩⟩
  have P_cgoal : PropOf K CC "goal" pcgoal fcgoal := ⟨acgoal, gcgoal, tcgoal, ⟨_, rcgoal⟩⟩
  have P_cst : PropOf K CC "steps" pcst fcst := ⟨acst, gcst, tcst, ⟨_, rcst⟩⟩
  have P_cnum : PropOf K CC "numbers" pcnum fcnum := ⟨acnum, gcnum, tcnum, ⟨_, rcnum⟩⟩
  have RB : Err K CB := ⟨geB, heB, exeB, hdeB, caeB, thn, tht, cmeB⟩
  have OB : OneE K mg "BadChain" "at" CB feB _ := ⟨⟨⟨_, _, _, _, _, _, _, _, _, _, _, _, _, _, _, xB, by rfl⟩, seB, exeB, tyeB, kkeB⟩, aeB, teB, g1 aB, neB, RB, b_eB_⟩
  have W : Words K mg := ⟨⟨_, g1 gG⟩, ⟨_, g1 gL⟩, ⟨_, g1 gA⟩, ⟨_, g1 gD⟩, ⟨aNo, g1 gN, fun H => tab_seq lN vN (by decide) H⟩, g0 b_isinstance, g0 b_int, g0 b_bool, g0 b_str, g0 b_len, g0 b_all⟩
  have L : WordsC mg := ⟨g0 b_sorted, g0 b_set, g0 b_tuple⟩
  have TY : Say K mg CY := ⟨L_CY, nCY_tool, nCY_moment, nCY_is_sound, g1 aCY, thaCY, thn, tht, thmCY, kit_self, fun T hT => by
    simp only [List.mem_cons, List.not_mem_nil, or_false] at hT
    rcases hT with h | h | h | h | h | h <;> subst h <;> exact ⟨kit_no hclsCY htypCY (by decide +kernel), notFirst_ty (by decide +kernel)⟩⟩
  have S : Stp K mg CP := ⟨L_CP, nCP_one, nCP_other, nCP_reason, g1 aCP⟩
  have TC : Chn K mg CC := ⟨L_CC, nCC__steps, g1 aCC⟩
  have OS : Own1 K CY := ⟨thaCY, thn, tht, thmCY, kit_self, by simp [PySem.W.notFirst], fun T hT => by
    simp only [List.mem_cons, List.not_mem_nil, or_false] at hT
    rcases hT with h | h | h | h | h | h | h <;> subst h <;> exact ⟨kit_no hclsCY htypCY (by decide +kernel), notFirst_ty (by decide +kernel)⟩⟩
  have OT : Own1 K CP := ⟨thaCP, thn, tht, thmCP, kit_self, by simp [PySem.W.notFirst], fun T hT => by
    simp only [List.mem_cons, List.not_mem_nil, or_false] at hT
    rcases hT with h | h | h | h | h | h | h <;> subst h <;> exact ⟨kit_no hclsCP htypCP (by decide +kernel), notFirst_ty (by decide +kernel)⟩⟩
  have OC : Own1 K CC := ⟨thaCC, thn, tht, thmCC, kit_self, by simp [PySem.W.notFirst], fun T hT => by
    simp only [List.mem_cons, List.not_mem_nil, or_false] at hT
    rcases hT with h | h | h | h | h | h | h <;> subst h <;> exact ⟨kit_no hclsCC htypCC (by decide +kernel), notFirst_ty (by decide +kernel)⟩⟩
  have R : Hrd K mg CT CB := ⟨g1 aT, g1 aB, g0 b_isinstance, g0 b_repr, exm_own iT tT eT uteB sT, RB, kit_self, neB⟩
  refine ⟨PySem.W.fnOf "law" "law" (defArgs sLaw) (defBody sLaw) (defScope sLaw) .none kVlaw dclaw pmlaw anlaw cdlaw ctlaw, c_sr, P_sr, c_rr, P_rr, tab_by asr lsr rfl lcsr vcsr, nTsr, tab_by arr lrr rfl lcrr vcrr, nTrr, fun s v => .of_eq rfl, fun base _ _ TB => ?_⟩
  have GD := ok_draw (P := l.prog) (w := w) (base := base) F_draw (g0 b_len) (g0 b_int) (g0 b_abs)
  have GPk := ok_pick (P := l.prog) (w := w) (base := base) F_pick (g0 b_len) F_draw b_draw_ (g1 adraw) GD
  have GPen := ok_pen (P := l.prog) (w := w) (base := base) F_pen (g0 b_list)
  have GM := ok_moment (P := l.prog) (w := w) (base := base) F_moment W F_whole b_whole_ (g1 awhole)
  have GNm := ok_name (P := l.prog) (w := w) (base := base) F_isname W
  have GC := ok_check (P := l.prog) (w := w) (base := base) F_check W F_moment b_moment_ (g1 amoment) GM F_isname b_isname_ (g1 aisname) GNm
  have GSi := ok_init (P := l.prog) (w := w) (base := base) F_yinit TY F_check b_check_ (g1 acheck) GC
  have MY : Mk K CY fyinit := ⟨mkCY, ayinit, iyinit, kcCY⟩
  have GPt := ok_point (P := l.prog) (w := w) (base := base) F_ypt TY
  have GSe := ok_eq (P := l.prog) (w := w) (base := base) F_yeq W TY P_ypt b_ypt_ GPt
  have GSs := ok_str (P := l.prog) (w := w) (base := base) F_ystr W TY F_wordof b_wordof_ (g1 awordof)
  have GSv := ok_inv (P := l.prog) (w := w) (base := base) F_yinv TY MY b_yinit_ GSi
  have GTi := ok_tinit (P := l.prog) (w := w) (base := base) F_tinit W TY S F_eB OB F_whole b_whole_ (g1 awhole)
  have MP : Mk K CP ftinit := ⟨mkCP, atinit, itinit, kcCP⟩
  have GTv := ok_tinv (P := l.prog) (w := w) (base := base) F_tinv TY S MP b_tinit_ GTi ayinv iyinv b_yinv_ GSv
  have GTe := ok_teq (P := l.prog) (w := w) (base := base) F_teq W TY S OT OS ayeq iyeq b_yeq_ GSe
  have GTs := ok_tstr (P := l.prog) (w := w) (base := base) F_tstr TY S aystr iystr b_ystr_ GSs
  have GCi := ok_cinit (P := l.prog) (w := w) (base := base) F_cinit W (g0 b_enumerate) TY S TC OT OS F_eB OB ayeq iyeq b_yeq_ yne GSe
  have MC : Mk K CC fcinit := ⟨mkCC, acinit, icinit, kcCC⟩
  have GSr := ok_source (P := l.prog) (w := w) (base := base) (CS := CY) F_csrc S TC
  have GGo := ok_goal (P := l.prog) (w := w) (base := base) (CS := CY) F_cgoal S TC
  have GSt := ok_steps (P := l.prog) (w := w) (base := base) (CS := CY) (CT := CP) F_cst TC
  have GNu := ok_num (P := l.prog) (w := w) (base := base) (CS := CY) F_cnum L S TC
  have GLn := ok_len (P := l.prog) (w := w) (base := base) (CS := CY) (CT := CP) F_clen W TC
  have GGt := ok_get (P := l.prog) (w := w) (base := base) (CS := CY) (CT := CP) F_cget W TC F_eB OB F_whole b_whole_ (g1 awhole)
  have GAd := ok_add (P := l.prog) (w := w) (base := base) F_cadd TC MC GCi
  have GCv := ok_chinv (P := l.prog) (w := w) (base := base) F_cinv TC MC GCi atinv itinv b_tinv_ GTv
  have GCe := ok_ceq (P := l.prog) (w := w) (base := base) F_ceq W TC OC ateq iteq b_teq_ GTe
  have GCs := ok_cstr (P := l.prog) (w := w) (base := base) F_cstr W TY S TC P_csrc b_csrc_ GSr aystr iystr b_ystr_ GSs
  have GLs := ok_lsay (P := l.prog) (w := w) (base := base) F_lsay TY MY b_yinit_ GSi
  have GMd := ok_made (P := l.prog) (w := w) (base := base) F_made F_lsay b_lsay_ (g1 alsay) GLs S MP b_tinit_ GTi
  have GTu := ok_turned (P := l.prog) (w := w) (base := base) F_turned F_lnot b_lnot_ (g1 alnot)
  have GCh := ok_chain (P := l.prog) (w := w) (base := base) F_chain W TC MC GCi
  have GTo := ok_told (P := l.prog) (w := w) (base := base) F_told W L TY S TC F_lface b_lface_ (g1 alface) P_csrc b_csrc_ GSr P_cgoal b_cgoal_ GGo P_cst b_cst_ GSt P_cnum b_cnum_ GNu aclen iclen b_clen_ GLn acstr icstr b_cstr_ GCs
  have GDu := ok_due (P := l.prog) (w := w) (base := base) F_due W L F_ltext b_ltext_ (g1 altext)
  have GFa := ok_faces (P := l.prog) (w := w) (base := base) F_faces W F_pick b_pick_ (g1 apick) GPk F_draw b_draw_ (g1 adraw) GD
  have GPa := ok_parts (P := l.prog) (w := w) (base := base) F_parts W (g0 b_range) F_pick b_pick_ (g1 apick) GPk F_draw b_draw_ (g1 adraw) GD F_faces b_faces_ (g1 afaces) GFa
  have GSR := ok_sr (P := l.prog) (w := w) (base := base) (T := TT P_sr P_rr) F_sr rfl (TB _ List.mem_cons_self) TT_in0 (TT_un0 neP01) W TY S OT OS R MP b_tinit_ (kb_roo fun s u r o n => .of_eq rfl) GTi F_lsay b_lsay_ (g1 alsay) GLs F_ltext b_ltext_ (g1 altext) F_turned b_turned_ (g1 aturned) GTu F_made b_made_ (g1 amade) GMd atinv itinv b_tinv_ GTv ayinv iyinv b_yinv_ GSv ateq iteq b_teq_ tne GTe atstr itstr b_tstr_ GTs F_pick b_pick_ (g1 apick) GPk F_heard b_heard_ (g1 aheard) F_bad b_bad_ (g1 abad)
  have GRR := ok_rr (P := l.prog) (w := w) (base := base) (T := TT P_sr P_rr) F_rr rfl (TB _ (List.mem_cons_of_mem _ List.mem_cons_self)) TT_in1 (TT_un1 neP01) W L TY S TC OT OS R MY b_yinit_ GSi MP b_tinit_ GTi MC GCi F_made b_made_ (g1 amade) GMd F_draw b_draw_ (g1 adraw) GD F_pick b_pick_ (g1 apick) GPk F_chain b_chain_ (g1 achain) GCh acadd icadd b_cadd_ GAd sfC acget ficget icget b_cget_ GGt F_heard b_heard_ (g1 aheard) F_bad b_bad_ (g1 abad)
  exact ok_law F_law W R (g0 b_range) S TC OT OC F_pen b_pen_ (g1 apen) GPen F_draw b_draw_ (g1 adraw) GD F_parts b_parts_ (g1 aparts) GPa F_made b_made_ (g1 amade) GMd F_chain b_chain_ (g1 achain) GCh F_told b_told_ (g1 atold) GTo F_due b_due_ (g1 adue) GDu F_turned b_turned_ (g1 aturned) GTu F_sr b_sr_ (g1 asr) GSR F_rr b_rr_ (g1 arr) GRR
    acinv icinv b_cinv_ GCv aceq iceq b_ceq_ cne GCe ateq iteq b_teq_ tne GTe acstr icstr b_cstr_ GCs acadd icadd b_cadd_ GAd sfC acget ficget icget b_cget_ GGt
theorem walk {l : PySem.W.OpenLaw} {q : Program} {loose : List Str} {XP : (Str → Option Value) → Heap → Prop} {YP : World → Heap → Prop} {d : DefRec} {K : Params → PySem.W.Frag} (hn : l.most = some 63) (hdf : d.params.defaults = []) (hnm : d.name = "law")
    (hrec0 : ((recsOf q).find? (fun e => e.name == ("_law_step_right" : Str))).isSome = true) (hrec1 : ((recsOf q).find? (fun e => e.name == ("_law_refused_right" : Str))).isSome = true) (hY : ∀ (w : World) (h : Heap), YP w h → (K w.params).In h)
    (F : ∀ (w : World) (mg : Str → Option Value) (fa : Addr) (h : Heap), (K w.params).In h → h.Ns mainGlobals mg → mg "law" = some (.ref fa) →
      ∃ (fd : FuncData) (c0 P0 c1 P1 : Addr), PySem.W.tabIn (K w.params) "_law_step_right" = some (c0, P0) ∧ (K w.params).lookup P0 = none ∧ PySem.W.tabIn (K w.params) "_law_refused_right" = some (c1, P1) ∧ (K w.params).lookup P1 = none ∧ (∀ (s : Shared) (u : Value), BindsTo s fd ⟨[u], []⟩ [("_law_script", u)]) ∧
        ∀ base : Heap, (K w.params).In base → base.Ns mainGlobals mg → (∀ q ∈ [(c0, P0), (c1, P1)], TabB base mg q.1 q.2) → FnG l.prog w (K w.params) mg base CX0 15 fa fd ["_law_script"] (spLaw (K w.params) (TT P0 P1))) :
    PySem.W.WalkO q loose XP YP l.row.toRowW d [] (fun f vs => PySem.call f vs) := by
  apply Att.attach_callB hn hdf
  intro w s₀ s₁ mg mb fa o pm cd doc a vs ns G Y _ _ _ hmg hobj hints hlen hbits hg
  have KX := hY w _ Y
  rw [hnm] at hmg
  obtain ⟨fd, c0, P0, c1, P1, ht0, nT0, ht1, nT1, hb, hF⟩ := F w mg fa _ KX G.T.g hmg
  obtain ⟨d0, hd0⟩ := Option.isSome_iff_exists.mp hrec0
  obtain ⟨C0, tb0⟩ := PySem.W.tab_of G.T KX hd0 ht0
  obtain ⟨d1, hd1⟩ := Option.isSome_iff_exists.mp hrec1
  obtain ⟨C1, tb1⟩ := PySem.W.tab_of G.T KX hd1 ht1
  refine law_callTGs (cs := [(c0, P0), (c1, P1)]) KX G.T.g G.T.b G.T.builtins G.T.nolimit hg (fun q hq => ?_) G.T.bmain hobj hints (Nat.le_trans hlen (by decide)) ⟨rfl, by decide, by decide⟩ hF hb (fun H hT hS => ⟨a, ns, rfl, hS, fun q hq => ?_, fun _ => rfl⟩) fun _ _ _ z => z
  · simp only [List.mem_cons, List.not_mem_nil, or_false] at hq
    rcases hq with e | e <;> subst e
    · exact ⟨tb0, nT0, C0⟩
    · exact ⟨tb1, nT1, C1⟩
  · unfold TT at hq
    simp only [List.mem_cons, List.not_mem_nil, or_false] at hq
    rcases hq with e | e <;> subst e
    · exact TabS.nil (hT (c0, P0) (by simp))
    · exact TabS.nil (hT (c1, P1) (by simp))
end K31

open PySem PySem.W PyProof.Rows in
set_option maxRecDepth 100000 in
set_option maxHeartbeats 0 in
theorem PySem.Challenge.cw_soundtill_k31_steps_and_chains_made_holds : PySem.Challenge.rw_soundtill_k31_steps_and_chains_made.Holds := by
  w_on; o_law; k_head; (case hw => w_witness2)
  k_fill
  refine K31.walk (l := PySem.Challenge.rw_soundtill_k31_steps_and_chains_made) rfl rfl rfl (by decide +kernel) (by decide +kernel) (fun w h Y => PySem.W.km_in_of Y) ?F
  case F =>
    intro w mg fa h KX G hmg
    refine' K31.all_mk KX G hmg ?apen ?lpen ?cpen ?kpen ?adraw ?ldraw ?cdraw ?kdraw ?apick ?lpick ?cpick ?kpick ?alsay ?llsay ?clsay ?klsay ?alface ?llface ?clface ?klface ?aheard ?lheard ?cheard ?kheard ?afaces ?lfaces ?cfaces ?kfaces ?aparts ?lparts ?cparts ?kparts ?amade ?lmade ?cmade ?kmade ?achain ?lchain ?cchain ?kchain ?altext ?lltext ?cltext ?kltext ?alnot ?llnot ?clnot ?klnot ?aturned ?lturned ?cturned ?kturned ?atold ?ltold ?ctold ?ktold ?adue ?ldue ?cdue ?kdue ?abad ?lbad ?cbad ?kbad ?asr ?lsr ?csr ?ksr ?arr ?lrr ?crr ?krr ?alaw ?llaw ?claw ?klaw ?awhole ?lwhole ?cwhole ?kwhole ?amoment ?lmoment ?cmoment ?kmoment ?aisname ?lisname ?cisname ?kisname ?acheck ?lcheck ?ccheck ?kcheck ?awordof ?lwordof ?cwordof ?kwordof ?thn ?tht ?aCY ?pgCY ?hdCY ?poCY ?saCY ?mkCY ?kcCY ?nCY_tool ?nCY_moment ?nCY_is_sound ?thaCY ?thmCY ?hclsCY ?htypCY ?ayinit ?iyinit ?lyinit ?cyinit ?kyinit ?ayinv ?iyinv ?lyinv ?cyinv ?kyinv ?ayeq ?iyeq ?lyeq ?cyeq ?kyeq ?aystr ?iystr ?lystr ?cystr ?kystr ?aypt ?gypt ?typt ?rypt ?lypt ?cypt ?kypt ?yne ?aCP ?pgCP ?hdCP ?poCP ?saCP ?mkCP ?kcCP ?nCP_one ?nCP_other ?nCP_reason ?thaCP ?thmCP ?hclsCP ?htypCP ?atinit ?itinit ?ltinit ?ctinit ?ktinit ?atinv ?itinv ?ltinv ?ctinv ?ktinv ?ateq ?iteq ?lteq ?cteq ?kteq ?atstr ?itstr ?ltstr ?ctstr ?ktstr ?tne ?aCC ?pgCC ?hdCC ?poCC ?saCC ?mkCC ?kcCC ?nCC__steps ?thaCC ?thmCC ?hclsCC ?htypCC ?acinit ?icinit ?lcinit ?ccinit ?kcinit ?acsrc ?gcsrc ?tcsrc ?rcsrc ?lcsrc ?ccsrc ?kcsrc ?acgoal ?gcgoal ?tcgoal ?rcgoal ?lcgoal ?ccgoal ?kcgoal ?acst ?gcst ?tcst ?rcst ?lcst ?ccst ?kcst ?acnum ?gcnum ?tcnum ?rcnum ?lcnum ?ccnum ?kcnum ?aclen ?iclen ?lclen ?cclen ?kclen ?acget ?icget ?lcget ?ccget ?kcget ?ficget ?acadd ?icadd ?lcadd ?ccadd ?kcadd ?sfC ?acinv ?icinv ?lcinv ?ccinv ?kcinv ?aceq ?iceq ?lceq ?cceq ?kceq ?cne ?acstr ?icstr ?lcstr ?ccstr ?kcstr ?gG ?gL ?gA ?gD ?gN ?lN ?vN ?b_isinstance ?b_int ?b_bool ?b_str ?b_len ?b_all ?b_list ?b_tuple ?b_abs ?b_repr ?b_range ?b_sorted ?b_set ?b_enumerate ?aT ?iT ?tT ?eT ?sT ?aB ?xB ?seB ?geB ?heB ?neB ?aeB ?teB ?leB ?ceB ?keB ?kkeB ?exeB ?tyeB ?hdeB ?iceB ?veeB ?uteB ?caeB ?cmeB ?lcsr ?vcsr ?nTsr ?lcrr ?vcrr ?nTrr ?neP01
    (case apen => k_is)
    (case lpen => k_is)
    (case cpen => k_is)
    (case kpen => k_is)
    (case adraw => k_is)
    (case ldraw => k_is)
    (case cdraw => k_is)
    (case kdraw => k_is)
    (case apick => k_is)
    (case lpick => k_is)
    (case cpick => k_is)
    (case kpick => k_is)
    (case alsay => k_is)
    (case llsay => k_is)
    (case clsay => k_is)
    (case klsay => k_is)
    (case alface => k_is)
    (case llface => k_is)
    (case clface => k_is)
    (case klface => k_is)
    (case aheard => k_is)
    (case lheard => k_is)
    (case cheard => k_is)
    (case kheard => k_is)
    (case afaces => k_is)
    (case lfaces => k_is)
    (case cfaces => k_is)
    (case kfaces => k_is)
    (case aparts => k_is)
    (case lparts => k_is)
    (case cparts => k_is)
    (case kparts => k_is)
    (case amade => k_is)
    (case lmade => k_is)
    (case cmade => k_is)
    (case kmade => k_is)
    (case achain => k_is)
    (case lchain => k_is)
    (case cchain => k_is)
    (case kchain => k_is)
    (case altext => k_is)
    (case lltext => k_is)
    (case cltext => k_is)
    (case kltext => k_is)
    (case alnot => k_is)
    (case llnot => k_is)
    (case clnot => k_is)
    (case klnot => k_is)
    (case aturned => k_is)
    (case lturned => k_is)
    (case cturned => k_is)
    (case kturned => k_is)
    (case atold => k_is)
    (case ltold => k_is)
    (case ctold => k_is)
    (case ktold => k_is)
    (case adue => k_is)
    (case ldue => k_is)
    (case cdue => k_is)
    (case kdue => k_is)
    (case abad => k_is)
    (case lbad => k_is)
    (case cbad => k_is)
    (case kbad => k_is)
    (case asr => k_is)
    (case lsr => k_is)
    (case csr => k_is)
    (case ksr => k_is)
    (case arr => k_is)
    (case lrr => k_is)
    (case crr => k_is)
    (case krr => k_is)
    (case alaw => k_is)
    (case llaw => k_is)
    (case claw => k_is)
    (case klaw => k_is)
    (case awhole => k_is)
    (case lwhole => k_is)
    (case cwhole => k_is)
    (case kwhole => k_is)
    (case amoment => k_is)
    (case lmoment => k_is)
    (case cmoment => k_is)
    (case kmoment => k_is)
    (case aisname => k_is)
    (case lisname => k_is)
    (case cisname => k_is)
    (case kisname => k_is)
    (case acheck => k_is)
    (case lcheck => k_is)
    (case ccheck => k_is)
    (case kcheck => k_is)
    (case awordof => k_is)
    (case lwordof => k_is)
    (case cwordof => k_is)
    (case kwordof => k_is)
    (case thn => k_is)
    (case tht => k_is)
    (case aCY => k_is)
    (case pgCY => k_is)
    (case hdCY => k_is)
    (case poCY => k_is)
    (case saCY => k_is)
    (case mkCY => k_is)
    (case kcCY => k_is)
    (case nCY_tool => k_is)
    (case nCY_moment => k_is)
    (case nCY_is_sound => k_is)
    (case thaCY => k_is)
    (case thmCY => k_is)
    (case hclsCY => k_is)
    (case htypCY => k_is)
    (case ayinit => k_is)
    (case iyinit => k_is)
    (case lyinit => k_is)
    (case cyinit => k_is)
    (case kyinit => k_is)
    (case ayinv => k_is)
    (case iyinv => k_is)
    (case lyinv => k_is)
    (case cyinv => k_is)
    (case kyinv => k_is)
    (case ayeq => k_is)
    (case iyeq => k_is)
    (case lyeq => k_is)
    (case cyeq => k_is)
    (case kyeq => k_is)
    (case aystr => k_is)
    (case iystr => k_is)
    (case lystr => k_is)
    (case cystr => k_is)
    (case kystr => k_is)
    (case aypt => k_is)
    (case gypt => k_is)
    (case typt => k_is)
    (case rypt => k_is)
    (case lypt => k_is)
    (case cypt => k_is)
    (case kypt => k_is)
    (case yne => k_is)
    (case aCP => k_is)
    (case pgCP => k_is)
    (case hdCP => k_is)
    (case poCP => k_is)
    (case saCP => k_is)
    (case mkCP => k_is)
    (case kcCP => k_is)
    (case nCP_one => k_is)
    (case nCP_other => k_is)
    (case nCP_reason => k_is)
    (case thaCP => k_is)
    (case thmCP => k_is)
    (case hclsCP => k_is)
    (case htypCP => k_is)
    (case atinit => k_is)
    (case itinit => k_is)
    (case ltinit => k_is)
    (case ctinit => k_is)
    (case ktinit => k_is)
    (case atinv => k_is)
    (case itinv => k_is)
    (case ltinv => k_is)
    (case ctinv => k_is)
    (case ktinv => k_is)
    (case ateq => k_is)
    (case iteq => k_is)
    (case lteq => k_is)
    (case cteq => k_is)
    (case kteq => k_is)
    (case atstr => k_is)
    (case itstr => k_is)
    (case ltstr => k_is)
    (case ctstr => k_is)
    (case ktstr => k_is)
    (case tne => k_is)
    (case aCC => k_is)
    (case pgCC => k_is)
    (case hdCC => k_is)
    (case poCC => k_is)
    (case saCC => k_is)
    (case mkCC => k_is)
    (case kcCC => k_is)
    (case nCC__steps => k_is)
    (case thaCC => k_is)
    (case thmCC => k_is)
    (case hclsCC => k_is)
    (case htypCC => k_is)
    (case acinit => k_is)
    (case icinit => k_is)
    (case lcinit => k_is)
    (case ccinit => k_is)
    (case kcinit => k_is)
    (case acsrc => k_is)
    (case gcsrc => k_is)
    (case tcsrc => k_is)
    (case rcsrc => k_is)
    (case lcsrc => k_is)
    (case ccsrc => k_is)
    (case kcsrc => k_is)
    (case acgoal => k_is)
    (case gcgoal => k_is)
    (case tcgoal => k_is)
    (case rcgoal => k_is)
    (case lcgoal => k_is)
    (case ccgoal => k_is)
    (case kcgoal => k_is)
    (case acst => k_is)
    (case gcst => k_is)
    (case tcst => k_is)
    (case rcst => k_is)
    (case lcst => k_is)
    (case ccst => k_is)
    (case kcst => k_is)
    (case acnum => k_is)
    (case gcnum => k_is)
    (case tcnum => k_is)
    (case rcnum => k_is)
    (case lcnum => k_is)
    (case ccnum => k_is)
    (case kcnum => k_is)
    (case aclen => k_is)
    (case iclen => k_is)
    (case lclen => k_is)
    (case cclen => k_is)
    (case kclen => k_is)
    (case acget => k_is)
    (case icget => k_is)
    (case lcget => k_is)
    (case ccget => k_is)
    (case kcget => k_is)
    (case ficget => k_is)
    (case acadd => k_is)
    (case icadd => k_is)
    (case lcadd => k_is)
    (case ccadd => k_is)
    (case kcadd => k_is)
    (case sfC => k_is)
    (case acinv => k_is)
    (case icinv => k_is)
    (case lcinv => k_is)
    (case ccinv => k_is)
    (case kcinv => k_is)
    (case aceq => k_is)
    (case iceq => k_is)
    (case lceq => k_is)
    (case cceq => k_is)
    (case kceq => k_is)
    (case cne => k_is)
    (case acstr => k_is)
    (case icstr => k_is)
    (case lcstr => k_is)
    (case ccstr => k_is)
    (case kcstr => k_is)
    (case gG => k_is)
    (case gL => k_is)
    (case gA => k_is)
    (case gD => k_is)
    (case gN => k_is)
    (case lN => k_is)
    (case vN => rfl)
    (case b_isinstance => k_is)
    (case b_int => k_is)
    (case b_bool => k_is)
    (case b_str => k_is)
    (case b_len => k_is)
    (case b_all => k_is)
    (case b_list => k_is)
    (case b_tuple => k_is)
    (case b_abs => k_is)
    (case b_repr => k_is)
    (case b_range => k_is)
    (case b_sorted => k_is)
    (case b_set => k_is)
    (case b_enumerate => k_is)
    (case aT => k_is)
    (case iT => k_is)
    (case tT => k_is)
    (case eT => k_is)
    (case sT => k_is)
    (case aB => k_is)
    (case xB => k_is)
    (case seB => k_is)
    (case geB => k_is)
    (case heB => k_is)
    (case neB => k_is)
    (case aeB => k_is)
    (case teB => k_is)
    (case leB => k_is)
    (case ceB => k_is)
    (case keB => k_is)
    (case kkeB => k_is)
    (case exeB => k_is)
    (case tyeB => k_is)
    (case hdeB => k_is)
    (case iceB => k_is)
    (case veeB => k_is)
    (case uteB => k_is)
    (case caeB => k_is)
    (case cmeB => k_is)
    (case lcsr => k_is)
    (case vcsr => rfl)
    (case nTsr => first | kernel_rfl | rfl)
    (case lcrr => k_is)
    (case vcrr => rfl)
    (case nTrr => first | kernel_rfl | rfl)
    (case neP01 => decide)
