import PyProof.Rows.All
import Wide.All
import OpenK.AllK
import Wide.FinOn
import HandS.ForMost
import HandS.OwnEq
import HandS.IsInst
import HandS.Wide
import HandS.EndBits
import HandS.Property
import KE.LtData
import HandS.NamedTupSort
import HandS.Exc
import HandS.ExcInit
import HandS.ExcIs
import HandS.ExcField
import HandS.TryOnly
import HandS.Lambda
import HandS.ClsMeth
import HandS.MakeKwOnly
import KE.KOpsOwn
import HandS.WordsExc
import HandS.WordsDict
import HandS.Defaults
import HandS.Small
import HandS.LawCells
import HandS.List
import PyProof.ReprRoads
import PyProof.StrBlock2
import HandS.Words
import PyProof.StrLawsRepr
import HandS.EndTab
import HandS.SetFor
import HandS.Strs
import OpenK.KMeth
import KE.DataMinMax
import HandS.Star
import HandS.Codes
import HandS.Walk
import HandS.DictComp
import HandS.More
import HandS.Dict
import PySem.Challenge.RW_soundtill_k09_points_in_lives
set_option Elab.async false
set_option linter.all false
set_option maxRecDepth 100000
set_option maxHeartbeats 8000000
/-! So: rules of our own over the hand layer. Runs whose guards are known (for repr), repr of data, == and != by an own __eq__ with both answers, < of data, a method's call with keywords. -/
namespace So
open PySem PySem.Spec PyProof.Rows L2

/-! ### repr of data -/
mutual
theorem dp_noDict {K : PySem.W.Frag} {H : Hp} : ∀ (d : PyData) (v : V), Dp K H v d → d.hasDict = false
  | .none, _, _ => rfl
  | .bool _, _, _ => rfl
  | .int _, _, _ => rfl
  | .str _, _, _ => rfl
  | .list ds, _, h => by
    cases h with
    | lst _ ha => simpa [PyData.hasDict] using dp_noDictAll ds _ ha
  | .tuple ds, _, h => by
    cases h with
    | tup _ ha => simpa [PyData.hasDict] using dp_noDictAll ds _ ha
  | .dict _, _, h => by cases h
theorem dp_noDictAll {K : PySem.W.Frag} {H : Hp} : ∀ (ds : List PyData) (vs : List V), DpAll K H vs ds → PyData.hasDictAll ds = false
  | [], _, _ => rfl
  | d :: ds, _, h => by
    cases h with
    | cons h1 h2 => simp [PyData.hasDictAll, dp_noDict d _ h1, dp_noDictAll ds _ h2]
end

/-- repr(x): what it asks -/
def rRepr (K : PySem.W.Frag) : List V → Hp → VK → Prop := fun xs H Q => ∃ v d, xs = [v] ∧ Dp K H v d ∧ d.showable = true ∧ d.depth ≤ 60 ∧ d.shown.length ≤ sizeLine ∧ Q (.str d.shown) H
section
variable {X : Cx}
theorem call_reprD (hg : X.A.guards = some []) (hu : X.A.units + 64 < cLine) : CallR X (.builtin "repr") (rRepr X.K) := by
  intro pins s σ H xs us Q I r h
  obtain ⟨v, d, rfl, hd, hs, hdep, hz, q⟩ := h
  obtain ⟨u, rfl, rv⟩ := vals1 r
  obtain ⟨as, rd⟩ := Dp.reads I d v u hd rv
  have nd : d.hasDict = false := dp_noDict d v hd
  cases v with
  | ref a =>
    cases rv
    refine repr_of_reads' rd hs (fun z => by rw [nd] at z; cases z) hg (by omega) (fun _ _ e => e) (fun h' t tk k => ?_) hz
    exact ⟨.str d.shown, H, I.kept k, ⟨t, rfl⟩, q⟩
  | non =>
    cases hd
    cases rv
    exact PySem.P.repr_of_none ⟨.str _, H, I.tok _, ⟨_, rfl⟩, q⟩
  | bl b =>
    cases hd
    cases rv
    refine PySem.P.repr_of_bool ⟨.str (PyData.shown (.bool b)), H, I.tok _, ⟨s.toks, ?_⟩, q⟩
    cases b <;> rfl
  | int i =>
    cases hd
    obtain ⟨t, rfl⟩ := rv
    exact PySem.P.repr_of_int (by simpa [PyData.showable] using hs) ⟨.str _, H, I.tok _, ⟨_, rfl⟩, q⟩
  | str x =>
    cases hd
    obtain ⟨t, rfl⟩ := rv
    exact PySem.P.repr_of_str ⟨.str _, H, I.tok _, ⟨_, rfl⟩, q⟩ hz
  | byt b => cases hd
  | flt b => cases hd
  | ty n => cases hd

/-! ### < of data -/
def rLtD (K : PySem.W.Frag) : R2 := fun x y H Q => ∃ d e, Dp K H x d ∧ Dp K H y e ∧ PySem.W.alike d e = true ∧ d ≠ .none ∧ d.depth ≤ 60 ∧ Q (.bl (PySem.W.dataLt d e)) H
theorem op_ltD (hu : X.A.units + 64 < cLine) : OpR X (compareOp .Lt) (rLtD X.K) := by
  intro pins s σ H x y v u Q I rx ry h
  obtain ⟨d, e, hd, he, al, nn, dep, q⟩ := h
  obtain ⟨as, r1⟩ := Dp.reads I d x v hd rx
  obtain ⟨bs, r2⟩ := Dp.reads I e y u he ry
  have hm : min d.depth e.depth ≤ d.depth := Nat.min_le_left _ _
  exact PySem.W.rcLt_alike d e X.A s v u as bs r1 r2 al nn (by omega) _ _ _ _ ⟨.bl _, H, I, rfl, q⟩
end
end So

namespace So
open PySem PySem.Spec PyProof.Rows L2

/-! ### == and != by an own __eq__, both answers -/
/-- x is an instance of C, y of a type that is no class below C; the own __eq__ answers b -/
def rOwn (C : Addr) (K : PySem.W.Frag) (sp : Sp) (E : XK) (g : Bool → Bool) : R2 := fun x y H Q => ∃ a dx fs t, x = .ref a ∧ H a = some (.ins C dx fs) ∧ TyX K H y t ∧ PySem.W.notFirst K C t = true ∧
  sp [.ref a, y] H (fun v H' => ∃ b, v = .bl b ∧ Q (.bl (g b)) H') E
section
variable {X : Cx} {CX : CXT} {k : Nat} {C f : Addr} {fd : FuncData} {ps : List Str} {sp : Sp} {E : XK}
/-- what is wanted of a comparison's answer -/
def BlP (X : Cx) (pins : List (Addr × Obj)) (σ : L2.St) (g : Bool → Bool) (Q : VK) (v : Value) (s' : Shared) : Prop := ∃ b H', v = .bool b ∧ Inv X pins σ H' s' ∧ Q (.bl (g b)) H'
theorem run_eq {pins : List (Addr × Obj)} {s : Shared} {σ : L2.St} {H : Hp} {a dx : Addr} {fs : List (Str × V)} {y : V} {u : Value} {Q : VK} {g : Bool → Bool} {A : Around} (F : FnOk X.prog X.w X.K X.mg X.base CX k f fd ps sp) (hb : Binds X.K fd ps [])
    (hx : Passes CX X E) (hr : Room k A) (hf : A.frames = X.A.frames) (I : Inv X pins σ H s) (ry : RelV y u) (h : sp [.ref a, y] H (fun v H' => ∃ b, v = .bl b ∧ Q (.bl (g b)) H') E) :
    wpAny (model X.prog X.w) A (call (.ref f) [.ref a, u]) (fun v s' => BlP X pins σ g Q v s') X.xe s := by
  have e0 : Env0 X.prog X.w X.K X.mg X.base A X.stack s H := by
    have e := I.env0
    exact ⟨hf.trans e.frames, e.mod, e.bs, e.bsz, e.funs, e.frf, e.hok, e.bare⟩
  have hl : ([Value.ref a, u] ++ ([] : List Value)).length = ps.length := (F.len _ _ _ _ h : [V.ref a, y].length = ps.length)
  refine wpAny_call (codeAny_mono (F.run A X.stack s H ⟨[.ref a, u], []⟩ ([.ref a, u] ++ []) [.ref a, y] _ E hr e0 (hb s [.ref a, u] I.kIn hl) (.cons rfl (.cons ry .nil)) h) fun r s' hq => ?_)
  cases r with
  | error e => exact hx pins σ H s e s' I hq
  | ok fl =>
    cases fl with
    | ret w =>
      obtain ⟨z, H', I', rz, b, ez, q⟩ := I.after hq
      subst ez
      cases rz
      exact ⟨b, H', rfl, I', q⟩
    | next => exact False.elim hq
    | brk => exact False.elim hq
    | cont => exact False.elim hq

theorem op_eqOwn (F : FnOk X.prog X.w X.K X.mg X.base CX k f fd ps sp) (hs : PySem.W.findIn X.K (.ref C) "__eq__" = some (some (.ref f))) (hf : PySem.W.isFn X.K (.ref f) = true) (hb : Binds X.K fd ps []) (hx : Passes CX X E) (hr : Room k X.A) :
    OpR X (compareOp .Eq) (rOwn C X.K sp E id) := by
  intro pins s σ H x y v u Q I rx ry h
  obtain ⟨a, dx, fs, t, rfl, ha, ty, nf, q⟩ := h
  cases rx
  obtain ⟨mA, J, _⟩ := ins_get I.hok ha
  obtain ⟨od, J, _⟩ := J.look
  obtain ⟨P, Z, p, _⟩ := kit_of I ry ty
  obtain ⟨m, hF⟩ := I.fr
  show wpAny _ _ (richCompare .Eq (.ref a) u) _ _ s
  refine PySem.W.cmp_K (op := .Eq) (tb := t) hr.units0 hF I.ok.mod.kin J (Z.ty _ _ I.kIn p) nf hs hf ?_
  refine wpAny_mono (run_eq (dx := dx) (fs := fs) F hb hx hr rfl I ry q) (fun w s' z => ?_) fun _ _ z => z
  obtain ⟨b, H', rfl, I', q'⟩ := z
  exact ⟨.bl b, H', I', rfl, q'⟩

/-- != where the class has an own __eq__ and object's __ne__ -/
theorem op_neOwn (F : FnOk X.prog X.w X.K X.mg X.base CX k f fd ps sp) (hs : PySem.W.findIn X.K (.ref C) "__eq__" = some (some (.ref f))) (hf : PySem.W.isFn X.K (.ref f) = true) (hb : Binds X.K fd ps []) (hx : Passes CX X E) (hr : Room (k + 1) X.A)
    (hn : PySem.W.findIn X.K (.ref C) "__ne__" = some (some (.builtin "object.__ne__"))) (hm : PySem.W.mroIn X.K C (.type "object") = some true) : OpR X (compareOp .NotEq) (rOwn C X.K sp E not) := by
  intro pins s σ H x y v u Q I rx ry h
  obtain ⟨a, dx, fs, t, rfl, ha, ty, nf, q⟩ := h
  cases rx
  obtain ⟨mA, J, _⟩ := ins_get I.hok ha
  obtain ⟨od, J, _⟩ := J.look
  obtain ⟨P, Z, p, _⟩ := kit_of I ry ty
  have KI := I.kIn
  have hb' := Z.ty (model X.prog X.w) _ I.kIn p
  have hu : X.A.units < cLine := hr.units0
  show wpAny _ _ (richCompare .NotEq (.ref a) u) _ _ s
  have one : wpAny (model X.prog X.w) X.A (tryCompare (.ref a) "__ne__" u) (fun r s' => ∃ v, r = some v ∧ EP X pins σ Q v s') X.xe s := by
    unfold tryCompare
    refine wpAny_bind (NtL.csib (J.type.andThen (PySem.W.looks_findIn KI hn)) (PySem.F.cmp_object.ne.bind _) (wpAny_call (codeAny_call_builtin PySem.F.cmp_object.ne.plain PySem.F.cmpEntry_ne (PySem.W.check_slot PySem.F.cmpKind_ne PySem.F.cmpSplit_ne (J.type.andThen (PySem.W.looks_mroIn KI hm)) (PySem.F.cmpArgs_ne _ _) ?_))))
    unfold Builtin.«object.__ne__»
    refine wpAny_bind (wpAny_of_eq (a := ((Value.ref a : Value), [u])) (by first | rfl | (simp only [slotArgs]; rfl)) ?_)
    refine wpAny_bind (wpAny_cRoomFor (by show X.A.units + 1 < cLine; have := hr.units; omega) ?_)
    refine wpAny_bind (PySem.W.ifBound_K KI J hs hf (wpAny_mono (run_eq (dx := dx) (fs := fs) F hb hx hr.in1 rfl I ry q) (fun w s' z => ?_) fun _ _ z => z))
    obtain ⟨b, H', rfl, I', q'⟩ := z
    refine wpAny_bind (wpAny_truthy_bool ?_)
    refine wpAny_pure ?_
    exact wpAny_pure ⟨_, rfl, .bl (!b), H', I', rfl, q'⟩
  unfold richCompare
  simp only [oneThing_ref]
  refine wpAny_holding (wpAny_bind (wpAny_cRoomFor hu ?_))
  refine wpAny_bind (J.type.here (wpAny_bind (hb'.here ?_)))
  have fin : wpAny (model X.prog X.w) X.A (tryCompare (.ref a) "__ne__" u) (fun r s' => ∃ v, r = some v ∧ EP X pins σ Q v s') X.xe s := one
  split
  · rename_i z
    have e : PySem.W.subIn X.K t (.ref C) = some false := by
      rcases Bool.or_eq_true_iff.mp nf with e | e
      · rw [beq_iff_eq.mp e] at z; simp at z
      · exact beq_iff_eq.mp e
    refine wpAny_bind ((PySem.W.looks_subIn KI e).here ?_)
    simp only [Bool.false_eq_true, if_false]
    exact wpAny_bind (wpAny_mono fin (fun r s' z => by obtain ⟨v, rfl, hq⟩ := z; exact wpAny_pure hq) fun _ _ e => e)
  · refine wpAny_bind (wpAny_pure ?_)
    simp only [Bool.false_eq_true, if_false]
    exact wpAny_bind (wpAny_mono fin (fun r s' z => by obtain ⟨v, rfl, hq⟩ := z; exact wpAny_pure hq) fun _ _ e => e)
end
end So

namespace So
open PySem PySem.Spec PyProof.Rows L2

/-! ### runs in which no repr is under way -/
/-- as FnOk, where no repr is under way at the call -/
structure FnG (P : Program) (w : World) (K : PySem.W.Frag) (mg : Str → Option Value) (base : Heap) (CX : CXT) (k : Nat) (f : Addr) (fd : FuncData) (ps : List Str) (sp : Sp) : Prop where
  lenG : ∀ (vs : List V) (H : Hp) (Q : VK) (E : XK), sp vs H Q E → vs.length = ps.length
  runG : ∀ (A : Around) (outer : List Env) (s : Shared) (H : Hp) (args : Args) (us : List Value) (vs : List V) (Q : VK) (E : XK), A.guards = some [] → Room k A → Env0 P w K mg base A outer s H →
    BindsTo s fd args (ps.zip us) → Vals vs us → sp vs H Q E → codeAny (model P w) A (.call (.ref f) args) (CR CX outer P w H s Q E) s
section
variable {P : Program} {w : World} {K : PySem.W.Frag} {mg : Str → Option Value} {base : Heap} {CX : CXT} {sp : Sp} {fd : FuncData} {ps N : List Str} {k : Nat} {f : Addr}
theorem FnG.ofOk (F : FnOk P w K mg base CX k f fd ps sp) : FnG P w K mg base CX k f fd ps sp :=
  ⟨F.len, fun A outer s H args us vs Q E _ => F.run A outer s H args us vs Q E⟩
/-- a def by its body, as the layer's rule, the guards told -/
theorem fnG_of {x qual : Str} {st : Stmt} (F : Fun K x qual st f fd) (S : FnScope N ps (defScope st)) (len : ∀ vs H Q E, sp vs H Q E → vs.length = ps.length)
    (hbody : ∀ (cdv : Value) (A : Around) (outer : List Env) (s : Shared) (H : Hp) (vs : List V) (Q : VK) (E : XK), A.guards = some [] → Room k (A.deeper (envOfC qual (defScope st) s.heap.objs.size f cdv)) → sp vs H Q E →
      ∃ t, PSs (cxOf CX P w K mg base N qual (defScope st) f cdv A outer s H E).nox (defBody st) t ∧ t { nx := fun _ H' => Q .non H', rt := Q } (start N vs) H) : FnG P w K mg base CX (k + 1) f fd ps sp := by
  obtain ⟨oc, od, kV, doc, pm, an, cdv, ct, osl, rfl, lk, hcd⟩ := F.ex
  constructor
  · exact len
  intro A outer s H args us vs Q E hg hr e0 hb r hsp
  have old : ∀ b o, base.get? b = some o → s.heap.get? b = some o := fun b o e => (e0.bs b o e).1
  have KX := e0.mod.kin.keeps old
  have lim := e0.mod.nolimit.keeps old
  refine codeAny_call_function hr.depth (KX _ _ lk) rfl S.co S.gen rfl (PySem.W.codeRec_of KX hcd) (hb _ _ _ _ ?_)
  refine wpAny_newFunctionEnv_cells S.kind (fun y hy => ?_) fun env he s1 x => ?_
  · rcases S.par y.1 (List.of_mem_zip (show (y.1, y.2) ∈ ps.zip us from hy)).1 with q | q
    · exact Or.inl q
    · exact Or.inr (And.intro q (PySem.W.cellsFrom_some _ _ _ (Or.inl q)))
  subst he
  refine And.intro (lim.keeps x.toInCall.keep) (codeAny_func ?_)
  obtain ⟨t, ht, hq⟩ := hbody cdv A outer s H vs Q E hg (hr.deeper _) hsp
  refine wpAny_mono (ht.nox.run [] s1 (start N vs) H _ (inv_start S hr.hd e0 (len _ _ _ _ hsp) r x) hq) (fun fl s' hs => ?_) fun _ _ hs => hs
  match fl, hs with
  | .ret u, ⟨v, σ', H', J, rv, q⟩ => exact ⟨v, H', J.os, J.bare, J.base, J.hok, rv, q⟩
  | .next, ⟨σ', H', J, q⟩ => exact ⟨V.non, H', J.os, J.bare, J.base, J.hok, rfl, q⟩
  | .brk, ⟨_, _, _, q⟩ => exact q.elim
  | .cont, ⟨_, _, _, q⟩ => exact q.elim
end

/-! ### calls -/
section
variable {X : Cx} {CX : CXT} {k : Nat} {f C : Addr} {fd : FuncData} {ps ks : List Str} {sp : Sp} {E : XK} {x m : Str} {p pos apos : Pos} {e o : Expr} {es : List Expr} {kws : List Keyword} {ta : TE} {t tk : TA} {dvs : List V} {ds : List Value}
theorem run_fnG {pins : List (Addr × Obj)} {σ : L2.St} {H : Hp} {s : Shared} {Q : VK} {us : List Value} {vs : List V} (F : FnG X.prog X.w X.K X.mg X.base CX k f fd ps sp) (hg : X.A.guards = some []) (hr : Room k X.A) (hb : Binds X.K fd ps ds) (hd : Vals dvs ds)
    (hx : Passes CX X E) (I : Inv X pins σ H s) (r : Vals vs us) (h : sp (vs ++ dvs) H Q E) : wpAny (model X.prog X.w) X.A (call (.ref f) us) (EP X pins σ Q) X.xe s := by
  have r2 := r.append hd
  have hl : (us ++ ds).length = ps.length := r2.length.symm.trans (F.lenG _ _ _ _ h)
  refine wpAny_call (codeAny_mono (F.runG X.A X.stack s H ⟨us, []⟩ (us ++ ds) (vs ++ dvs) Q E hg hr I.env0 (hb s us I.kIn hl) r2 h) fun r s' hq => ?_)
  match r, hq with
  | .error e, hq => exact hx pins σ H s e s' I hq
  | .ok (.ret u), hq => exact I.after hq
  | .ok .next, hq => exact hq.elim
  | .ok .brk, hq => exact hq.elim
  | .ok .cont, hq => exact hq.elim
/-- f(e, ..), f by FnG -/
theorem pe_callG (F : FnG X.prog X.w X.K X.mg X.base CX k f fd ps sp) (hg : X.A.guards = some []) (hr : Room k X.A) (hgl : Gl X x) (hm : X.mg x = some (.ref f)) (hk : PySem.W.keepIn X.K (.ref f) = true) (hb : Binds X.K fd ps ds) (hd : Vals dvs ds) (hx : Passes CX X E)
    (ha : PA X (e :: es) t) (hdb : (x == ("__debug__" : Str)) = false := by decide) (he : starEach (e :: es) X.env = (false, eval e X.env) :: starEach es X.env := by rfl) (hpl : (backTo pos (starEach es X.env)).any (·.1) = false := by rfl) :
    PE X (.Call (.Name x p) (e :: es) [] pos) (tCall sp dvs E t) := by
  constructor
  intro pins s σ H Q I h
  refine wpAny_Call_Name_kw (ld_glob I hgl hm (PySem.W.callWith_K (h₀ := X.base) I.ok.mod.kin hk (thn (ha.run pos pins s σ H _ I h) fun us s1 q => ?_) he hpl) hdb)
  obtain ⟨vs, H1, I1, r, q⟩ := q
  exact ⟨I1.kIn, run_fnG F hg hr hb hd hx I1 r q⟩
/-- o.m(k = v, ..): keywords alone -/
theorem pe_methK {g : List Value → List Value → List Value} {gV : List V → List V → List V} {pl : Sem Bool} (he : PE X o ta) (c : Cls X.K C) (hm : Meth X.K C m f) (F : FnOk X.prog X.w X.K X.mg X.base CX k f fd ps sp) (hr : Room k X.A) (hb : KBinds X.K fd ps ks g gV)
    (hx : Passes CX X E) (hkw : PK X kws tk) (hall : (backToKw pos (keywordEach kws X.env)).all (·.1.isSome) = true := by rfl) (hks : (backToKw pos (keywordEach kws X.env)).filterMap (·.1) = ks := by rfl)
    (hpl : ((backTo pos (starEach [] X.env)).any (·.1) || (backToKw pos (keywordEach kws X.env)).any (·.1.isNone)) = false := by rfl)
    (ht : eval (.Call (.Attribute o m apos) [] kws pos) X.env = (do
      let ov ← eval o X.env
      standAt apos.atName
      let fx ← holding [ov] (getMethod ov m pl)
      callWith pos fx.1 fx.2 (backTo pos (starEach [] X.env)) (backToKw pos (keywordEach kws X.env))) := by rfl) :
    PE X (.Call (.Attribute o m apos) [] kws pos) (fun σ H Q => ta σ H fun x H1 => ∃ a dx fs, x = .ref a ∧ H1 a = some (.ins C dx fs) ∧ fs.lookup m = none ∧ tk σ H1 fun zs H2 => sp (gV [x] zs) H2 Q E) := by
  constructor
  intro pins s σ H Q I h
  refine PySem.W.methodCall_KW (pl := pl) (thn (he.run pins s σ H _ I h) fun u s1 z => ?_) ht
  obtain ⟨x, H1, I1, rx, a, dx, fs, ex, ea, l, q⟩ := z
  subst ex
  cases rx
  refine getmeth_ok I1 ea c hm l ?_
  refine PySem.W.callWith_KW0 (first := [.ref a]) (h₀ := X.base) I.ok.mod.kin hm.kp hall (thn (hkw.run pos pins s1 σ H1 _ I1 q) fun ws s2 z => ?_) hpl
  obtain ⟨zs, H2, I2, rz, q2⟩ := z
  refine ⟨I2.kIn, ?_⟩
  rw [hks]
  exact run_fnk (us := [.ref a]) (vs := [.ref a]) F hr hb hx I2 (.cons rfl .nil) rz q2
end

/-! ### the end of a law -/
theorem law_callG {P : Program} {w : World} {K : PySem.W.Frag} {mg mb : Str → Option Value} {CX : CXT} {k : Nat} {fa a : Addr} {fd : FuncData} {x : Str} {sp : Sp} {s₁ : Shared} {vs : List Value} {ns : List Int}
    (KX : K.In s₁.heap) (hns : s₁.heap.Ns mainGlobals mg) (hb : s₁.heap.Ns builtinsNs mb) (hbb : ∀ x : Str, x ≠ "__name__" → mb x = bootBuiltins x) (hlim : s₁.heap.NoLimit) (hg : s₁.gens = #[])
    (ha : s₁.heap.get? a = some { cls := .type "list", data := .seq vs.toArray }) (hi : IntsAre vs ns) (hl : ns.length ≤ sizeLine) (hr : Room k callerA)
    (F : ∀ base : Heap, K.In base → base.Ns mainGlobals mg → FnG P w K mg base CX k fa fd [x] sp) (hbind : ∀ (s : Shared) (u : Value), BindsTo s fd ⟨[u], []⟩ [(x, u)])
    (hsp : ∀ H : Hp, Only H → SqL K H a (ns.map V.int) → sp [.ref a] H (fun v _ => v = .bl true) fun _ _ _ => False)
    (hCX : ∀ H e s', CX [] H s₁ (fun _ _ _ => False) e s' → False) :
    codeAny (model P w) callerA (.call (.ref fa) ⟨[.ref a], []⟩) (fun r s' => r = .ok (.ret (.bool true)) ∧ OldK s₁.heap s'.heap ∧ s'.os = s₁.os ∧ AllBare s'.gens) s₁ := by
  -- the call itself, for a heap in which the script alone may be tracked
  have go : ∀ H : Hp, Only H → SqL K H a (ns.map V.int) → HOk P w H s₁.heap → (∀ b u, H b = some u → b = a ∧ K.lookup a = none) →
      codeAny (model P w) callerA (.call (.ref fa) ⟨[.ref a], []⟩) (fun r s' => r = .ok (.ret (.bool true)) ∧ OldK s₁.heap s'.heap ∧ s'.os = s₁.os ∧ AllBare s'.gens) s₁ := by
    intro H hO hS hok hA
    have free : ∀ b : Addr, (b ≠ a ∨ K.lookup a ≠ none) → H b = none := by
      intro b z
      cases q : H b with
      | none => rfl
      | some u => exact (z.elim (fun z => z (hA b u q).1) fun z => z (hA b u q).2).elim
    have notSeq : ∀ {b : Addr} {m : Str → Option Value}, s₁.heap.Ns b m → b ≠ a := by
      rintro b m ⟨o, es, ep, e, d, _⟩ rfl
      rw [ha] at e
      cases e
      cases d
    have inH : ∀ {b : Addr} {m : Str → Option Value}, s₁.heap.Ns b m → (hidT s₁.heap H).Ns b m := by
      intro b m n
      have nb := free b (Or.inl (notSeq n))
      obtain ⟨o, es, ep, e, r⟩ := n
      exact ⟨o, es, ep, hidT_get e nb, r⟩
    have kin : K.In (hidT s₁.heap H) := by
      intro b o e
      refine hidT_get (KX b o e) ?_
      by_cases hb : b = a
      · exact free b (Or.inr (by rw [← hb, e]; exact fun z => nomatch z))
      · exact free b (Or.inl hb)
    have lim2 : (hidT s₁.heap H).NoLimit := by
      obtain ⟨mc, h1, h2⟩ := hlim
      exact ⟨mc, inH h1, h2⟩
    have e0 : Env0 P w K mg (hidT s₁.heap H) callerA [] s₁ H := by
      refine ⟨rfl, ⟨kin, inH hns, ⟨mb, inH hb, hbb⟩, lim2⟩, fun b o e => of_hidT e, Nat.le_of_eq (hidT_size _ _), True.intro, ?_, hok, .of_eq hg⟩
      intro b hb
      cases hb
    refine codeAny_mono ((F _ kin (inH hns)).runG callerA [] s₁ H ⟨[.ref a], []⟩ [.ref a] [.ref a] _ _ rfl hr e0 (hbind s₁ (.ref a)) (.cons rfl .nil) (hsp H hO hS)) fun r s' h => ?_
    match r, h with
    | .error e, h => exact (hCX H e s' h).elim
    | .ok .next, h => exact h.elim
    | .ok .brk, h => exact h.elim
    | .ok .cont, h => exact h.elim
    | .ok (.ret u), ⟨v, H', os, bare, un, hok', rv, q⟩ =>
      have q2 : v = .bl true := q
      subst q2
      cases rv
      refine ⟨rfl, OldK.of_keep (fun b o e => ?_), os, bare⟩
      rcases hO b with z | ⟨ob, xs, z⟩
      · exact un.keep b o e z (fun z => nomatch z) (fun z => nomatch z)
      · have z1 := (hok b _ z).1
        have z2 := (hok' b _ (un.frzs b ob _ z)).1
        rw [z1] at e
        rw [z2, e]
  have rv := vals_ints hi
  have hlen : (ns.map V.int).length ≤ sizeLine := by rw [List.length_map]; exact hl
  cases hk : K.lookup a with
  | some o =>
    have e := KX a o hk
    rw [ha] at e
    cases e
    exact go (fun _ => none) (fun _ => Or.inl rfl) (Or.inr ⟨_, vs.toArray, _, hk, rfl, rfl, rfl, by rw [List.size_toArray, hi.length]; exact hl, by simpa using rv⟩) (fun b u z => nomatch z) fun b u z => nomatch z
  | none =>
    have at_ : ∀ b u, (if b = a then some (HO.frz { cls := .type "list", data := .seq vs.toArray } (.lst (ns.map V.int))) else none) = some u → b = a ∧ u = .frz { cls := .type "list", data := .seq vs.toArray } (.lst (ns.map V.int)) := by
      intro b u z
      split at z
      · rename_i hb
        exact ⟨hb, (Option.some.inj z).symm⟩
      · cases z
    refine go (fun b => if b = a then some (.frz { cls := .type "list", data := .seq vs.toArray } (.lst (ns.map V.int))) else none) (fun b => ?_) (Or.inl (Or.inr ⟨_, if_pos rfl⟩)) (fun b u z => ?_) fun b u z => ⟨(at_ b u z).1, hk⟩
    · by_cases hb : b = a
      · exact Or.inr ⟨_, _, if_pos hb⟩
      · exact Or.inl (if_neg hb)
    · obtain ⟨rfl, rfl⟩ := at_ b u z
      exact ⟨ha, hlen, vs, _, rv, ha⟩

theorem walk_ofG {l : PySem.W.OpenLaw} {n k : Nat} {q : Program} {loose : List Str} {XP : (Str → Option Value) → Heap → Prop} {YP : World → Heap → Prop} {d : DefRec} {K : Params → PySem.W.Frag} {CX : World → CXT} {sp : World → Sp} {x : Str}
    (hn : l.most = some n) (hn2 : n ≤ sizeLine) (hdf : d.params.defaults = []) (hr : Room k callerA) (hY : ∀ (w : World) (h : Heap), YP w h → (K w.params).In h)
    (F : ∀ (w : World) (mg : Str → Option Value) (fa : Addr) (h : Heap), (K w.params).In h → h.Ns mainGlobals mg → mg d.name = some (.ref fa) →
      ∃ fd : FuncData, (∀ (s : Shared) (u : Value), BindsTo s fd ⟨[u], []⟩ [(x, u)]) ∧ ∀ base : Heap, (K w.params).In base → base.Ns mainGlobals mg → FnG l.prog w (K w.params) mg base (CX w) k fa fd [x] (sp w))
    (hsp : ∀ (w : World) (H : Hp) (a : Addr) (ns : List Int), ns.length ≤ n → (∀ z ∈ ns, Builtin.Int.intBits z ≤ 1048576) → Only H → SqL (K w.params) H a (ns.map V.int) → sp w [.ref a] H (fun v _ => v = .bl true) fun _ _ _ => False)
    (hCX : ∀ (w : World) (H : Hp) (s : Shared) (e : Value) (s' : Shared), CX w [] H s (fun _ _ _ => False) e s' → False) :
    PySem.W.WalkO q loose XP YP l.row.toRowW d [] (fun f vs => PySem.call f vs) := by
  apply Att.attach_callB hn hdf
  intro w s₀ s₁ mg mb fa o pm cd doc a vs ns G Y _ _ _ hmg hobj hints hlen hbits hg
  obtain ⟨fd, hb, hF⟩ := F w mg fa _ (hY w _ Y) G.T.g hmg
  exact law_callG (hY w _ Y) G.T.g G.T.b G.T.builtins G.T.nolimit hg hobj hints (Nat.le_trans hlen hn2) hr hF hb (fun H hO hS => hsp w H a ns hlen hbits hO hS) fun H e s' => hCX w H s₁ e s'
end So

namespace So
open PySem PySem.Spec PyProof.Rows L2
section
variable {K : PySem.W.Frag} {C : Addr}
theorem kit_self : PySem.W.kitOne K (.ref C) (.ref C) = some true := by
  unfold PySem.W.kitOne
  rw [if_pos]
  simp
/-- no built-in type stands below an own class -/
theorem sub_ty {T : String} (h : (fastBuiltinMro T).map (fun l => l.all fun v => match v with | .type _ => true | _ => false) = some true) : PySem.W.subIn K (.type T) (.ref C) = some false := by
  show (fastBuiltinMro T).map (·.contains (.ref C)) = some false
  cases e : fastBuiltinMro T with
  | none => rw [e] at h; cases h
  | some l =>
    rw [e] at h
    have h2 : (l.all fun v => match v with | .type _ => true | _ => false) = true := Option.some.inj h
    show some (l.contains (.ref C)) = some false
    congr 1
    cases c : l.contains (.ref C) with
    | false => rfl
    | true =>
      have m : (Value.ref C) ∈ l := by simpa using c
      have := List.all_eq_true.mp h2 _ m
      cases this
theorem notFirst_ty {T : String} (h : (fastBuiltinMro T).map (fun l => l.all fun v => match v with | .type _ => true | _ => false) = some true) : PySem.W.notFirst K C (.type T) = true := by
  unfold PySem.W.notFirst
  rw [sub_ty h]
  simp
theorem kit_no {T : String} (hc : PySem.W.isClsIn K C = true) (ht : PySem.W.typeIn K (.ref C) = some (.type "type")) (h : (fastBuiltinMro T).map (fun l => l.all fun v => match v with | .type _ => true | _ => false) = some true) : PySem.W.kitOne K (.type T) (.ref C) = some false := by
  unfold PySem.W.kitOne PySem.W.kitCls
  unfold PySem.W.isClsIn at hc
  have hb : ((PySem.W.clsIn K C).isSome && PySem.W.typeIn K (.ref C) == some (.type "type")) = true := by
    rw [hc, ht]
    simp
  have sb := sub_ty (K := K) (C := C) h
  simp [hb, sb]
end
end So

/-! So, on: exceptions that are kept as values. -/
namespace So
open PySem PySem.Spec PyProof.Rows L2
/-- an exception object of the class cls, its dict at d, that stands at a and is nobody's news -/
def Xo (cls : Value) (d : Option Addr) (a : Addr) : HO := .ext fun h => ∃ (oe : Obj) (vs : Array Value), h.get? a = some oe ∧ Zc cls d oe ∧ oe.data = .fields vs
theorem xo_ok {P : Program} {w : World} {H : Hp} {h : Heap} {a : Addr} {cls : Value} {d : Option Addr} {oe : Obj} {vs : Array Value} (e : h.get? a = some oe) (z : Zc cls d oe) (f : oe.data = .fields vs) : ObjOk P w H h a (Xo cls d a) := by
  refine ⟨⟨oe, vs, e, z, f⟩, ⟨oe, e⟩, ?_⟩
  rintro h1 h2 ⟨o, v, q, r⟩ k
  exact ⟨o, v, k o q, r⟩
theorem xo_at {P : Program} {w : World} {H : Hp} {h : Heap} {a : Addr} {cls : Value} {d : Option Addr} (hok : HOk P w H h) (e : H a = some (Xo cls d a)) : ∃ (oe : Obj) (vs : Array Value), h.get? a = some oe ∧ Zc cls d oe ∧ oe.data = .fields vs := by
  have x : ObjOk P w H h a (.ext fun h => ∃ (oe : Obj) (vs : Array Value), h.get? a = some oe ∧ Zc cls d oe ∧ oe.data = .fields vs) := hok a _ e
  exact x.1
section
variable {X : Cx} {pins : List (Addr × Obj)} {σ : L2.St} {H : Hp} {s sI : Shared} {a : Addr} {cls : Value} {d : Option Addr} {oe : Obj} {vs : Array Value}
/-- an exception that has landed is tracked from now on -/
theorem track (J : Inv X pins σ H sI) (hex : X.ex = []) (hI : sI.heap.get? a = none) (I : Inv X pins σ H s) (he : s.heap.get? a = some oe) (hz : Zc cls d oe) (hd : oe.data = .fields vs) (na : H a = none) (nL : a ≠ X.env.locals) :
    Inv X pins σ (upd H a (Xo cls d a)) s := by
  have h0 : ∀ b o, X.s_0.heap.get? b = some o → b ≠ a := by
    rintro b o e rfl
    obtain ⟨o', e'⟩ := J.base.there b o e (by rw [hex]; exact fun z => nomatch z)
    rw [hI] at e'
    cases e'
  have hs : ∀ {b : Addr} {u : HO}, H b = some u → (upd H a (Xo cls d a)) b = some u := fun e => (upd_ne (ne_of_none e na)).trans e
  refine ⟨I.ok, I.os, I.bare, ⟨I.base.keep, I.base.slot, fun b o e n hx => (upd_ne (h0 b o e)).trans (I.base.free b o e n hx), I.base.there, fun b xs q => hs (I.base.tups b xs q), fun b o u q => hs (I.base.frzs b o u q), fun b ps q => ?_⟩,
    I.loc, I.cell, (upd_ne nL.symm).trans I.free, fun x c e => ?_, fun p hp => ?_, fun b u e => ?_, I.len⟩
  · obtain ⟨m, q'⟩ := I.base.tbls b ps q
    exact ⟨m, hs q'⟩
  · refine (upd_ne ?_).trans (I.freeC x c e)
    rintro rfl
    obtain ⟨v, o, ho, hc⟩ := I.cell x c e
    rw [he] at ho
    cases ho
    rw [hd] at hc
    cases hc
  · obtain ⟨p1, p2, p3, p4, p5⟩ := I.pin p hp
    refine ⟨p1, (upd_ne ?_).trans p2, p3, p4, p5⟩
    intro z
    have := (J.pin p hp).1
    rw [z, hI] at this
    cases this
  · by_cases hb : b = a
    · subst hb
      rw [upd_same] at e
      cases e
      exact xo_ok he hz hd
    · rw [upd_ne hb] at e
      exact (I.hok b u e).stay (fun _ _ _ q => q) (fun c q => hs q) fun c xs q => hs q
end

/-! ### try: body, except x as n: suite, the exception kept as a value -/
/-- what such a clause wishes of an exception of the body -/
def wKeep (K : PySem.W.Frag) (c : Value) (i : Nat) (ts : TS) (Wout : WX) (D : Ends) : WX := fun cls d σ H =>
  ∃ b, PySem.W.exmOne K cls c = some b ∧ (b = true → ∀ a, H a = none → ts { nx := fun σ' H' => D.nx (σ'.set i none) H', rt := D.rt, bk := fun σ' H' => D.bk (σ'.set i none) H', ct := fun σ' H' => D.ct (σ'.set i none) H' } (σ.set i (some (.ref a))) (upd H a (Xo cls d a))) ∧
    (b = false → Wout cls d σ H)
section
variable {X : Cx} {x n : Str} {c : Value} {i : Nat} {body suite : List Stmt} {b₀ : Stmt} {np pos pos' : Pos} {tb : WX → TS} {ts : TS} {Wout : WX}
theorem ps_try_keep (hs : X.stack = X.env :: X.outer) (hf : X.env.frame = some X.env.locals) (hex : X.ex = []) (hN : X.N.Nodup) (hi : X.N[i]? = some n) (hln : X.env.kindOf n = some .local) (hc : Names X x c) (tk : Takes X Wout)
    (hb : ∀ (W : WX) (pn : List (Addr × Obj)) (xe : Value → Shared → Prop), Takes (X.tr pn xe) W → PassesOwn (model X.prog X.w) X.A X.env xe → PSs (X.tr pn xe) body (tb W))
    (hsu : ∀ (a : Addr) (pn : List (Addr × Obj)), PSs (X.suite a pn) (b₀ :: suite) ts) :
    PS X (.Try body [.ExceptHandler (some (.Name x np)) (some n) (b₀ :: suite) pos'] [] [] pos) (fun D σ H => tb (wKeep X.K c i ts Wout D) D σ H) := by
  constructor
  intro pins s σ H D I h
  have ok := I.ok
  have hfr : X.A.frames = some (X.env :: X.outer) := ok.frames.trans (congrArg some hs)
  refine wpAny_Try_except (wpAny_mono ((hb (wKeep X.K c i ts Wout D) (X.pn ++ pins) (fun e s₁ => wpAny (model X.prog X.w) X.A (noteFrame e X.env) (fun _ s₂ => wpAny (model X.prog X.w) X.A (setFlight e none) (fun _ s₃ =>
    wpAny (model X.prog X.w) X.A (handleBy e X.env [.ExceptHandler (some (.Name x np)) (some n) (b₀ :: suite) pos']) (SP X pins D) X.xe s₃) X.xe s₂) X.xe s₁) (fun u s' xx => ?_) PassesOwn.looking).run [] s σ H D (I.toTry _) h) (fun f s1 hsp => ?_) fun e s1 he => he)
  · obtain ⟨a, B, sI, pins', σ', H', cls, d, rfl, J', nb, up, sky, na, os, ag, b, hb1, hyes, hno⟩ := xx
    have J : Inv X pins σ' H' sI := J'.ofTry ok
    have sky' : Sky B (X.env :: X.outer) a (Zc cls d) X.env.locals s'.heap := hs ▸ sky
    refine Sky.land Zc.steady hfr hf sky' fun h3 fl3 up3 => ?_
    have J3 : Inv X pins σ' H' { s' with heap := h3 } := J.landed nb fl3.1 (up.trans up3) os ag
    obtain ⟨oe3, vs3, he3, hz3, hd3⟩ := fl3.there
    have nfr : a ∉ frs (X.env :: X.outer) := fun hm => by
      obtain ⟨_, o', e', hnf⟩ := fl3.2.2.1.mem hm
      rw [he3] at e'
      cases e'
      exact hnf _ hd3
    have nL : a ≠ X.env.locals := fun z => nfr (by
      refine List.mem_filterMap.mpr ⟨X.env, List.mem_cons_self, ?_⟩
      rw [hf, z])
    have hBa : B.get? a = none := fl3.2.1
    have hIa : sI.heap.get? a = none := by
      cases e : sI.heap.get? a with
      | none => rfl
      | some o =>
        have := nb a o e (by rw [hs]; exact nfr)
        rw [hBa] at this
        cases this
    refine wpAny_handleBy_cons (codeAny_handlers_test ?_) (by intro q; cases q)
    have LT : PySem.W.Looks (model X.prog X.w) h3 (typeOf (.ref a)) cls := by
      intro A Q E s k q
      refine wpAny_typeOf_ref (k _ _ he3) ?_
      rw [hz3.1]
      exact q
    have LM := PySem.W.exm_one (M := model X.prog X.w) (J3.kIn) LT hb1
    have S0 : ∀ {h4 : Heap}, Inv X pins σ' H' { s' with heap := h4 } → ∀ {o : Obj} {v : Array Value}, h4.get? a = some o → Zc cls d o → o.data = .fields v → Inv (X.suite a (X.pn ++ pins)) [] σ' (upd H' a (Xo cls d a)) { s' with heap := h4 } := by
      intro h4 J4 o v e z dt
      have T := track J hex hIa J4 e z dt na nL
      exact ⟨T.ok.suite _ _, T.os, T.bare, T.base, T.loc, T.cell, T.free, T.freeC, fun p hp => T.pin p (by rwa [List.append_nil] at hp), T.hok, T.len⟩
    have S3 := S0 J3 he3 hz3 hd3
    have test : ∀ {Q : Value → Shared → Prop} {E : Value → Shared → Prop}, Q c { s' with heap := h3 } → wpAny (model X.prog X.w) (X.A.mark (some (.ref a))) (eval (.Name x np) X.env) Q E { s' with heap := h3 } := by
      intro Q E q
      rcases hc with ⟨hg, hdbg, hm | ⟨hm, hv, hnn⟩⟩
      · exact ld_glob (X := X.suite a (X.pn ++ pins)) S3 hg hm q hdbg
      · exact ld_blt (X := X.suite a (X.pn ++ pins)) S3 hg hm hv q hnn hdbg
    refine test (LM.here ?_)
    cases b with
    | true =>
      refine codeAny_handlers_suite_as (HandSPX.lands_againZ fl3 fun h4 fl4 up4 => ?_)
      have J4 : Inv X pins σ' H' { s' with heap := h4 } := J.landed nb fl4.1 ((up.trans up3).trans up4) os ag
      obtain ⟨oe4, vs4, he4, hz4, hd4⟩ := fl4.there
      have S4 := S0 J4 he4 hz4 hd4
      refine store_ok (X := X.suite a (X.pn ++ pins)) (v := .ref a) S4 hN hi (.inl hln) rfl (fun s5 S5 => ?_) (.inr hln)
      refine wpAny_mono ((hsu a (X.pn ++ pins)).run [] s5 _ _ _ S5 (hyes rfl a na)) (fun f s6 hsp => ?_) (fun _ _ z => z.elim)
      have out : ∀ {σ6 : L2.St} {H6 : Hp}, Inv (X.suite a (X.pn ++ pins)) [] σ6 H6 s6 → Inv X pins σ6 H6 s6 := fun S6 =>
        ⟨ok, S6.os, S6.bare, S6.base, S6.loc, S6.cell, S6.free, S6.freeC, fun p hp => S6.pin p (List.mem_append_left _ hp), S6.hok, S6.len⟩
      match f, hsp with
      | .next, ⟨σ6, H6, S6, q6⟩ => exact gone_ok (out S6) hN hi hln fun s7 J7 => ⟨_, _, J7, q6⟩
      | .brk, ⟨σ6, H6, S6, q6⟩ => exact gone_ok (out S6) hN hi hln fun s7 J7 => ⟨_, _, J7, q6⟩
      | .cont, ⟨σ6, H6, S6, q6⟩ => exact gone_ok (out S6) hN hi hln fun s7 J7 => ⟨_, _, J7, q6⟩
      | .ret u, ⟨v6, σ6, H6, S6, r6, q6⟩ => exact gone_ok (out S6) hN hi hln fun s7 J7 => ⟨_, _, _, J7, r6, q6⟩
    | false =>
      refine wpAny_handleBy_nil ?_
      obtain ⟨_, _, _, oe, vs, T, _, _, he, _, hd, h1, _⟩ := id fl3
      unfold PySem.passOn
      refine wpAny_bind (wpAny_field he hd h1 ?_)
      have nn : ¬ ((Value.ref T == Value.none) = true) := by simp
      rw [if_neg nn]
      have fin : wpAny (model X.prog X.w) X.A (setFlight (.ref a) X.env.frame) (fun _ s4 => wpAny (model X.prog X.w) X.A (throw (.ref a) : Sem Flow) (SP X pins D) X.xe s4) X.xe { s' with heap := h3 } := by
        rw [hf]
        refine HandSPX.setFlight_upZ fl3 fun h4 hh4 up4 => wpAny_throw (tk _ _ ⟨a, B, sI, pins, σ', H', cls, d, rfl, J, nb, (up.trans up3).trans up4, ?_, na, os, ag, hno rfl⟩)
        exact Or.inr (Or.inr (hs ▸ hh4))
      first
        | exact wpAny_bind (wpAny_pure (wpAny_bind fin))
        | exact wpAny_bind fin
  · match f, hsp with
    | .next, ⟨σ', H', J', q⟩ => exact wpAny_execs_nil ⟨σ', H', J'.ofTry ok, q⟩
    | .brk, ⟨σ', H', J', q⟩ => exact ⟨σ', H', J'.ofTry ok, q⟩
    | .cont, ⟨σ', H', J', q⟩ => exact ⟨σ', H', J'.ofTry ok, q⟩
    | .ret u, ⟨v, σ', H', J', r, q⟩ => exact ⟨v, σ', H', J'.ofTry ok, r, q⟩
end
end So

namespace So
open PySem PySem.Spec PyProof.Rows L2
/-- what an error class of the program's own says of its instances -/
structure Err (K : PySem.W.Frag) (C : Addr) : Prop where
  ga : PySem.W.findIn K (.ref C) "__getattribute__" = some (some (.builtin "BaseException.__getattribute__"))
  gg : PySem.W.findIn K (.ref C) "__getattr__" = some none
  exC : PySem.W.subIn K (.ref C) (.type "BaseException") = some true
  hdC : PySem.W.hasDictIn K C = true
  ca : PySem.W.findIn K (.ref C) "__class__" = some (some (.builtin "object.__class__"))
  cn : PySem.W.specialIn K (.builtin "object.__class__") "__get__" = some (some (.builtin "getset_descriptor.__get__"))
  ct : PySem.W.takesIn K (.builtin "object.__class__") = some true
  cm : PySem.W.mroIn K C (.type "object") = some true
section
variable {X : Cx}
/-- e.n, e an exception that is kept -/
theorem pe_xo {C : Addr} {e : Expr} {te : TE} {pos : Pos} {n : Str} (T : Err X.K C) (hno : PySem.W.findIn X.K (.ref C) n = some none) (he : PE X e te) (hb : attributeBase e n X.env (eval e X.env) = eval e X.env := by rfl) :
    PE X (.Attribute e n pos) (fun σ H Q => te σ H fun x H1 => ∃ (a dd : Addr) (fs : List (Str × V)) (v : V), x = .ref a ∧ H1 a = some (Xo (.ref C) (some dd) a) ∧ H1 dd = some (.xd fs) ∧ fs.lookup n = some v ∧ Q v H1) := by
  constructor
  intro pins s σ H Q I h
  refine attr_of hb (thn (he.run pins s σ H _ I h) fun u s1 hh => ?_)
  obtain ⟨x, H1, I1, rx, a, dd, fs, v, rfl, ha, ea, l, q⟩ := hh
  cases rx
  obtain ⟨oe, vs, hg, hz, hd⟩ := xo_at I1.hok ha
  obtain ⟨mA, hns, hr⟩ := (show ObjOk X.prog X.w H1 s1.heap dd (.xd fs) from I1.hok dd _ ea)
  obtain ⟨od, ho, hl⟩ := lookIn_ns hns
  have hrn := hr n
  rw [l] at hrn
  obtain ⟨u, hu, ru⟩ := RelO.some_of hrn
  have nc : PySem.W.notCls oe = true := by
    unfold PySem.W.notCls
    rw [hd]
  have J : PySem.W.InstAt s1.heap a oe C (some od) := by
    refine ⟨hg, hz.1, nc, ?_⟩
    rw [hz.2]
    exact ho
  have fo := PySem.W.findObj_own (K := X.K) (C := C) (od := od) (name := n) (v := u) T.hdC hno rfl (by rw [hl, hu])
  exact HandSPX.exc_get I1.kIn J T.ga T.gg T.exC fo (handed_of ru) ⟨v, H1, I1.tok _, ru, q⟩
end
/-! ### isinstance of a kept exception -/
section
open PySem.W PySem.Calls
variable {prog : Program} {w : World} {A : Around} {E : Value → Shared → Prop} {K : Frag} {x D : Addr} {ox : Obj} {od : Option Obj}
theorem err_class {Q : Option Value → Shared → Prop} (T : Err K D) (hp : Heap) (g : Array GenState) (dr : Drawn) (t : Nat) (os : OsState) (X : K.In hp) (I : InstAt hp x ox D od)
    (h : Q (some (.ref D)) ⟨hp, g, dr, t + 1, os⟩) : wpAny (model prog w) A (getAttr? (.ref x) "__class__") Q E ⟨hp, g, dr, t, os⟩ := by
  have isc : (clsIn K D).isSome = true := by
    obtain ⟨cd, hc, _⟩ := any_some T.hdC
    rw [hc]
    rfl
  have hf : findObj K D od "__class__" = some (.bind (.builtin "getset_descriptor.__get__") (.builtin "object.__class__")) := by
    cases od with
    | none => exact findObj_dataN isc T.ca T.cn T.ct
    | some o => exact findObj_data isc T.ca T.cn T.ct
  have k0 := I.type (M := model prog w)
  have k1 := looks_findIn (M := model prog w) X T.ga
  have k2 := looks_findIn (M := model prog w) X T.gg
  have k3 := looks_find (M := model prog w) X I hf
  have below : Looks (model prog w) hp (isInstance (.ref x) (.type "BaseException")) true := k0.andThen (looks_subIn X T.exC)
  have ne : (Value.builtin "BaseException.__getattribute__" == Value.builtin "object.__getattribute__") = false := by decide +kernel
  have both : (onTheHeap (Value.ref D) && Value.builtin "BaseException.__getattribute__" == Value.builtin "object.__getattribute__") = false := by
    rw [ne]
    exact Bool.and_false _
  have own : onTheHeap (Value.ref D) = true := rfl
  have noheap : (false && onTheHeap (Value.builtin "BaseException.__getattribute__")) = false := rfl
  unfold getAttr? getAttrBy? getAttrBy
  apply wpAny_bind
  apply wpAny_mkText
  apply wpAny_bind
  apply wpAny_attempt
  apply wpAny_holding
  apply wpAny_bind
  apply k0.at
  apply wpAny_bind
  apply k1.at
  show wpAny _ _ (ite ((onTheHeap (Value.ref D) && Value.builtin "BaseException.__getattribute__" == Value.builtin "object.__getattribute__") = true) _ _) _ _ _
  rw [both, if_neg (by decide)]
  unfold getAttrByItsOwn hookBefore
  apply wpAny_bind
  rw [if_pos own]
  apply k2.at
  apply wpAny_bind
  apply wpAny_attempt
  apply wpAny_holding
  unfold callGetattribute
  rw [noheap, if_neg (by decide)]
  unfold boundAndCalled
  rw [F.excAttr_ValueError.ga.bind (.ref x)]
  apply wpAny_bind
  apply wpAny_pure
  show wpAny _ _ (call (.builtin "BaseException.__getattribute__") [.ref x, .str "__class__" t]) _ _ _
  apply wpAny_call
  refine codeAny_call_builtin F.excAttr_ValueError.ga.plain F.entry_bexc_ga (@check_slot (model prog w) _ _ ⟨hp, g, dr, t + 1, os⟩ "BaseException.__getattribute__" "BaseException" "__getattribute__" (.ref x) [.str "__class__" t] [] _ (by decide +kernel) (by decide +kernel) below (F.args_bexc_ga (.ref x) (.str "__class__" t)) ?_)
  unfold Builtin.«object.__getattribute__»
  apply wpAny_bind
  refine wpAny_of_eq (a := ((Value.ref x : Value), [Value.str "__class__" t])) (by first | rfl | (simp only [slotArgs]; rfl)) ?_
  apply wpAny_bind
  apply wpAny_pure
  apply wpAny_bind
  apply k0.at
  apply wpAny_bind
  apply k3.at
  show wpAny _ _ (holding [Value.builtin "object.__class__"] (call (.builtin "getset_descriptor.__get__") [.builtin "object.__class__", .ref x, .ref D]) >>= ret) _ _ _
  apply wpAny_bind
  apply wpAny_holding
  apply wpAny_call
  refine class_get (s := ⟨hp, g, dr, t + 1, os⟩) (ox := ox) (od := od) X I T.cm (wpAny_pure ?_)
  show wpAny _ _ (handedOut (.ref D)) _ _ _
  rw [handedOut_of (v := .ref D) rfl]
  first
    | exact wpAny_pure (wpAny_pure h)
    | exact wpAny_pure h
    | exact wpAny_pure (wpAny_bind (wpAny_pure (wpAny_pure h)))
theorem kitx_err (T : Err K D) : KitX K (.ref x) (.ref D) (fun h => ∃ ox od, InstAt h x ox D od) where
  ty := fun _ _ _ ⟨_, _, I⟩ => I.type
  it := fun _ _ X _ => by
    obtain ⟨cd, hc, _⟩ := any_some T.hdC
    unfold clsIn at hc
    split at hc
    · rename_i ho
      intro A' Q' E' s' k q
      unfold isType loadHead
      exact wpAny_bind (wpAny_loadPart (k _ _ (X _ _ ho)) (wpAny_pure q))
    · cases hc
  ne := fun h tp dd its n sl X htp => by
    cases q : (Value.ref D == Value.ref tp) with
    | false => rfl
    | true =>
      have e : D = tp := Value.ref.inj (beq_iff_eq.mp q)
      subst e
      obtain ⟨cd, hc, _⟩ := any_some T.hdC
      unfold clsIn at hc
      split at hc
      · rename_i ho
        have z := (X _ _ ho).symm.trans htp
        cases z
      · cases hc
  ca := fun {prog w A E Q s} X I k => by
    obtain ⟨ox, od, I⟩ := I
    obtain ⟨hp, g, dr, t, os⟩ := s
    exact err_class T hp g dr t os X I k
end
section
variable {X : Cx}
/-- isinstance(e, c), e a kept exception, c one class -/
theorem call_isXo : CallR X (.builtin "isinstance") (fun xs H Q => ∃ (a D dd : Addr) (fs : List (Str × V)) (c : V) (u : Value) (b : Bool), xs = [.ref a, c] ∧ H a = some (Xo (.ref D) (some dd) a) ∧ H dd = some (.xd fs) ∧ Err X.K D ∧ ClsV c u ∧ PySem.W.kitOne X.K (.ref D) u = some b ∧ Q (.bl b) H) := by
  intro pins s σ H xs us Q I r h
  obtain ⟨a, D, dd, fs, c, u, b, rfl, ha, hd, T, cv, e, q⟩ := h
  obtain ⟨u1, u2, rfl, r1, r2⟩ := vals2 r
  cases r1
  have e2 := cv.eq r2
  subst e2
  obtain ⟨oe, vs, hg, hz, hdat⟩ := xo_at I.hok ha
  obtain ⟨mA, hns, _⟩ := (show ObjOk X.prog X.w H s.heap dd (.xd fs) from I.hok dd _ hd)
  obtain ⟨od, ho, _⟩ := lookIn_ns hns
  have nc : PySem.W.notCls oe = true := by
    unfold PySem.W.notCls
    rw [hdat]
  have J : PySem.W.InstAt s.heap a oe D (some od) := by
    refine ⟨hg, hz.1, nc, ?_⟩
    rw [hz.2]
    exact ho
  exact PySem.W.kia_one (kitx_err T) I.kIn ⟨oe, some od, J⟩ e (fun z => nomatch z) fun tk => ⟨.bl b, H, I.tok tk, rfl, q⟩
end
end So

namespace So
open PySem PySem.Spec PyProof.Rows L2
/-- C.m is a static method: its record at p, its def at g -/
structure Sta (K : PySem.W.Frag) (C : Addr) (mc : Value) (m : Str) (p g : Addr) : Prop where
  rd : PySem.W.readsIn K C mc = true
  ga : PySem.W.specialIn K (.ref C) "__getattribute__" = some (some (.builtin "type.__getattribute__"))
  at_ : PySem.W.findCls K (.ref C) mc m = some (.get (.builtin "staticmethod.__get__") (.ref p) .none (.ref C))
  rc : ∃ rest, PySem.W.recIn K p "staticmethod" = some (.ref g :: rest)
  kp : PySem.W.keepIn K (.ref g) = true
section
variable {X : Cx} {CX : CXT} {k : Nat} {C f p0 : Addr} {mc : Value} {fd : FuncData} {ps ks : List Str} {sp : Sp} {E : XK} {m : Str} {pos apos : Pos} {e o : Expr} {es : List Expr} {kws : List Keyword} {ta : TE} {t tk : TA}
theorem getsta_ok {pins : List (Addr × Obj)} {σ : L2.St} {H : Hp} {s : Shared} {pl : Sem Bool} {A : Around} {E' : Value → Shared → Prop} {Q : Value × List Value → Shared → Prop} (I : Inv X pins σ H s) (S : Sta X.K C mc m p0 f) (h : ∀ s', Inv X pins σ H s' → Q (.ref f, []) s') :
    wpAny (model X.prog X.w) A (getMethod (.ref C) m pl) Q E' s := by
  obtain ⟨rest, hp⟩ := S.rc
  refine PySem.W.method_cls I.kIn S.ga (PySem.W.cls_bind I.kIn S.rd S.at_ (wpAny_call (PySem.W.sm_get (s := { s with toks := s.toks + 1 }) I.kIn hp (PySem.W.handed_on rfl ?_))))
  exact h _ (I.tok _)
/-- C.m(e, ..), m static -/
theorem pe_sta {pl : Sem Bool} (he : PE X o ta) (S : Sta X.K C mc m p0 f) (F : FnOk X.prog X.w X.K X.mg X.base CX k f fd ps sp) (hr : Room k X.A) (hb : Binds X.K fd ps []) (hx : Passes CX X E) (ha : PA X (e :: es) t)
    (hst : starEach (e :: es) X.env = (false, eval e X.env) :: starEach es X.env := by rfl) (hpl : (backTo pos (starEach es X.env)).any (·.1) = false := by rfl)
    (ht : eval (.Call (.Attribute o m apos) (e :: es) [] pos) X.env = (do
      let ov ← eval o X.env
      standAt apos.atName
      let fx ← holding [ov] (getMethod ov m pl)
      callWith pos fx.1 fx.2 (backTo pos (starEach (e :: es) X.env)) (backToKw pos (keywordEach [] X.env))) := by rfl) :
    PE X (.Call (.Attribute o m apos) (e :: es) [] pos) (fun σ H Q => ta σ H fun x H1 => x = .ref C ∧ t σ H1 fun vs H2 => sp vs H2 Q E) := by
  constructor
  intro pins s σ H Q I h
  refine PySem.W.methodCall_KW (pl := pl) (thn (he.run pins s σ H _ I h) fun u s1 z => ?_) ht
  obtain ⟨x, H1, I1, rx, rfl, q⟩ := z
  cases rx
  refine getsta_ok I1 S fun s2 I2 => PySem.W.callWith_K (first := []) (h₀ := X.base) I2.ok.mod.kin S.kp (thn (ha.run pos pins s2 σ H1 _ I2 q) fun us s3 z => ?_) hst hpl
  obtain ⟨vs, H2, I3, r, q2⟩ := z
  refine ⟨I3.kIn, ?_⟩
  have q3 : sp (vs ++ []) H2 Q E := by
    rw [List.append_nil]
    exact q2
  exact run_fn F hr hb .nil hx I3 r q3
/-- C.m(k = v, ..), m static, keywords alone -/
theorem pe_staK {g : List Value → List Value → List Value} {gV : List V → List V → List V} {pl : Sem Bool} (he : PE X o ta) (S : Sta X.K C mc m p0 f) (F : FnOk X.prog X.w X.K X.mg X.base CX k f fd ps sp) (hr : Room k X.A) (hb : KBinds X.K fd ps ks g gV) (hx : Passes CX X E)
    (hkw : PK X kws tk) (hall : (backToKw pos (keywordEach kws X.env)).all (·.1.isSome) = true := by rfl) (hks : (backToKw pos (keywordEach kws X.env)).filterMap (·.1) = ks := by rfl)
    (hpl : ((backTo pos (starEach [] X.env)).any (·.1) || (backToKw pos (keywordEach kws X.env)).any (·.1.isNone)) = false := by rfl)
    (ht : eval (.Call (.Attribute o m apos) [] kws pos) X.env = (do
      let ov ← eval o X.env
      standAt apos.atName
      let fx ← holding [ov] (getMethod ov m pl)
      callWith pos fx.1 fx.2 (backTo pos (starEach [] X.env)) (backToKw pos (keywordEach kws X.env))) := by rfl) :
    PE X (.Call (.Attribute o m apos) [] kws pos) (fun σ H Q => ta σ H fun x H1 => x = .ref C ∧ tk σ H1 fun zs H2 => sp (gV [] zs) H2 Q E) := by
  constructor
  intro pins s σ H Q I h
  refine PySem.W.methodCall_KW (pl := pl) (thn (he.run pins s σ H _ I h) fun u s1 z => ?_) ht
  obtain ⟨x, H1, I1, rx, rfl, q⟩ := z
  cases rx
  refine getsta_ok I1 S fun s2 I2 => PySem.W.callWith_KW0 (first := []) (h₀ := X.base) I2.ok.mod.kin S.kp hall (thn (hkw.run pos pins s2 σ H1 _ I2 q) fun ws s3 z => ?_) hpl
  obtain ⟨zs, H2, I3, rz, q2⟩ := z
  refine ⟨I3.kIn, ?_⟩
  rw [hks]
  exact run_fnk (us := []) (vs := []) F hr hb hx I3 .nil rz q2
/-- ~o by an own __invert__ -/
theorem un_invOwn (F : FnOk X.prog X.w X.K X.mg X.base CX k f fd ps sp) (hs : PySem.W.findIn X.K (.ref C) "__invert__" = some (some (.ref f))) (hf : PySem.W.isFn X.K (.ref f) = true) (hb : Binds X.K fd ps []) (hx : Passes CX X E) (hr : Room k X.A) :
    UnR X (unaryOp .Invert) (fun x H Q => ∃ a dx fs, x = .ref a ∧ H a = some (.ins C dx fs) ∧ sp [.ref a] H Q E) := by
  intro pins s σ H x v Q I rx h
  obtain ⟨a, dx, fs, rfl, ha, q⟩ := h
  cases rx
  obtain ⟨mA, J, _⟩ := ins_get I.hok ha
  obtain ⟨od, J, _⟩ := J.look
  obtain ⟨m, hF⟩ := I.fr
  refine PySem.W.ksp_inv hF I.ok.mod.kin J hs hf ?_
  exact run_fn (us := [.ref a]) (vs := [.ref a]) F hr hb .nil hx I (.cons rfl .nil) q
end
end So

namespace So
open PySem PySem.Spec PyProof.Rows L2
/-! ### own errors with one field -/
/-- the __init__ of such an error: the field is what was passed -/
def spOneE (C : Addr) (n : Str) : Sp := fun vs H Q _ => ∃ (a : Addr) (v : V), vs = [.ref a, v] ∧ H a = some (exo a C none) ∧ ∀ dx, H dx = none → dx ≠ a → Q .non (upd (upd H dx (exd dx [(n, v)])) a (exo a C (some dx)))
/-- what the top says of such an error: its class at C, named x, its field n, its __init__ at f -/
structure OneE (K : PySem.W.Frag) (mg : Str → Option Value) (x n : Str) (C f : Addr) (fd : FuncData) : Prop where
  T : OexC K C
  iC : PySem.W.findIn K (.ref C) "__init__" = some (some (.ref f))
  tI : PySem.W.typeIn K (.ref f) = some (.type "function")
  mgC : mg x = some (.ref C)
  no : PySem.W.findIn K (.ref C) n = some none
  err : Err K C
  hb : Binds K fd ["self", n] []
/-- behind C(v) -/
theorem mkOne {C : Addr} {n : Str} {vs : List V} {v : V} {H1 : Hp} {Q : XK} (e : vs = [v]) (h : ∀ d H', Same H1 H' → H1 d = none → H' d = some (.xd [(n, v)]) → Q (.ref C) (some d) H') :
    vs.length ≤ 1000 ∧ ∀ a, H1 a = none → spOneE C n (.ref a :: (vs ++ [])) (upd H1 a (exo a C none))
      (fun v H2 => v = .non ∧ ∃ (d : Addr) (fs : List (Str × V)), H2 a = some (exo a C (some d)) ∧ H2 d = some (exd d fs) ∧ H1 d = none ∧ Q (.ref C) (some d) (upd (del H2 a) d (.xd fs))) (fun _ _ _ => False) := by
  subst e
  refine ⟨by show 1 ≤ 1000; decide, fun a ha => ⟨a, v, rfl, upd_same, fun dx hdx ne => ⟨rfl, dx, [(n, v)], upd_same, ?_, ?_, h dx _ (fun b o hb => ?_) ?_ upd_same⟩⟩⟩
  · rw [upd_ne ne, upd_same]
  · rw [upd_ne ne] at hdx
    exact hdx
  · rw [upd_ne ne] at hdx
    have hba : b ≠ a := ne_of_none hb ha
    have hbd : b ≠ dx := ne_of_none hb hdx
    rw [upd_ne hbd, del_ne hba, upd_ne hba, upd_ne hbd, upd_ne hba]
    exact hb
  · rw [upd_ne ne] at hdx
    exact hdx
section
variable {X : Cx} {x n : Str} {C f : Addr} {fd : FuncData} {ta : TA} {e : Expr} {p pos pos2 : Pos}
theorem pmk_one (O : OneE X.K X.mg x n C f fd) (F : FnOk X.prog X.w X.K X.mg X.base CX0 1 f fd ["self", n] (spOneE C n)) (hr : Room 2 X.A) (hg : Gl X x) (ha : PA X [e] ta)
    (hdb : (x == ("__debug__" : Str)) = false := by decide) (he : starEach [e] X.env = (false, eval e X.env) :: starEach [] X.env := by rfl) (hpl : (backTo pos (starEach [] X.env)).any (·.1) = false := by rfl) :
    PMk X (.Call (.Name x p) [e] [] pos) (tMkO C (spOneE C n) [] ta) :=
  pmk_oex O.T O.iC O.tI F hr O.hb .nil (fun _ _ _ _ _ _ _ h => h.elim) hg O.mgC ha hdb he hpl
/-- raise C(e) -/
theorem ps_raiseOne {W : WX} (O : OneE X.K X.mg x n C f fd) (F : FnOk X.prog X.w X.K X.mg X.base CX0 1 f fd ["self", n] (spOneE C n)) (hc : X.calm = true) (hr : Room 2 X.A) (tk : Takes X W) (hg : Gl X x) (ha : PA X [e] ta)
    (hdb : (x == ("__debug__" : Str)) = false := by decide) (he : starEach [e] X.env = (false, eval e X.env) :: starEach [] X.env := by rfl) (hpl : (backTo pos (starEach [] X.env)).any (·.1) = false := by rfl) :
    PS X (.Raise (some (.Call (.Name x p) [e] [] pos)) none pos2) (fun _ σ H => tMkO C (spOneE C n) [] ta σ H fun cls d H' => W cls d σ H') := ps_raise hc tk (pmk_one O F hr hg ha hdb he hpl)
end

/-! ### repr of data, of a tuple of a text and an empty dict -/
section
variable {X : Cx}
theorem call_reprT (hg : X.A.guards = some []) (hu : X.A.units + 64 < cLine) : CallR X (.builtin "repr") (fun xs H Q => ∃ (r a : Addr) (w : Str), xs = [.ref r] ∧ SqT X.K H r [.str w, .ref a] ∧ H a = some (.dK []) ∧ (PyData.tuple [.str w, .dict []]).shown.length ≤ sizeLine ∧ Q (.str (PyData.tuple [.str w, .dict []]).shown) H) := by
  intro pins s σ H xs us Q I r h
  obtain ⟨rr, a, w, rfl, ht, ha, hz, q⟩ := h
  obtain ⟨u, rfl, rv⟩ := vals1 r
  cases rv
  obtain ⟨its, rw', ⟨o, ho, hc, n, hd⟩, _⟩ := I.tuple ht
  obtain ⟨hz2, hsm, vs, hk, hD⟩ : ([] : List (Key × V)).length ≤ sizeLine ∧ (a == sysModules) = false ∧ ∃ vs, KV [] vs ∧ s.heap.DictOf (mixKind X.prog X.w) a vs := I.hok a _ ha
  obtain ⟨u1, u2, rfl, r1, r2⟩ := vals2 rw'
  obtain ⟨t1, rfl⟩ := r1
  cases r2
  obtain ⟨o2, es, ep, e1, e2, e3, _, e5, _⟩ := hD
  cases hk
  have es0 : es.toList = [] := by
    cases h : es.toList with
    | nil => rfl
    | cons y ys =>
      rw [h] at e5
      cases e5
  have rdD : Reads s.heap (.ref a) (.dict []) (a :: [] ++ []) := Reads.dict (kvs := []) e1 e2.1 e3 (by rw [es0]; exact ReadsAll.nil) (by rw [es0]; exact ReadsAll.nil)
  have rd : Reads s.heap (.ref rr) (.tuple [.str w, .dict []]) ([] ++ ((a :: [] ++ []) ++ [])) := Reads.tuple ho hc hd (ReadsAll.cons (Reads.str w t1) (ReadsAll.cons rdD ReadsAll.nil))
  refine repr_of_reads' rd rfl (fun _ z => ?_) hg (by show X.A.units + (2 + 1) < cLine; omega) (fun _ _ e => e) (fun h' t tk k => ?_) hz
  · have : sysModules = a := by simpa using z
    rw [this] at hsm
    simp at hsm
  · exact ⟨.str _, H, I.kept k, ⟨t, rfl⟩, q⟩
theorem CallR.or {b : Value} {r r' : List V → Hp → VK → Prop} (h : CallR X b r) (h' : CallR X b r') : CallR X b (fun xs H Q => r xs H Q ∨ r' xs H Q) := by
  intro pins s σ H xs us Q I rv q
  exact q.elim (h pins s σ H xs us Q I rv) (h' pins s σ H xs us Q I rv)
end
end So

namespace So
open PySem PySem.Spec PyProof.Rows L2 PySem.HandSPX
section
variable {M : Model} {A : Around} {E : Value → Shared → Prop} {h : Heap} {g : Array GenState} {d : Drawn} {t : Nat} {os : OsState}
variable {nm q : Str} {C N : Addr} {bs bm bmB : List Value} {hdct : Bool} {sn : List Str} {sub : List Value} {ab : Bool} {col : Option Bool} {dd : Option Addr} {k0 k1 k2 k3 k5 : Option Value} {B newId initId : String}
theorem kw_check (F : ExcBaseFacts B newId initId bmB) (hT : ∀ X : String, bm.contains (.type X) = bmB.contains (.type X)) {kws : List (Str × Value)} {Q : Unit → Shared → Prop}
    (hC : h.get? C = some (excClassObj nm q C N bs bm hdct sn sub ab col dd k0 k1 k2 k3 k5 newId)) (hq : Q () ⟨h, g, d, t, os⟩) :
    wpAny M A (checkBuiltinCall newId ⟨[.ref C], kws⟩) Q E ⟨h, g, d, t, os⟩ := by
  have inB : (Value.ref C :: bm).contains (.type B) = true := by
    rw [List.contains_cons, hT, F.hasB, Bool.or_true]
  have stars := F.noStar
  simp only [checkBuiltinCall, F.newKind, F.newSplit, F.newRow]
  repeat (first
    | refine wpAny_loadPart_at hC ?_
    | (refine wpAny_isSubtype_exc hC ?_
       rw [inB])
    | refine wpAny_staticBase_exc hC ?_
    | refine wpAny_madeBy_exc hC ?_
    | simp only [bne_self_eq_false, Bool.false_eq_true, if_false]
    | wp_step)
  exact hq
end
section
variable {prog : Program} {w : World} {A : Around} {E : Value → Shared → Prop} {R : Result → Shared → Prop} {h : Heap} {g : Array GenState} {d : Drawn} {t : Nat} {os : OsState}
variable {nm q : Str} {C N : Addr} {bs bm bmB : List Value} {hdct : Bool} {sn : List Str} {sub : List Value} {ab : Bool} {col : Option Bool} {dd : Option Addr} {k0 k1 k2 k3 k5 : Option Value} {B newId initId : String}
theorem kw_new (F : ExcBaseFacts B newId initId bmB) (hT : ∀ X : String, bm.contains (.type X) = bmB.contains (.type X)) {kws : List (Str × Value)}
    (hC : h.get? C = some (excClassObj nm q C N bs bm hdct sn sub ab col dd k0 k1 k2 k3 k5 newId))
    (hq : R (.ok (.ret (.ref (h.objs.size + 1)))) ⟨(h.push (PySem.W.kdv_tup [])).push (excO C h.objs.size), g, d, t, os⟩) :
    codeAny (model prog w) A (.builtin newId ⟨[.ref C], kws⟩) R ⟨h, g, d, t, os⟩ := by
  have ends := F.ends
  have inB : (Value.ref C :: bm).contains (.type B) = true := by
    rw [List.contains_cons, hT, F.hasB, Bool.or_true]
  have noA : (Value.ref C :: bm).contains (.type "AttributeError") = false := by
    rw [List.contains_cons, hT, F.noAttr]
    rfl
  have noN : (Value.ref C :: bm).contains (.type "NameError") = false := by
    rw [List.contains_cons, hT, F.noName]
    rfl
  refine codeAny_builtinAt F.entry ?_
  unfold Builtin.«BaseException.__new__»
  refine PySem.wpAt_bind ?_
  show PySem.wpAt _ _ _ (stack >>= _) _ _ _
  refine PySem.wpAt_bind (PySem.wpAt_stack fun p below => ?_)
  refine PySem.wpAt_of_wpAny ?_
  wp_walk
  refine PySem.wpAt_of_wpAny ?_
  rw [F.owner]
  repeat (first
    | with_reducible refine wpAny_madeHere_exc F.canon hC ?_
    | with_reducible refine wpAny_loadPart_at hC ?_
    | (with_reducible refine wpAny_isSubtype_exc hC ?_
       first
         | rw [inB]
         | rw [noA]
         | rw [noN])
    | wp_step)
  show R _ _
  rw [Heap.size_push]
  exact hq
theorem kw_type (F : ExcBaseFacts B newId initId bmB) (hT : ∀ X : String, bm.contains (.type X) = bmB.contains (.type X)) {kws : List (Str × Value)} {fI : Addr} {Q : Fin → Shared → Prop}
    (hC : h.get? C = some (excClassObj nm q C N bs bm hdct sn sub ab col dd k0 k1 k2 k3 k5 newId))
    (hi : PySem.W.Looks (model prog w) h (typeLookup (.ref C) "__init__") (some (.ref fI))) (hb : ∀ self, PySem.W.Looks (model prog w) h (bindSpecial (.ref fI) self) (.ref fI, [self]))
    (hq : codeAny (model prog w) A (.call (.ref fI) ⟨[.ref (h.objs.size + 1)], kws⟩)
      (fun r s' => match r with | .ok (.ret v) => v = .none ∧ Q (.done (.ret (.ref (h.objs.size + 1)))) s' | .ok _ => False | .error e => E e s')
      ⟨(h.push (PySem.W.kdv_tup [])).push (excO C h.objs.size), g, d, t, os⟩) :
    wpAny (model prog w) A (Builtin.«type.__call__» ⟨[.ref C], kws⟩) Q E ⟨h, g, d, t, os⟩ := by
  repeat (first
    | with_reducible refine wpAny_loadPart_at hC ?_
    | with_reducible refine wpAny_madeBy_exc hC ?_
    | wp_step)
  refine codeAny_call_builtin_code (Code.quiet_builtin _ F.quiet) ?_
  refine kw_check F hT hC ?_
  refine kw_new F hT hC ?_
  show wpAny _ _ _ _ _ _
  have keep : ∀ b o, h.get? b = some o → ((h.push (PySem.W.kdv_tup [])).push (excO C h.objs.size)).get? b = some o := by
    intro b o e
    exact Heap.get?_push_of_some _ (Heap.get?_push_of_some _ e)
  have hC' := keep _ _ hC
  have here : ((h.push (PySem.W.kdv_tup [])).push (excO C h.objs.size)).get? (h.objs.size + 1) = some (excO C h.objs.size) := by
    heap_get
  have self : (Value.ref C :: bm).contains (.ref C) = true := by simp
  have look := hi.keeps keep
  have bind := (hb (.ref (h.objs.size + 1))).keeps keep
  unfold isInstance
  repeat (first
    | with_reducible refine wpAny_loadPart_at here ?_
    | (with_reducible refine wpAny_isSubtype_exc hC' ?_
       rw [self])
    | wp_step)
  show wpAny _ _ (typeLookup (.ref C) _) _ _ _
  refine look.at ?_
  refine wpAny_holding (wpAny_bind (bind.at ?_))
  refine wpAny_bind (wpAny_call (codeAny_mono hq fun r s' z => ?_))
  match r, z with
  | .error e, z => exact z
  | .ok .next, z => exact z.elim
  | .ok .brk, z => exact z.elim
  | .ok .cont, z => exact z.elim
  | .ok (.ret v), z =>
    obtain ⟨e, z⟩ := z
    subst e
    first
      | exact wpAny_pure (wpAny_pure z)
      | (wp_walk
         exact z)
theorem kw_checkT {kws : List (Str × Value)} {Q : Unit → Shared → Prop} (hC : h.get? C = some (excClassObj nm q C N bs bm hdct sn sub ab col dd k0 k1 k2 k3 k5 newId)) (hq : Q () ⟨h, g, d, t, os⟩) :
    wpAny (model prog w) A (checkBuiltinCall "type.__call__" ⟨[.ref C], kws⟩) Q (fun e s' => E e s') ⟨h, g, d, t, os⟩ := by
  have f3 := tc_sub
  have ty : (⟨h, g, d, t, os⟩ : Shared).TypeIs (.ref C) "type" := ⟨_, hC, rfl⟩
  simp only [checkBuiltinCall, tc_kind, tc_split]
  repeat (any_goals (first
    | assumption
    | with_reducible refine wpAny_loadPart_at hC ?_
    | with_reducible refine wpAny_onRaise ?_
    | with_reducible refine wpAny_map ?_
    | wp_step))
theorem kw_call (F : ExcBaseFacts B newId initId bmB) (hT : ∀ X : String, bm.contains (.type X) = bmB.contains (.type X)) {kws : List (Str × Value)} {fI : Addr}
    (hC : h.get? C = some (excClassObj nm q C N bs bm hdct sn sub ab col dd k0 k1 k2 k3 k5 newId))
    (hi : PySem.W.Looks (model prog w) h (typeLookup (.ref C) "__init__") (some (.ref fI))) (hb : ∀ self, PySem.W.Looks (model prog w) h (bindSpecial (.ref fI) self) (.ref fI, [self]))
    (hq : codeAny (model prog w) (A.under (.builtin "type.__call__" ⟨[.ref C], kws⟩)) (.call (.ref fI) ⟨[.ref (h.objs.size + 1)], kws⟩) (PySem.W.InitBack (h.objs.size + 1) R)
      ⟨(h.push (PySem.W.kdv_tup [])).push (excO C h.objs.size), g, d, t, os⟩) :
    codeAny (model prog w) A (.call (.ref C) ⟨[], kws⟩) R ⟨h, g, d, t, os⟩ := by
  have lk := tc_lookup
  have bd := tc_bind (.ref C)
  have ty : (⟨h, g, d, t, os⟩ : Shared).TypeIs (.ref C) "type" := ⟨_, hC, rfl⟩
  refine codeAny_of_tree ?_
  show wpAny _ _ (callAny (.ref C) _) _ _ _
  repeat (any_goals (first
    | assumption
    | with_reducible refine wpAny_loadPart_at hC ?_
    | wp_step))
  refine ⟨rfl, ?_⟩
  refine codeAny_call_builtin_at (Code.quiet_builtin _ (by decide +kernel)) entry_typeCall ?_
  refine kw_checkT hC ?_
  refine kw_type F hT hC hi hb ?_
  refine codeAny_mono hq fun r s' z => ?_
  match r, z with
  | .error e, z => exact z
  | .ok (.ret v), z => exact z
  | .ok .next, z => exact z
  | .ok .brk, z => exact z
  | .ok .cont, z => exact z
end
end So

namespace So
open PySem PySem.Spec PyProof.Rows L2
/-- C(k = v, ..), C's own __init__ keeping sp -/
def tMkK (C : Addr) (n : Nat) (sp : Sp) (gV : List V → List V → List V) (tk : TA) : L2.St → Hp → XK → Prop := fun σ H Q => tk σ H fun zs H1 => zs.length = n ∧ ∀ a, H1 a = none → sp (gV [.ref a] zs) (upd H1 a (exo a C none))
  (fun v H2 => v = .non ∧ ∃ (d : Addr) (fs : List (Str × V)), H2 a = some (exo a C (some d)) ∧ H2 d = some (exd d fs) ∧ H1 d = none ∧ Q (.ref C) (some d) (upd (del H2 a) d (.xd fs))) (fun _ _ _ => False)
section
variable {X : Cx} {CX : CXT} {x : Str} {C fI : Addr} {k : Nat} {fd : FuncData} {ps ks : List Str} {sp : Sp} {g : List Value → List Value → List Value} {gV : List V → List V → List V} {kws : List Keyword} {tk : TA} {p pos : Pos}
theorem pmk_oexK (T : OexC X.K C) (iC : PySem.W.findIn X.K (.ref C) "__init__" = some (some (.ref fI))) (tI : PySem.W.typeIn X.K (.ref fI) = some (.type "function")) (F1 : FnOk X.prog X.w X.K X.mg X.base CX k fI fd ps sp) (hr : Room (k + 1) X.A) (hb : KBn X.K fd ps 1 ks g gV)
    (hx : Passes CX X (fun _ _ _ => False)) (hg : Gl X x) (hm : X.mg x = some (.ref C)) (hkw : PK X kws tk)
    (hall : (backToKw pos (keywordEach kws X.env)).all (·.1.isSome) = true := by rfl) (hks : (backToKw pos (keywordEach kws X.env)).filterMap (·.1) = ks := by rfl) (hdb : (x == ("__debug__" : Str)) = false := by decide)
    (hpl : ((backTo pos (starEach [] X.env)).any (·.1) || (backToKw pos (keywordEach kws X.env)).any (·.1.isNone)) = false := by rfl) :
    PMk X (.Call (.Name x p) [] kws pos) (tMkK C ks.length sp gV tk) := by
  intro pins s σ H Q I h
  obtain ⟨nm, q, N, bs, bm, sn, sub, ab, col, dd, k0, k1, k2, k3, k5, hC, hbm⟩ := T.cls
  refine wpAny_Call_Name_kw (ld_glob I hg hm ?_ hdb)
  refine PySem.W.callWith_KW0 (h₀ := X.base) I.ok.mod.kin T.kC hall ?_ hpl
  refine thn (hkw.run pos pins s σ H _ I h) fun ws s1 z => ?_
  obtain ⟨zs, H1, I1, rz, hz, q1⟩ := z
  refine ⟨I1.kIn, ?_⟩
  rw [hks]
  show wpAny _ _ (call (.ref C) [] (ks.zip ws)) _ _ _
  obtain ⟨hp, g', dr, tk', os⟩ := s1
  have big : hp.objs.size ≤ hp.objs.size + 1 := Nat.le_succ _
  have fresh : H1 (hp.objs.size + 1) = none := I1.hok.fresh big
  have hq := q1 _ fresh
  have keep : ∀ b o, hp.get? b = some o → ((hp.push (PySem.W.kdv_tup [])).push (PySem.HandSPX.excO C hp.objs.size)).get? b = some o := by
    intro b o e
    exact Heap.get?_push_of_some _ (Heap.get?_push_of_some _ e)
  have here : ((hp.push (PySem.W.kdv_tup [])).push (PySem.HandSPX.excO C hp.objs.size)).get? (hp.objs.size + 1) = some (PySem.HandSPX.excO C hp.objs.size) := by
    heap_get
  have I2 : Inv X pins σ (upd H1 (hp.objs.size + 1) (exo (hp.objs.size + 1) C none)) ⟨(hp.push (PySem.W.kdv_tup [])).push (PySem.HandSPX.excO C hp.objs.size), g', dr, tk', os⟩ :=
    I1.laid (t' := tk') (o := exo (hp.objs.size + 1) C none) keep big (exo_ok here)
  have r1 : Vals [V.ref (hp.objs.size + 1)] [Value.ref (hp.objs.size + 1)] := .cons rfl .nil
  refine wpAny_call (kw_call F.excBase_ValueError (fun Y => PySem.HandSPX.refsVE_contains Y bm hbm) (I1.kIn _ _ hC) (PySem.W.looks_findIn I1.kIn iC) (fun self => PySem.W.bind_fn I1.kIn self tI)
    (codeAny_mono (F1.run _ X.stack _ _ ⟨[.ref (hp.objs.size + 1)], ks.zip ws⟩ (g [.ref (hp.objs.size + 1)] ws) _ _ (fun _ _ _ => False) (hr.make C [] (ks.zip ws)) (I2.env0.make C [] (ks.zip ws))
      (hb.to _ [.ref (hp.objs.size + 1)] ws I2.kIn rfl (rz.length.symm.trans hz)) (hb.rel r1 rz) hq) fun r s' hq' => ?_))
  match r, hq' with
  | .error er, hq' => exact hx pins σ _ _ er s' I2 hq'
  | .ok .next, hq' => exact hq'.elim
  | .ok .brk, hq' => exact hq'.elim
  | .ok .cont, hq' => exact hq'.elim
  | .ok (.ret u), hq' =>
    obtain ⟨v, H2, os2, bare2, un2, hok2, rv, ev, d, fs, ea, ed, hd1, q2⟩ := hq'
    subst ev
    obtain ⟨h2, g2, d2, t2, os'⟩ := s'
    exact ⟨rv, mk_end (raises_own T.exC T.tyC) I1 big keep un2 hok2 os2 bare2 ea ed hd1 q2⟩
/-- an exception that is made and kept, not raised -/
theorem pe_ofMk {e : Expr} {t : L2.St → Hp → XK → Prop} (hex : X.ex = []) (h : PMk X e t) : PE X e (fun σ H Q => t σ H fun cls d H' => ∀ a, H' a = none → Q (.ref a) (upd H' a (Xo cls d a))) := by
  refine ⟨fun pins s σ H Q I w => ?_⟩
  refine thn (h pins s σ H _ I w) fun u s' z => ?_
  obtain ⟨a, oe, fv, sI, H', cls, d, rfl, J, k, na, he, hz, hd, h1, nH, ho, hb, _, q⟩ := z
  have K := J.kept (t' := s'.toks) (h' := s'.heap) k
  have I' : Inv X pins σ H' s' := ⟨K.ok, ho.trans J.os, hb, K.base, K.loc, K.cell, K.free, K.freeC, K.pin, K.hok, K.len⟩
  have nL : a ≠ X.env.locals := fun z => by
    obtain ⟨m, hn, _⟩ := J.loc
    obtain ⟨o, es, ep, e, _⟩ := hn
    rw [← z, na] at e
    cases e
  exact ⟨.ref a, _, track J hex na I' he hz hd nH nL, rfl, q a nH⟩
end
end So

namespace So
open PySem PySem.Spec PyProof.Rows L2
theorem overS {H H1 : Hp} {D : Addr} {o : HO} (s : Same H H1) (h : H1 D = none) : Same H (upd H1 D o) := fun b u e => (upd_ne (ne_of_none (s b u e) h)).trans (s b u e)
/-! ### errors with two fields -/
def spTwoE (C : Addr) (n1 n2 : Str) : Sp := fun vs H Q _ => ∃ (a : Addr) (v1 v2 : V), vs = [.ref a, v1, v2] ∧ H a = some (exo a C none) ∧ ∀ dx, H dx = none → dx ≠ a → Q .non (upd (upd (upd H dx (exd dx [(n1, v1)])) a (exo a C (some dx))) dx (exd dx [(n2, v2), (n1, v1)]))
section
variable {P : Program} {w : World} {K : PySem.W.Frag} {mg : Str → Option Value} {base : Heap}
theorem ok_one {n qual : Str} {st : Stmt} {C f : Addr} {fd : FuncData} (F : Fun K "__init__" qual st f fd) (T : OexC K C) (no : PySem.W.findIn K (.ref C) n = some none) (S : FnScope ["self", n] ["self", n] (defScope st))
    (hb : ∃ p1 p2 p3 p4, defBody st = [.Assign [.Attribute (.Name "self" p1) n p2] (.Name n p3) p4]) (h1 : (n == ("__debug__" : Str)) = false) (h2 : (n == ("__classdict__" : Str)) = false) :
    FnOk P w K mg base CX0 1 f fd ["self", n] (spOneE C n) := by
  obtain ⟨p1, p2, p3, p4, hb⟩ := hb
  refine F.ok S (fun vs H Q E h => ?_) (fun cdv A outer s H vs Q E hr h => ?_)
  · obtain ⟨a, v, rfl, _⟩ := h
    rfl
  · obtain ⟨a, v, rfl, ha, q⟩ := h
    rw [hb]
    have vs0 : Vis (defScope st) "self" := vis_par S (by simp)
    have vs1 : Vis (defScope st) n := vis_par S (by simp)
    exact ⟨_, pss_one (ps_ost (pe_var (i := 0) rfl vs0) (pe_var (i := 1) rfl vs1 h1 h2)), _, rfl, _, rfl, a, C, rfl, T, no, .inl ⟨ha, fun dx h n => q dx h n⟩⟩
theorem ok_two {n1 n2 qual : Str} {st : Stmt} {C f : Addr} {fd : FuncData} (F : Fun K "__init__" qual st f fd) (T : OexC K C) (no1 : PySem.W.findIn K (.ref C) n1 = some none) (no2 : PySem.W.findIn K (.ref C) n2 = some none) (S : FnScope ["self", n1, n2] ["self", n1, n2] (defScope st))
    (hb : ∃ p1 p2 p3 p4 q1 q2 q3 q4, defBody st = [.Assign [.Attribute (.Name "self" p1) n1 p2] (.Name n1 p3) p4, .Assign [.Attribute (.Name "self" q1) n2 q2] (.Name n2 q3) q4]) (h1 : (n1 == ("__debug__" : Str)) = false) (h2 : (n1 == ("__classdict__" : Str)) = false)
    (h3 : (n2 == ("__debug__" : Str)) = false) (h4 : (n2 == ("__classdict__" : Str)) = false) : FnOk P w K mg base CX0 1 f fd ["self", n1, n2] (spTwoE C n1 n2) := by
  obtain ⟨p1, p2, p3, p4, q1, q2, q3, q4, hb⟩ := hb
  refine F.ok S (fun vs H Q E h => ?_) (fun cdv A outer s H vs Q E hr h => ?_)
  · obtain ⟨a, v1, v2, rfl, _⟩ := h
    rfl
  · obtain ⟨a, v1, v2, rfl, ha, q⟩ := h
    rw [hb]
    have vs0 : Vis (defScope st) "self" := vis_par S (by simp)
    have vs1 : Vis (defScope st) n1 := vis_par S (by simp)
    have vs2 : Vis (defScope st) n2 := vis_par S (by simp)
    refine ⟨_, pss_cons (ps_ost (pe_var (i := 0) rfl vs0) (pe_var (i := 1) rfl vs1 h1 h2)) (pss_one (ps_ost (pe_var (i := 0) rfl vs0) (pe_var (i := 2) rfl vs2 h3 h4))), ?_⟩
    refine ⟨_, rfl, _, rfl, a, C, rfl, T, no1, .inl ⟨ha, fun dx hd ne => ?_⟩⟩
    refine ⟨_, rfl, _, rfl, a, C, rfl, T, no2, .inr ⟨dx, [(n1, v1)], upd_same, ?_, by show 1 ≤ 900; decide, q dx hd ne⟩⟩
    rw [upd_ne ne, upd_same]
end
/-- behind C(v1, v2) -/
theorem mkTwo {C : Addr} {n1 n2 : Str} {v1 v2 : V} {H1 : Hp} {Q : XK} (h : ∀ d H', Same H1 H' → H1 d = none → H' d = some (.xd [(n2, v2), (n1, v1)]) → Q (.ref C) (some d) H') :
    ∀ a, H1 a = none → spTwoE C n1 n2 [.ref a, v1, v2] (upd H1 a (exo a C none))
      (fun v H2 => v = .non ∧ ∃ (d : Addr) (fs : List (Str × V)), H2 a = some (exo a C (some d)) ∧ H2 d = some (exd d fs) ∧ H1 d = none ∧ Q (.ref C) (some d) (upd (del H2 a) d (.xd fs))) (fun _ _ _ => False) := by
  refine fun a ha => ⟨a, v1, v2, rfl, upd_same, fun dx hdx ne => ?_⟩
  have hd : H1 dx = none := by
    rw [upd_ne ne] at hdx
    exact hdx
  refine ⟨rfl, dx, [(n2, v2), (n1, v1)], ?_, upd_same, hd, h dx _ (fun b o hb => ?_) hd upd_same⟩
  · rw [upd_ne ne.symm, upd_same]
  · have hba : b ≠ a := ne_of_none hb ha
    have hbd : b ≠ dx := ne_of_none hb hd
    rw [upd_ne hbd, del_ne hba, upd_ne hbd, upd_ne hba, upd_ne hbd, upd_ne hba]
    exact hb
/-- a kept error with its fields -/
def ErAt (H : Hp) (a C : Addr) (fs : List (Str × V)) : Prop := ∃ d, H a = some (Xo (.ref C) (some d) a) ∧ H d = some (.xd fs)
theorem ErAt.same {H H' : Hp} {a C : Addr} {fs : List (Str × V)} (h : ErAt H a C fs) (s : Same H H') : ErAt H' a C fs := h.elim fun d e => ⟨d, s _ _ e.1, s _ _ e.2⟩
/-- what is wished behind an error that is made and kept -/
theorem keepOne {C : Addr} {fs : List (Str × V)} {H1 : Hp} {Q : VK} (h : ∀ a H', Same H1 H' → ErAt H' a C fs → Q (.ref a) H') :
    ∀ d H', Same H1 H' → H1 d = none → H' d = some (.xd fs) → ∀ a, H' a = none → Q (.ref a) (upd H' a (Xo (.ref C) (some d) a)) := by
  intro d H' s _ e a na
  exact h a _ (overS s na) ⟨d, upd_same, (upd_ne (ne_of_none e na)).trans e⟩
section
variable {X : Cx}
/-- e.n of a kept error of any class -/
theorem pe_xoA {e : Expr} {te : TE} {pos : Pos} {n : Str} (he : PE X e te) (hb : attributeBase e n X.env (eval e X.env) = eval e X.env := by rfl) :
    PE X (.Attribute e n pos) (fun σ H Q => te σ H fun x H1 => ∃ (a C : Addr) (fs : List (Str × V)) (v : V), x = .ref a ∧ ErAt H1 a C fs ∧ Err X.K C ∧ PySem.W.findIn X.K (.ref C) n = some none ∧ fs.lookup n = some v ∧ Q v H1) := by
  constructor
  intro pins s σ H Q I h
  refine attr_of hb (thn (he.run pins s σ H _ I h) fun u s1 hh => ?_)
  obtain ⟨x, H1, I1, rx, a, C, fs, v, rfl, ⟨dd, ha, ea⟩, T, hno, l, q⟩ := hh
  cases rx
  obtain ⟨oe, vs, hg, hz, hd⟩ := xo_at I1.hok ha
  obtain ⟨mA, hns, hr⟩ := (show ObjOk X.prog X.w H1 s1.heap dd (.xd fs) from I1.hok dd _ ea)
  obtain ⟨od, ho, hl⟩ := lookIn_ns hns
  have hrn := hr n
  rw [l] at hrn
  obtain ⟨u, hu, ru⟩ := RelO.some_of hrn
  have nc : PySem.W.notCls oe = true := by
    unfold PySem.W.notCls
    rw [hd]
  have J : PySem.W.InstAt s1.heap a oe C (some od) := by
    refine ⟨hg, hz.1, nc, ?_⟩
    rw [hz.2]
    exact ho
  have fo := PySem.W.findObj_own (K := X.K) (C := C) (od := od) (name := n) (v := u) T.hdC hno rfl (by rw [hl, hu])
  exact HandSPX.exc_get I1.kIn J T.ga T.gg T.exC fo (handed_of ru) ⟨v, H1, I1.tok _, ru, q⟩
/-- isinstance of a kept error that has no dict -/
theorem call_isX0 : CallR X (.builtin "isinstance") (fun xs H Q => ∃ (a D : Addr) (c : V) (u : Value) (b : Bool), xs = [.ref a, c] ∧ H a = some (Xo (.ref D) none a) ∧ Err X.K D ∧ ClsV c u ∧ PySem.W.kitOne X.K (.ref D) u = some b ∧ Q (.bl b) H) := by
  intro pins s σ H xs us Q I r h
  obtain ⟨a, D, c, u, b, rfl, ha, T, cv, e, q⟩ := h
  obtain ⟨u1, u2, rfl, r1, r2⟩ := vals2 r
  cases r1
  have e2 := cv.eq r2
  subst e2
  obtain ⟨oe, vs, hg, hz, hdat⟩ := xo_at I.hok ha
  have nc : PySem.W.notCls oe = true := by
    unfold PySem.W.notCls
    rw [hdat]
  have J : PySem.W.InstAt s.heap a oe D none := by
    refine ⟨hg, hz.1, nc, ?_⟩
    rw [hz.2]
    trivial
  exact PySem.W.kia_one (kitx_err T) I.kIn ⟨oe, none, J⟩ e (fun z => nomatch z) fun tk => ⟨.bl b, H, I.tok tk, rfl, q⟩
/-- C(), C an own error class without own __init__ -/
theorem pmk_own0 {C : Addr} {bmB : List Value} {B newId initId : String} {x : Str} {p pos : Pos} (F : ExcBaseFacts B newId initId bmB) (q : PySem.W.excIn X.K C bmB newId = true) (gC : X.mg x = some (.ref C))
    (kC : PySem.W.keepIn X.K (.ref C) = true) (r : Raises X (.ref C)) (hg : Gl X x) (hdb : (x == ("__debug__" : Str)) = false := by decide) :
    PMk X (.Call (.Name x p) [] [] pos) (fun _ H Q => Q (.ref C) none H) := by
  intro pins s σ H Q I h
  refine wpAny_Call_Name_kw (ld_glob I hg gC ?_ hdb)
  refine PySem.W.callWith_K0 I.kIn kC ?_
  show wpAny _ _ (call (.ref C) []) _ _ _
  obtain ⟨bm, N, nm, qn, bs, hdct, sn, sub, ab, col, dd, k0, k1, k2, k3, k5, mN, hC, hN, hni, T⟩ := exc_obj I.kIn q
  refine wpAny_call_exc_subT F T hC hN hni (fun h' e hm => ?_) (by decide)
  exact mk_of I hm r h (I.hok.gone hm.new)
end
end So

/-! own errors made and kept: what is asked in one step -/
namespace So
open PySem PySem.Spec PyProof.Rows L2
section
variable {X : Cx}
theorem pe_weak {e : Expr} {t t' : TE} (h : PE X e t) (k : ∀ σ H Q, t' σ H Q → t σ H Q) : PE X e t' := ⟨fun pins s σ H Q I w => h.run pins s σ H Q I (k σ H Q w)⟩
theorem ps_weak {st : Stmt} {t t' : TS} (h : PS X st t) (k : ∀ D σ H, t' D σ H → t D σ H) : PS X st t' := ⟨fun pins s σ H D I w => h.run pins s σ H D I (k D σ H w)⟩
/-- what the top says of an error with two fields -/
structure TwoE (K : PySem.W.Frag) (mg : Str → Option Value) (x n1 n2 : Str) (C f : Addr) (fd : FuncData) : Prop where
  T : OexC K C
  iC : PySem.W.findIn K (.ref C) "__init__" = some (some (.ref f))
  tI : PySem.W.typeIn K (.ref f) = some (.type "function")
  mgC : mg x = some (.ref C)
  no1 : PySem.W.findIn K (.ref C) n1 = some none
  no2 : PySem.W.findIn K (.ref C) n2 = some none
  err : Err K C
  hb : Binds K fd ["self", n1, n2] []
def k2 {α : Type} : List α → List α → List α
  | [u], [z] => [u, z]
  | _, _ => []
def k3 {α : Type} : List α → List α → List α
  | [u], [y, z] => [u, z, y]
  | _, _ => []
theorem k2_rel {vs : List V} {us : List Value} {zs : List V} {ws : List Value} (a : Vals vs us) (b : Vals zs ws) : Vals (k2 vs zs) (k2 us ws) := by
  cases a with
  | nil => exact .nil
  | cons a1 a2 =>
    cases a2 with
    | cons _ _ => exact .nil
    | nil =>
      cases b with
      | nil => exact .nil
      | cons b1 b2 =>
        cases b2 with
        | nil => exact .cons a1 (.cons b1 .nil)
        | cons _ _ => exact .nil
theorem k3_rel {vs : List V} {us : List Value} {zs : List V} {ws : List Value} (a : Vals vs us) (b : Vals zs ws) : Vals (k3 vs zs) (k3 us ws) := by
  cases a with
  | nil => exact .nil
  | cons a1 a2 =>
    cases a2 with
    | cons _ _ => exact .nil
    | nil =>
      cases b with
      | nil => exact .nil
      | cons b1 b2 =>
        cases b2 with
        | nil => exact .nil
        | cons b3 b4 =>
          cases b4 with
          | nil => exact .cons a1 (.cons b3 (.cons b1 .nil))
          | cons _ _ => exact .nil
theorem kbn2 {K : PySem.W.Frag} {fd : FuncData} {n : Str} (h : ∀ (s : Shared) (u z : Value), BindsTo s fd ⟨[u], [(n, z)]⟩ [("self", u), (n, z)]) : KBn K fd ["self", n] 1 [n] k2 k2 :=
  ⟨fun s us ws _ h1 h2 => match us, ws, h1, h2 with | [u], [z], _, _ => h s u z, k2_rel⟩
theorem kbn3 {K : PySem.W.Frag} {fd : FuncData} {n1 n2 : Str} (h : ∀ (s : Shared) (u y z : Value), BindsTo s fd ⟨[u], [(n2, y), (n1, z)]⟩ [("self", u), (n1, z), (n2, y)]) : KBn K fd ["self", n1, n2] 1 [n2, n1] k3 k3 :=
  ⟨fun s us ws _ h1 h2 => match us, ws, h1, h2 with | [u], [y, z], _, _ => h s u y z, k3_rel⟩
variable {x n n1 n2 : Str} {C f : Addr} {fd : FuncData} {e e2 : Expr} {p pos kp kp2 : Pos} {i j : Nat}
theorem pe_new1 (hex : X.ex = []) (O : OneE X.K X.mg x n C f fd) (F : FnOk X.prog X.w X.K X.mg X.base CX0 1 f fd ["self", n] (spOneE C n)) (hr : Room 2 X.A) (hg : Gl X x) (ha : PA X [e] (tCons (tVar i) tNil))
    (hdb : (x == ("__debug__" : Str)) = false := by decide) (hst : starEach [e] X.env = (false, eval e X.env) :: starEach [] X.env := by rfl) (hpl : (backTo pos (starEach [] X.env)).any (·.1) = false := by rfl) :
    PE X (.Call (.Name x p) [e] [] pos) (fun σ H Q => ∃ v, σ[i]? = some (some v) ∧ ∀ a H', Same H H' → ErAt H' a C [(n, v)] → Q (.ref a) H') :=
  pe_weak (pe_ofMk hex (pmk_one O F hr hg ha hdb hst hpl)) fun _ _ Q0 ⟨v, q, h⟩ => ⟨v, q, mkOne (C := C) (n := n) (v := v) (vs := [v]) (Q := fun cls d H' => ∀ a, H' a = none → Q0 (.ref a) (upd H' a (Xo cls d a))) rfl (keepOne h)⟩
theorem pe_new1K (hex : X.ex = []) (O : OneE X.K X.mg x n C f fd) (F : FnOk X.prog X.w X.K X.mg X.base CX0 1 f fd ["self", n] (spOneE C n)) (kb : KBn X.K fd ["self", n] 1 [n] k2 k2) (hr : Room 2 X.A) (hg : Gl X x) (he : PE X e (tVar i))
    (hall : (backToKw pos (keywordEach [⟨some n, e, kp⟩] X.env)).all (·.1.isSome) = true := by rfl) (hks : (backToKw pos (keywordEach [⟨some n, e, kp⟩] X.env)).filterMap (·.1) = [n] := by rfl) (hdb : (x == ("__debug__" : Str)) = false := by decide)
    (hpl : ((backTo pos (starEach [] X.env)).any (·.1) || (backToKw pos (keywordEach [⟨some n, e, kp⟩] X.env)).any (·.1.isNone)) = false := by rfl) :
    PE X (.Call (.Name x p) [] [⟨some n, e, kp⟩] pos) (fun σ H Q => ∃ v, σ[i]? = some (some v) ∧ ∀ a H', Same H H' → ErAt H' a C [(n, v)] → Q (.ref a) H') :=
  pe_weak (pe_ofMk hex (pmk_oexK O.T O.iC O.tI F hr kb (fun _ _ _ _ _ _ _ h => h.elim) hg O.mgC (pk_cons he pk_nil) hall hks hdb hpl)) fun _ _ Q0 ⟨v, q, h⟩ => ⟨v, q, rfl, (mkOne (C := C) (n := n) (v := v) (vs := [v]) (Q := fun cls d H' => ∀ a, H' a = none → Q0 (.ref a) (upd H' a (Xo cls d a))) rfl (keepOne h)).2⟩
theorem pe_new2 (hex : X.ex = []) (O : TwoE X.K X.mg x n1 n2 C f fd) (F : FnOk X.prog X.w X.K X.mg X.base CX0 1 f fd ["self", n1, n2] (spTwoE C n1 n2)) (hr : Room 2 X.A) (hg : Gl X x) (ha : PA X [e, e2] (tCons (tVar i) (tCons (tVar j) tNil)))
    (hdb : (x == ("__debug__" : Str)) = false := by decide) (hst : starEach [e, e2] X.env = (false, eval e X.env) :: starEach [e2] X.env := by rfl) (hpl : (backTo pos (starEach [e2] X.env)).any (·.1) = false := by rfl) :
    PE X (.Call (.Name x p) [e, e2] [] pos) (fun σ H Q => ∃ v, σ[i]? = some (some v) ∧ ∃ u, σ[j]? = some (some u) ∧ ∀ a H', Same H H' → ErAt H' a C [(n2, u), (n1, v)] → Q (.ref a) H') :=
  pe_weak (pe_ofMk hex (pmk_oex O.T O.iC O.tI F hr O.hb .nil (fun _ _ _ _ _ _ _ h => h.elim) hg O.mgC ha hdb hst hpl)) fun _ _ Q0 ⟨v, q, u, q2, h⟩ => ⟨v, q, u, q2, by show 2 ≤ 1000; decide, mkTwo (C := C) (n1 := n1) (n2 := n2) (v1 := v) (v2 := u) (Q := fun cls d H' => ∀ a, H' a = none → Q0 (.ref a) (upd H' a (Xo cls d a))) (keepOne h)⟩
theorem pe_new2K (hex : X.ex = []) (O : TwoE X.K X.mg x n1 n2 C f fd) (F : FnOk X.prog X.w X.K X.mg X.base CX0 1 f fd ["self", n1, n2] (spTwoE C n1 n2)) (kb : KBn X.K fd ["self", n1, n2] 1 [n2, n1] k3 k3) (hr : Room 2 X.A) (hg : Gl X x) (he : PE X e (tVar i)) (he2 : PE X e2 (tVar j))
    (hall : (backToKw pos (keywordEach [⟨some n2, e2, kp2⟩, ⟨some n1, e, kp⟩] X.env)).all (·.1.isSome) = true := by rfl) (hks : (backToKw pos (keywordEach [⟨some n2, e2, kp2⟩, ⟨some n1, e, kp⟩] X.env)).filterMap (·.1) = [n2, n1] := by rfl) (hdb : (x == ("__debug__" : Str)) = false := by decide)
    (hpl : ((backTo pos (starEach [] X.env)).any (·.1) || (backToKw pos (keywordEach [⟨some n2, e2, kp2⟩, ⟨some n1, e, kp⟩] X.env)).any (·.1.isNone)) = false := by rfl) :
    PE X (.Call (.Name x p) [] [⟨some n2, e2, kp2⟩, ⟨some n1, e, kp⟩] pos) (fun σ H Q => ∃ u, σ[j]? = some (some u) ∧ ∃ v, σ[i]? = some (some v) ∧ ∀ a H', Same H H' → ErAt H' a C [(n2, u), (n1, v)] → Q (.ref a) H') :=
  pe_weak (pe_ofMk hex (pmk_oexK O.T O.iC O.tI F hr kb (fun _ _ _ _ _ _ _ h => h.elim) hg O.mgC (pk_cons he2 (pk_cons he pk_nil)) hall hks hdb hpl)) fun _ _ Q0 ⟨u, q, v, q2, h⟩ => ⟨u, q, v, q2, rfl, mkTwo (C := C) (n1 := n1) (n2 := n2) (v1 := v) (v2 := u) (Q := fun cls d H' => ∀ a, H' a = none → Q0 (.ref a) (upd H' a (Xo cls d a))) (keepOne h)⟩
theorem pe_new0 (hex : X.ex = []) {bmB : List Value} {B newId initId : String} (F : ExcBaseFacts B newId initId bmB) (q : PySem.W.excIn X.K C bmB newId = true) (gC : X.mg x = some (.ref C)) (kC : PySem.W.keepIn X.K (.ref C) = true) (r : Raises X (.ref C)) (hg : Gl X x)
    (hdb : (x == ("__debug__" : Str)) = false := by decide) :
    PE X (.Call (.Name x p) [] [] pos) (fun _ H Q => ∀ a H', Same H H' → H' a = some (Xo (.ref C) none a) → Q (.ref a) H') :=
  pe_weak (pe_ofMk hex (pmk_own0 F q gC kC r hg hdb)) fun _ H _ h => fun a ha => h a _ (overS (Same.refl H) ha) upd_same
end
end So

/-! repr of data with dicts: each thing's text built by itself, so that no more is asked of an address than that a dict is not the modules' own. -/
namespace So
open PySem PySem.Spec PyProof.Rows L2
mutual
/-- a value is this data; dicts with texts as keys may stand in it -/
inductive Dd (K : PySem.W.Frag) (H : Hp) : V → PyData → Prop
  | non : Dd K H .non .none
  | bl (b : Bool) : Dd K H (.bl b) (.bool b)
  | int (i : Int) : Dd K H (.int i) (.int i)
  | str (x : Str) : Dd K H (.str x) (.str x)
  | lst {a : Addr} {xs : List V} {ds : List PyData} (e : SqL K H a xs) (h : DdAll K H xs ds) : Dd K H (.ref a) (.list ds)
  | tup {a : Addr} {xs : List V} {ds : List PyData} (e : SqT K H a xs) (h : DdAll K H xs ds) : Dd K H (.ref a) (.tuple ds)
  | dct {a : Addr} {kvs : List (Key × V)} {ds : List (PyData × PyData)} (e : H a = some (.dK kvs)) (h : DdKv K H kvs ds) : Dd K H (.ref a) (.dict ds)
inductive DdAll (K : PySem.W.Frag) (H : Hp) : List V → List PyData → Prop
  | nil : DdAll K H [] []
  | cons {v : V} {vs : List V} {d : PyData} {ds : List PyData} (h : Dd K H v d) (t : DdAll K H vs ds) : DdAll K H (v :: vs) (d :: ds)
inductive DdKv (K : PySem.W.Frag) (H : Hp) : List (Key × V) → List (PyData × PyData) → Prop
  | nil : DdKv K H [] []
  | cons {k : Str} {v : V} {r : List (Key × V)} {d : PyData} {ds : List (PyData × PyData)} (h : Dd K H v d) (t : DdKv K H r ds) : DdKv K H ((Sum.inr k, v) :: r) ((.str k, d) :: ds)
end
section
variable {X : Cx} {pins : List (Addr × Obj)} {σ : L2.St} {H : Hp} {s : Shared}
/-- a thing in memory that shows so -/
def ShK (X : Cx) (h : Heap) (u : Value) (d : PyData) : Prop := ∃ as bs, Reads h u d as ∧ ReadAtMost h d.depth bs ∧ ReprK X.prog X.w bs h d.depth u d.shown
def ShAll (X : Cx) (h : Heap) (us : List Value) (ds : List PyData) : Prop := ∃ as bs, ReadsAll h us ds as ∧ ReadAtMost h (PyData.depthAll ds) bs ∧ ReprAllK X.prog X.w bs h (PyData.depthAll ds) us (PyData.shownAll ds)
theorem shAll_cons {h : Heap} {u : Value} {us : List Value} {d : PyData} {ds : List PyData} (a : ShK X h u d) (b : ShAll X h us ds) : ShAll X h (u :: us) (d :: ds) := by
  obtain ⟨as1, b1, r1, hb1, k1⟩ := a
  obtain ⟨as2, b2, r2, hb2, k2⟩ := b
  refine ⟨_, b1 ++ b2, .cons r1 r2, ?_, ?_⟩
  · intro b hm
    simp only [PyData.depthAll]
    rcases List.mem_append.mp hm with hm | hm
    · obtain ⟨d', as', r', hd'⟩ := hb1 b hm
      exact ⟨d', as', r', Nat.le_trans hd' (Nat.le_max_left _ _)⟩
    · obtain ⟨d', as', r', hd'⟩ := hb2 b hm
      exact ⟨d', as', r', Nat.le_trans hd' (Nat.le_max_right _ _)⟩
  · simp only [PyData.depthAll, PyData.shownAll]
    exact .cons ((k1.more fun b hb => List.mem_append_left _ hb).level_le (Nat.le_max_left _ _)) (k2.more_le (fun b hb => List.mem_append_right _ hb) (Nat.le_max_right _ _))
theorem shAll_nil {h : Heap} : ShAll X h [] [] := ⟨_, [], .nil, (fun _ h => nomatch h), by simp only [PyData.shownAll]; exact .nil⟩
mutual
theorem Dd.sh (I : Inv X pins σ H s) : ∀ (d : PyData) (v : V) (u : Value), Dd X.K H v d → RelV v u → d.showable = true → d.shown.length ≤ sizeLine → ShK X s.heap u d
  | .none, _, _, h, r, _, _ => by
    cases h
    cases r
    exact ⟨_, [], .none, (fun _ h => nomatch h), by simp only [PyData.shown]; exact .of_is ReprIs.none _ _ _⟩
  | .bool b, _, _, h, r, _, _ => by
    cases h
    cases r
    exact ⟨_, [], .bool b, (fun _ h => nomatch h), by simp only [PyData.shown]; exact .of_is (ReprIs.bool b) _ _ _⟩
  | .int i, _, _, h, r, hs, _ => by
    cases h
    obtain ⟨t, rfl⟩ := r
    exact ⟨_, [], .int i t, (fun _ h => nomatch h), by simp only [PyData.shown]; exact .of_is (ReprIs.int t (by simpa [PyData.showable] using hs)) _ _ _⟩
  | .str x, _, _, h, r, _, hz => by
    cases h
    obtain ⟨t, rfl⟩ := r
    exact ⟨_, [], .str x t, (fun _ h => nomatch h), by simp only [PyData.shown]; exact .of_is (ReprIs.str x t (by simpa only [PyData.shown] using hz)) _ _ _⟩
  | .list ds, _, _, h, r, hs, hz => by
    cases h with
    | @lst a xs _ e hall =>
      cases r
      have hz' : (listText (PyData.shownAll ds)).length ≤ sizeLine := by simpa only [PyData.shown] using hz
      obtain ⟨its, rv, ⟨o, n, h1, h2, _, h3⟩, _⟩ := I.list e
      obtain ⟨as, bs, rd, hb, hk⟩ := DdAll.sh I ds xs its hall rv (by simpa [PyData.showable] using hs) (fun t ht => Nat.le_trans (listText_mem_le ht) hz')
      have rr : Reads s.heap (.ref a) (.list ds) _ := .list h1 h2 h3 rd
      have hna : a ∉ bs := not_mem_of_deeper rr (by simp only [PyData.depth]; omega) hb
      refine ⟨_, a :: bs, rr, ReadAtMost.cons rr (by simp only [PyData.depth]; omega) hb, ?_⟩
      simp only [PyData.depth, PyData.shown]
      cases its with
      | nil =>
        cases rd
        simp only [PyData.shownAll, listText_nil]
        exact ReprK.listEmpty h1 h2 h3
      | cons x l => exact ReprK.list h1 h2 h3 hna (by simpa using hk.length_eq) (fun i y e => hk.item i y (by simpa using e))
  | .tuple ds, _, _, h, r, hs, hz => by
    cases h with
    | @tup a xs _ e hall =>
      cases r
      have hz' : (tupleText (PyData.shownAll ds)).length ≤ sizeLine := by simpa only [PyData.shown] using hz
      obtain ⟨its, rv, ⟨o, h1, h2, n, h3⟩, _⟩ := I.tuple e
      obtain ⟨as, bs, rd, hb, hk⟩ := DdAll.sh I ds xs its hall rv (by simpa [PyData.showable] using hs) (fun t ht => Nat.le_trans (tupleText_mem_le ht) hz')
      have rr : Reads s.heap (.ref a) (.tuple ds) _ := .tuple h1 h2 h3 rd
      have hna : a ∉ bs := not_mem_of_deeper rr (by simp only [PyData.depth]; omega) hb
      refine ⟨_, a :: bs, rr, ReadAtMost.cons rr (by simp only [PyData.depth]; omega) hb, ?_⟩
      simp only [PyData.depth, PyData.shown]
      exact ReprK.tuple h1 h2 h3 hna hk
  | .dict ds, _, _, h, r, hs, hz => by
    cases h with
    | @dct a kvs _ e hall =>
      cases r
      have hz' : (dictText (PyData.shownKv ds)).length ≤ sizeLine := by simpa only [PyData.shown] using hz
      obtain ⟨_, hsys, vs, hk, hD⟩ : kvs.length ≤ sizeLine ∧ (a == sysModules) = false ∧ ∃ vs, KV kvs vs ∧ s.heap.DictOf (mixKind X.prog X.w) a vs := I.hok a _ e
      obtain ⟨o, es, ep, h1, h2, h3, _, e5, _⟩ := hD
      obtain ⟨hs1, hs2⟩ := PyData.showableKv_split ds (by simpa [PyData.showable] using hs)
      obtain ⟨⟨as1, b1, r1, hb1, k1⟩, as2, b2, r2, hb2, k2⟩ := DdKv.sh I ds kvs vs es.toList hall hk e5 hs1 hs2
        (fun t ht => let ⟨p, hp, hl⟩ := PyData.shownKv_key_le ds t ht; Nat.le_trans hl (Nat.le_trans (dictText_mem_le hp) hz')) (fun t ht => let ⟨p, hp, hl⟩ := PyData.shownKv_val_le ds t ht; Nat.le_trans hl (Nat.le_trans (dictText_mem_le hp) hz'))
      have rr : Reads s.heap (.ref a) (.dict ds) _ := .dict h1 h2.1 h3 r1 r2
      have hb : ReadAtMost s.heap (PyData.depthKv ds) (b1 ++ b2) := (hb1.mono (PyData.depthAll_keys_le ds)).append (hb2.mono (PyData.depthAll_vals_le ds))
      have hna : a ∉ b1 ++ b2 := not_mem_of_deeper rr (by simp only [PyData.depth]; omega) hb
      refine ⟨_, a :: (b1 ++ b2), rr, ReadAtMost.cons rr (by simp only [PyData.depth]; omega) hb, ?_⟩
      simp only [PyData.depth, PyData.shown, PyData.shownKv_eq]
      exact ReprK.dict h1 h2.1 h3 hsys hna (ReprEntriesK.of_two es.toList _ _
        (k1.more_le (fun b hb => List.mem_append_left _ hb) (PyData.depthAll_keys_le ds)) (k2.more_le (fun b hb => List.mem_append_right _ hb) (PyData.depthAll_vals_le ds)))
theorem DdAll.sh (I : Inv X pins σ H s) : ∀ (ds : List PyData) (vs : List V) (us : List Value), DdAll X.K H vs ds → Vals vs us → PyData.showableAll ds = true → (∀ t ∈ PyData.shownAll ds, t.length ≤ sizeLine) → ShAll X s.heap us ds
  | [], _, _, h, r, _, _ => by
    cases h
    cases r
    exact shAll_nil
  | d :: ds, _, _, h, r, hs, hz => by
    cases h with
    | cons h1 h2 =>
      cases r with
      | cons r1 r2 =>
        have hs' : d.showable = true ∧ PyData.showableAll ds = true := by simpa [PyData.showableAll] using hs
        exact shAll_cons (Dd.sh I d _ _ h1 r1 hs'.1 (hz _ (by simp only [PyData.shownAll]; exact List.mem_cons_self ..))) (DdAll.sh I ds _ _ h2 r2 hs'.2 fun t ht => hz t (by simp only [PyData.shownAll]; exact List.mem_cons_of_mem _ ht))
theorem DdKv.sh (I : Inv X pins σ H s) : ∀ (ds : List (PyData × PyData)) (kvs : List (Key × V)) (vs : List (Key × Value)) (es : List DictEntry), DdKv X.K H kvs ds → KV kvs vs → Pairs (mixKind X.prog X.w) es vs → PyData.showableAll (ds.map (·.1)) = true → PyData.showableAll (ds.map (·.2)) = true →
    (∀ t ∈ PyData.shownAll (ds.map (·.1)), t.length ≤ sizeLine) → (∀ t ∈ PyData.shownAll (ds.map (·.2)), t.length ≤ sizeLine) → ShAll X s.heap (es.map (·.key)) (ds.map (·.1)) ∧ ShAll X s.heap (es.map (·.val)) (ds.map (·.2))
  | [], _, _, _, h, hk, hp, _, _, _, _ => by
    cases h
    cases hk
    cases hp
    exact ⟨shAll_nil, shAll_nil⟩
  | (dk, dv) :: ds, _, _, _, h, hk, hp, hs1, hs2, z1, z2 => by
    cases h with
    | @cons k v r _ _ h1 h2 =>
      cases hk with
      | @cons _ kv _ _ hk1 hk2 =>
        obtain ⟨kk, kval⟩ := kv
        obtain ⟨q1, q2⟩ := hk1
        simp only at q1 q2
        subst q1
        cases hp with
        | @cons en _ es' _ p1 p2 p3 =>
          have hs1' : (PyData.str k).showable = true ∧ PyData.showableAll (ds.map (·.1)) = true := by simpa [PyData.showableAll] using hs1
          have hs2' : dv.showable = true ∧ PyData.showableAll (ds.map (·.2)) = true := by simpa [PyData.showableAll] using hs2
          have hz1 : (PyData.str k).shown.length ≤ sizeLine := z1 _ (by simp only [List.map_cons, PyData.shownAll]; exact List.mem_cons_self ..)
          have hz2 : dv.shown.length ≤ sizeLine := z2 _ (by simp only [List.map_cons, PyData.shownAll]; exact List.mem_cons_self ..)
          obtain ⟨c1, c2⟩ := DdKv.sh I ds _ _ _ h2 hk2 p3 hs1'.2 hs2'.2 (fun t ht => z1 t (by simp only [List.map_cons, PyData.shownAll]; exact List.mem_cons_of_mem _ ht)) (fun t ht => z2 t (by simp only [List.map_cons, PyData.shownAll]; exact List.mem_cons_of_mem _ ht))
          simp only at p2
          refine ⟨?_, ?_⟩
          · rcases keyIs_shape (show keyIs (Sum.inr k) en.key = true from p1) with ⟨j, t3, z, _⟩ | ⟨y, t3, z, ez⟩
            · cases z
            · cases z
              simp only [List.map_cons]
              refine shAll_cons ?_ c1
              rw [ez]
              exact ⟨_, [], .str k t3, (fun _ h => nomatch h), by simp only [PyData.shown]; exact .of_is (ReprIs.str k t3 (by simpa only [PyData.shown] using hz1)) _ _ _⟩
          · simp only [List.map_cons]
            rw [p2]
            exact shAll_cons (Dd.sh I dv v _ h1 q2 hs2'.1 hz2) c2
end
/-- such a thing is shown by its own type -/
theorem Dd.shows (I : Inv X pins σ H s) {a : Addr} {d : PyData} (h : Dd X.K H (.ref a) d) (hs : d.showable = true) (hz : d.shown.length ≤ sizeLine) : ∃ T idr, ShowsBy X.prog X.w s.heap a d T idr := by
  cases h with
  | @lst _ xs ds e hall =>
    have hz' : (listText (PyData.shownAll ds)).length ≤ sizeLine := by simpa only [PyData.shown] using hz
    obtain ⟨its, rv, ⟨o, n, h1, h2, _, h3⟩, _⟩ := I.list e
    obtain ⟨as, bs, rd, hb, hk⟩ := DdAll.sh I ds xs its hall rv (by simpa [PyData.showable] using hs) (fun t ht => Nat.le_trans (listText_mem_le ht) hz')
    have rr : Reads s.heap (.ref a) (.list ds) _ := .list h1 h2 h3 rd
    have hna : a ∉ bs := not_mem_of_deeper rr (by simp only [PyData.depth]; omega) hb
    refine ⟨"list", "list.__repr__", F.slot_list_repr.toG, F.slot_list_str, F.slot_list_format, fun s' hk0 => ⟨o, hk0 _ _ h1, h2⟩, fun A E s' Q hg hu hk0 hQ => ?_⟩
    simp only [PyData.depth] at hu
    simp only [PyData.shown] at hQ
    cases its with
    | nil =>
      cases rd
      simp only [PyData.shownAll, listText_nil] at hQ
      exact call_list_repr_empty ⟨o, hk0 _ _ h1, h2⟩ (hk0 _ _ h1) h3 (hQ s'.heap _ _ fun _ _ e => e)
    | cons x l => exact call_list_reprK h1 h2 h3 hna (by simpa using hk.length_eq) (fun i y e => hk.item i y (by simpa using e)) hg (fun b _ => Clear.nil b) hu hk0 hQ hz'
  | @tup _ xs ds e hall =>
    have hz' : (tupleText (PyData.shownAll ds)).length ≤ sizeLine := by simpa only [PyData.shown] using hz
    obtain ⟨its, rv, ⟨o, h1, h2, n, h3⟩, _⟩ := I.tuple e
    obtain ⟨as, bs, rd, hb, hk⟩ := DdAll.sh I ds xs its hall rv (by simpa [PyData.showable] using hs) (fun t ht => Nat.le_trans (tupleText_mem_le ht) hz')
    have rr : Reads s.heap (.ref a) (.tuple ds) _ := .tuple h1 h2 h3 rd
    have hna : a ∉ bs := not_mem_of_deeper rr (by simp only [PyData.depth]; omega) hb
    refine ⟨"tuple", "tuple.__repr__", F.slot_tuple_repr, F.slot_tuple_str, F.slot_tuple_format, fun s' hk0 => ⟨o, hk0 _ _ h1, h2⟩, fun A E s' Q hg hu hk0 hQ => ?_⟩
    simp only [PyData.depth] at hu
    simp only [PyData.shown] at hQ
    exact call_tuple_reprK h1 h2 h3 hna hk hg (fun b _ => Clear.nil b) hu hk0 hQ hz'
  | @dct _ kvs ds e hall =>
    have hz' : (dictText (PyData.shownKv ds)).length ≤ sizeLine := by simpa only [PyData.shown] using hz
    obtain ⟨_, hsys, vs, hk, hD⟩ : kvs.length ≤ sizeLine ∧ (a == sysModules) = false ∧ ∃ vs, KV kvs vs ∧ s.heap.DictOf (mixKind X.prog X.w) a vs := I.hok a _ e
    obtain ⟨o, es, ep, h1, h2, h3, _, e5, _⟩ := hD
    obtain ⟨hs1, hs2⟩ := PyData.showableKv_split ds (by simpa [PyData.showable] using hs)
    obtain ⟨⟨as1, b1, r1, hb1, k1⟩, as2, b2, r2, hb2, k2⟩ := DdKv.sh I ds kvs vs es.toList hall hk e5 hs1 hs2
      (fun t ht => let ⟨p, hp, hl⟩ := PyData.shownKv_key_le ds t ht; Nat.le_trans hl (Nat.le_trans (dictText_mem_le hp) hz')) (fun t ht => let ⟨p, hp, hl⟩ := PyData.shownKv_val_le ds t ht; Nat.le_trans hl (Nat.le_trans (dictText_mem_le hp) hz'))
    have rr : Reads s.heap (.ref a) (.dict ds) _ := .dict h1 h2.1 h3 r1 r2
    have hb : ReadAtMost s.heap (PyData.depthKv ds) (b1 ++ b2) := (hb1.mono (PyData.depthAll_keys_le ds)).append (hb2.mono (PyData.depthAll_vals_le ds))
    have hna : a ∉ b1 ++ b2 := not_mem_of_deeper rr (by simp only [PyData.depth]; omega) hb
    refine ⟨"dict", "dict.__repr__", F.slot_dict_repr, F.slot_dict_str, F.slot_dict_format, fun s' hk0 => ⟨o, hk0 _ _ h1, h2.1⟩, fun A E s' Q hg hu hk0 hQ => ?_⟩
    simp only [PyData.depth] at hu
    simp only [PyData.shown, PyData.shownKv_eq] at hQ
    exact call_dict_reprK h1 h2.1 h3 hsys hna (ReprEntriesK.of_two es.toList _ _
      (k1.more_le (fun b hb => List.mem_append_left _ hb) (PyData.depthAll_keys_le ds)) (k2.more_le (fun b hb => List.mem_append_right _ hb) (PyData.depthAll_vals_le ds))) hg (fun b _ => Clear.nil b) hu hk0 hQ (by rw [← PyData.shownKv_eq]; exact hz')
/-- repr of data, dicts in it -/
def rReprG (K : PySem.W.Frag) : List V → Hp → VK → Prop := fun xs H Q => ∃ v d, xs = [v] ∧ Dd K H v d ∧ d.showable = true ∧ d.depth ≤ 60 ∧ d.shown.length ≤ sizeLine ∧ Q (.str d.shown) H
theorem call_reprG (hg : X.A.guards = some []) (hu : X.A.units + 64 < cLine) : CallR X (.builtin "repr") (rReprG X.K) := by
  intro pins s σ H xs us Q I r h
  obtain ⟨v, d, rfl, hd, hs, hdep, hz, q⟩ := h
  obtain ⟨u, rfl, rv⟩ := vals1 r
  cases v with
  | ref a =>
    cases rv
    obtain ⟨T, idr, S⟩ := hd.shows I hs hz
    refine call_repr_slot (by omega) (S.typeIs s fun _ _ e => e) S.slotRepr (S.call X.A.in1 X.xe s _ hg (by show X.A.units + 1 + d.depth < cLine; omega) (fun _ _ e => e) fun h' u tk hk => ⟨_, _, rfl, ?_⟩)
    exact ⟨.str d.shown, H, I.kept hk, ⟨_, rfl⟩, q⟩
  | non =>
    cases hd
    cases rv
    exact PySem.P.repr_of_none ⟨.str _, H, I.tok _, ⟨_, rfl⟩, q⟩
  | bl b =>
    cases hd
    cases rv
    refine PySem.P.repr_of_bool ⟨.str (PyData.shown (.bool b)), H, I.tok _, ⟨s.toks, ?_⟩, q⟩
    cases b <;> rfl
  | int i =>
    cases hd
    obtain ⟨t, rfl⟩ := rv
    exact PySem.P.repr_of_int (by simpa [PyData.showable] using hs) ⟨.str _, H, I.tok _, ⟨_, rfl⟩, q⟩
  | str x =>
    cases hd
    obtain ⟨t, rfl⟩ := rv
    exact PySem.P.repr_of_str ⟨.str _, H, I.tok _, ⟨_, rfl⟩, q⟩ hz
  | byt b => cases hd
  | flt b => cases hd
  | ty n => cases hd
end
/-! data stays -/
mutual
theorem Dd.same {K : PySem.W.Frag} {H H' : Hp} (s : Ext H H') : ∀ {d : PyData} {v : V}, Dd K H v d → Dd K H' v d
  | _, _, .non => .non
  | _, _, .bl b => .bl b
  | _, _, .int i => .int i
  | _, _, .str x => .str x
  | _, _, .lst e h => .lst (SqL.ext e s) (DdAll.same s h)
  | _, _, .tup e h => .tup (SqT.ext e s) (DdAll.same s h)
  | _, _, .dct e h => .dct (s _ _ e) (DdKv.same s h)
theorem DdAll.same {K : PySem.W.Frag} {H H' : Hp} (s : Ext H H') : ∀ {ds : List PyData} {vs : List V}, DdAll K H vs ds → DdAll K H' vs ds
  | _, _, .nil => .nil
  | _, _, .cons h t => .cons (Dd.same s h) (DdAll.same s t)
theorem DdKv.same {K : PySem.W.Frag} {H H' : Hp} (s : Ext H H') : ∀ {ds : List (PyData × PyData)} {vs : List (Key × V)}, DdKv K H vs ds → DdKv K H' vs ds
  | _, _, .nil => .nil
  | _, _, .cons h t => .cons (Dd.same s h) (DdKv.same s t)
end
end So

/-! a value as data over a part of memory that stays; text * int -/
namespace So
open PySem PySem.Spec PyProof.Rows L2
section
variable {X : Cx}
theorem op_mul_str : OpR X (binaryOp .Mult) (fun x y H Q => ∃ z n, x = .str z ∧ y = .int n ∧ MulOk z n ∧ Q (.str (Txt.mul z n)) H) := by
  intro pins s σ H x y v u Q I rx ry h
  obtain ⟨z, n, rfl, rfl, ok, q⟩ := h
  obtain ⟨t, rfl⟩ := rx
  obtain ⟨t', rfl⟩ := ry
  exact SB.mul ok fun t' k => ⟨.str (Txt.mul z n), H, I.tok _, ⟨_, rfl⟩, q⟩
end
/-- memory without p -/
def hole (p : Addr) (H : Hp) : Hp := fun b => if b = p then none else H b
theorem hole_ne {p b : Addr} {H : Hp} (h : b ≠ p) : hole p H b = H b := if_neg h
theorem hole_at {p : Addr} {H : Hp} : hole p H p = none := if_pos rfl
theorem hole_same {p : Addr} {H : Hp} : Same (hole p H) H := fun b o e => by
  by_cases z : b = p
  · subst z
    rw [hole_at] at e
    cases e
  · rwa [hole_ne z] at e
/-- v is the data d, by a part of memory that has no p -/
def Kp (K : PySem.W.Frag) (p : Addr) (H : Hp) (v : V) (d : PyData) : Prop := ∃ F, F p = none ∧ Same F H ∧ Dd K F v d
section
variable {K : PySem.W.Frag} {p : Addr} {H H' : Hp} {v : V} {d : PyData}
theorem Kp.same (h : Kp K p H v d) (s : Same H H') : Kp K p H' v d := h.elim fun F e => ⟨F, e.1, e.2.1.trans s, e.2.2⟩
theorem Kp.off (h : Kp K p H v d) (s : ∀ b o, b ≠ p → H b = some o → H' b = some o) : Kp K p H' v d := h.elim fun F e => ⟨F, e.1, fun b o z => s b o (fun y => by
  subst y
  rw [e.1] at z
  cases z) (e.2.1 b o z), e.2.2⟩
theorem Kp.dd (h : Kp K p H v d) : Dd K H v d := h.elim fun F e => Dd.same (fun b o z => e.2.1 b o z) e.2.2
theorem Kp.hole (h : Dd K (So.hole p H) v d) : Kp K p H v d := ⟨So.hole p H, hole_at, hole_same, h⟩
theorem Kp.at (h : Dd K H v d) (e : H p = none) (s : Same H H') : Kp K p H' v d := ⟨H, e, s, h⟩
theorem Kp.non : Kp K p H .non .none := .hole .non
theorem Kp.bl (b : Bool) : Kp K p H (.bl b) (.bool b) := .hole (.bl b)
theorem Kp.int (i : Int) : Kp K p H (.int i) (.int i) := .hole (.int i)
theorem Kp.str (z : Str) : Kp K p H (.str z) (.str z) := .hole (.str z)
end
end So

/-! how long what repr tells of data is, how deep it goes -/
namespace So
open PySem PySem.Spec PyProof.Rows L2
theorem shownAll_map' : ∀ ds : List PyData, PyData.shownAll ds = ds.map PyData.shown
  | [] => rfl
  | d :: r => by
    unfold PyData.shownAll
    rw [shownAll_map' r]
    rfl
theorem sum_le' {k : Nat} : ∀ ds : List PyData, (∀ d ∈ ds, d.shown.length ≤ k) → (((PyData.shownAll ds).map (·.length)).sum) ≤ k * ds.length
  | [], _ => by simp [PyData.shownAll]
  | d :: r, h => by
    have ih := sum_le' r fun x hx => h x (List.mem_cons_of_mem _ hx)
    have h1 := h d List.mem_cons_self
    unfold PyData.shownAll
    rw [List.map_cons, List.sum_cons, List.length_cons, Nat.mul_succ]
    omega
theorem len_all' (ds : List PyData) : (PyData.shownAll ds).length = ds.length := by rw [shownAll_map', List.length_map]
/-- data that shows in n letters, m deep -/
structure OkD (n m : Nat) (d : PyData) : Prop where
  show' : d.showable = true
  deep : d.depth ≤ m
  len : d.shown.length ≤ n
theorem OkD.mono {n m n' m' : Nat} {d : PyData} (h : OkD n m d) (h1 : n ≤ n') (h2 : m ≤ m') : OkD n' m' d := ⟨h.show', Nat.le_trans h.deep h2, Nat.le_trans h.len h1⟩
theorem okAll {n m : Nat} : ∀ {ds : List PyData}, (∀ d ∈ ds, OkD n m d) → PyData.showableAll ds = true ∧ PyData.depthAll ds ≤ m + 1
  | [], _ => ⟨rfl, by simp [PyData.depthAll]⟩
  | d :: r, h => by
    have ih := okAll (ds := r) fun x hx => h x (List.mem_cons_of_mem _ hx)
    have h1 := h d List.mem_cons_self
    refine ⟨?_, ?_⟩
    · simp only [PyData.showableAll, h1.show', ih.1, Bool.and_self]
    · simp only [PyData.depthAll]
      have := h1.deep
      have := ih.2
      omega
theorem OkD.list {n m : Nat} {ds : List PyData} (h : ∀ d ∈ ds, OkD n m d) : OkD (n * ds.length + 2 * ds.length + 3) (m + 2) (.list ds) := by
  have a := okAll h
  refine ⟨by simp only [PyData.showable]; exact a.1, by simp only [PyData.depth]; omega, ?_⟩
  have h1 := listText_len_le (PyData.shownAll ds)
  have h2 := sum_le' (k := n) ds fun d hd => (h d hd).len
  rw [len_all'] at h1
  show (listText (PyData.shownAll ds)).length ≤ _
  omega
theorem OkD.tuple {n m : Nat} {ds : List PyData} (h : ∀ d ∈ ds, OkD n m d) : OkD (n * ds.length + 2 * ds.length + 3) (m + 2) (.tuple ds) := by
  have a := okAll h
  refine ⟨by simp only [PyData.showable]; exact a.1, by simp only [PyData.depth]; omega, ?_⟩
  have h1 := tupleText_len_le (PyData.shownAll ds)
  have h2 := sum_le' (k := n) ds fun d hd => (h d hd).len
  rw [len_all'] at h1
  show (tupleText (PyData.shownAll ds)).length ≤ _
  omega
theorem OkD.int {i : Int} (h : i.natAbs < 2 ^ 250) : OkD 2000 0 (.int i) := by
  have hl : i.natAbs.log2 < 1920 := Nat.lt_of_lt_of_le (PySem.Flt.log2_lt_of (by decide) h) (by decide)
  refine ⟨by simp [PyData.showable, hl], Nat.zero_le _, ?_⟩
  show (Str.ofString (toString i)).length ≤ 2000
  rw [PyProof.Rows.ofString_length]
  exact Nat.le_trans (int_text_length_le (k := 1920) (by decide) hl) (by decide)
theorem OkD.bool (b : Bool) : OkD 2000 0 (.bool b) := ⟨rfl, Nat.zero_le _, by cases b <;> decide⟩
theorem OkD.none : OkD 2000 0 .none := ⟨rfl, Nat.zero_le _, by decide⟩
theorem OkD.str {z : Str} (h : ∀ c ∈ z.cps.toList, c < 128) (hl : z.length ≤ 100) : OkD 2000 0 (.str z) := by
  refine ⟨rfl, Nat.zero_le _, ?_⟩
  have h1 := PySem.StrLaws.reprText_len z (fun c hc => Nat.lt_trans (h c hc) (by decide))
  show (reprText z).length ≤ 2000
  omega
/-- the same texts of the same data -/
theorem OkD.repr {n m : Nat} {d : PyData} (h : OkD n m d) (h1 : m ≤ 60) (h2 : n ≤ 16777216) : d.showable = true ∧ d.depth ≤ 60 ∧ d.shown.length ≤ sizeLine := ⟨h.show', Nat.le_trans h.deep h1, by rw [sizeLine_eq]; exact Nat.le_trans h.len h2⟩
end So

/-! memory without the tables of code objects -/
namespace So
open PySem PySem.Spec PyProof.Rows L2 LamX
def unt (H : Hp) : Hp := fun b => match H b with
  | some (.tbl _) => none
  | o => o
theorem unt_get {H : Hp} {b : Addr} {o : HO} (h : H b = some o) (n : ∀ ps, o ≠ .tbl ps) : unt H b = some o := by
  unfold unt
  rw [h]
  cases o with
  | tbl ps => exact absurd rfl (n ps)
  | _ => rfl
theorem unt_of {H : Hp} {b : Addr} {o : HO} (h : unt H b = some o) : H b = some o ∧ ∀ ps, o ≠ .tbl ps := by
  unfold unt at h
  cases e : H b with
  | none => rw [e] at h; cases h
  | some u =>
    rw [e] at h
    cases u with
    | tbl ps => cases h
    | _ => cases h; exact ⟨rfl, fun ps z => nomatch z⟩
theorem unt_none {H : Hp} {b : Addr} (h : H b = none) : unt H b = none := by
  unfold unt
  rw [h]
theorem unt_same (H : Hp) : Same (unt H) H := fun b o e => (unt_of e).1
theorem unt_ext {H H' : Hp} (e : ExtN H H') : Same (unt H) H' := fun b o h => e b o (unt_of h).1 (unt_of h).2
theorem unt_mono {F H : Hp} (s : Same F H) : Same (unt F) (unt H) := fun b o h => unt_get (s _ _ (unt_of h).1) (unt_of h).2
theorem rd_unt {H : Hp} {a : Addr} {u : HO} (h : Rd H a u) (n : ∀ ps, u ≠ .tbl ps) : Rd (unt H) a u := by
  rcases h with h | ⟨o, h⟩
  · exact .inl (unt_get h n)
  · exact .inr ⟨o, unt_get h fun ps z => nomatch z⟩
theorem sql_unt {K : PySem.W.Frag} {H : Hp} {a : Addr} {xs : List V} (h : SqL K H a xs) : SqL K (unt H) a xs := by
  rcases h with h | h
  · exact .inl (rd_unt h fun ps z => nomatch z)
  · exact .inr h
theorem sqt_unt {K : PySem.W.Frag} {H : Hp} {a : Addr} {xs : List V} (h : SqT K H a xs) : SqT K (unt H) a xs := by
  rcases h with h | h
  · exact .inl (rd_unt h fun ps z => nomatch z)
  · exact .inr h
mutual
theorem dd_unt {K : PySem.W.Frag} {H : Hp} : ∀ {d : PyData} {v : V}, Dd K H v d → Dd K (unt H) v d
  | _, _, .non => .non
  | _, _, .bl b => .bl b
  | _, _, .int i => .int i
  | _, _, .str x => .str x
  | _, _, .lst e h => .lst (sql_unt e) (ddAll_unt h)
  | _, _, .tup e h => .tup (sqt_unt e) (ddAll_unt h)
  | _, _, .dct e h => .dct (unt_get e fun ps z => nomatch z) (ddKv_unt h)
theorem ddAll_unt {K : PySem.W.Frag} {H : Hp} : ∀ {ds : List PyData} {vs : List V}, DdAll K H vs ds → DdAll K (unt H) vs ds
  | _, _, .nil => .nil
  | _, _, .cons h t => .cons (dd_unt h) (ddAll_unt t)
theorem ddKv_unt {K : PySem.W.Frag} {H : Hp} : ∀ {ds : List (PyData × PyData)} {vs : List (Key × V)}, DdKv K H vs ds → DdKv K (unt H) vs ds
  | _, _, .nil => .nil
  | _, _, .cons h t => .cons (dd_unt h) (ddKv_unt t)
end
theorem Kp.extN {K : PySem.W.Frag} {p : Addr} {H H' : Hp} {v : V} {d : PyData} (h : Kp K p H v d) (e : ExtN H H') : Kp K p H' v d := by
  obtain ⟨F, h1, h2, h3⟩ := h
  exact ⟨unt F, unt_none h1, (unt_mono h2).trans (unt_ext e), dd_unt h3⟩
end So

namespace So
open PySem PySem.Spec PyProof.Rows L2
section
variable {P : Program} {w : World} {K : PySem.W.Frag} {mg : Str → Option Value} {base : Heap} {CX : CXT} {sp : Sp} {fd : FuncData} {ps N : List Str} {k : Nat} {f c : Addr}
/-- a def by its body, the guards and the code object told -/
theorem fnG_ofC {x qual : Str} {st : Stmt} (F : Fun K x qual st f fd) (hcode : fd.code = .ref c) (S : FnScope N ps (defScope st)) (len : ∀ vs H Q E, sp vs H Q E → vs.length = ps.length)
    (hbody : ∀ (A : Around) (outer : List Env) (s : Shared) (H : Hp) (vs : List V) (Q : VK) (E : XK), A.guards = some [] → Room k (A.deeper (envOfC qual (defScope st) s.heap.objs.size f (.ref c))) → sp vs H Q E →
      ∃ t, PSs (cxOf CX P w K mg base N qual (defScope st) f (.ref c) A outer s H E).nox (defBody st) t ∧ t { nx := fun _ H' => Q .non H', rt := Q } (start N vs) H) : FnG P w K mg base CX (k + 1) f fd ps sp := by
  obtain ⟨oc, od, kV, doc, pm, an, cdv, ct, osl, rfl, lk, hcd⟩ := F.ex
  obtain rfl : cdv = .ref c := hcode
  constructor
  · exact len
  intro A outer s H args us vs Q E hg hr e0 hb r hsp
  have old : ∀ b o, base.get? b = some o → s.heap.get? b = some o := fun b o e => (e0.bs b o e).1
  have KX := e0.mod.kin.keeps old
  have lim := e0.mod.nolimit.keeps old
  refine codeAny_call_function hr.depth (KX _ _ lk) rfl S.co S.gen rfl (PySem.W.codeRec_of KX hcd) (hb _ _ _ _ ?_)
  refine wpAny_newFunctionEnv_cells S.kind (fun y hy => ?_) fun env he s1 x => ?_
  · rcases S.par y.1 (List.of_mem_zip (show (y.1, y.2) ∈ ps.zip us from hy)).1 with q | q
    · exact Or.inl q
    · exact Or.inr (And.intro q (PySem.W.cellsFrom_some _ _ _ (Or.inl q)))
  subst he
  refine And.intro (lim.keeps x.toInCall.keep) (codeAny_func ?_)
  obtain ⟨t, ht, hq⟩ := hbody A outer s H vs Q E hg (hr.deeper _) hsp
  refine wpAny_mono (ht.nox.run [] s1 (start N vs) H _ (inv_start S hr.hd e0 (len _ _ _ _ hsp) r x) hq) (fun fl s' hs => ?_) fun _ _ hs => hs
  match fl, hs with
  | .ret u, ⟨v, σ', H', J, rv, q⟩ => exact ⟨v, H', J.os, J.bare, J.base, J.hok, rv, q⟩
  | .next, ⟨σ', H', J, q⟩ => exact ⟨V.non, H', J.os, J.bare, J.base, J.hok, rfl, q⟩
  | .brk, ⟨_, _, _, q⟩ => exact q.elim
  | .cont, ⟨_, _, _, q⟩ => exact q.elim
end
end So

namespace So
open PySem PySem.Spec PyProof.Rows L2 LamX
/-- the law's call, its one table of code objects and the guards told -/
theorem law_callTG {P : Program} {w : World} {K : PySem.W.Frag} {mg mb : Str → Option Value} {CX : CXT} {k : Nat} {fa a c T : Addr} {fd : FuncData} {x : Str} {sp : Sp} {s₁ : Shared} {vs : List Value} {ns : List Int}
    (KX : K.In s₁.heap) (hns : s₁.heap.Ns mainGlobals mg) (hb : s₁.heap.Ns builtinsNs mb) (hbb : ∀ x : Str, x ≠ "__name__" → mb x = bootBuiltins x) (hlim : s₁.heap.NoLimit) (hg : s₁.gens = #[])
    (tab : s₁.heap.get? T = some { cls := .none, data := .fields #[] }) (noT : K.lookup T = none) (cd : PySem.W.CodeHd s₁.heap c T)
    (mod : ∃ (bm : Addr) (ob : Obj), mg "__builtins__" = some (.ref bm) ∧ bm ≠ builtinsNs ∧ s₁.heap.get? bm = some ob ∧ ob.cls = .type "module" ∧ ob.dict = some builtinsNs ∧ ob.data = .plain)
    (ha : s₁.heap.get? a = some { cls := .type "list", data := .seq vs.toArray }) (hi : IntsAre vs ns) (hl : ns.length ≤ sizeLine) (hr : Room k callerA)
    (F : ∀ base : Heap, K.In base → base.Ns mainGlobals mg → TabB base mg c T → FnG P w K mg base CX k fa fd [x] sp) (hbind : ∀ (s : Shared) (u : Value), BindsTo s fd ⟨[u], []⟩ [(x, u)])
    (hsp : ∀ H : Hp, H T = some (.tbl #[]) → SqL K H a (ns.map V.int) → sp [.ref a] H (fun v _ => v = .bl true) fun _ _ _ => False)
    (hCX : ∀ H e s', CX [] H s₁ (fun _ _ _ => False) e s' → False) :
    codeAny (model P w) callerA (.call (.ref fa) ⟨[.ref a], []⟩) (fun r s' => r = .ok (.ret (.bool true)) ∧ OldK s₁.heap s'.heap ∧ s'.os = s₁.os ∧ AllBare s'.gens) s₁ := by
  have aT : a ≠ T := fun z => by
    rw [z, tab] at ha
    have := congrArg Obj.data (Option.some.inj ha)
    cases this
  -- what may be tracked at the start: the table, and the script where the written part does not hold it
  have go : ∀ H : Hp, H T = some (.tbl #[]) → (∀ b u, H b = some u → b = T ∨ (b = a ∧ K.lookup a = none ∧ ∃ o xs, u = .frz o (.lst xs))) → SqL K H a (ns.map V.int) → HOk P w H s₁.heap →
      codeAny (model P w) callerA (.call (.ref fa) ⟨[.ref a], []⟩) (fun r s' => r = .ok (.ret (.bool true)) ∧ OldK s₁.heap s'.heap ∧ s'.os = s₁.os ∧ AllBare s'.gens) s₁ := by
    intro H hT hA hS hok
    -- an object that is neither the script's list nor the table stands in the base
    have free : ∀ {b : Addr} {o : Obj}, s₁.heap.get? b = some o → (∀ vs n, o.data ≠ .seq vs n) → o.data ≠ .fields #[] → H b = none := by
      intro b o e h1 h2
      cases q : H b with
      | none => rfl
      | some u =>
        rcases hA b u q with rfl | ⟨rfl, _⟩
        · rw [tab] at e
          cases e
          exact absurd rfl h2
        · rw [ha] at e
          cases e
          exact absurd rfl (h1 _ _)
    have toBase : ∀ {b : Addr} {o : Obj}, s₁.heap.get? b = some o → H b = none → (hidT s₁.heap H).get? b = some o := fun e n => hidT_get e n
    have nsB : ∀ {b : Addr} {m : Str → Option Value}, s₁.heap.Ns b m → (hidT s₁.heap H).Ns b m := by
      rintro b m ⟨o, es, ep, e, d, r⟩
      have n : H b = none := by
        refine free e ?_ ?_
        · intro vs n z
          rw [d] at z
          cases z
        · intro z
          rw [d] at z
          cases z
      exact ⟨o, es, ep, toBase e n, d, r⟩
    have kin : K.In (hidT s₁.heap H) := by
      intro b o e
      refine toBase (KX b o e) ?_
      cases q : H b with
      | none => rfl
      | some u =>
        rcases hA b u q with rfl | ⟨rfl, z, _⟩
        · rw [noT] at e
          cases e
        · rw [z] at e
          cases e
    have lim2 : (hidT s₁.heap H).NoLimit := by
      obtain ⟨mc, h1, h2⟩ := hlim
      exact ⟨mc, nsB h1, h2⟩
    have gT : mainGlobals ≠ T := fun z => by
      obtain ⟨o, es, ep, e, d, _⟩ := hns
      rw [z, tab] at e
      cases e
      cases d
    have cd2 : PySem.W.CodeHd (hidT s₁.heap H) c T := by
      obtain ⟨o, us, fl, tf, fg, tg, inF, tx, tt, e1, r1, r2, r3, r⟩ := cd
      refine ⟨o, us, fl, tf, fg, tg, inF, tx, tt, toBase e1 (free e1 ?_ ?_), r1, r2, r3, r⟩
      · intro vs n z
        rw [r2] at z
        cases z
      · intro z
        rw [r2] at z
        cases z
        simp at r3
    have bm2 : (hidT s₁.heap H).BuiltinsAt mg T := by
      obtain ⟨bm, ob, b1, b2, b3, b4, b5, b6⟩ := mod
      have n1 : bm ≠ mainGlobals := fun z => by
        obtain ⟨o, es, ep, e, d, _⟩ := hns
        rw [z, e] at b3
        cases b3
        rw [d] at b6
        cases b6
      have n2 : bm ≠ T := fun z => by
        rw [z, tab] at b3
        cases b3
        cases b6
      refine ⟨bm, ob, b1, b2, n1, n2, toBase b3 (free b3 ?_ ?_), b4, b5, b6⟩
      · intro vs n z
        rw [b6] at z
        cases z
      · intro z
        rw [b6] at z
        cases z
    have e0 : Env0 P w K mg (hidT s₁.heap H) callerA [] s₁ H := by
      refine ⟨rfl, ⟨kin, nsB hns, ⟨mb, nsB hb, hbb⟩, lim2⟩, fun b o e => of_hidT e, Nat.le_of_eq (hidT_size _ _), True.intro, ?_, hok, .of_eq hg⟩
      intro b hb
      cases hb
    refine codeAny_mono ((F _ kin (nsB hns) ⟨cd2, bm2, gT⟩).runG callerA [] s₁ H ⟨[.ref a], []⟩ [.ref a] [.ref a] _ _ rfl hr e0 (hbind s₁ (.ref a)) (.cons rfl .nil) (hsp H hT hS)) fun r s' h => ?_
    match r, h with
    | .error e, h => exact (hCX H e s' h).elim
    | .ok .next, h => exact h.elim
    | .ok .brk, h => exact h.elim
    | .ok .cont, h => exact h.elim
    | .ok (.ret u), ⟨v, H', os, bare, un, hok', rv, q⟩ =>
      have q2 : v = .bl true := q
      subst q2
      cases rv
      obtain ⟨more, hm⟩ := un.tbls T #[] hT
      have grown : s'.heap.get? T = some { cls := .none, data := .fields (#[] ++ more) } := hok' T _ hm
      have stay : ∀ b o, b ≠ T → s₁.heap.get? b = some o → s'.heap.get? b = some o := by
        intro b o n e
        cases q : H b with
        | none => exact un.keep b o e q (fun z => nomatch z) (fun z => nomatch z)
        | some u =>
          rcases hA b u q with z | ⟨_, _, ob, xs, rfl⟩
          · exact absurd z n
          · have z1 := (hok b _ q).1
            have z2 := (hok' b _ (un.frzs b ob _ q)).1
            rw [z1] at e
            rw [z2, e]
      refine ⟨rfl, ⟨fun b o e => ?_, fun b o e => ?_⟩, os, bare⟩
      · by_cases n : b = T
        · subst n
          rw [tab] at e
          cases e
          refine .inr (.inl ⟨(cd.tab tab).isCodeTable, rfl, #[], more, rfl, grown⟩)
        · exact .inl (stay b o n e)
      · by_cases n : b = T
        · subst n
          exact ⟨_, grown⟩
        · exact ⟨o, stay b o n e⟩
  have rv := vals_ints hi
  have hlen : (ns.map V.int).length ≤ sizeLine := by rw [List.length_map]; exact hl
  cases hk : K.lookup a with
  | some o =>
    have e := KX a o hk
    rw [ha] at e
    cases e
    refine go (fun b => if b = T then some (.tbl #[]) else none) (if_pos rfl) (fun b u z => ?_) (Or.inr ⟨_, vs.toArray, _, hk, rfl, rfl, rfl, by rw [List.size_toArray, hi.length]; exact hl, by simpa using rv⟩) fun b u z => ?_
    · try dsimp only at z
      by_cases n : b = T
      · exact Or.inl n
      · rw [if_neg n] at z
        cases z
    · try dsimp only at z
      by_cases n : b = T
      · rw [if_pos n] at z
        cases z
        rw [n]
        exact tab
      · rw [if_neg n] at z
        cases z
  | none =>
    refine go (fun b => if b = T then some (.tbl #[]) else if b = a then some (.frz { cls := .type "list", data := .seq vs.toArray } (.lst (ns.map V.int))) else none) (if_pos rfl) (fun b u z => ?_) (Or.inl (Or.inr ⟨_, (if_neg aT).trans (if_pos rfl)⟩)) fun b u z => ?_
    · try dsimp only at z
      by_cases n : b = T
      · exact Or.inl n
      · rw [if_neg n] at z
        by_cases n2 : b = a
        · rw [if_pos n2] at z
          cases z
          exact Or.inr ⟨n2, hk, _, _, rfl⟩
        · rw [if_neg n2] at z
          cases z
    · try dsimp only at z
      by_cases n : b = T
      · rw [if_pos n] at z
        cases z
        rw [n]
        exact tab
      · rw [if_neg n] at z
        by_cases n2 : b = a
        · rw [if_pos n2] at z
          cases z
          rw [n2]
          exact ⟨ha, hlen, vs, _, rv, ha⟩
        · rw [if_neg n2] at z
          cases z
end So

/-! set(xs) of a list or a tuple of ints, so that sorted can walk it. -/
namespace So
open PySem PySem.Spec PyProof.Rows L2
/-- a set just made -/
abbrev bareSet (w : World) : Obj := { cls := .type "set", dict := none, data := .set #[] 0 (.fresh 0 0 (!w.params.followText "set-order")) }
section
variable {P : Program} {w : World} {A : Around} {E : Value → Shared → Prop} {s : Shared}
/-- what set(..) hands back -/
abbrev GotSet (w : World) (ns : List Int) (s : Shared) (h' : Heap) (c : Nat) : Prop :=
  SetR w h' s.heap.objs.size (fun j => decide (j ∈ ns)) c ∧ c ≤ ns.length ∧ ∀ b o, s.heap.get? b = some o → h'.get? b = some o
theorem set_of_list {l : Addr} {its : Array Value} (ns : List Int) {Q : Value → Shared → Prop} (hh : A.handled = none) (hl : s.heap.IsList l its) (hit : IntsAre its.toList ns) (hb : ns.length + 1 < scanBound)
    (q : ∀ h' tk c, GotSet w ns s h' c → Q (.ref s.heap.objs.size) { s with heap := h', toks := tk }) : wpAny (model P w) A (call (.type "set") [.ref l]) Q E s := by
  have sz : its.size = ns.length := by
    have e := hit.length
    rwa [Array.length_toList] at e
  obtain ⟨c, tl, mro⟩ := F.called_set.mro
  have mde := F.called_set.made
  have sbt := F.called_set.sub
  refine wpAny_call (codeAny_of_tree ?_)
  show wpAny _ _ (callAny (.type "set") _) _ _ _
  refine wpAny_pure ⟨Code.quiet_builtin _ (by decide +kernel), codeAny_builtin F.entry_type_call ?_⟩
  rw [Around.under_plain (weight_type_call_type "set" [.ref l] []) rfl]
  have k1 := F.called_set.notType
  have k2 := F.called_set.canCreate
  have k3 := F.typeCall_set_1 (.ref l)
  repeat (any_goals (first | assumption | wp_step))
  refine codeAny_mono (code_set_led1 (.ref l) (E := E) (Q₁ := fun ob s1 => ob = .ref s.heap.objs.size ∧ s1 = { s with heap := s.heap.push (bareSet w) }) ⟨rfl, rfl⟩) fun r s1 hr => ?_
  match r, hr with
  | .error e, hr => exact hr
  | .ok .next, hr => exact hr.elim
  | .ok .brk, hr => exact hr.elim
  | .ok .cont, hr => exact hr.elim
  | .ok (.ret ob), hr =>
    obtain ⟨rfl, rfl⟩ := hr
    generalize hH : s.heap.push (bareSet w) = g0
    have at0 : g0.get? s.heap.objs.size = some (bareSet w) := by rw [← hH]; exact Heap.get?_push_size _ rfl
    have up0 : ∀ b o, s.heap.get? b = some o → g0.get? b = some o := fun b o e => by rw [← hH]; exact Heap.get?_push_of_some _ e
    have z0 : g0.objs.size = s.heap.objs.size + 1 := by rw [← hH]; exact Heap.size_push ..
    have tS : Shared.TypeIs { s with heap := g0 } (.ref s.heap.objs.size) "set" := ⟨_, at0, rfl⟩
    have i1 := F.called_set.init.lookup
    have i2 := F.called_set.init.bind (.ref s.heap.objs.size)
    repeat (any_goals (first | assumption | wp_step))
    refine codeAny_mono (codeAny_call_builtin (R := wants (fun r s2 => r = .none ∧ ∃ h' tk c, s2 = { s with heap := h', toks := tk } ∧ GotSet w ns s h' c) E) F.called_set.init.plain F.entry_set_init (check_set_init_1 tS ?_)) fun r2 s2 hr2 => ?_
    · obtain ⟨ob, ho, hc, nl, hd⟩ := hl
      obtain ⟨cc, dd, da, sl⟩ := ob
      simp only at hc hd
      subst hc
      subst hd
      have ho1 := up0 _ _ ho
      have n1 := F.sub_list_set
      have n2 := F.sub_list_frozenset
      have n3 : (Value.type "list" == Value.type "dict") = false := by decide
      have il : g0.IsList l its := ⟨_, ho1, rfl, nl, rfl⟩
      unfold Builtin.«set.__init__» noKeywords Builtin.Frozenset.updateFrom
      generalize hit' : pyIter = pI
      wp_walk
      subst hit'
      refine wpAny_pyIter_list il (wpAny_bind (wpAny_runValue ?_))
      have ll : l < s.heap.objs.size := Heap.lt_size ho
      have nI : l ≠ g0.objs.size := by
        rw [z0]
        exact Nat.ne_of_lt (Nat.lt_succ_of_lt ll)
      have nS : s.heap.objs.size ∉ [g0.objs.size, l] := by
        intro z
        rcases List.mem_cons.mp z with z | z
        · rw [z0] at z
          exact Nat.ne_of_lt (Nat.lt_succ_self _) z
        · exact Nat.ne_of_gt ll (List.mem_singleton.mp z)
      have vals : ∀ (i : Nat) (v : Value), its[i]? = some v → ∃ k t, ns[i]? = some k ∧ v = .int k t := fun i v hv => by
        have hi : i < ns.length := by rw [← sz]; exact (Array.getElem?_eq_some_iff.mp hv).1
        obtain ⟨t, e⟩ := hit.int_at i v (by rw [Array.getElem?_toList]; exact hv)
        exact ⟨ns[i], t, List.getElem?_eq_getElem hi, by rw [e, List.getD_eq_getElem?_getD, List.getElem?_eq_getElem hi]; rfl⟩
      refine set_update_ints ((Walks.list (by simp [hh]) _ l nI its).toS) s.heap.objs.size nS ns sz hb vals (its.size - 0) 0 _ (by omega) (Nat.zero_le _) ⟨⟨_, Heap.get?_push_size _ rfl, rfl, rfl⟩, il.push _⟩
        ⟨0, Nat.le_refl 0, setR_new_at (Heap.get?_push_of_some _ at0)⟩ fun s' c' hm hc' hS' => ?_
      obtain ⟨h', g2, d', tk', os'⟩ := s'
      have eg : g2 = s.gens := hm.gens
      have ed : d' = s.drawn := hm.drawn
      have eo : os' = s.os := hm.os
      subst eg ed eo
      rw [sz] at hc'
      refine wpAny_pure (wpAny_pure ⟨rfl, h', tk', c', rfl, hS', hc', fun b o e => ?_⟩)
      have hb0 : b < s.heap.objs.size := Heap.lt_size e
      refine hm.heap b o (fun z => ?_) (Heap.get?_push_of_some _ (up0 _ _ e))
      rcases List.mem_cons.mp z with z | z
      · exact Nat.ne_of_lt hb0 z
      · rw [List.mem_singleton.mp z, z0] at hb0
        exact Nat.lt_irrefl _ (Nat.lt_of_succ_lt hb0)
    · match r2, hr2 with
      | .error e, hr2 => exact hr2
      | .ok .next, hr2 => exact hr2.elim
      | .ok .brk, hr2 => exact hr2.elim
      | .ok .cont, hr2 => exact hr2.elim
      | .ok (.ret r), hr2 =>
        obtain ⟨rfl, h', tk, c', rfl, g⟩ := hr2
        repeat (any_goals (first | assumption | wp_step))
        exact q _ _ _ g
end
/-- set(xs): ints, fewer than 64 -/
def rSetI (K : PySem.W.Frag) (w : World) : List V → Hp → VK → Prop := fun xs H Q => ∃ (l : Addr) (ns : List Int), xs = [.ref l] ∧ (SqL K H l (ns.map V.int) ∨ SqT K H l (ns.map V.int)) ∧ ns.length < 64 ∧
  ∀ p c, H p = none → c ≤ ns.length → Q (.ref p) (upd H p (SetO w p (fun k => decide (k ∈ ns)) c))
section
variable {X : Cx}
theorem cr_setI (hc : X.calm = true) : CallR X (.type "set") (rSetI X.K X.w) := by
  intro pins s σ H xs us Q I r h
  obtain ⟨l, ns, rfl, hs, hl, q⟩ := h
  rw [Vals.ref1 r]
  have fin : ∀ (h' : Heap) (tk c : Nat), GotSet X.w ns s h' c → EP X pins σ Q (.ref s.heap.objs.size) { s with heap := h', toks := tk } := fun h' tk c ⟨g1, g2, g3⟩ =>
    ⟨.ref s.heap.objs.size, _, I.laid (t' := tk) g3 (Nat.le_refl _) (setO_new g1), rfl, q _ c (I.hok.fresh (Nat.le_refl _)) g2⟩
  have hb : ns.length + 1 < scanBound := by
    unfold scanBound
    omega
  rcases hs with hs | hs
  · obtain ⟨its, rv, pl, _⟩ := I.list hs
    exact set_of_list ns (I.ok.hd hc) pl.isList (by simpa using ints_of_vals rv) hb fin
  · obtain ⟨its, rv, pl, _⟩ := I.tuple hs
    exact call_set_tupI ns (I.ok.hd hc) pl (by simpa using ints_of_vals rv) hb fun h' tk c g1 g2 g3 => fin h' tk c ⟨g1, g2, g3⟩
/-- sorted(set(xs)) -/
theorem pairwise_ext : ∀ {xs ys : List Int}, xs.Pairwise (· < ·) → ys.Pairwise (· < ·) → (∀ k, k ∈ xs ↔ k ∈ ys) → xs = ys
  | [], [], _, _, _ => rfl
  | [], y :: ys, _, _, h => absurd ((h y).mpr List.mem_cons_self) (by simp)
  | x :: xs, [], _, _, h => absurd ((h x).mp List.mem_cons_self) (by simp)
  | x :: xs, y :: ys, hx, hy, h => by
    rw [List.pairwise_cons] at hx hy
    have e : x = y := by
      rcases List.mem_cons.mp ((h x).mp List.mem_cons_self) with e | e
      · exact e
      · rcases List.mem_cons.mp ((h y).mpr List.mem_cons_self) with e2 | e2
        · exact e2.symm
        · have a := hy.1 x e
          have b := hx.1 y e2
          omega
    subst e
    congr 1
    refine pairwise_ext hx.2 hy.2 fun k => ⟨fun hk => ?_, fun hk => ?_⟩
    · rcases List.mem_cons.mp ((h k).mp (List.mem_cons_of_mem _ hk)) with e | e
      · subst e
        exact absurd (hx.1 _ hk) (by omega)
      · exact e
    · rcases List.mem_cons.mp ((h k).mpr (List.mem_cons_of_mem _ hk)) with e | e
      · subst e
        exact absurd (hy.1 _ hk) (by omega)
      · exact e
end
end So

/-! own `in` and `not in`; min(xs, default=d); a walk over what is a list or a tuple -/
namespace So
open PySem PySem.Spec PyProof.Rows L2
section
variable {X : Cx} {CX : CXT} {k : Nat} {C f : Addr} {fd : FuncData} {ps : List Str} {sp : Sp} {E : XK}
/-- what x in o asks, o of an own class with __contains__; g: the answer as it is, or turned about -/
def rInO (C : Addr) (sp : Sp) (E : XK) (g : Bool → Bool) : R2 := fun x y H Q => ∃ a dx fs, y = .ref a ∧ H a = some (.ins C dx fs) ∧ sp [.ref a, x] H (fun v H' => ∃ b, v = .bl b ∧ Q (.bl (g b)) H') E
theorem op_inO (F : FnOk X.prog X.w X.K X.mg X.base CX k f fd ps sp) (hs : PySem.W.findIn X.K (.ref C) "__contains__" = some (some (.ref f))) (hf : PySem.W.isFn X.K (.ref f) = true) (hb : Binds X.K fd ps []) (hx : Passes CX X E) (hr : Room k X.A) :
    OpR X (compareOp .In) (rInO C sp E id) := by
  intro pins s σ H x y v u Q I rx ry h
  obtain ⟨a, dx, fs, rfl, ha, q⟩ := h
  cases ry
  obtain ⟨mA, J, _⟩ := ins_get I.hok ha
  obtain ⟨od, J, _⟩ := J.look
  obtain ⟨m, hF⟩ := I.fr
  refine PySem.W.in_K hF I.ok.mod.kin J hs hf (wpAny_mono (run_eq (dx := dx) (fs := fs) F hb hx hr rfl I rx q) (fun w s' z => ?_) fun _ _ z => z)
  obtain ⟨b, H', rfl, I', q'⟩ := z
  exact wpAny_truthy_bool ⟨.bl b, H', I', rfl, q'⟩
theorem op_notInO (F : FnOk X.prog X.w X.K X.mg X.base CX k f fd ps sp) (hs : PySem.W.findIn X.K (.ref C) "__contains__" = some (some (.ref f))) (hf : PySem.W.isFn X.K (.ref f) = true) (hb : Binds X.K fd ps []) (hx : Passes CX X E) (hr : Room k X.A) :
    OpR X (compareOp .NotIn) (rInO C sp E not) := by
  intro pins s σ H x y v u Q I rx ry h
  obtain ⟨a, dx, fs, rfl, ha, q⟩ := h
  cases ry
  obtain ⟨mA, J, _⟩ := ins_get I.hok ha
  obtain ⟨od, J, _⟩ := J.look
  obtain ⟨m, hF⟩ := I.fr
  refine PySem.W.notIn_K hF I.ok.mod.kin J hs hf (wpAny_mono (run_eq (dx := dx) (fs := fs) F hb hx hr rfl I rx q) (fun w s' z => ?_) fun _ _ z => z)
  obtain ⟨b, H', rfl, I', q'⟩ := z
  exact wpAny_truthy_bool ⟨.bl (!b), H', I', rfl, q'⟩
/-- a walk by one of two roads -/
theorem pi_or {tg e : Expr} {w1 w2 : TI} (h1 : PI X tg e w1) (h2 : PI X tg e w2) : PI X tg e (fun σ H R => w1 σ H R ∨ w2 σ H R) := by
  refine ⟨fun pins s σ H R I h => ?_⟩
  rcases h with h | h
  · exact h1.run pins s σ H R I h
  · exact h2.run pins s σ H R I h
end
end So
namespace So
open PySem PySem.Spec PyProof.Rows L2
theorem foldl_min : ∀ (ns : List Int) (n : Int), (ns.foldl min n ∈ n :: ns) ∧ (∀ z ∈ n :: ns, ns.foldl min n ≤ z)
  | [], n => ⟨List.mem_cons_self, fun z hz => by rw [List.mem_singleton.mp hz]; exact Int.le_refl _⟩
  | k :: r, n => by
    obtain ⟨h1, h2⟩ := foldl_min r (min n k)
    have e : min n k ≤ n ∧ min n k ≤ k ∧ (min n k = n ∨ min n k = k) := by omega
    refine ⟨?_, fun z hz => ?_⟩
    · rw [List.foldl_cons]
      rcases List.mem_cons.mp h1 with h | h
      · rw [h]
        rcases e.2.2 with q | q <;> rw [q] <;> simp
      · exact List.mem_cons_of_mem _ (List.mem_cons_of_mem _ h)
    · rw [List.foldl_cons]
      have h0 := h2 (min n k) List.mem_cons_self
      rcases List.mem_cons.mp hz with h | h
      · rw [h]
        omega
      · rcases List.mem_cons.mp h with h | h
        · rw [h]
          omega
        · exact h2 z (List.mem_cons_of_mem _ h)
theorem alike_ints (ns : List Int) : PySem.W.AlikeAll (ns.map PyData.int) := by
  refine ⟨fun x hx y hy => ?_, fun x hx => ?_⟩
  · obtain ⟨i, _, rfl⟩ := List.mem_map.mp hx
    obtain ⟨j, _, rfl⟩ := List.mem_map.mp hy
    rfl
  · obtain ⟨i, _, rfl⟩ := List.mem_map.mp hx
    intro h
    cases h
theorem depth_ints0 : ∀ ns : List Int, PyData.depthAll (ns.map PyData.int) = 0
  | [] => rfl
  | n :: r => by simp [PyData.depthAll, PyData.depth, depth_ints0 r]
section
variable {X : Cx}
theorem dpi {K : PySem.W.Frag} {H : Hp} : ∀ ns : List Int, DpAll K H (ns.map V.int) (ns.map PyData.int)
  | [] => .nil
  | n :: r => .cons (.int n) (dpi r)
/-- min(xs, default=d): ints -/
theorem pe_minDef {e d : Expr} {p pos kp : Pos} {ta td : TA} (hc : X.calm = true) (hu : X.A.units + 64 < cLine) (hg : Gl X "min") (hm : X.mg "min" = none) (ha : PA X [e] ta) (hk : PK X [⟨some "default", d, kp⟩] td)
    (he : backTo pos (starEach [e] X.env) = (false, eval e X.env) :: backTo pos (starEach [] X.env) := by rfl) (hpl : (backTo pos (starEach [e] X.env)).any (·.1) = false := by rfl)
    (hall : (backToKw pos (keywordEach [⟨some "default", d, kp⟩] X.env)).all (·.1.isSome) = true := by rfl) (hkw : (backToKw pos (keywordEach [⟨some "default", d, kp⟩] X.env)).any (·.1.isNone) = false := by rfl)
    (hks : (backToKw pos (keywordEach [⟨some "default", d, kp⟩] X.env)).filterMap (·.1) = [("default" : Str)] := by rfl) :
    PE X (.Call (.Name "min" p) [e] [⟨some "default", d, kp⟩] pos) (fun σ H Q => ta σ H fun xs H1 => td σ H1 fun ys H2 => ∃ l ns y, xs = [.ref l] ∧ ys = [y] ∧ SqL X.K H2 l (ns.map V.int) ∧ (ns = [] → Q y H2) ∧ (∀ m, m ∈ ns → (∀ z ∈ ns, m ≤ z) → Q (.int m) H2)) := by
  refine ⟨fun pins s σ H Q I h => ?_⟩
  refine wpAny_Call_Name_kw (ld_blt I hg hm (show bootBuiltins "min" = some (.builtin "min") by decide +kernel) (PyProof.Rows.callWith_kw (thn (ha.run pos pins s σ H _ I h) fun us s1 ⟨xs, H1, I1, r1, q1⟩ => ?_) he hpl hall hkw))
  refine thn (hk.run pos pins s1 σ H1 _ I1 q1) fun ws s2 ⟨ys, H2, I2, r2, l, ns, y, ex, ey, hs, q0, q1⟩ => ?_
  subst ex ey
  rw [Vals.ref1 r1, hks]
  obtain ⟨u, rfl, ru⟩ := vals1 r2
  obtain ⟨its, rv, hl, _⟩ := I2.list hs
  have hd : DpAll X.K H2 (ns.map V.int) (ns.map PyData.int) := dpi ns
  obtain ⟨as, rd⟩ := Dp.readsAll I2 (ns.map PyData.int) (ns.map V.int) its hd rv
  refine PySem.W.min_list_default (I2.ok.hd hc) hl.isList (by simpa using rd) (alike_ints ns) (by rw [depth_ints0]; omega) (fun e0 h' tk k => ?_) (fun z zs i v h' tk bs e0 hv rz k => ?_)
  · exact ⟨y, H2, I2.kept k, ru, q0 (List.map_eq_nil_iff.mp e0)⟩
  · obtain ⟨n, r, rfl⟩ : ∃ n r, ns = n :: r := by
      cases ns with
      | nil => cases e0
      | cons n r => exact ⟨n, r, rfl⟩
    rw [List.map_cons] at e0
    injection e0 with e1 e2
    subst e1 e2
    rw [PySem.W.minD_ints] at rz
    cases rz with
    | int _ t =>
      obtain ⟨m1, m2⟩ := foldl_min r n
      exact ⟨.int _, H2, I2.kept k, ⟨t, rfl⟩, q1 _ m1 m2⟩
end
end So

namespace K09
open PySem PySem.Spec PyProof.Rows L2 So
/-! ### the text -/
def topS (i : Nat) : Stmt := PySem.Challenge.pw_soundtill_k09_points_in_lives.main.body.getD i (.Pass ⟨0, 0, 0, 0⟩)
abbrev sPen : Stmt := topS 21
abbrev sDraw : Stmt := topS 22
abbrev sPick : Stmt := topS 23
theorem scPen : FnScope ["_law_script"] ["_law_script"] (defScope sPen) := ⟨rfl, rfl, rfl, by decide +kernel, rfl, by decide +kernel, by decide +kernel⟩
theorem scDraw : FnScope ["_law_pen_here", "_law_many", "_law_digit", "_law_at", "_law_cell", "_law_great", "_law_mixed"] ["_law_pen_here", "_law_many"] (defScope sDraw) := ⟨rfl, rfl, rfl, by decide +kernel, rfl, by decide +kernel, by decide +kernel⟩
theorem scPick : FnScope ["_law_pen_here", "_law_some"] ["_law_pen_here", "_law_some"] (defScope sPick) := ⟨rfl, rfl, rfl, by decide +kernel, rfl, by decide +kernel, by decide +kernel⟩

/-! ### the pen -/
/-- the pen at p: the cells at l, how many were begun, what is left of a great one -/
structure Pen (H : Hp) (p l : Addr) (ns : List Int) (n : Nat) (g : Int) : Prop where
  pen : H p = some (.lst [.ref l, .int n, .int g])
  cells : H l = some (.lst (ns.map V.int))
  left : 0 ≤ g
/-- all that was tracked beside p is as it was -/
def Off (p : Addr) (H H' : Hp) : Prop := ∀ b o, b ≠ p → H b = some o → H' b = some o
theorem Off.refl {p : Addr} {H : Hp} : Off p H H := fun _ _ _ e => e
theorem Off.trans {p : Addr} {H H1 H2 : Hp} (a : Off p H H1) (b : Off p H1 H2) : Off p H H2 := fun c o n e => b c o n (a c o n e)
theorem Off.upd {p : Addr} {H H1 : Hp} {o : HO} (a : Off p H H1) : Off p H (upd H1 p o) := fun c u n e => by
  rw [upd_ne n]
  exact a c u n e
theorem Off.new {p q : Addr} {H H1 : Hp} {o : HO} (a : Off p H H1) (h : H1 q = none) : Off p H (L2.upd H1 q o) := fun c u n e => by
  have e1 := a c u n e
  rw [upd_ne (ne_of_none e1 h)]
  exact e1
theorem dp_ints {K : PySem.W.Frag} {H : Hp} : ∀ ns : List Int, DpAll K H (ns.map V.int) (ns.map PyData.int)
  | [] => .nil
  | n :: r => .cons (.int n) (dp_ints r)
theorem depth_ints : ∀ ns : List Int, PyData.depthAll (ns.map PyData.int) ≤ 1
  | [] => by simp [PyData.depthAll]
  | n :: r => by
    have h := depth_ints r
    simp only [List.map_cons, PyData.depthAll, PyData.depth]
    omega
theorem shaped_ints (ns : List Int) : SeqAt.shaped (.list (ns.map PyData.int)) = true := by
  unfold SeqAt.shaped
  rw [Bool.and_eq_true]
  have hd := depth_ints ns
  refine ⟨?_, decide_eq_true ?_⟩
  · show PyData.canLay0 _ = true
    simp only [PyData.canLay0]
    induction ns with
    | nil => rfl
    | cons a r ih => simpa [PyData.canLayAll0, PyData.canLay0] using ih (depth_ints r)
  · simp only [PyData.depth]
    omega
theorem Pen.apart {H : Hp} {p l : Addr} {ns : List Int} {n : Nat} {g : Int} (h : Pen H p l ns n g) : l ≠ p := by
  refine ne_of h.cells h.pen (fun z => ?_)
  injection z with z
  cases ns with
  | nil => cases z
  | cons a r => cases z
theorem eqv_nil (ds : List PyData) : PyData.eqv (.list ds) (.list []) = ds.isEmpty := by
  cases ds <;> simp [PyData.eqv, PyData.eqvAll]
section
variable {P : Program} {w : World} {K : PySem.W.Frag} {mg : Str → Option Value} {base : Heap}
def spDraw : Sp := fun vs H Q _ => ∃ (p l : Addr) (ns : List Int) (n : Nat) (g many : Int), vs = [.ref p, .int many] ∧ Pen H p l ns n g ∧ n < 1000000 ∧ 0 < many ∧ many.natAbs < 2 ^ 200 ∧
  ∀ (d : Int) (n' : Nat) (g' : Int) (H' : Hp), 0 ≤ d → d < many → n' ≤ n + 1 → Off p H H' → Pen H' p l ns n' g' → Q (.int d) H'
theorem ok_draw {f : Addr} {fd : FuncData} (F : Fun K "_law_draw" "_law_draw" sDraw f fd) (ml : mg "len" = none) (mi : mg "int" = none) (ma : mg "abs" = none) : FnOk P w K mg base CX0 1 f fd ["_law_pen_here", "_law_many"] spDraw := by
  refine F.ok scDraw (fun vs H Q E h => ?_) (fun cdv A outer s H vs Q E hr h => ?_)
  · obtain ⟨p, l, ns, n, g, many, rfl, _⟩ := h
    rfl
  · obtain ⟨p, l, ns, n, g, many, rfl, hp, hn, hm, hm2, q⟩ := h
    refine ⟨_, pss_cons (ps_if (pt_cmpR op_gt (pe_ix ix_list (pv 0) pe_int (fun _ _ => rfl)) pe_int (nomark _))
        (pss_cons (ps_set (i := 2) scDraw.nd rfl (.inl rfl) (pe_op op_mod (pe_callTy call_int1 (by rfl) mi (by decide +kernel) (pa_cons (pe_ix ix_list (pv 0) pe_int (fun _ _ => rfl)) pa_nil)) (pv 1)))
        (pss_cons (ps_asg (pe_op op_fdivW (pe_callTy call_int1 (by rfl) mi (by decide +kernel) (pa_cons (pe_ix ix_list (pv 0) pe_int (fun _ _ => rfl)) pa_nil)) (pv 1)) (pg_sub (pv 0) pe_int set_list))
        (pss_one (ps_ret (pv 2))))) pss_nil)
      (pss_cons (ps_set (i := 3) scDraw.nd rfl (.inl rfl) (pe_ix ix_list (pv 0) pe_int (fun _ _ => rfl)))
      (pss_cons (ps_asg (pe_op op_add (pv 3) pe_int) (pg_sub (pv 0) pe_int set_list))
      (pss_cons (ps_set (i := 4) scDraw.nd rfl (.inl rfl) (pe_op op_add (pe_op op_mul pe_int (pv 3)) pe_int))
      (C8.pss_cut (ps_if (pt_cmpR (op_neD (by have := hr.units; exact this)) (pe_ix ix_list (pv 0) pe_int (fun _ _ => rfl)) (pe_lst pa_nil) (nomark _))
        (pss_one (ps_set (i := 4) scDraw.nd rfl (.inl rfl) (pe_ix ix_list (pe_ix ix_list (pv 0) pe_int (fun _ _ => rfl)) (pe_op op_mod (pe_callTy call_int1 (by rfl) mi (by decide +kernel) (pa_cons (pv 3) pa_nil)) (pe_callB call_len_seq (by rfl) ml PySem.boot_len (pa_cons (pe_ix ix_list (pv 0) pe_int (fun _ _ => rfl)) pa_nil))) (fun _ _ => rfl)))) pss_nil)
      (pss_cons (ps_if (PW.pt (pw_and (pt_cmpR op_lt (pv 3) (pe_callB call_len_seq (by rfl) ml PySem.boot_len (pa_cons (pe_ix ix_list (pv 0) pe_int (fun _ _ => rfl)) pa_nil)) (nomark _))
            (pw_and1 (pt_cmpR op_ge (pe_callB call_abs (by rfl) ma (by decide +kernel) (pa_cons (pv 4) pa_nil)) (pe_op op_pow pe_int pe_int) (nomark _)))))
        (pss_cons (ps_set (i := 5) scDraw.nd rfl (.inl rfl) (pe_op op_add (pe_op op_mul pe_int (pe_op op_sub (pe_callB call_abs (by rfl) ma (by decide +kernel) (pa_cons (pv 4) pa_nil)) (pe_op op_pow pe_int pe_int)))
            (pe_callTy call_int1 (by rfl) mi (by decide +kernel) (pa_cons (pe_cmpR op_lt (pv 4) pe_int (nomark _)) pa_nil))))
        (pss_cons (ps_asg (pe_op op_fdivW (pe_callTy call_int1 (by rfl) mi (by decide +kernel) (pa_cons (pv 5) pa_nil)) (pv 1)) (pg_sub (pv 0) pe_int set_list))
        (pss_one (ps_ret (pe_op op_mod (pe_callTy call_int1 (by rfl) mi (by decide +kernel) (pa_cons (pv 5) pa_nil)) (pv 1)))))) pss_nil)
      (pss_cons (ps_set (i := 6) scDraw.nd rfl (.inl rfl) (pe_op op_mod (pe_callTy call_int1 (by rfl) mi (by decide +kernel) (pa_cons
          (pe_op op_pow (pe_op op_add (pe_op op_add (pe_op op_mod (pe_callTy call_int1 (by rfl) mi (by decide +kernel) (pa_cons (pv 4) pa_nil)) pe_int) (pe_op op_mul pe_int (pv 3))) pe_int) pe_int) pa_nil)) pe_int))
      (pss_cons (ps_set (i := 6) scDraw.nd rfl (.inl rfl) (pe_op op_mod (pe_callTy call_int1 (by rfl) mi (by decide +kernel) (pa_cons
          (pe_op op_pow (pe_op op_add (pe_op op_add (pe_op op_mul (pv 6) (pe_op op_add (pe_op op_mul pe_int (pv 3)) pe_int)) (pe_op op_mul (pe_op op_mul pe_int (pv 3)) (pv 3))) pe_int) pe_int) pa_nil)) pe_int))
      (pss_one (ps_ret (pe_op op_mod (pe_callTy call_int1 (by rfl) mi (by decide +kernel) (pa_cons (pe_op op_fdiv (pv 6) pe_int) pa_nil)) (pv 1))))))))))), ?_⟩
    have hP : SqL K H p [.ref l, .int n, .int g] := SqL.of hp.pen
    refine ⟨_, rfl, p, _, 2, _, rfl, rfl, hP, atI_nat (j := 2) rfl, _, _, rfl, rfl, _, rfl, ite2 (fun e => ?_) (fun e => ?_)⟩
    · refine ⟨_, rfl, p, _, 2, _, rfl, rfl, hP, atI_nat (j := 2) rfl, .inl ⟨_, rfl, _, rfl, _, _, rfl, rfl, hm, ?_⟩⟩
      refine ⟨_, rfl, p, _, 2, _, rfl, rfl, hP, atI_nat (j := 2) rfl, .inl ⟨_, rfl, _, rfl, _, _, rfl, rfl, wide_div hm hm2 (by decide) (by decide), _, rfl, p, _, 2, 2, rfl, rfl, hp.pen, rfl, ?_⟩⟩
      refine ⟨_, rfl, q _ n (g / many) _ (Int.emod_nonneg _ (Int.ne_of_gt hm)) (Int.emod_lt_of_pos _ hm) (by omega) Off.refl.upd ⟨upd_same, (upd_ne hp.apart).trans hp.cells, Int.ediv_nonneg hp.left (Int.le_of_lt hm)⟩⟩
    · refine ⟨_, rfl, p, _, 1, _, rfl, rfl, hP, atI_nat (j := 1) rfl, ?_⟩
      refine ⟨_, rfl, _, _, rfl, rfl, _, rfl, p, _, 1, 1, rfl, rfl, hp.pen, rfl, ?_⟩
      have hP1 : (upd H p (.lst [.ref l, .int (n + 1), .int g])) p = some (.lst [.ref l, .int (n + 1), .int g]) := upd_same
      have hL1 : (upd H p (.lst [.ref l, .int (n + 1), .int g])) l = some (.lst (ns.map V.int)) := (upd_ne hp.apart).trans hp.cells
      have hO1 : Off p H (upd H p (.lst [.ref l, .int (n + 1), .int g])) := Off.refl.upd
      refine ⟨_, rfl, _, _, rfl, rfl, .inl ⟨by decide, by decide⟩, _, _, rfl, rfl, ?_⟩
      refine ⟨fun σ' H2 => ∃ c : Int, σ' = [some (.ref p), some (.int many), none, some (.int n), some (.int c), none, none] ∧ H2 p = some (.lst [.ref l, .int (n + 1), .int g]) ∧ H2 l = some (.lst (ns.map V.int)) ∧ Off p H H2, ?_, ?_⟩
      · refine ⟨_, rfl, p, _, 0, _, rfl, rfl, SqL.of hP1, atI_nat (j := 0) rfl, Nat.zero_le _, fun z hz => ?_⟩
        have hP2 := (upd_ne (o := .lst []) (ne_of_none hP1 hz)).trans hP1
        have hL2 := (upd_ne (o := .lst []) (ne_of_none hL1 hz)).trans hL1
        refine ⟨.list (ns.map PyData.int), .list [], .lst (SqL.of hL2) (dp_ints ns), .lst (SqL.of upd_same) .nil, shaped_ints ns, by decide, _, rfl, ite2 (fun e1 => ?_) (fun e1 => ?_)⟩
        · rw [eqv_nil] at e1
          have hlen : 0 < ns.length := by
            cases ns with
            | nil => cases e1
            | cons a r => exact Nat.succ_pos _
          have hlt : n % ns.length < ns.length := Nat.mod_lt _ hlen
          refine ⟨_, rfl, p, _, 0, _, rfl, rfl, SqL.of hP2, atI_nat (j := 0) rfl, _, rfl, .inl ⟨_, rfl, _, rfl, p, _, 0, _, rfl, rfl, SqL.of hP2, atI_nat (j := 0) rfl, l, _, rfl, .inl (SqL.of hL2), _, _, rfl, rfl, (by rw [List.length_map]; omega), l, _, _, .int ns[n % ns.length], rfl, rfl, SqL.of hL2, ?_, ?_⟩⟩
          · have e2 : ((n : Int) % (((ns.map V.int).length : Nat) : Int)) = ((n % ns.length : Nat) : Int) := by
              rw [List.length_map]
              exact (Int.natCast_emod n ns.length).symm
            rw [e2]
            refine atI_nat ?_
            rw [List.getElem?_map, List.getElem?_eq_getElem hlt]
            rfl
          · exact ⟨_, rfl, hP2, hL2, hO1.new hz⟩
        · exact ⟨_, rfl, hP2, hL2, hO1.new hz⟩
      · rintro σ' H2 ⟨c, rfl, hP2, hL2, hO2⟩
        have hmix : ∀ t : Int, 0 ≤ t % many ∧ t % many < many := fun t => ⟨Int.emod_nonneg _ (Int.ne_of_gt hm), Int.emod_lt_of_pos _ hm⟩
        have bm : ∀ Y : Int, 0 ≤ Y % 2147483587 ∧ Y % 2147483587 < 2147483587 := fun Y => ⟨Int.emod_nonneg _ (by decide), Int.emod_lt_of_pos _ (by decide)⟩
        have bd : ∀ Y : Int, -(2 ^ 64) < Y % 2147483587 ∧ Y % 2147483587 < 2 ^ 64 := fun Y => by
          have := bm Y
          omega
        have key : ∀ Y : Int, ((Y % 2147483587) * (2 * (n : Int) + 47) + 53299 * (n : Int) * (n : Int) + 29).natAbs < 2 ^ 64 := by
          intro Y
          have b2 := bm Y
          revert b2
          generalize Y % 2147483587 = m1
          intro b2
          have b3 : 0 ≤ m1 * (2 * (n : Int) + 47) ∧ m1 * (2 * (n : Int) + 47) ≤ 2147483587 * 2000047 := ⟨Int.mul_nonneg b2.1 (by omega), Int.mul_le_mul (by omega) (by omega) (by omega) (by decide)⟩
          have b4 : 0 ≤ 53299 * (n : Int) * (n : Int) ∧ 53299 * (n : Int) * (n : Int) ≤ (53299 * 1000000) * 1000000 := ⟨Int.mul_nonneg (by omega) (by omega), Int.mul_le_mul (by omega) (by omega) (by omega) (by decide)⟩
          omega
        refine ⟨_, rfl, _, rfl, p, _, 0, _, rfl, rfl, SqL.of hP2, atI_nat (j := 0) rfl, l, _, rfl, .inl (SqL.of hL2), _, _, rfl, rfl, _, rfl, ite2 (fun e1 => ⟨_, rfl, _, rfl, _, _, rfl, rfl, ⟨by decide, by decide, by decide⟩, _, _, rfl, rfl, _, rfl, ite2 (fun e2 => ?great) (fun e2 => ?late)⟩) (fun e1 => ?small)⟩
        case great =>
          have e3 : (10 : Int) ^ (18 : Int).toNat ≤ (if c < 0 then -c else c) := of_decide_eq_true e2
          refine ⟨_, rfl, _, rfl, _, _, rfl, rfl, ⟨by decide, by decide, by decide⟩, _, _, rfl, rfl, _, _, rfl, rfl, .inl ⟨by decide, by decide⟩, _, rfl, _, _, rfl, rfl, .inr ⟨_, rfl, _, _, rfl, rfl, ?_⟩⟩
          have hG : ∀ k : Bool, 0 ≤ 2 * ((if c < 0 then -c else c) - (10 : Int) ^ (18 : Int).toNat) + (if k = true then (1 : Int) else 0) := by
            intro k
            have : (0 : Int) ≤ (if k = true then (1 : Int) else 0) := by cases k <;> decide
            omega
          have hG1 := hG (decide (c < 0))
          refine ⟨_, rfl, .inl ⟨_, rfl, _, rfl, _, _, rfl, rfl, wide_div hm hm2 (by decide) (by decide), _, rfl, p, _, 2, 2, rfl, rfl, hP2, rfl, ?_⟩⟩
          exact ⟨_, rfl, .inl ⟨_, rfl, _, rfl, _, _, rfl, rfl, hm, q _ (n + 1) _ _ (hmix _).1 (hmix _).2 (Nat.le_refl _) hO2.upd ⟨upd_same, (upd_ne (Pen.apart ⟨hP2, hL2, hp.left⟩)).trans hL2, Int.ediv_nonneg hG1 (Int.le_of_lt hm)⟩⟩⟩
        all_goals
          have b1 : 0 ≤ c % 2147483549 ∧ c % 2147483549 < 2147483549 := ⟨Int.emod_nonneg _ (by decide), Int.emod_lt_of_pos _ (by decide)⟩
          refine ⟨_, rfl, .inl ⟨_, rfl, _, _, rfl, rfl, (by decide : (0 : Int) < 2147483549), _, rfl, _, _, rfl, rfl, .inl ⟨by decide, by decide⟩, _, _, rfl, rfl, _, _, rfl, rfl, _, _, rfl, rfl, ⟨by decide, by decide, ?_⟩, .inl ⟨_, rfl, _, _, rfl, rfl, (by decide : (0 : Int) < 2147483587), ?_⟩⟩⟩
          · omega
          refine ⟨_, rfl, _, rfl, _, _, rfl, rfl, .inl ⟨by decide, by decide⟩, _, _, rfl, rfl, _, _, rfl, rfl, .inl (bd _), _, rfl, _, _, rfl, rfl, .inl ⟨by decide, by decide⟩, _, rfl, _, _, rfl, rfl, .inr ⟨?_, ?_⟩, _, _, rfl, rfl, _, _, rfl, rfl, _, _, rfl, rfl, ⟨by decide, by decide, key _⟩, .inl ⟨_, rfl, _, _, rfl, rfl, (by decide : (0 : Int) < 2147483629), ?_⟩⟩
          · omega
          · omega
          exact ⟨_, rfl, _, _, rfl, rfl, ⟨by decide, by decide⟩, .inl ⟨_, rfl, _, rfl, _, _, rfl, rfl, hm, q _ (n + 1) g H2 (hmix _).1 (hmix _).2 (Nat.le_refl _) hO2 ⟨hP2, hL2, hp.left⟩⟩⟩


/-- one of a list's things, one of a text's signs -/
def spPick (K : PySem.W.Frag) : Sp := fun vs H Q _ => ∃ (p l : Addr) (ns : List Int) (n : Nat) (g : Int) (y : V), vs = [.ref p, y] ∧ Pen H p l ns n g ∧ n < 1000000 ∧
  ((∃ (q : Addr) (xs : List V), y = .ref q ∧ q ≠ p ∧ H q = some (.lst xs) ∧ 0 < xs.length ∧ xs.length ≤ 1000 ∧
    ∀ (v : V) (n' : Nat) (g' : Int) (H' : Hp), v ∈ xs → n' ≤ n + 1 → Off p H H' → Pen H' p l ns n' g' → Q v H') ∨
   (∃ z : Str, y = .str z ∧ 0 < z.length ∧ z.length ≤ 1000 ∧
    ∀ (c : Nat) (n' : Nat) (g' : Int) (H' : Hp), c ∈ z.cps.toList → n' ≤ n + 1 → Off p H H' → Pen H' p l ns n' g' → Q (.str (⟨#[c]⟩)) H'))
theorem ok_pick {f fD : Addr} {fd fdD : FuncData} (F : Fun K "_law_pick" "_law_pick" sPick f fd) (ml : mg "len" = none) (FD : Fun K "_law_draw" "_law_draw" sDraw fD fdD) (bD : Binds K fdD ["_law_pen_here", "_law_many"] []) (gD : mg "_law_draw" = some (.ref fD))
    (GD : FnOk P w K mg base CX0 1 fD fdD ["_law_pen_here", "_law_many"] spDraw) : FnOk P w K mg base CX0 2 f fd ["_law_pen_here", "_law_some"] (spPick K) := by
  refine F.ok scPick (fun vs H Q E h => ?_) (fun cdv A outer s H vs Q E hr h => ?_)
  · obtain ⟨p, l, ns, n, g, y, rfl, _⟩ := h
    rfl
  · obtain ⟨p, l, ns, n, g, y, rfl, hp, hn, k⟩ := h
    refine ⟨_, pss_one (ps_ret (pe_ix (ix_list.or ix_str) (pv 1) (pe_call GD hr (by rfl) gD FD.kp bD .nil pass0 (pa_cons (pv 0) (pa_cons (pe_callB (So.CallR.or call_len_seq call_len_str) (by rfl) ml PySem.boot_len (pa_cons (pv 1) pa_nil)) pa_nil))) (fun _ _ => rfl))), ?_⟩
    rcases k with ⟨q, xs, rfl, hne, hq, h0, h1, k⟩ | ⟨z, rfl, h0, h1, k⟩
    · refine ⟨_, rfl, _, rfl, _, rfl, .inl ⟨q, _, rfl, .inl (SqL.of hq), p, l, ns, n, g, _, rfl, hp, hn, by omega, ?_, ?_⟩⟩
      · have : ((xs.length : Nat) : Int).natAbs = xs.length := Int.natAbs_natCast _
        rw [this]
        exact Nat.lt_of_le_of_lt h1 (by decide)
      · intro d n' g' H' d0 d1 hn' off pen
        obtain ⟨j, rfl⟩ : ∃ j : Nat, d = j := ⟨d.toNat, by omega⟩
        have hlt : j < xs.length := by omega
        exact .inl ⟨q, xs, j, xs[j], rfl, rfl, SqL.of (off q _ hne hq), atI_nat (List.getElem?_eq_getElem hlt), k _ n' g' H' (List.getElem_mem hlt) hn' off pen⟩
    · refine ⟨_, rfl, _, rfl, _, rfl, .inr ⟨z, rfl, Nat.le_trans h1 (by decide), p, l, ns, n, g, _, rfl, hp, hn, by omega, ?_, ?_⟩⟩
      · have : ((z.length : Nat) : Int).natAbs = z.length := Int.natAbs_natCast _
        rw [this]
        exact Nat.lt_of_le_of_lt h1 (by decide)
      · intro d n' g' H' d0 d1 hn' off pen
        obtain ⟨j, rfl⟩ : ∃ j : Nat, d = j := ⟨d.toNat, by omega⟩
        have hz : z.length = z.cps.toList.length := Array.length_toList.symm
        have hlt : j < z.cps.toList.length := by omega
        exact .inr ⟨z, j, z.cps.toList[j], rfl, rfl, Nat.le_trans h1 (by decide), atI_nat (List.getElem?_eq_getElem hlt), k _ n' g' H' (List.getElem_mem hlt) hn' off pen⟩
theorem Pen.new {H : Hp} {p l q : Addr} {ns : List Int} {n : Nat} {g : Int} {o : HO} (h : Pen H p l ns n g) (hq : H q = none) : Pen (upd H q o) p l ns n g :=
  ⟨(upd_ne (ne_of_none h.pen hq)).trans h.pen, (upd_ne (ne_of_none h.cells hq)).trans h.cells, h.left⟩
end
end K09

namespace K09
open PySem PySem.Spec PyProof.Rows L2 So
abbrev sWhole : Stmt := topS 13
abbrev sMoment : Stmt := topS 14
abbrev sName : Stmt := topS 15
abbrev sCheck : Stmt := topS 16
theorem scWhole : FnScope ["value"] ["value"] (defScope sWhole) := ⟨rfl, rfl, rfl, by decide +kernel, rfl, by decide +kernel, by decide +kernel⟩
theorem scMoment : FnScope ["value"] ["value"] (defScope sMoment) := ⟨rfl, rfl, rfl, by decide +kernel, rfl, by decide +kernel, by decide +kernel⟩
theorem scName : FnScope ["value", "sign"] ["value"] (defScope sName) := ⟨rfl, rfl, rfl, by decide +kernel, rfl, by decide +kernel, by decide +kernel⟩
theorem scCheck : FnScope ["value", "form"] ["value", "form"] (defScope sCheck) := ⟨rfl, rfl, rfl, by decide +kernel, rfl, by decide +kernel, by decide +kernel⟩
/-! ### what a name is -/
def letters : Str := "abcdefghijklmnopqrstuvwxyz"
def digits : Str := "0123456789"
def noNames : List Str := ["begun", "setby", "found", "trusted", "passed", "failed", "agreed", "differed", "served", "backed", "sound", "unsound", "sure", "never", "open", "none", "record", "lot", "menu", "wanted"]
def isAln (c : Nat) : Bool := decide (c ∈ (letters ++ digits).cps.toList)
def isName (z : Str) : Bool := decide (1 ≤ z.length) && decide (z.length ≤ 8) && !(noNames.contains z) && decide (z.cps.toList.headD 0 ∈ letters.cps.toList) && z.cps.toList.all isAln
/-- the module's names that the words of the package read -/
structure Words (K : PySem.W.Frag) (mg : Str → Option Value) : Prop where
  greatest : ∃ t, mg "GREATEST" = some (.int 1000000000000000000000000000000 t)
  longest : ∃ t, mg "LONGEST_NAME" = some (.int 8 t)
  letters : ∃ t, mg "LETTERS" = some (.str letters t)
  digits : ∃ t, mg "DIGITS" = some (.str digits t)
  noNames : ∃ a, mg "NO_NAMES" = some (.ref a) ∧ ∀ H : Hp, SqT K H a (noNames.map V.str)
  isi : mg "isinstance" = none
  int : mg "int" = none
  bool : mg "bool" = none
  str : mg "str" = none
  len : mg "len" = none
  all : mg "all" = none
section
variable {P : Program} {w : World} {K : PySem.W.Frag} {mg : Str → Option Value} {base : Heap}
theorem kit_int_int : PySem.W.kitOne K (.type "int") (.type "int") = some true := kit_ty (by decide +kernel)
theorem kit_int_bool : PySem.W.kitOne K (.type "int") (.type "bool") = some false := kit_ty (by decide +kernel)
theorem kit_str_str : PySem.W.kitOne K (.type "str") (.type "str") = some true := kit_ty (by decide +kernel)
theorem kit_bool_bool : PySem.W.kitOne K (.type "bool") (.type "bool") = some true := kit_ty (by decide +kernel)

/-- the values that the law draws: what each is, by its type's name -/
inductive Gv (H : Hp) : V → String → Prop where
  | non : Gv H .non "NoneType"
  | bl (b : Bool) : Gv H (.bl b) "bool"
  | int (i : Int) : Gv H (.int i) "int"
  | str (z : Str) (h : z.length ≤ 2000) : Gv H (.str z) "str"
  | lst {a : Addr} {xs : List V} (e : H a = some (.lst xs)) : Gv H (.ref a) "list"
  | tup {a : Addr} {xs : List V} (e : H a = some (.tup xs)) : Gv H (.ref a) "tuple"
  | dK {a : Addr} {kvs : List (Key × V)} (e : H a = some (.dK kvs)) : Gv H (.ref a) "dict"
theorem Gv.ty {H : Hp} {v : V} {T : String} (h : Gv H v T) : TyX K H v (.type T) := by
  cases h with
  | non => exact .base .non
  | bl b => exact .base (.bl b)
  | int i => exact .base (.int i)
  | str z h => exact .base (.str z)
  | lst e => exact .base (.lst e)
  | tup e => exact .base (.tup e)
  | dK e => exact .base (.dK e)
theorem Gv.same {H H' : Hp} {v : V} {T : String} (h : Gv H v T) (s : Same H H') : Gv H' v T := by
  cases h with
  | non => exact .non
  | bl b => exact .bl b
  | int i => exact .int i
  | str z h => exact .str z h
  | lst e => exact .lst (s _ _ e)
  | tup e => exact .tup (s _ _ e)
  | dK e => exact .dK (s _ _ e)
theorem Gv.off {H H' : Hp} {v : V} {T : String} {p : Addr} (h : Gv H v T) (n : v ≠ .ref p) (s : Off p H H') : Gv H' v T := by
  cases h with
  | non => exact .non
  | bl b => exact .bl b
  | int i => exact .int i
  | str z h => exact .str z h
  | lst e => exact .lst (s _ _ (fun z => n (by rw [z])) e)
  | tup e => exact .tup (s _ _ (fun z => n (by rw [z])) e)
  | dK e => exact .dK (s _ _ (fun z => n (by rw [z])) e)
def gInt : V → Bool
  | .int _ => true
  | _ => false
def gMom : V → Bool
  | .int i => decide (0 ≤ i ∧ i ≤ 1000000000000000000000000000000)
  | _ => false
def gNam : V → Bool
  | .str z => isName z
  | _ => false
def gTru : V → Bool
  | .bl _ => true
  | _ => false
/-- what isinstance says of such a value and a built-in type -/
theorem Gv.kit {H : Hp} {v : V} {T : String} (h : Gv H v T) (c : String) (hc : c = "int" ∨ c = "bool" ∨ c = "str") : PySem.W.kitOne K (.type T) (.type c) = some (decide (T = c ∨ (T = "bool" ∧ c = "int"))) := by
  rcases hc with rfl | rfl | rfl <;> cases h <;> exact kit_ty (by decide +kernel)
/-- is_whole -/
def spWhole : Sp := fun vs H Q _ => ∃ (v : V) (T : String), vs = [v] ∧ Gv H v T ∧ Q (.bl (gInt v)) H
theorem ok_whole {f : Addr} {fd : FuncData} (F : Fun K "is_whole" "is_whole" sWhole f fd) (W : Words K mg) : FnOk P w K mg base CX0 1 f fd ["value"] spWhole := by
  refine F.ok scWhole (fun vs H Q E h => ?_) (fun cdv A outer s H vs Q E hr h => ?_)
  · obtain ⟨v, T, rfl, _⟩ := h
    rfl
  · obtain ⟨v, T, rfl, hv, q⟩ := h
    refine ⟨_, pss_one (ps_ret (pe_and (pe_callB call_isi (by rfl) W.isi (by decide +kernel) (pa_cons (pv 0) (pa_cons (pe_bltn (v := .ty "int") (by rfl) W.int (by decide +kernel) rfl) pa_nil)))
      (pe_one (pe_not (pe_callB call_isi (by rfl) W.isi (by decide +kernel) (pa_cons (pv 0) (pa_cons (pe_bltn (v := .ty "bool") (by rfl) W.bool (by decide +kernel) rfl) pa_nil))))))), ?_⟩
    refine ⟨_, rfl, _, _, _, _, _, rfl, .ty "int", hv.ty, hv.kit "int" (.inl rfl), _, rfl, ?_⟩
    cases hv with
    | int i =>
      refine iteT ?_
      exact ⟨_, rfl, _, _, _, _, false, rfl, .ty "bool", .base (.int i), kit_int_bool, _, rfl, q⟩
    | bl b =>
      refine iteT ?_
      exact ⟨_, rfl, _, _, _, _, true, rfl, .ty "bool", .base (.bl b), kit_bool_bool, _, rfl, q⟩
    | non => exact iteF q
    | str z h => exact iteF q
    | lst e => exact iteF q
    | tup e => exact iteF q
    | dK e => exact iteF q
/-- is_moment -/
def spMoment : Sp := fun vs H Q _ => ∃ (v : V) (T : String), vs = [v] ∧ Gv H v T ∧ Q (.bl (gMom v)) H
theorem ok_moment {f fW : Addr} {fd fdW : FuncData} (F : Fun K "is_moment" "is_moment" sMoment f fd) (W : Words K mg) (FW : Fun K "is_whole" "is_whole" sWhole fW fdW) (bW : Binds K fdW ["value"] []) (gW : mg "is_whole" = some (.ref fW)) :
    FnOk P w K mg base CX0 2 f fd ["value"] spMoment := by
  have GW : FnOk P w K mg base CX0 1 fW fdW ["value"] spWhole := ok_whole FW W
  refine F.ok scMoment (fun vs H Q E h => ?_) (fun cdv A outer s H vs Q E hr h => ?_)
  · obtain ⟨v, T, rfl, _⟩ := h
    rfl
  · obtain ⟨v, T, rfl, hv, q⟩ := h
    obtain ⟨tG, hG⟩ := W.greatest
    refine ⟨_, pss_one (ps_ret (pe_and (pe_call GW hr (by rfl) gW FW.kp bW .nil pass0 (pa_cons (pv 0) pa_nil)) (pe_one (pe_chain op_le op_le pe_int (pv 0) (pe_glob (v := .int 1000000000000000000000000000000) rfl hG ⟨_, rfl⟩))))), ?_⟩
    refine ⟨_, rfl, v, T, rfl, hv, gInt v, rfl, ?_⟩
    cases hv with
    | int i =>
      refine iteT ?_
      refine ⟨_, rfl, _, _, rfl, rfl, _, rfl, ite2 (fun e => ?_) (fun e => ?_)⟩
      · have e' : 0 ≤ i := of_decide_eq_true e
        refine ⟨_, _, rfl, rfl, ?_⟩
        have : gMom (.int i) = decide (i ≤ 1000000000000000000000000000000) := by simp [gMom, e']
        rw [this] at q
        exact q
      · have e' : ¬ 0 ≤ i := fun z => e (decide_eq_true z)
        have : gMom (.int i) = false := by simp [gMom, e']
        rw [this] at q
        exact q
    | bl b => exact iteF q
    | non => exact iteF q
    | str z h => exact iteF q
    | lst e => exact iteF q
    | tup e => exact iteF q
    | dK e => exact iteF q

theorem inV_strs (z : Str) : ∀ l : List Str, inV (.str z) (l.map V.str) = l.contains z
  | [] => rfl
  | x :: r => by
    have h := inV_strs z r
    have e : eqV (.str x) (.str z) = (z == x) := Bool.beq_comm (a := x) (b := z)
    show (eqV (.str x) (.str z) || inV (.str z) (r.map V.str)) = _
    rw [h, e, List.contains_cons]
theorem flat_strs (l : List Str) : (l.map V.str).all flatV = true := by
  rw [List.all_map]
  exact List.all_eq_true.mpr fun _ _ => rfl
theorem Same.over {H H1 : Hp} {D : Addr} {o : HO} (s : Same H H1) (h : H D = none) : Same H (upd H1 D o) := fun b u e => by
  rw [upd_ne (ne_of_none e h)]
  exact s b u e
/-- is_name -/
def spName : Sp := fun vs H Q _ => ∃ (v : V) (T : String), vs = [v] ∧ Gv H v T ∧ ∀ H', Same H H' → Q (.bl (gNam v)) H'
theorem ok_name {f : Addr} {fd : FuncData} (F : Fun K "is_name" "is_name" sName f fd) (W : Words K mg) : FnOk P w K mg base CX0 1 f fd ["value"] spName := by
  refine F.ok scName (fun vs H Q E h => ?_) (fun cdv A outer s H vs Q E hr h => ?_)
  · obtain ⟨v, T, rfl, _⟩ := h
    rfl
  · obtain ⟨v, T, rfl, hv, q⟩ := h
    obtain ⟨tL, hL⟩ := W.longest
    obtain ⟨tA, hA⟩ := W.letters
    obtain ⟨tD, hD⟩ := W.digits
    obtain ⟨aN, gN, hN⟩ := W.noNames
    have gA : ∀ {X : Cx}, X.mg = mg → True := fun _ => trivial
    refine ⟨_, pss_cons (ps_if (PW.pt (pw_or (pt_not (pt_val (pe_callB call_isi (by rfl) W.isi (by decide +kernel) (pa_cons (pv 0) (pa_cons (pe_bltn (v := .ty "str") (by rfl) W.str (by decide +kernel) rfl) pa_nil)))))
        (pw_or (pt_not (pt_chain op_le op_le pe_int (pe_callB call_len_str (by rfl) W.len PySem.boot_len (pa_cons (pv 0) pa_nil)) (pe_glob (v := .int 8) rfl hL ⟨_, rfl⟩)))
          (pw_or1 (pt_cmpR op_in_seq (pv 0) (pe_glob (v := .ref aN) rfl gN rfl) (by rfl))))))
        (pss_one (ps_ret pe_bl)) pss_nil)
      (pss_one (ps_ret (pe_and (pe_cmpR op_in_sign (pe_ix ix_str (pv 0) pe_int (fun _ _ => rfl)) (pe_glob (v := .str letters) rfl hA ⟨_, rfl⟩) (by rfl))
        (pe_one (pe_callB (cr_all rfl) (by rfl) W.all (by decide +kernel) (pa_cons (pe_lc (own := [("sign", 1)]) (g := gName 1) (tt := tYes) rfl scName.nd (pi_str (pv 0)) (blkOk_by (N := ["value", "sign"]) (sc := defScope sName) (by decide +kernel))
          (fun _ _ _ _ _ => pg_name (i := 1) scName.nd rfl (Or.inl rfl)) (fun _ _ _ _ _ => pts_nil)
          (fun _ _ _ _ _ => pe_cmpR op_in_sign (pv 1) (pe_op op_add_str (pe_glob (v := .str letters) rfl hA ⟨_, rfl⟩) (pe_glob (v := .str digits) rfl hD ⟨_, rfl⟩)) (by rfl))) pa_nil)))))), ?_⟩
    refine ⟨_, rfl, _, _, _, _, _, rfl, .ty "str", hv.ty, hv.kit "str" (.inr (.inr rfl)), _, rfl, ?_⟩
    cases hv with
    | non => exact iteT (q H (Same.refl H))
    | bl b => exact iteT (q H (Same.refl H))
    | int i => exact iteT (q H (Same.refl H))
    | lst e => exact iteT (q H (Same.refl H))
    | tup e => exact iteT (q H (Same.refl H))
    | dK e => exact iteT (q H (Same.refl H))
    | str z hz => ?_
    have q : ∀ H', Same H H' → Q (.bl (isName z)) H' := q
    have hzl : z.length ≤ sizeLine := Nat.le_trans hz (by decide)
    refine iteF ?_
    have no : isName z = false → Q (.bl false) H := fun e => by
      have := q H (Same.refl H)
      rw [e] at this
      exact this
    refine ⟨_, rfl, _, rfl, hzl, _, _, rfl, rfl, _, rfl, ite2 (fun c1 => ?_) (fun c1 => ⟨_, rfl, iteT (no ?_)⟩)⟩
    case refine_2 =>
      have c1' : ¬ (1 : Int) ≤ ((z.length : Nat) : Int) := fun e => c1 (decide_eq_true e)
      unfold isName
      rw [show decide (1 ≤ z.length) = false from decide_eq_false (by omega)]
      rfl
    have c1' : (1 : Int) ≤ ((z.length : Nat) : Int) := of_decide_eq_true c1
    refine ⟨_, _, rfl, rfl, _, rfl, ?_⟩
    by_cases c2 : ((z.length : Nat) : Int) ≤ 8
    case neg =>
      rw [decide_eq_false c2]
      refine iteT (no ?_)
      unfold isName
      rw [show decide (z.length ≤ 8) = false from decide_eq_false (by omega), Bool.and_false]
      rfl
    rw [decide_eq_true c2]
    refine iteF ⟨_, rfl, aN, _, rfl, .inr (hN H), rfl, flat_strs _, ?_⟩
    refine ⟨_, rfl, ?_⟩
    rw [show inV (.str z) (noNames.map V.str) = noNames.contains z from inV_strs z noNames]
    cases c3 : noNames.contains z with
    | true =>
      refine iteT (no ?_)
      unfold isName
      rw [c3, Bool.not_true, Bool.and_false]
      rfl
    | false =>
      refine iteF ?_
      have hz0 : 0 < z.cps.toList.length := by
        have : z.length = z.cps.toList.length := Array.length_toList.symm
        omega
      obtain ⟨c0, cr, hc⟩ : ∃ c0 cr, z.cps.toList = c0 :: cr := by
        cases e : z.cps.toList with
        | nil => rw [e] at hz0; cases hz0
        | cons a r => exact ⟨a, r, rfl⟩
      have e1 : decide (1 ≤ z.length) = true := decide_eq_true (by omega)
      have e2 : decide (z.length ≤ 8) = true := decide_eq_true (by omega)
      have e3 : isName z = (decide (c0 ∈ letters.cps.toList) && z.cps.toList.all isAln) := by
        unfold isName
        rw [e1, e2, c3, hc]
        rfl
      refine ⟨_, rfl, _, _, c0, rfl, rfl, hzl, ?_, _, _, rfl, rfl, _, rfl, ite2 (fun c4 => ?_) (fun c4 => ?_)⟩
      · rw [hc]
        exact atI_nat (j := 0) rfl
      · refine ⟨_, rfl, _, rfl, fun D hD => lc_it walk_str (fun i H' => H' D = some (.lst ((z.cps.toList.take i).map fun c => V.bl (isAln c))) ∧ Same H H') ⟨?_, ?_⟩ (fun _ _ _ _ => trivial) ?_ ?_⟩
        · exact upd_same
        · exact Same.over (Same.refl H) hD
        · rintro i x H1 H2 hi ⟨h1, s1⟩ ⟨rfl, c, hc1, rfl⟩
          have hc2 : z.cps.toList[i]? = some c := by
            rw [Array.getElem?_toList]
            exact hc1
          refine ⟨rfl, _, rfl, _, _, rfl, rfl, by decide, c, _, rfl, rfl, _, h1, ?_, ?_, Same.over s1 hD⟩
          · rw [List.length_map, List.length_take]
            have : z.cps.toList.length = z.length := Array.length_toList
            exact Nat.lt_of_le_of_lt (Nat.le_trans (Nat.min_le_right _ _) (by omega)) (by decide : 2000 < sizeLine)
          · rw [upd_same, List.take_add_one, hc2, List.map_append]
            rfl
        · rintro H1 ⟨h1, s1⟩
          refine ⟨D, z.cps.toList.map isAln, rfl, SqL.of ?_, ?_⟩
          · rw [h1, List.take_of_length_le (by rw [Array.length_toList]; exact Nat.le_refl _), List.map_map]
            rfl
          · have := q H1 s1
            rw [e3, show decide (c0 ∈ letters.cps.toList) = true from c4, Bool.true_and] at this
            rw [List.all_map]
            exact this
      · refine no ?_
        rw [e3]
        have : decide (c0 ∈ letters.cps.toList) = false := by
          cases h : decide (c0 ∈ letters.cps.toList) with
          | true => exact absurd h c4
          | false => rfl
        rw [this]
        rfl
end
end K09

namespace K09
open PySem PySem.Spec PyProof.Rows L2 So
abbrev sEN : Stmt := inClass (topS 2) 0
abbrev sEM : Stmt := inClass (topS 3) 0
abbrev sES : Stmt := inClass (topS 4) 0
abbrev sET : Stmt := inClass (topS 5) 0
abbrev sEL : Stmt := inClass (topS 6) 0
theorem scET : FnScope ["self", "tool"] ["self", "tool"] (defScope sET) := ⟨rfl, rfl, rfl, by decide +kernel, rfl, by decide +kernel, by decide +kernel⟩
theorem scEL : FnScope ["self", "value"] ["self", "value"] (defScope sEL) := ⟨rfl, rfl, rfl, by decide +kernel, rfl, by decide +kernel, by decide +kernel⟩
theorem scEN : FnScope ["self", "name"] ["self", "name"] (defScope sEN) := ⟨rfl, rfl, rfl, by decide +kernel, rfl, by decide +kernel, by decide +kernel⟩
theorem scEM : FnScope ["self", "moment"] ["self", "moment"] (defScope sEM) := ⟨rfl, rfl, rfl, by decide +kernel, rfl, by decide +kernel, by decide +kernel⟩
theorem scES : FnScope ["self", "value"] ["self", "value"] (defScope sES) := ⟨rfl, rfl, rfl, by decide +kernel, rfl, by decide +kernel, by decide +kernel⟩
section
variable {P : Program} {w : World} {K : PySem.W.Frag} {mg : Str → Option Value} {base : Heap}
theorem ok_eN {C f : Addr} {fd : FuncData} (F : Fun K "__init__" "BadName.__init__" sEN f fd) (O : OneE K mg "BadName" "name" C f fd) : FnOk P w K mg base CX0 1 f fd ["self", "name"] (spOneE C "name") := by
  refine F.ok scEN (fun vs H Q E h => ?_) (fun cdv A outer s H vs Q E hr h => ?_)
  · obtain ⟨a, v, rfl, _⟩ := h
    rfl
  · obtain ⟨a, v, rfl, ha, q⟩ := h
    exact ⟨_, pss_one (ps_ost (pv 0) (pv 1)), _, rfl, _, rfl, a, C, rfl, O.T, O.no, .inl ⟨ha, fun dx h n => q dx h n⟩⟩
theorem ok_eM {C f : Addr} {fd : FuncData} (F : Fun K "__init__" "BadMoment.__init__" sEM f fd) (O : OneE K mg "BadMoment" "moment" C f fd) : FnOk P w K mg base CX0 1 f fd ["self", "moment"] (spOneE C "moment") := by
  refine F.ok scEM (fun vs H Q E h => ?_) (fun cdv A outer s H vs Q E hr h => ?_)
  · obtain ⟨a, v, rfl, _⟩ := h
    rfl
  · obtain ⟨a, v, rfl, ha, q⟩ := h
    exact ⟨_, pss_one (ps_ost (pv 0) (pv 1)), _, rfl, _, rfl, a, C, rfl, O.T, O.no, .inl ⟨ha, fun dx h n => q dx h n⟩⟩
theorem ok_eS {C f : Addr} {fd : FuncData} (F : Fun K "__init__" "BadSaying.__init__" sES f fd) (O : OneE K mg "BadSaying" "value" C f fd) : FnOk P w K mg base CX0 1 f fd ["self", "value"] (spOneE C "value") := by
  refine F.ok scES (fun vs H Q E h => ?_) (fun cdv A outer s H vs Q E hr h => ?_)
  · obtain ⟨a, v, rfl, _⟩ := h
    rfl
  · obtain ⟨a, v, rfl, ha, q⟩ := h
    exact ⟨_, pss_one (ps_ost (pv 0) (pv 1)), _, rfl, _, rfl, a, C, rfl, O.T, O.no, .inl ⟨ha, fun dx h n => q dx h n⟩⟩
theorem ok_eT {C f : Addr} {fd : FuncData} (F : Fun K "__init__" "NoTool.__init__" sET f fd) (O : OneE K mg "NoTool" "tool" C f fd) : FnOk P w K mg base CX0 1 f fd ["self", "tool"] (spOneE C "tool") := by
  refine F.ok scET (fun vs H Q E h => ?_) (fun cdv A outer s H vs Q E hr h => ?_)
  · obtain ⟨a, v, rfl, _⟩ := h
    rfl
  · obtain ⟨a, v, rfl, ha, q⟩ := h
    exact ⟨_, pss_one (ps_ost (pv 0) (pv 1)), _, rfl, _, rfl, a, C, rfl, O.T, O.no, .inl ⟨ha, fun dx h n => q dx h n⟩⟩
theorem ok_eL {C f : Addr} {fd : FuncData} (F : Fun K "__init__" "NoLife.__init__" sEL f fd) (O : OneE K mg "NoLife" "value" C f fd) : FnOk P w K mg base CX0 1 f fd ["self", "value"] (spOneE C "value") := by
  refine F.ok scEL (fun vs H Q E h => ?_) (fun cdv A outer s H vs Q E hr h => ?_)
  · obtain ⟨a, v, rfl, _⟩ := h
    rfl
  · obtain ⟨a, v, rfl, ha, q⟩ := h
    exact ⟨_, pss_one (ps_ost (pv 0) (pv 1)), _, rfl, _, rfl, a, C, rfl, O.T, O.no, .inl ⟨ha, fun dx h n => q dx h n⟩⟩
/-- the errors -/
structure Errs (K : PySem.W.Frag) (mg : Str → Option Value) (CN CM CS CT' CL : Addr) : Prop where
  n : ∃ (f : Addr) (fd : FuncData), OneE K mg "BadName" "name" CN f fd ∧ Fun K "__init__" "BadName.__init__" sEN f fd
  m : ∃ (f : Addr) (fd : FuncData), OneE K mg "BadMoment" "moment" CM f fd ∧ Fun K "__init__" "BadMoment.__init__" sEM f fd
  s : ∃ (f : Addr) (fd : FuncData), OneE K mg "BadSaying" "value" CS f fd ∧ Fun K "__init__" "BadSaying.__init__" sES f fd
  t : ∃ (f : Addr) (fd : FuncData), OneE K mg "NoTool" "tool" CT' f fd ∧ Fun K "__init__" "NoTool.__init__" sET f fd
  l : ∃ (f : Addr) (fd : FuncData), OneE K mg "NoLife" "value" CL f fd ∧ Fun K "__init__" "NoLife.__init__" sEL f fd
def gBeg : V → Bool
  | .int i => decide (1 ≤ i ∧ i ≤ 1000000000000000000000000000000)
  | _ => false
/-- the forms: whether a value has it, the class and the field of the error where not -/
def Form (CN CM CS : Addr) (form : Str) (v : V) (ok : Bool) (C : Addr) (fl : Str) : Prop :=
  (form = "name" ∧ ok = gNam v ∧ C = CN ∧ fl = "name") ∨ (form = "moment" ∧ ok = gMom v ∧ C = CM ∧ fl = "moment") ∨ (form = "beginning" ∧ ok = gBeg v ∧ C = CM ∧ fl = "moment") ∨ (form = "truth" ∧ ok = gTru v ∧ C = CS ∧ fl = "value")
theorem notS {a b : Str} (h : a ≠ b) : ¬ (decide (V.str a = V.str b) = true) := fun e => h (V.str.inj (of_decide_eq_true e))
def spCheck (CN CM CS : Addr) : Sp := fun vs H Q E => ∃ (v : V) (T : String) (form : Str) (ok : Bool) (C : Addr) (fl : Str), vs = [v, .str form] ∧ Gv H v T ∧ Form CN CM CS form v ok C fl ∧
  (ok = true → ∀ H', Same H H' → Q .non H') ∧ (ok = false → ∀ d H', Same H H' → H' d = some (.xd [(fl, v)]) → E (.ref C) (some d) H')
theorem ok_check {CN CM CS CT' CL f fM fN : Addr} {fd fdM fdN : FuncData} (F : Fun K "check_form" "check_form" sCheck f fd) (W : Words K mg) (R : Errs K mg CN CM CS CT' CL) (FM : Fun K "is_moment" "is_moment" sMoment fM fdM) (bM : Binds K fdM ["value"] []) (gM : mg "is_moment" = some (.ref fM))
    (GM : FnOk P w K mg base CX0 2 fM fdM ["value"] spMoment) (FN : Fun K "is_name" "is_name" sName fN fdN) (bN : Binds K fdN ["value"] []) (gN : mg "is_name" = some (.ref fN)) (GN : FnOk P w K mg base CX0 1 fN fdN ["value"] spName) :
    FnOk P w K mg base (L2.CX P w) 3 f fd ["value", "form"] (spCheck CN CM CS) := by
  obtain ⟨f1, fd1, O1, F1⟩ := R.n
  obtain ⟨f2, fd2, O2, F2⟩ := R.m
  obtain ⟨f3, fd3, O3, F3⟩ := R.s
  have G1 : FnOk P w K mg base CX0 1 f1 fd1 ["self", "name"] (spOneE CN "name") := ok_eN F1 O1
  have G2 : FnOk P w K mg base CX0 1 f2 fd2 ["self", "moment"] (spOneE CM "moment") := ok_eM F2 O2
  have G3 : FnOk P w K mg base CX0 1 f3 fd3 ["self", "value"] (spOneE CS "value") := ok_eS F3 O3
  refine F.okX scCheck (fun vs H Q E h => ?_) (fun cdv A outer s H vs Q E hr h => ?_)
  · obtain ⟨v, T, form, ok, C, fl, rfl, _⟩ := h
    rfl
  · obtain ⟨v, T, form, ok, C, fl, rfl, hv, hf, qy, qn⟩ := h
    have hr1 : Room 1 _ := hr.mono (by decide)
    refine ⟨_, pss_cons (ps_if (PW.pt (pw_and (pt_cmpR op_eq (pv 1) pe_str (nomark _)) (pw_and1 (pt_not (pt_val (pe_call GN hr1 (by rfl) gN FN.kp bN .nil pass0 (pa_cons (pv 0) pa_nil))))))) (pss_one (ps_raiseOne O1 G1 rfl hr (takes_of rfl rfl rfl rfl) (by rfl) (pa_cons (pv 0) pa_nil))) pss_nil)
      (pss_cons (ps_if (PW.pt (pw_and (pt_cmpR op_eq (pv 1) pe_str (nomark _)) (pw_and1 (pt_not (pt_val (pe_call GM hr (by rfl) gM FM.kp bM .nil pass0 (pa_cons (pv 0) pa_nil))))))) (pss_one (ps_raiseOne O2 G2 rfl hr (takes_of rfl rfl rfl rfl) (by rfl) (pa_cons (pv 0) pa_nil))) pss_nil)
      (pss_cons (ps_if (PW.pt (pw_and (pt_cmpR op_eq (pv 1) pe_str (nomark _)) (pw_and1 (pt_not (PW.pt (pw_and (pt_val (pe_call GM hr (by rfl) gM FM.kp bM .nil pass0 (pa_cons (pv 0) pa_nil))) (pw_and1 (pt_cmpR op_gt (pv 0) pe_int (nomark _))))))))) (pss_one (ps_raiseOne O2 G2 rfl hr (takes_of rfl rfl rfl rfl) (by rfl) (pa_cons (pv 0) pa_nil))) pss_nil)
      (pss_one (ps_if (PW.pt (pw_and (pt_cmpR op_eq (pv 1) pe_str (nomark _)) (pw_and1 (pt_not (pt_val (pe_callB call_isi (by rfl) W.isi (by decide +kernel) (pa_cons (pv 0) (pa_cons (pe_bltn (v := .ty "bool") (by rfl) W.bool (by decide +kernel) rfl) pa_nil))))))))
        (pss_one (ps_raiseOne O3 G3 rfl hr (takes_of rfl rfl rfl rfl) (by rfl) (pa_cons (pv 0) pa_nil))) pss_nil)))), ?_⟩
    rcases hf with ⟨rfl, rfl, rfl, rfl⟩ | ⟨rfl, rfl, rfl, rfl⟩ | ⟨rfl, rfl, rfl, rfl⟩ | ⟨rfl, rfl, rfl, rfl⟩
    · refine ⟨_, rfl, rfl, _, rfl, ite2 (fun _ => ?_) (fun e => absurd (decide_eq_true rfl) e)⟩
      refine ⟨_, rfl, v, T, rfl, hv, fun H1 s1 => ⟨_, rfl, ?_⟩⟩
      cases hg : gNam v with
      | true =>
        refine iteF ?_
        refine ⟨_, rfl, rfl, _, rfl, ite2 (fun e => absurd e (notS (by decide +kernel))) (fun _ => ?_)⟩
        refine ⟨_, rfl, rfl, _, rfl, ite2 (fun e => absurd e (notS (by decide +kernel))) (fun _ => ?_)⟩
        refine ⟨_, rfl, rfl, _, rfl, ite2 (fun e => absurd e (notS (by decide +kernel))) (fun _ => ?_)⟩
        exact qy hg H1 s1
      | false =>
        refine iteT ?_
        exact ⟨_, rfl, mkOne rfl fun d H' s2 _ e => qn hg d H' (s1.trans s2) e⟩
    · refine ⟨_, rfl, rfl, _, rfl, ite2 (fun e => absurd e (notS (by decide +kernel))) (fun _ => ?_)⟩
      refine ⟨_, rfl, rfl, _, rfl, ite2 (fun _ => ?_) (fun e => absurd (decide_eq_true rfl) e)⟩
      refine ⟨_, rfl, v, T, rfl, hv, _, rfl, ?_⟩
      cases hg : gMom v with
      | true =>
        refine iteF ?_
        refine ⟨_, rfl, rfl, _, rfl, ite2 (fun e => absurd e (notS (by decide +kernel))) (fun _ => ?_)⟩
        refine ⟨_, rfl, rfl, _, rfl, ite2 (fun e => absurd e (notS (by decide +kernel))) (fun _ => ?_)⟩
        exact qy hg H (Same.refl H)
      | false =>
        refine iteT ?_
        exact ⟨_, rfl, mkOne rfl fun d H' s2 _ e => qn hg d H' s2 e⟩
    · refine ⟨_, rfl, rfl, _, rfl, ite2 (fun e => absurd e (notS (by decide +kernel))) (fun _ => ?_)⟩
      refine ⟨_, rfl, rfl, _, rfl, ite2 (fun e => absurd e (notS (by decide +kernel))) (fun _ => ?_)⟩
      refine ⟨_, rfl, rfl, _, rfl, ite2 (fun _ => ?_) (fun e => absurd (decide_eq_true rfl) e)⟩
      refine ⟨_, rfl, v, T, rfl, hv, _, rfl, ?_⟩
      have no : gBeg v = false → tMkO C (spOneE C "moment") [] (tCons (tVar 0) tNil) [some v, some (.str "beginning")] H fun cls d H' => E cls d H' := fun e =>
        ⟨_, rfl, mkOne rfl fun d H' s2 _ e2 => qn e d H' s2 e2⟩
      cases hg : gMom v with
      | true =>
        refine iteT ?_
        obtain ⟨i, rfl⟩ : ∃ i, v = .int i := by
          cases v with
          | int i => exact ⟨i, rfl⟩
          | _ => cases hg
        have hi : 0 ≤ i ∧ i ≤ 1000000000000000000000000000000 := of_decide_eq_true hg
        refine ⟨_, rfl, _, _, rfl, rfl, _, rfl, ?_⟩
        by_cases z : 0 < i
        · rw [show decide (i > 0) = true from decide_eq_true z]
          refine iteF ?_
          refine ⟨_, rfl, rfl, _, rfl, ite2 (fun e => absurd e (notS (by decide +kernel))) (fun _ => ?_)⟩
          exact qy (decide_eq_true ⟨by omega, hi.2⟩) H (Same.refl H)
        · rw [show decide (i > 0) = false from decide_eq_false z]
          refine iteT ?_
          exact no (decide_eq_false (by omega))
      | false =>
        refine iteF (iteT (no ?_))
        cases v with
        | int i =>
          have : ¬ (0 ≤ i ∧ i ≤ 1000000000000000000000000000000) := of_decide_eq_false hg
          exact decide_eq_false (by omega)
        | _ => rfl
    · refine ⟨_, rfl, rfl, _, rfl, ite2 (fun e => absurd e (notS (by decide +kernel))) (fun _ => ?_)⟩
      refine ⟨_, rfl, rfl, _, rfl, ite2 (fun e => absurd e (notS (by decide +kernel))) (fun _ => ?_)⟩
      refine ⟨_, rfl, rfl, _, rfl, ite2 (fun e => absurd e (notS (by decide +kernel))) (fun _ => ?_)⟩
      refine ⟨_, rfl, rfl, _, rfl, ite2 (fun _ => ?_) (fun e => absurd (decide_eq_true rfl) e)⟩
      refine ⟨_, rfl, _, _, _, _, _, rfl, .ty "bool", hv.ty, hv.kit "bool" (.inr (.inl rfl)), _, rfl, ?_⟩
      have no : gTru v = false → tMkO C (spOneE C "value") [] (tCons (tVar 0) tNil) [some v, some (.str "truth")] H fun cls d H' => E cls d H' := fun e =>
        ⟨_, rfl, mkOne rfl fun d H' s2 _ e2 => qn e d H' s2 e2⟩
      cases hv with
      | bl b => exact iteF (qy rfl H (Same.refl H))
      | non => exact iteT (no rfl)
      | int i => exact iteT (no rfl)
      | str z h => exact iteT (no rfl)
      | lst e => exact iteT (no rfl)
      | tup e => exact iteT (no rfl)
      | dK e => exact iteT (no rfl)
end
end K09

namespace K09
open PySem PySem.Spec PyProof.Rows L2 So
abbrev sWith : Stmt := topS 18
abbrev sLInit : Stmt := inClass (topS 19) 0
theorem scWith : FnScope ["tool", "moments", "moment", "later"] ["tool", "moments"] (defScope sWith) := ⟨rfl, rfl, rfl, by decide +kernel, rfl, by decide +kernel, by decide +kernel⟩
theorem scLInit : FnScope ["self", "begun", "tool"] ["self", "begun"] (defScope sLInit) := ⟨rfl, rfl, rfl, by decide +kernel, rfl, by decide +kernel, by decide +kernel⟩
theorem passNo {X : Cx} {P : Program} {w : World} : Passes (L2.CX P w) X (fun _ _ _ => False) := fun _ _ _ _ _ _ _ h => by
  obtain ⟨_, _, _, _, _, _, _, _, _, _, _, _, hE⟩ := h
  exact hE.elim
theorem same_upd0 {H : Hp} {p : Addr} {o : HO} (h : H p = none) : Same H (upd H p o) := Same.over (Same.refl H) h
/-- what more the module's names say, to lives -/
structure WordsL (mg : Str → Option Value) : Prop where
  sorted : mg "sorted" = none
  set : mg "set" = none
  max : mg "max" = none
  min : mg "min" = none
  tuple : mg "tuple" = none
section
variable {P : Program} {w : World} {K : PySem.W.Frag} {mg : Str → Option Value} {base : Heap}
/-- with_first, of a name and of beginnings -/
def spWith (K : PySem.W.Frag) : Sp := fun vs H Q _ => ∃ (z : Str) (l : Addr) (ns : List Int), vs = [.str z, .ref l] ∧ isName z = true ∧ z.length ≤ 2000 ∧ (SqL K H l (ns.map V.int) ∨ SqT K H l (ns.map V.int)) ∧ ns.length < 64 ∧ (∀ n ∈ ns, gBeg (.int n) = true) ∧
  ∀ (t : Addr) (later : List Int) (H' : Hp), Same H H' → later.Pairwise (· < ·) → (∀ k, k ∈ later ↔ k ∈ ns) → H' t = some (.tup ((0 :: later).map V.int)) → Q (.ref t) H'
theorem sq_same {l : Addr} {xs : List V} {H H' : Hp} (h : SqL K H l xs ∨ SqT K H l xs) (s : Same H H') : SqL K H' l xs ∨ SqT K H' l xs := by
  rcases h with h | h
  · exact .inl (h.ext s)
  · exact .inr (h.ext s)
theorem ok_with {CN CM CS f fC : Addr} {fd fdC : FuncData} (F : Fun K "with_first" "with_first" sWith f fd) (L : WordsL mg) (FC : Fun K "check_form" "check_form" sCheck fC fdC) (bC : Binds K fdC ["value", "form"] []) (gC : mg "check_form" = some (.ref fC))
    (GC : FnOk P w K mg base (L2.CX P w) 3 fC fdC ["value", "form"] (spCheck CN CM CS)) : FnOk P w K mg base CX0 4 f fd ["tool", "moments"] (spWith K) := by
  refine F.ok scWith (fun vs H Q E h => ?_) (fun cdv A outer s H vs Q E hr h => ?_)
  · obtain ⟨z, l, ns, rfl, _⟩ := h
    rfl
  · obtain ⟨z, l, ns, rfl, hz, hzl, hl, h64, hb, q⟩ := h
    refine ⟨_, pss_cons (ps_expr (pe_call GC hr (by rfl) gC FC.kp bC .nil passNo (pa_cons (pv 0) (pa_cons pe_str pa_nil))))
      (pss_cons (ps_for PassesOwn.never rfl (pi_or (pi_list (pv 1)) (pi_tup (pv 1))) (pg_name (i := 2) scWith.nd rfl (Or.inl rfl)) (pss_one (ps_expr (pe_call GC hr (by rfl) gC FC.kp bC .nil passNo (pa_cons (pv 2) (pa_cons pe_str pa_nil))))))
      (pss_cons (ps_set (i := 3) scWith.nd rfl (.inl rfl) (pe_callB (cr_sortedSet rfl) (by rfl) L.sorted (by decide +kernel) (pa_cons (pe_callTy (cr_setI rfl) (by rfl) L.set (by decide +kernel) (pa_cons (pv 1) pa_nil)) pa_nil)))
      (pss_one (ps_ret (pe_tup (pa_cons pe_int (StX.pa_star (pv 3) pa_nil))))))), ?_⟩
    refine ⟨_, rfl, _, "str", _, _, _, _, rfl, .str z hzl, .inl ⟨rfl, rfl, rfl, rfl⟩, fun _ H1 s1 => ?_, fun g _ _ _ _ => by rw [show gNam (.str z) = true from hz] at g; cases g⟩
    obtain ⟨J, wJ, go⟩ : ∃ J, Walk J (ns.map V.int).length (fun H' => Same H H') (YAt (ns.map V.int)) ∧ ∀ R : It → Hp → Prop, R J H1 → (iList K (tVar 1) [some (.str z), some (.ref l), none, none] H1 R ∨ iTup K (tVar 1) [some (.str z), some (.ref l), none, none] H1 R) := by
      rcases hl with hl | hl
      · exact ⟨_, walk_list.mono (fun _ s => hl.ext s) (fun _ _ _ _ _ _ y => y), fun R r => .inl ⟨_, rfl, l, rfl, ⟨_, hl.ext s1⟩, r⟩⟩
      · exact ⟨_, walk_tup.mono (fun _ s => hl.ext s) (fun _ _ _ _ _ _ y => y), fun R r => .inr ⟨_, rfl, l, rfl, ⟨_, hl.ext s1⟩, r⟩⟩
    refine go _ (for_it wJ (fun i σ H' => (∃ v2, σ = [some (.str z), some (.ref l), v2, none]) ∧ Same H H') ⟨⟨_, rfl⟩, s1⟩ (fun _ _ _ _ y => y.2) ?_ ?_)
    · rintro i x σ H2 H3 hi ⟨⟨v2, rfl⟩, s2⟩ ⟨rfl, hx⟩
      obtain ⟨n, hn, rfl⟩ : ∃ n, n ∈ ns ∧ x = .int n := by
        have := List.mem_of_getElem? hx
        obtain ⟨n, h1, h2⟩ := List.mem_map.mp this
        exact ⟨n, h1, h2.symm⟩
      refine ⟨_, rfl, _, "int", _, _, _, _, rfl, .int n, .inr (.inr (.inl ⟨rfl, rfl, rfl, rfl⟩)), fun _ H4 s4 => ⟨⟨_, rfl⟩, s2.trans s4⟩, fun g _ _ _ _ => by rw [hb n hn] at g; cases g⟩
    · rintro σ H2 ⟨⟨v2, rfl⟩, s2⟩
      refine ⟨_, rfl, l, ns, rfl, sq_same hl s2, h64, fun p c hp hc => ⟨p, _, c, rfl, upd_same, Nat.lt_of_le_of_lt hc h64, fun later p2 hw hm hlen hp2 => ?_⟩⟩
      refine ⟨_, rfl, p2, later.map V.int, rfl, .inr (SqL.of upd_same), ?_⟩
      refine ⟨?_, fun t ht => q t later _ (((s2.trans (same_upd0 hp)).trans (same_upd0 hp2)).trans (same_upd0 ht)) hw (fun k => (hm k).trans ⟨of_decide_eq_true, decide_eq_true⟩) ?_⟩
      · rw [List.append_nil, List.length_cons, List.length_map, hlen]
        have : c < 64 := Nat.lt_of_le_of_lt hc h64
        have := sizeLine_eq
        omega
      · rw [upd_same, List.append_nil]
        rfl

/-! ### the lives -/
/-- at a stand the lives in which a tool has the beginnings F -/
def LvAt (C : Addr) (H : Hp) (a : Addr) (F : Str → Option (List Int)) : Prop := ∃ (dx d : Addr) (kvs : List (Key × V)), H a = some (.ins C dx [("_begun", .ref d)]) ∧ H d = some (.dK kvs) ∧
  (∀ z, F z = none → valV kvs (.inr z) = none) ∧ ∀ z ns, F z = some ns → ∃ t, valV kvs (.inr z) = some (.ref t) ∧ H t = some (.tup (ns.map V.int))
theorem LvAt.same {C : Addr} {H H' : Hp} {a : Addr} {F : Str → Option (List Int)} (h : LvAt C H a F) (s : Same H H') : LvAt C H' a F := by
  obtain ⟨dx, d, kvs, h1, h2, h3, h4⟩ := h
  refine ⟨dx, d, kvs, s _ _ h1, s _ _ h2, h3, fun z ns e => ?_⟩
  obtain ⟨t, e1, e2⟩ := h4 z ns e
  exact ⟨t, e1, s _ _ e2⟩
theorem LvAt.off {C p : Addr} {H H' : Hp} {a : Addr} {F : Str → Option (List Int)} {vs : List V} (h : LvAt C H a F) (s : Off p H H') (hp : H p = some (.lst vs)) : LvAt C H' a F := by
  obtain ⟨dx, d, kvs, h1, h2, h3, h4⟩ := h
  refine ⟨dx, d, kvs, s _ _ (ne_of h1 hp (fun z => nomatch z)) h1, s _ _ (ne_of h2 hp (fun z => nomatch z)) h2, h3, fun z ns e => ?_⟩
  obtain ⟨t, e1, e2⟩ := h4 z ns e
  exact ⟨t, e1, s _ _ (ne_of e2 hp (fun z => nomatch z)) e2⟩
/-- a dict of beginnings: what Lives is made of -/
def BgAt (K : PySem.W.Frag) (H : Hp) (d : Addr) (F : Str → Option (List Int)) : Prop := ∃ (kvs : List (Key × V)) (ks : List Str), H d = some (.dK kvs) ∧ kvs.map (·.1) = ks.map Sum.inr ∧ ks.length < 64 ∧ (∀ z, z ∈ ks ↔ (F z).isSome = true) ∧
  (∀ z ∈ ks, isName z = true ∧ z.length ≤ 2000) ∧ ∀ z ns, F z = some ns → ∃ l, valV kvs (.inr z) = some (.ref l) ∧ (SqL K H l (ns.map V.int) ∨ SqT K H l (ns.map V.int)) ∧ ns.length < 64 ∧ (∀ n ∈ ns, gBeg (.int n) = true) ∧ ns.Pairwise (· < ·)
theorem BgAt.same {d : Addr} {H H' : Hp} {F : Str → Option (List Int)} (h : BgAt K H d F) (s : Same H H') : BgAt K H' d F := by
  obtain ⟨kvs, ks, h1, h2, h3, h4, h5, h6⟩ := h
  refine ⟨kvs, ks, s _ _ h1, h2, h3, h4, h5, fun z ns e => ?_⟩
  obtain ⟨l, e1, e2, e3⟩ := h6 z ns e
  exact ⟨l, e1, sq_same e2 s, e3⟩
/-- what the top says of the class Lives, at C -/
structure Lvs (K : PySem.W.Frag) (mg : Str → Option Value) (C : Addr) : Prop where
  cl : Cls K C
  nB : NoAttr K C "_begun"
  mgC : mg "Lives" = some (.ref C)
  no : ∀ T, T ∈ ["tuple", "str", "NoneType", "int", "bool", "list", "dict"] → PySem.W.kitOne K (.type T) (.ref C) = some false ∧ PySem.W.notFirst K C (.type T) = true
theorem dc_it {J : It} {n : Nat} {G : Hp → Prop} {Y : Nat → Hp → V → Hp → Prop} (w : Walk J n G Y) {g : TG} {tt : TT} {tk tv : TE} {vs : List Nat} {σ : L2.St} {H1 : Hp} {D : Addr} {Qd : Hp → Prop} (Pv : Nat → Hp → Prop) (h0 : Pv 0 (upd H1 D (.dK []))) (hG : ∀ i H, i ≤ n → Pv i H → G H)
    (hs : ∀ i x H H', i < n → Pv i H → Y i H x H' → g x (wipe σ vs) H' fun σ2 H2 => wipe σ2 vs = wipe σ vs ∧ tt σ2 H2 fun b H3 =>
      if b = true then tk σ2 H3 fun y H4 => tv σ2 H4 fun z H5 => ∃ kvs k, y = kV k ∧ H5 D = some (.dK kvs) ∧ kvs.length < sizeLine ∧ Pv (i + 1) (upd H5 D (.dK (putK kvs k z))) else Pv (i + 1) H3) (hd : ∀ H, Pv n H → Qd H) :
    ∃ W : Nat → Nat → Hp → Prop, (∃ m, W 0 m (upd H1 D (.dK []))) ∧ ∀ i m H, W i m H →
      (J.stop i H ∧ Qd H) ∨ (J.go i H ∧ ∃ Nx : Hp → Prop, (∀ H', Nx H' → ∃ m', m' < m ∧ W (i + 1) m' H') ∧ ∀ x H', J.yld i H x H' → g x (wipe σ vs) H' fun σ2 H2 => wipe σ2 vs = wipe σ vs ∧ tt σ2 H2 fun b H3 =>
        if b = true then tk σ2 H3 fun y H4 => tv σ2 H4 fun z H5 => ∃ kvs k, y = kV k ∧ H5 D = some (.dK kvs) ∧ kvs.length < sizeLine ∧ Nx (upd H5 D (.dK (putK kvs k z))) else Nx H3) := by
  refine ⟨fun i m H => m = n - i ∧ i ≤ n ∧ Pv i H, ⟨n, by simp, Nat.zero_le _, h0⟩, ?_⟩
  rintro i m H ⟨rfl, hi, p⟩
  have q := hG i H hi p
  by_cases hlt : i < n
  · exact .inr ⟨w.goes i H hlt q, Pv (i + 1), fun H' p' => ⟨n - (i + 1), by omega, rfl, hlt, p'⟩, fun x H' y => hs i x H H' hlt p (w.yields i H x H' hlt q y)⟩
  · have e : i = n := by omega
    subst e
    exact .inl ⟨w.stops H q, hd H p⟩
/-- Lives.__init__ of such a dict -/
def spLInit (K : PySem.W.Frag) (C : Addr) : Sp := fun vs H Q _ => ∃ (x dx d : Addr) (F : Str → Option (List Int)), vs = [.ref x, .ref d] ∧ H x = some (.ins C dx []) ∧ BgAt K H d F ∧ ∀ H', Off x H H' → LvAt C H' x (fun z => (F z).map (0 :: ·)) → Q .non H'
theorem ok_linit {f C fW : Addr} {fd fdW : FuncData} (F : Fun K "__init__" "Lives.__init__" sLInit f fd) (T : Lvs K mg C) (L : WordsL mg) (FW : Fun K "with_first" "with_first" sWith fW fdW) (bW : Binds K fdW ["tool", "moments"] []) (gW : mg "with_first" = some (.ref fW))
    (GW : FnOk P w K mg base CX0 4 fW fdW ["tool", "moments"] (spWith K)) : FnOk P w K mg base CX0 5 f fd ["self", "begun"] (spLInit K C) := by
  refine F.ok scLInit (fun vs H Q E h => ?_) (fun cdv A outer s H vs Q E hr h => ?_)
  · obtain ⟨x, dx, d, F, rfl, _⟩ := h
    rfl
  · obtain ⟨x, dx, d, Fn, rfl, hx, hb, q⟩ := h
    obtain ⟨kvs, ks, hd, hk, h64, hF, hnm, hv⟩ := id hb
    refine ⟨_, pss_one (ps_fld (pv 0) (pe_dc (own := [("tool", 2)]) (g := gName 2) (tt := tYes) rfl scLInit.nd (pi_list (pe_callB (call_sortedD rfl) (by rfl) L.sorted (by decide +kernel) (pa_cons (pv 1) pa_nil))) (blkOk_by (N := ["self", "begun", "tool"]) (sc := defScope sLInit) (by decide +kernel))
        (fun _ _ _ _ _ => pg_name (i := 2) scLInit.nd rfl (Or.inl rfl)) (fun _ _ _ _ _ => pts_nil) (fun _ _ _ _ _ => pv 2)
        (fun _ _ _ _ _ => pe_call GW hr (by rfl) gW FW.kp bW .nil pass0 (pa_cons (pv 2) (pa_cons (pe_dget (hu_of hr) (pv 1) (pv 2) (fun _ _ => rfl)) pa_nil)))) rfl), ?_⟩
    refine ⟨_, rfl, d, kvs, ks, rfl, .inl hd, hk, h64, fun ys p hp hsrt hpn => ⟨p, rfl, ⟨_, SqL.of upd_same⟩, fun D hD => ?_⟩⟩
    have sp : Same H (upd H p (.lst (ys.map V.str))) := same_upd0 hpn
    have hylen : ys.length = ks.length := hp.length_eq
    refine dc_it walk_list (fun i H' => Same (upd H p (.lst (ys.map V.str))) H' ∧ ∃ kvs' : List (Key × V), H' D = some (.dK kvs') ∧ kvs'.length ≤ i ∧ (∀ z, z ∉ ys.take i → valV kvs' (.inr z) = none) ∧
      ∀ z ns, z ∈ ys.take i → Fn z = some ns → ∃ t, valV kvs' (.inr z) = some (.ref t) ∧ H' t = some (.tup ((0 :: ns).map V.int))) ⟨same_upd0 hD, [], upd_same, Nat.le_refl _, fun _ _ => rfl, fun z ns hz => by simp at hz⟩ (fun _ _ _ y => SqL.of (y.1 _ _ upd_same)) ?_ ?_
    · rintro i v H2 H3 hi ⟨s2, kvs', hD2, hl2, n2, y2⟩ ⟨rfl, hv2⟩
      obtain ⟨z, hz, rfl⟩ : ∃ z, ys[i]? = some z ∧ v = .str z := by
        rw [List.getElem?_map] at hv2
        cases e : ys[i]? with
        | none => rw [e] at hv2; cases hv2
        | some z => rw [e] at hv2; exact ⟨z, rfl, (Option.some.inj hv2).symm⟩
      have hzk : z ∈ ks := hp.mem_iff.mp (List.mem_of_getElem? hz)
      obtain ⟨hn1, hn2⟩ := hnm z hzk
      obtain ⟨ns, hns⟩ := Option.isSome_iff_exists.mp ((hF z).mp hzk)
      obtain ⟨l, hl1, hl3, hl4, hl5, hl6⟩ := hv z ns hns
      have sA := sp.trans s2
      have hi' : i < ks.length := by rw [List.length_map, hylen] at hi; exact hi
      refine ⟨rfl, _, rfl, _, rfl, _, rfl, _, rfl, d, _, rfl, .inl ⟨kvs, .inr z, .inl (sA _ _ hd), rfl, hl1.symm⟩, ?_⟩
      refine ⟨z, l, ns, rfl, hn1, hn2, sq_same hl3 sA, hl4, hl5, fun t later H4 s4 hw hm ht => ⟨kvs', .inr z, rfl, s4 _ _ hD2, Nat.lt_of_le_of_lt hl2 (by have := sizeLine_eq; omega), ?_⟩⟩
      have el : later = ns := pairwise_ext hw hl6 hm
      subst el
      have nD : D ≠ t := fun z => by rw [← z, s4 _ _ hD2] at ht; cases ht
      refine ⟨fun b o e => ?_, _, upd_same, Nat.le_trans (length_putK _ _ _) (by omega), fun w hw2 => ?_, fun w ws hw2 hws => ?_⟩
      · rw [upd_ne (ne_of_none e hD)]
        exact s4 _ _ (s2 _ _ e)
      · rw [List.take_add_one, hz] at hw2
        simp only [Option.toList, List.mem_append, List.mem_singleton, not_or] at hw2
        rw [valV_put, if_neg (fun y => hw2.2 (Sum.inr.inj y))]
        exact n2 w hw2.1
      · rw [valV_put]
        by_cases ewz : w = z
        · subst ewz
          rw [hns] at hws
          cases hws
          exact ⟨t, if_pos rfl, (upd_ne (Ne.symm nD)).trans ht⟩
        · rw [List.take_add_one, hz] at hw2
          simp only [Option.toList, List.mem_append, List.mem_singleton] at hw2
          obtain ⟨t2, e1, e2⟩ := y2 w ws (hw2.resolve_right ewz) hws
          exact ⟨t2, (if_neg (fun y => ewz (Sum.inr.inj y))).trans e1, (upd_ne (fun y => by rw [y, hD2] at e2; cases e2)).trans (s4 _ _ e2)⟩
    · rintro H2 ⟨s2, kvs', hD2, hl2, n2, y2⟩
      have sA := sp.trans s2
      refine ⟨_, rfl, x, C, dx, [], rfl, sA _ _ hx, T.cl, T.nB, (by show 0 < 1000; decide), ?_⟩
      have nDx : D ≠ x := fun z => by rw [z, sA _ _ hx] at hD2; cases hD2
      have et : ys.take (ys.map V.str).length = ys := by rw [List.length_map]; exact List.take_length
      rw [et] at n2 y2
      refine q _ (fun b o n e => (upd_ne n).trans (sA _ _ e)) ⟨dx, D, kvs', upd_same, (upd_ne nDx).trans hD2, fun z hz => n2 z fun hzy => ?_, fun z ns hz => ?_⟩
      · have := (hF z).mp (hp.mem_iff.mp hzy)
        have hz : (Fn z).map (0 :: ·) = none := hz
        cases e : Fn z with
        | none => rw [e] at this; cases this
        | some a => rw [e] at hz; cases hz
      · have hz : (Fn z).map (0 :: ·) = some ns := hz
        cases e : Fn z with
        | none => rw [e] at hz; cases hz
        | some a =>
          rw [e] at hz
          cases hz
          have hzy : z ∈ ys := hp.mem_iff.mpr ((hF z).mpr (by rw [e]; rfl))
          obtain ⟨t, e1, e2⟩ := y2 z a hzy e
          exact ⟨t, e1, (upd_ne (fun y => by rw [y, sA _ _ hx] at e2; cases e2)).trans e2⟩
end
end K09

namespace K09
open PySem PySem.Spec PyProof.Rows L2 So
abbrev sBeg : Stmt := inClass (topS 19) 3
abbrev sLife : Stmt := inClass (topS 19) 4
abbrev sLast : Stmt := inClass (topS 19) 5
abbrev sCont : Stmt := inClass (topS 19) 6
theorem scBeg : FnScope ["self", "tool"] ["self", "tool"] (defScope sBeg) := ⟨rfl, rfl, rfl, by decide +kernel, rfl, by decide +kernel, by decide +kernel⟩
theorem scLife : FnScope ["self", "tool", "moment", "beginnings", "beginning"] ["self", "tool", "moment"] (defScope sLife) := ⟨rfl, rfl, rfl, by decide +kernel, rfl, by decide +kernel, by decide +kernel⟩
theorem scLast : FnScope ["self", "life", "tool", "beginning", "later"] ["self", "life"] (defScope sLast) := ⟨rfl, rfl, rfl, by decide +kernel, rfl, by decide +kernel, by decide +kernel⟩
theorem scCont : FnScope ["self", "life", "tool", "beginning"] ["self", "life"] (defScope sCont) := ⟨rfl, rfl, rfl, by decide +kernel, rfl, by decide +kernel, by decide +kernel⟩
/-- the beginnings by what is given for a tool -/
def fB (F : Str → Option (List Int)) : V → Option (List Int)
  | .str z => F z
  | _ => none
/-- the beginnings as they are told -/
def FOk (F : Str → Option (List Int)) : Prop := ∀ z ns, F z = some ns → ∃ l : List Int, ns = 0 :: l ∧ l.length < 64 ∧ (∀ n ∈ l, gBeg (.int n) = true) ∧ l.Pairwise (· < ·)
/-- what is given for a life: a pair of two values, or no pair -/
def LyAt (H : Hp) (y : V) (o : Option (V × V)) : Prop :=
  (o = none ∧ ∃ T, Gv H y T ∧ (T = "tuple" → ∃ p xs, y = .ref p ∧ H p = some (.tup xs) ∧ xs.length ≠ 2)) ∨ ∃ (u x : V) (p : Addr) (T1 T2 : String), o = some (u, x) ∧ y = .ref p ∧ H p = some (.tup [u, x]) ∧ Gv H u T1 ∧ Gv H x T2
theorem LyAt.same {H H' : Hp} {y : V} {o : Option (V × V)} (h : LyAt H y o) (s : Same H H') : LyAt H' y o := by
  rcases h with ⟨e, T, h1, h2⟩ | ⟨u, x, p, T1, T2, e, e1, h1, h2, h3⟩
  · refine .inl ⟨e, T, h1.same s, fun z => ?_⟩
    obtain ⟨p, xs, a, b, c⟩ := h2 z
    exact ⟨p, xs, a, s _ _ b, c⟩
  · exact .inr ⟨u, x, p, T1, T2, e, e1, s _ _ h1, h2.same s, h3.same s⟩
def inF (F : Str → Option (List Int)) : Option (V × V) → Bool
  | some (u, .int i) => match fB F u with
    | some ns => decide (i ∈ ns)
    | none => false
  | _ => false
theorem inV_ints (i : Int) : ∀ l : List Int, inV (.int i) (l.map V.int) = decide (i ∈ l)
  | [] => rfl
  | x :: r => by
    have h := inV_ints i r
    show (eqV (.int x) (.int i) || inV (.int i) (r.map V.int)) = _
    rw [h, show eqV (.int x) (.int i) = decide (i = x) by show (x == i) = _; rw [Bool.beq_eq_decide_eq]; exact decide_eq_decide.mpr ⟨Eq.symm, Eq.symm⟩, ← Bool.decide_or]
    exact decide_eq_decide.mpr List.mem_cons.symm
theorem flat_ints (l : List Int) : (l.map V.int).all flatV = true := by
  rw [List.all_map]
  exact List.all_eq_true.mpr fun _ _ => rfl
section
variable {P : Program} {w : World} {K : PySem.W.Frag} {mg : Str → Option Value} {base : Heap}
theorem Gv.kitT {H : Hp} {v : V} {T : String} (h : Gv H v T) : PySem.W.kitOne K (.type T) (.type "tuple") = some (decide (T = "tuple")) := by
  cases h <;> exact kit_ty (by decide +kernel)
def spBeg (C CT' : Addr) : Sp := fun vs H Q E => ∃ (a : Addr) (v : V) (T : String) (F : Str → Option (List Int)), vs = [.ref a, v] ∧ LvAt C H a F ∧ Gv H v T ∧
  (∀ ns, fB F v = some ns → ∀ t, H t = some (.tup (ns.map V.int)) → Q (.ref t) H) ∧ (fB F v = none → ∀ d H', Same H H' → H' d = some (.xd [("tool", v)]) → E (.ref CT') (some d) H')
theorem ok_beg {CN CM CS CT' CL C f : Addr} {fd : FuncData} (F : Fun K "beginnings" "Lives.beginnings" sBeg f fd) (T : Lvs K mg C) (W : Words K mg) (R : Errs K mg CN CM CS CT' CL) : FnOk P w K mg base (L2.CX P w) 3 f fd ["self", "tool"] (spBeg C CT') := by
  obtain ⟨f4, fd4, O4, F4⟩ := R.t
  have G4 : FnOk P w K mg base CX0 1 f4 fd4 ["self", "tool"] (spOneE CT' "tool") := ok_eT F4 O4
  refine F.okX scBeg (fun vs H Q E h => ?_) (fun cdv A outer s H vs Q E hr h => ?_)
  · obtain ⟨a, v, T, F, rfl, _⟩ := h
    rfl
  · obtain ⟨a, v, T', F, rfl, hL, hv, qy, qn⟩ := h
    obtain ⟨dx, d, kvs, h1, h2, h3, h4⟩ := id hL
    refine ⟨_, pss_cons (ps_if (PW.pt (pw_or (pt_not (pt_val (pe_callB call_isi (by rfl) W.isi (by decide +kernel) (pa_cons (pv 1) (pa_cons (pe_bltn (v := .ty "str") (by rfl) W.str (by decide +kernel) rfl) pa_nil)))))
        (pw_or1 (pt_cmp (pc_dnotin (hu_of hr) (pv 1) (pe_fld (pv 0) rfl)))))) (pss_one (ps_raiseOne O4 G4 rfl hr (takes_of rfl rfl rfl rfl) (by rfl) (pa_cons (pv 1) pa_nil))) pss_nil)
      (pss_one (ps_ret (pe_dget (hu_of hr) (pe_fld (pv 0) rfl) (pv 1) (fun _ _ => rfl)))), ?_⟩
    refine ⟨_, rfl, _, _, _, _, _, rfl, .ty "str", hv.ty, hv.kit "str" (.inr (.inr rfl)), _, rfl, ?_⟩
    have no : fB F v = none → tMkO CT' (spOneE CT' "tool") [] (tCons (tVar 1) tNil) [some (.ref a), some v] H fun cls d H' => E cls d H' := fun e => ⟨_, rfl, mkOne rfl fun d H' s2 _ e2 => qn e d H' s2 e2⟩
    cases hv with
    | non => exact iteT (no rfl)
    | bl b => exact iteT (no rfl)
    | int i => exact iteT (no rfl)
    | lst e => exact iteT (no rfl)
    | tup e => exact iteT (no rfl)
    | dK e => exact iteT (no rfl)
    | str z hz =>
      refine iteF ?_
      refine ⟨_, rfl, _, rfl, a, C, dx, _, _, rfl, h1, T.cl, T.nB, rfl, d, _, rfl, DGet.k (k := .inr z) h2, ?_⟩
      cases e : F z with
      | none =>
        rw [h3 z e]
        exact ⟨_, rfl, iteT (no e)⟩
      | some ns =>
        obtain ⟨t, e1, e2⟩ := h4 z ns e
        rw [e1]
        refine ⟨_, rfl, iteF ?_⟩
        exact ⟨_, rfl, a, C, dx, _, _, rfl, h1, T.cl, T.nB, rfl, _, rfl, d, _, rfl, .inl ⟨kvs, .inr z, .inl h2, rfl, e1.symm⟩, qy ns e t e2⟩
/-- life in lives -/
def spCont (C : Addr) : Sp := fun vs H Q _ => ∃ (a : Addr) (y : V) (o : Option (V × V)) (F : Str → Option (List Int)), vs = [.ref a, y] ∧ LvAt C H a F ∧ LyAt H y o ∧ Q (.bl (inF F o)) H
theorem ok_cont {C f fW : Addr} {fd fdW : FuncData} (F : Fun K "__contains__" "Lives.__contains__" sCont f fd) (T : Lvs K mg C) (W : Words K mg) (L : WordsL mg) (FW : Fun K "is_whole" "is_whole" sWhole fW fdW) (bW : Binds K fdW ["value"] []) (gW : mg "is_whole" = some (.ref fW)) :
    FnOk P w K mg base CX0 2 f fd ["self", "life"] (spCont C) := by
  have GW : FnOk P w K mg base CX0 1 fW fdW ["value"] spWhole := ok_whole FW W
  refine F.ok scCont (fun vs H Q E h => ?_) (fun cdv A outer s H vs Q E hr h => ?_)
  · obtain ⟨a, y, o, F, rfl, _⟩ := h
    rfl
  · obtain ⟨a, y, o, F, rfl, hL, hy, q⟩ := h
    obtain ⟨dx, d, kvs, h1, h2, h3, h4⟩ := id hL
    refine ⟨_, pss_cons (ps_if (PW.pt (pw_or (pt_not (pt_val (pe_callB call_isi (by rfl) W.isi (by decide +kernel) (pa_cons (pv 1) (pa_cons (pe_bltn (v := .ty "tuple") (by rfl) L.tuple (by decide +kernel) rfl) pa_nil)))))
        (pw_or1 (pt_cmpR op_ne (pe_callB call_len_seq (by rfl) W.len PySem.boot_len (pa_cons (pv 1) pa_nil)) pe_int (nomark _))))) (pss_one (ps_ret pe_bl)) pss_nil)
      (pss_cons (ps_asg (pv 1) (pg_tup rfl (pgs_cons (pg_name (i := 2) scCont.nd rfl (Or.inl rfl)) (pgs_cons (pg_name (i := 3) scCont.nd rfl (Or.inl rfl)) pgs_nil))))
      (pss_cons (ps_if (PW.pt (pw_or (pt_not (pt_val (pe_callB call_isi (by rfl) W.isi (by decide +kernel) (pa_cons (pv 2) (pa_cons (pe_bltn (v := .ty "str") (by rfl) W.str (by decide +kernel) rfl) pa_nil)))))
        (pw_or1 (pt_cmp (pc_dnotin (hu_of hr) (pv 2) (pe_fld (pv 0) rfl)))))) (pss_one (ps_ret pe_bl)) pss_nil)
      (pss_one (ps_ret (pe_and (pe_call GW hr (by rfl) gW FW.kp bW .nil pass0 (pa_cons (pv 3) pa_nil)) (pe_one (pe_cmpR op_in_seq (pv 3) (pe_dget (hu_of hr) (pe_fld (pv 0) rfl) (pv 2) (fun _ _ => rfl)) (by rfl)))))))), ?_⟩
    rcases hy with ⟨rfl, T', hv, ht⟩ | ⟨u, x, p, T1, T2, rfl, rfl, hp, hu, hx⟩
    · have q : Q (.bl false) H := q
      refine ⟨_, rfl, _, _, _, _, _, rfl, .ty "tuple", hv.ty, hv.kitT, _, rfl, ?_⟩
      by_cases e : T' = "tuple"
      · rw [decide_eq_true e]
        obtain ⟨p, xs, rfl, hp, hn⟩ := ht e
        refine iteF ⟨_, rfl, p, xs, rfl, .inr (SqT.of hp), rfl, _, rfl, ite2 (fun e2 => ?_) (fun e2 => ?_)⟩
        · exact q
        · refine absurd ?_ e2
          rw [decide_eq_false (fun z => hn (by have := V.int.inj z; omega))]
          rfl
      · rw [decide_eq_false e]
        exact iteT q
    · refine ⟨_, rfl, _, _, _, _, _, rfl, .ty "tuple", .base (.tup hp), (Gv.tup hp).kitT, _, rfl, iteF ?_⟩
      refine ⟨_, rfl, p, _, rfl, .inr (SqT.of hp), rfl, _, rfl, ite2 (fun e => by cases e) (fun _ => ?_)⟩
      refine ⟨_, rfl, p, _, rfl, SqT.of hp, rfl, u, _, rfl, x, _, rfl, rfl, ?_⟩
      refine ⟨_, rfl, _, _, _, _, _, rfl, .ty "str", hu.ty, hu.kit "str" (.inr (.inr rfl)), _, rfl, ?_⟩
      have no : fB F u = none → Q (.bl false) H := fun e => by
        have : inF F (some (u, x)) = false := by
          cases x <;> simp [inF, e]
        rw [this] at q
        exact q
      cases hu with
      | non => exact iteT (no rfl)
      | bl b => exact iteT (no rfl)
      | int i => exact iteT (no rfl)
      | lst e => exact iteT (no rfl)
      | tup e => exact iteT (no rfl)
      | dK e => exact iteT (no rfl)
      | str z hz =>
        refine iteF ?_
        refine ⟨_, rfl, _, rfl, a, C, dx, _, _, rfl, h1, T.cl, T.nB, rfl, d, _, rfl, DGet.k (k := .inr z) h2, ?_⟩
        cases e : F z with
        | none =>
          rw [h3 z e]
          exact ⟨_, rfl, iteT (no e)⟩
        | some ns =>
          obtain ⟨t, e1, e2⟩ := h4 z ns e
          rw [e1]
          refine ⟨_, rfl, iteF ?_⟩
          refine ⟨_, rfl, x, T2, rfl, hx, _, rfl, ?_⟩
          have no2 : gInt x = false → Q (.bl false) H := fun g => by
            have : inF F (some (.str z, x)) = false := by
              cases x <;> first | rfl | cases g
            rw [this] at q
            exact q
          cases hx with
          | non => exact iteF (no2 rfl)
          | bl b => exact iteF (no2 rfl)
          | str z h => exact iteF (no2 rfl)
          | lst e => exact iteF (no2 rfl)
          | tup e => exact iteF (no2 rfl)
          | dK e => exact iteF (no2 rfl)
          | int i =>
            refine iteT ?_
            refine ⟨_, rfl, _, rfl, a, C, dx, _, _, rfl, h1, T.cl, T.nB, rfl, _, rfl, d, _, rfl, .inl ⟨kvs, .inr z, .inl h2, rfl, e1.symm⟩, t, _, rfl, .inr (SqT.of e2), rfl, flat_ints _, ?_⟩
            have : inF F (some (.str z, .int i)) = inV (.int i) (ns.map V.int) := by
              rw [inV_ints]
              show (match F z with | some ns => decide (i ∈ ns) | none => false) = _
              rw [e]
            rw [this] at q
            exact q
/-- what was told of such a value; what is raised keeps it -/
def spLast (C CL : Addr) : Sp := fun vs H Q E => ∃ (a : Addr) (y : V) (o : Option (V × V)) (F : Str → Option (List Int)), vs = [.ref a, y] ∧ LvAt C H a F ∧ FOk F ∧ LyAt H y o ∧
  (∀ u i ns r, o = some (u, .int i) → fB F u = some ns → i ∈ ns → (((∀ n ∈ ns, n ≤ i) ∧ r = 1000000000000000000000000000000) ∨ ∃ m ∈ ns, i < m ∧ (∀ n ∈ ns, i < n → m ≤ n) ∧ r = m - 1) → ∀ H', Same H H' → Q (.int r) H') ∧
  (inF F o = false → ∀ d H', Same H H' → H' d = some (.xd [("value", y)]) → E (.ref CL) (some d) H')
theorem inF_inv {F : Str → Option (List Int)} {o : Option (V × V)} (h : inF F o = true) : ∃ u i ns, o = some (u, .int i) ∧ fB F u = some ns ∧ i ∈ ns := by
  match o, h with
  | some (u, .int i), h =>
    have h : (match fB F u with | some ns => decide (i ∈ ns) | none => false) = true := h
    cases e : fB F u with
    | none => rw [e] at h; cases h
    | some ns =>
      rw [e] at h
      exact ⟨u, i, ns, rfl, e, of_decide_eq_true h⟩
theorem ok_last {CN CM CS CT' CL C f fC : Addr} {fd fdC : FuncData} (F : Fun K "last_of" "Lives.last_of" sLast f fd) (T : Lvs K mg C) (W : Words K mg) (L : WordsL mg) (R : Errs K mg CN CM CS CT' CL) (bC : Binds K fdC ["self", "life"] [])
    (GC : FnOk P w K mg base CX0 2 fC fdC ["self", "life"] (spCont C)) (sC : PySem.W.findIn K (.ref C) "__contains__" = some (some (.ref fC))) (iC : PySem.W.isFn K (.ref fC) = true) : FnOk P w K mg base (L2.CX P w) 3 f fd ["self", "life"] (spLast C CL) := by
  obtain ⟨f5, fd5, O5, F5⟩ := R.l
  have G5 : FnOk P w K mg base CX0 1 f5 fd5 ["self", "value"] (spOneE CL "value") := ok_eL F5 O5
  refine F.okX scLast (fun vs H Q E h => ?_) (fun cdv A outer s H vs Q E hr h => ?_)
  · obtain ⟨a, y, o, F, rfl, _⟩ := h
    rfl
  · obtain ⟨a, y, o, F, rfl, hL, hO, hy, qy, qn⟩ := h
    obtain ⟨dx, d, kvs, h1, h2, h3, h4⟩ := id hL
    obtain ⟨tG, hG⟩ := W.greatest
    refine ⟨_, pss_cons (ps_if (pt_cmpR (op_notInO GC sC iC bC pass0 hr) (pv 1) (pv 0) (by rfl)) (pss_one (ps_raiseOne O5 G5 rfl hr (takes_of rfl rfl rfl rfl) (by rfl) (pa_cons (pv 1) pa_nil))) pss_nil)
      (pss_cons (ps_asg (pv 1) (pg_tup rfl (pgs_cons (pg_name (i := 2) scLast.nd rfl (Or.inl rfl)) (pgs_cons (pg_name (i := 3) scLast.nd rfl (Or.inr rfl)) pgs_nil))))
      (pss_one (ps_ret (pe_op op_sub (pe_minDef rfl hr.units (by rfl) L.min (pa_cons (pe_lc (own := [("later", 4)]) (g := gName 4) rfl scLast.nd (pi_tup (pe_dget (hu_of hr) (pe_fld (pv 0) rfl) (pv 2) (fun _ _ => rfl))) (blkOk_by (N := ["self", "life", "tool", "beginning", "later"]) (sc := defScope sLast) (by decide +kernel))
          (fun _ _ _ _ _ => pg_name (i := 4) scLast.nd rfl (Or.inl rfl)) (fun _ _ _ _ _ => pts_one (pt_cmpR op_gt (pv 4) (pv 3) (nomark _)))
          (fun _ _ _ _ _ => pv 4)) pa_nil) (pk_cons (pe_op op_add (pe_glob (v := .int 1000000000000000000000000000000) rfl hG ⟨_, rfl⟩) pe_int) pk_nil)) pe_int)))), ?_⟩
    refine ⟨_, rfl, _, rfl, a, dx, _, rfl, h1, a, y, o, F, rfl, hL, hy, _, rfl, _, rfl, ite2 (fun e => ?_) (fun e => ?_)⟩
    · have e : inF F o = false := by
        cases h : inF F o with
        | true => rw [h] at e; cases e
        | false => rfl
      exact ⟨_, rfl, mkOne rfl fun d H' s2 _ e2 => qn e d H' s2 e2⟩
    · have e : inF F o = true := by
        cases h : inF F o with
        | true => rfl
        | false => rw [h] at e; exact absurd rfl e
      obtain ⟨u, i, ns, rfl, eu, hi⟩ := inF_inv e
      obtain ⟨p, T1, T2, rfl, hp⟩ : ∃ p, ∃ T1 T2 : String, y = .ref p ∧ H p = some (.tup [u, .int i]) := by
        rcases hy with ⟨z, _⟩ | ⟨_, _, p, T1, T2, e1, e2, e3, _⟩
        · cases z
        · cases e1
          exact ⟨p, T1, T2, e2, e3⟩
      obtain ⟨z, rfl⟩ : ∃ z, u = .str z := by
        cases u with
        | str z => exact ⟨z, rfl⟩
        | _ => cases eu
      have eu : F z = some ns := eu
      obtain ⟨t, e1, e2⟩ := h4 z ns eu
      refine ⟨_, rfl, p, _, rfl, SqT.of hp, rfl, _, _, rfl, _, _, rfl, rfl, ?_⟩
      refine ⟨_, rfl, a, C, dx, _, _, rfl, h1, T.cl, T.nB, rfl, _, rfl, d, _, rfl, .inl ⟨kvs, .inr z, .inl h2, rfl, e1.symm⟩, t, rfl, ⟨_, SqT.of e2⟩, fun D hD => ?_⟩
      obtain ⟨l, rfl, hl64, hlb, hlp⟩ := hO z ns eu
      have hlen : ∀ k, ((((0 :: l).take k).filter fun n => decide (i < n)).map V.int).length < sizeLine := fun k => by
        rw [List.length_map]
        have h1 := List.length_filter_le (fun n => decide (i < n)) ((0 :: l).take k)
        have h2 : ((0 :: l).take k).length ≤ (0 :: l).length := List.length_take_le' _ _
        have h3 : (0 :: l).length = l.length + 1 := rfl
        have := sizeLine_eq
        omega
      refine lc_it walk_tup (fun k H' => Same H H' ∧ H' D = some (.lst ((((0 :: l).take k).filter fun n => decide (i < n)).map V.int))) ⟨Same.over (Same.refl H) hD, upd_same⟩ (fun _ _ _ y => SqT.of (y.1 _ _ e2)) ?_ ?_
      · rintro k x H1 H2 hk ⟨s1, hDk⟩ ⟨rfl, hx⟩
        obtain ⟨n, hn, rfl⟩ : ∃ n, (0 :: l)[k]? = some n ∧ x = .int n := by
          rw [List.getElem?_map] at hx
          cases e : (0 :: l)[k]? with
          | none => rw [e] at hx; cases hx
          | some n => rw [e] at hx; exact ⟨n, rfl, (Option.some.inj hx).symm⟩
        refine ⟨rfl, _, rfl, _, rfl, _, _, rfl, rfl, _, rfl, ?_⟩
        have et : (0 :: l).take (k + 1) = (0 :: l).take k ++ [n] := by rw [List.take_add_one, hn]; rfl
        rw [et, List.filter_append]
        by_cases c : i < n
        · rw [decide_eq_true c]
          refine iteT ⟨_, rfl, _, hDk, hlen k, Same.over s1 hD, ?_⟩
          rw [upd_same, List.map_append]
          simp [c]
        · rw [decide_eq_false c]
          refine iteF ⟨s1, ?_⟩
          rw [hDk]
          simp [c]
      · rintro H1 ⟨s1, hDk⟩
        rw [List.length_map, List.take_length] at hDk
        refine ⟨_, _, rfl, rfl, D, _, _, rfl, rfl, SqL.of hDk, fun e0 => ?_, fun m hm1 hm2 => ?_⟩
        · refine ⟨_, _, rfl, rfl, qy _ i _ _ rfl eu hi (.inl ⟨fun n hn => ?_, rfl⟩) H1 s1⟩
          have := List.filter_eq_nil_iff.mp e0 n hn
          have : ¬ i < n := fun z => this (decide_eq_true z)
          omega
        · refine ⟨_, _, rfl, rfl, qy _ i _ _ rfl eu hi (.inr ⟨m, (List.mem_filter.mp hm1).1, of_decide_eq_true (List.mem_filter.mp hm1).2, fun n hn hin => hm2 n (List.mem_filter.mpr ⟨hn, decide_eq_true hin⟩), rfl⟩) H1 s1⟩
/-- what was told of such a tool and moment; what is raised keeps them -/
def spLife (C CM CT' : Addr) : Sp := fun vs H Q E => ∃ (a : Addr) (v m : V) (T1 T2 : String) (F : Str → Option (List Int)), vs = [.ref a, v, m] ∧ LvAt C H a F ∧ FOk F ∧ Gv H v T1 ∧ Gv H m T2 ∧
  (∀ i ns b, fB F v = some ns → m = .int i → gMom m = true → b ∈ ns → b ≤ i → (∀ n ∈ ns, n ≤ i → n ≤ b) → ∀ t H', Same H H' → H' t = some (.tup [v, .int b]) → Q (.ref t) H') ∧
  (fB F v = none → ∀ d H', Same H H' → H' d = some (.xd [("tool", v)]) → E (.ref CT') (some d) H') ∧
  (∀ ns, fB F v = some ns → gMom m = false → ∀ d H', Same H H' → H' d = some (.xd [("moment", m)]) → E (.ref CM) (some d) H')
theorem ok_life {CN CM CS CT' C f fB' fC : Addr} {fd fdB fdC : FuncData} (F : Fun K "life_of" "Lives.life_of" sLife f fd) (L : WordsL mg) (mB : Meth K C "beginnings" fB') (T : Lvs K mg C) (bB : Binds K fdB ["self", "tool"] []) (GB : FnOk P w K mg base (L2.CX P w) 3 fB' fdB ["self", "tool"] (spBeg C CT'))
    (FC : Fun K "check_form" "check_form" sCheck fC fdC) (bC : Binds K fdC ["value", "form"] []) (gC : mg "check_form" = some (.ref fC)) (GC : FnOk P w K mg base (L2.CX P w) 3 fC fdC ["value", "form"] (spCheck CN CM CS)) :
    FnOk P w K mg base (L2.CX P w) 4 f fd ["self", "tool", "moment"] (spLife C CM CT') := by
  refine F.okX scLife (fun vs H Q E h => ?_) (fun cdv A outer s H vs Q E hr h => ?_)
  · obtain ⟨a, v, m, T1, T2, F, rfl, _⟩ := h
    rfl
  · obtain ⟨a, v, m, T1, T2, F, rfl, hL, hO, hv, hm, qy, q1, q2⟩ := h
    refine ⟨_, pss_cons (ps_set (i := 3) scLife.nd rfl (.inl rfl) (pe_meth (pv 0) T.cl mB GB hr bB .nil (passes_call (takes_of rfl rfl rfl rfl) (fun _ _ _ _ h => h)) (pa_cons (pv 1) pa_nil)))
      (pss_cons (ps_expr (pe_call GC hr (by rfl) gC FC.kp bC .nil (passes_call (takes_of rfl rfl rfl rfl) (fun _ _ _ _ h => h)) (pa_cons (pv 2) (pa_cons pe_str pa_nil))))
      (pss_one (ps_ret (pe_tup (pa_cons (pv 1) (pa_cons (pe_callB (cr_max rfl) (by rfl) L.max (by decide +kernel) (pa_cons (pe_lc (own := [("beginning", 4)]) (g := gName 4) rfl scLife.nd (pi_tup (pv 3)) (blkOk_by (N := ["self", "tool", "moment", "beginnings", "beginning"]) (sc := defScope sLife) (by decide +kernel))
          (fun _ _ _ _ _ => pg_name (i := 4) scLife.nd rfl (Or.inl rfl)) (fun _ _ _ _ _ => pts_one (pt_cmpR op_le (pv 4) (pv 2) (nomark _)))
          (fun _ _ _ _ _ => pv 4)) pa_nil)) pa_nil)))))), ?_⟩
    obtain ⟨dx, d, kvs, h1, h2, h3, h4⟩ := id hL
    refine ⟨_, rfl, a, dx, _, rfl, h1, rfl, _, rfl, a, v, T1, F, rfl, hL, hv, fun ns e t ht => ?_, fun e d H' s1 h => q1 e d H' s1 h⟩
    refine ⟨_, rfl, m, T2, _, _, _, _, rfl, hm, .inr (.inl ⟨rfl, rfl, rfl, rfl⟩), fun hg H1 s1 => ?_, fun hg d H' s1 h => q2 ns e hg d H' s1 h⟩
    obtain ⟨i, rfl⟩ : ∃ i, m = .int i := by
      cases m with
      | int i => exact ⟨i, rfl⟩
      | _ => cases hg
    obtain ⟨z, rfl⟩ : ∃ z, v = .str z := by
      cases v with
      | str z => exact ⟨z, rfl⟩
      | _ => cases e
    obtain ⟨l, rfl, hl64, hlb, hlp⟩ := hO z ns e
    have hi0 : 0 ≤ i := (of_decide_eq_true hg).1
    have ht1 := s1 _ _ ht
    have hlen : ∀ k, ((((0 :: l).take k).filter fun n => decide (n ≤ i)).map V.int).length < sizeLine := fun k => by
      rw [List.length_map]
      have h1 := List.length_filter_le (fun n => decide (n ≤ i)) ((0 :: l).take k)
      have h2 : ((0 :: l).take k).length ≤ (0 :: l).length := List.length_take_le' _ _
      have h3 : (0 :: l).length = l.length + 1 := rfl
      have := sizeLine_eq
      omega
    refine ⟨_, rfl, _, rfl, t, rfl, ⟨_, SqT.of ht1⟩, fun D hD => ?_⟩
    refine lc_it walk_tup (fun k H' => Same H1 H' ∧ H' D = some (.lst ((((0 :: l).take k).filter fun n => decide (n ≤ i)).map V.int))) ⟨Same.over (Same.refl H1) hD, upd_same⟩ (fun _ _ _ y => SqT.of (y.1 _ _ ht1)) ?_ ?_
    · rintro k x H2 H3 hk ⟨s2, hDk⟩ ⟨rfl, hx⟩
      obtain ⟨n, hn, rfl⟩ : ∃ n, (0 :: l)[k]? = some n ∧ x = .int n := by
        rw [List.getElem?_map] at hx
        cases e : (0 :: l)[k]? with
        | none => rw [e] at hx; cases hx
        | some n => rw [e] at hx; exact ⟨n, rfl, (Option.some.inj hx).symm⟩
      refine ⟨rfl, _, rfl, _, rfl, _, _, rfl, rfl, _, rfl, ?_⟩
      have et : (0 :: l).take (k + 1) = (0 :: l).take k ++ [n] := by rw [List.take_add_one, hn]; rfl
      rw [et, List.filter_append]
      by_cases c : n ≤ i
      · rw [decide_eq_true c]
        refine iteT ⟨_, rfl, _, hDk, hlen k, Same.over s2 hD, ?_⟩
        rw [upd_same, List.map_append]
        simp [c]
      · rw [decide_eq_false c]
        refine iteF ⟨s2, ?_⟩
        rw [hDk]
        simp [c]
    · rintro H2 ⟨s2, hDk⟩
      rw [List.length_map, List.take_length] at hDk
      refine ⟨D, _, rfl, SqL.of hDk, ?_, fun b hb1 hb2 => ⟨by show 2 ≤ sizeLine; decide, fun t' ht' => ?_⟩⟩
      · exact List.length_pos_of_mem (List.mem_filter.mpr ⟨List.mem_cons_self, decide_eq_true hi0⟩)
      · exact qy i _ b e rfl hg (List.mem_filter.mp hb1).1 (of_decide_eq_true (List.mem_filter.mp hb1).2) (fun n hn hni => hb2 n (List.mem_filter.mpr ⟨hn, decide_eq_true hni⟩)) t' _ ((s1.trans s2).trans (same_upd0 ht')) upd_same
end
end K09

namespace K09
open PySem PySem.Spec PyProof.Rows L2 So LamX
abbrev sHeard : Stmt := topS 27
abbrev heardN : List Str := ["_law_ask", "_law_caught", "error", "_law_heard_here"]
theorem scHeard : FnScope heardN ["_law_ask"] (defScope sHeard) := ⟨rfl, rfl, rfl, by decide +kernel, rfl, by decide +kernel, by decide +kernel⟩
theorem pe_imp {X : Cx} {e : Expr} {t : TE} (h : PE X e t) : PE X e (fun σ H Q => ∃ Q0 : VK, t σ H Q0 ∧ ∀ v H', Q0 v H' → Q v H') :=
  ⟨fun pins s σ H Q I ⟨Q0, h1, h2⟩ => thn (h.run pins s σ H Q0 I h1) fun u s' ⟨v, H', I', r, q⟩ => ⟨v, H', I', r, h2 v H' q⟩⟩
theorem takes_len {X : Cx} {W : WX} (tk : Takes X W) : Takes X (fun c d σ H => σ.length = X.N.length → W c d σ H) := fun u s' ⟨a, B, sI, pins, σ, H, cls, d, e, I, nb, up, sky, na, os, ag, w⟩ =>
  tk u s' ⟨a, B, sI, pins, σ, H, cls, d, e, I, nb, up, sky, na, os, ag, w I.len⟩
/-- the errors by the law's words -/
def KindL (CT' CL CM : Addr) (wd : Str) (C : Addr) (fl : Str) : Prop := (wd = "tool" ∧ C = CT' ∧ fl = "tool") ∨ (wd = "life" ∧ C = CL ∧ fl = "value") ∨ (wd = "moment" ∧ C = CM ∧ fl = "moment")
def EchL (CT' CL CM : Addr) (Q : VK) : XK := fun cls d H' => ∃ (wd : Str) (C : Addr) (fl : Str) (v : V) (dd : Addr), KindL CT' CL CM wd C fl ∧ cls = .ref C ∧ d = some dd ∧ H' dd = some (.xd [(fl, v)]) ∧ ∀ (H'' : Hp) (r : Addr), Same H' H'' → H'' r = some (.tup [.str wd, v]) → Q (.ref r) H''
def QtL (Q : VK) : VK := fun v H' => ∀ t, H' t = none → Q (.ref t) (upd H' t (.tup [.str "told", v]))
def TTL (CT' CL CM : Addr) : (XK → Hp → VK → Prop) → Hp → VK → Prop := fun tl H Q => tl (EchL CT' CL CM Q) H (QtL Q)
/-- what the top says of the errors, to the law's heard -/
structure HrL (K : PySem.W.Frag) (mg : Str → Option Value) (CT CN CM CT' CL : Addr) : Prop where
  gT : mg "TillError" = some (.ref CT)
  gN : mg "BadName" = some (.ref CN)
  gM : mg "BadMoment" = some (.ref CM)
  gTo : mg "NoTool" = some (.ref CT')
  gL : mg "NoLife" = some (.ref CL)
  gV : mg "ValueError" = none
  isi : mg "isinstance" = none
  len : mg "len" = none
  te : ∀ C ∈ [CT', CL, CM], PySem.W.exmOne K (.ref C) (.ref CT) = some true ∧ PySem.W.kitOne K (.ref C) (.type "ValueError") = some true ∧ Err K C
  eN : Err K CN
  no : ∀ C ∈ [CT', CL, CN, CM], PySem.W.kitOne K (.type "NoneType") (.ref C) = some false
  tt : PySem.W.kitOne K (.ref CT') (.ref CT') = some true
  tl : PySem.W.kitOne K (.ref CT') (.ref CL) = some false
  tn : PySem.W.kitOne K (.ref CT') (.ref CN) = some false
  tm : PySem.W.kitOne K (.ref CT') (.ref CM) = some false
  lt : PySem.W.kitOne K (.ref CL) (.ref CT') = some false
  ll : PySem.W.kitOne K (.ref CL) (.ref CL) = some true
  ln : PySem.W.kitOne K (.ref CL) (.ref CN) = some false
  lm : PySem.W.kitOne K (.ref CL) (.ref CM) = some false
  mt : PySem.W.kitOne K (.ref CM) (.ref CT') = some false
  ml : PySem.W.kitOne K (.ref CM) (.ref CL) = some false
  mn : PySem.W.kitOne K (.ref CM) (.ref CN) = some false
  mm : PySem.W.kitOne K (.ref CM) (.ref CM) = some true
  fN : PySem.W.findIn K (.ref CN) "name" = some none
  fM : PySem.W.findIn K (.ref CM) "moment" = some none
  fT : PySem.W.findIn K (.ref CT') "tool" = some none
  fL : PySem.W.findIn K (.ref CL) "value" = some none
section
variable {X : Cx}
theorem heard_gives {q : Str} {g CT CN CM CT' CL : Addr} {cdg : Value} (R : HrL X.K X.mg CT CN CM CT' CL) : GivesTo X heardN "_law_heard" (defScope sHeard) g cdg (defBody sHeard) "_law_ask" q (TTL CT' CL CM) := by
  intro f c' s H Q tl act hc h
  have TM := (R.te CM (by simp)).2.2
  have TT := (R.te CT' (by simp)).2.2
  have TL := (R.te CL (by simp)).2.2
  have TN := R.eN
  refine ⟨_, (pss_cons (ps_set (i := 1) scHeard.nd rfl (.inl rfl) pe_non)
      (pss_cons (ps_try_keep (X := (cxOf C8.CX0 X.prog X.w X.K X.mg X.base heardN "_law_heard" (defScope sHeard) g cdg X.A X.stack s H C8.E0).nox) (i := 2) (n := "error") (c := .ref CT)
        (tb := fun W D σ H => ∃ Ech : XK, (∀ cls d σ' H', Ech cls d H' → σ'.length = 4 → W cls d σ' H') ∧ σ[0]? = some (some (.ref f)) ∧ H c' = some (CodeO c' q) ∧ ∃ Q0 : VK, tl Ech H Q0 ∧ ∀ v H', Q0 v H' → ∀ t, H' t = none → D.rt (.ref t) (upd H' t (.tup [.str "told", v])))
        rfl rfl rfl scHeard.nd rfl rfl ⟨rfl, by decide, .inl R.gT⟩ LamX.takes0 (fun W pn xe tk _ => ?_) (fun a pn => pss_one (ps_set (i := 1) scHeard.nd rfl (.inl rfl) (pv 2))))
      (pss_cons (ps_set (i := 3) scHeard.nd rfl (.inl rfl) (pe_lst pa_nil))
      (pss_cons (ps_if (pt_val (pe_callB (So.CallR.or call_isi call_isXo) (by rfl) R.isi (by decide +kernel) (pa_cons (pv 1) (pa_cons (pe_glob (v := .ref CT') rfl R.gTo rfl) pa_nil)))) (pss_one (ps_expr (pe_bm PySem.F.plainAttrs_list PySem.F.slot_list_append PySem.F.type_list_append mt_append (pv 3) (pa_cons (pe_tup (pa_cons pe_str (pa_cons (pe_xo TT R.fT (pv 1)) pa_nil))) pa_nil)))) pss_nil)
      (pss_cons (ps_if (pt_val (pe_callB (So.CallR.or call_isi call_isXo) (by rfl) R.isi (by decide +kernel) (pa_cons (pv 1) (pa_cons (pe_glob (v := .ref CL) rfl R.gL rfl) pa_nil)))) (pss_one (ps_expr (pe_bm PySem.F.plainAttrs_list PySem.F.slot_list_append PySem.F.type_list_append mt_append (pv 3) (pa_cons (pe_tup (pa_cons pe_str (pa_cons (pe_xo TL R.fL (pv 1)) pa_nil))) pa_nil)))) pss_nil)
      (pss_cons (ps_if (pt_val (pe_callB (So.CallR.or call_isi call_isXo) (by rfl) R.isi (by decide +kernel) (pa_cons (pv 1) (pa_cons (pe_glob (v := .ref CN) rfl R.gN rfl) pa_nil)))) (pss_one (ps_expr (pe_bm PySem.F.plainAttrs_list PySem.F.slot_list_append PySem.F.type_list_append mt_append (pv 3) (pa_cons (pe_tup (pa_cons pe_str (pa_cons (pe_xo TN R.fN (pv 1)) pa_nil))) pa_nil)))) pss_nil)
      (pss_cons (ps_if (pt_val (pe_callB (So.CallR.or call_isi call_isXo) (by rfl) R.isi (by decide +kernel) (pa_cons (pv 1) (pa_cons (pe_glob (v := .ref CM) rfl R.gM rfl) pa_nil)))) (pss_one (ps_expr (pe_bm PySem.F.plainAttrs_list PySem.F.slot_list_append PySem.F.type_list_append mt_append (pv 3) (pa_cons (pe_tup (pa_cons pe_str (pa_cons (pe_xo TM R.fM (pv 1)) pa_nil))) pa_nil)))) pss_nil)
      (pss_one (ps_ret (pe_ifExp (PW.pt (pw_and (pt_cmpR op_eq (pe_callB call_len_seq (by rfl) R.len PySem.boot_len (pa_cons (pv 3) pa_nil)) pe_int (nomark _))
        (pw_and1 (pt_val (pe_callB call_isXo (by rfl) R.isi (by decide +kernel) (pa_cons (pv 1) (pa_cons (pe_bltn (v := .ty "ValueError") (by rfl) R.gV (by decide +kernel) rfl) pa_nil)))))))
      (pe_ix ix_list (pv 3) pe_int (fun _ _ => rfl)) pe_str)))))))))), ?_⟩
  · refine ⟨fun pins s' σ H' D I h' => ?_⟩
    obtain ⟨Ech, hW, h1, h2, Q0, h3, h4⟩ := h'
    refine (pss_one (ps_ret (pe_tup (pa_cons pe_str (pa_cons (pe_imp (act (fun c d σ H => σ.length = 4 → W c d σ H) pn xe Ech _ _ (takes_len tk) hW)) pa_nil))))).run pins s' σ H' D I ?_
    exact ⟨Q0, ⟨h1, h2, h3⟩, fun v H'' z => ⟨by show 2 ≤ sizeLine; decide, fun t ht => h4 v H'' z t ht⟩⟩
  · refine ⟨EchL CT' CL CM Q, fun cls d σ' H' ⟨wd, C, fl, v, dd, k3, e1, e2, e3, q3⟩ hl => ?_, rfl, hc, QtL Q, h, fun v H' z t ht => z t ht⟩
    obtain ⟨x0, x1, x2, x3, rfl⟩ : ∃ x0 x1 x2 x3, σ' = [x0, x1, x2, x3] := by
      match σ', hl with
      | [x0, x1, x2, x3], _ => exact ⟨x0, x1, x2, x3, rfl⟩
    subst e1 e2
    have hC : C ∈ [CT', CL, CM] := by
      rcases k3 with ⟨_, rfl, _⟩ | ⟨_, rfl, _⟩ | ⟨_, rfl, _⟩ <;> simp
    obtain ⟨tE, tV, tEr⟩ := R.te C hC
    refine ⟨true, tE, fun _ a ha => ?_, fun y => nomatch y⟩
    refine ⟨_, rfl, by show 0 ≤ sizeLine; decide, fun p hp => ?_⟩
    have s0 : Same H' (upd H' a (Xo (.ref C) (some dd) a)) := same_upd0 ha
    have s1 := s0.trans (same_upd0 (o := .lst []) hp)
    have HA : (upd (upd H' a (Xo (.ref C) (some dd) a)) p (.lst [])) a = some (Xo (.ref C) (some dd) a) := same_upd0 hp _ _ upd_same
    have HD : (upd (upd H' a (Xo (.ref C) (some dd) a)) p (.lst [])) dd = some (.xd [(fl, v)]) := s1 _ _ e3
    have HP : (upd (upd H' a (Xo (.ref C) (some dd) a)) p (.lst [])) p = some (.lst []) := upd_same
    have hpn : H' p = none := s0.free hp
    revert s1 HA HD HP
    generalize upd (upd H' a (Xo (.ref C) (some dd) a)) p (.lst []) = H1
    intro s1 HA HD HP
    rcases k3 with ⟨rfl, rfl, rfl⟩ | ⟨rfl, rfl, rfl⟩ | ⟨rfl, rfl, rfl⟩
    · refine ⟨_, rfl, .inr ⟨a, _, dd, _, _, _, true, rfl, HA, HD, tEr, .own _, R.tt, _, rfl, iteT ?_⟩⟩
      refine ⟨_, rfl, .inl ⟨rfl, _, SqL.of HP⟩, _, rfl, a, dd, _, v, rfl, HA, HD, by simp [List.lookup], by show 2 ≤ sizeLine; decide, fun r hr => ?_⟩
      have s2 := same_upd0 (o := .tup [.str "tool", v]) hr
      refine ⟨p, _, _, rfl, rfl, s2 _ _ HP, by show 0 < sizeLine; decide, ?_⟩
      have nrp : r ≠ p := fun y => by rw [y, HP] at hr; cases hr
      have nap : a ≠ p := fun y => by rw [y, HP] at HA; cases HA
      have ndp : dd ≠ p := ne_of HD HP (fun y => nomatch y)
      have HA3 := (upd_ne (o := HO.lst [.ref r]) nap).trans (s2 _ _ HA)
      have HD3 := (upd_ne (o := HO.lst [.ref r]) ndp).trans (s2 _ _ HD)
      refine ⟨_, rfl, .inr ⟨a, _, dd, _, _, _, false, rfl, HA3, HD3, tEr, .own CL, R.tl, _, rfl, iteF ?_⟩⟩
      refine ⟨_, rfl, .inr ⟨a, _, dd, _, _, _, false, rfl, HA3, HD3, tEr, .own CN, R.tn, _, rfl, iteF ?_⟩⟩
      refine ⟨_, rfl, .inr ⟨a, _, dd, _, _, _, false, rfl, HA3, HD3, tEr, .own CM, R.tm, _, rfl, iteF ?_⟩⟩
      refine ⟨_, rfl, p, _, rfl, .inl (SqL.of upd_same), rfl, _, rfl, ite2 (fun _ => ?_) (fun y => absurd (decide_eq_true rfl) y)⟩
      refine ⟨_, rfl, a, _, dd, _, _, _, true, rfl, HA3, HD3, tEr, .ty "ValueError", tV, _, rfl, iteT ?_⟩
      refine ⟨_, rfl, p, _, 0, _, rfl, rfl, SqL.of upd_same, atI_nat (j := 0) rfl, q3 _ r (fun b o y => ?_) ((upd_ne nrp).trans upd_same)⟩
      exact (upd_ne (ne_of_none y hpn)).trans (s2 _ _ (s1 _ _ y))
    · refine ⟨_, rfl, .inr ⟨a, _, dd, _, _, _, false, rfl, HA, HD, tEr, .own CT', R.lt, _, rfl, iteF ?_⟩⟩
      refine ⟨_, rfl, .inr ⟨a, _, dd, _, _, _, true, rfl, HA, HD, tEr, .own _, R.ll, _, rfl, iteT ?_⟩⟩
      refine ⟨_, rfl, .inl ⟨rfl, _, SqL.of HP⟩, _, rfl, a, dd, _, v, rfl, HA, HD, by simp [List.lookup], by show 2 ≤ sizeLine; decide, fun r hr => ?_⟩
      have s2 := same_upd0 (o := .tup [.str "life", v]) hr
      refine ⟨p, _, _, rfl, rfl, s2 _ _ HP, by show 0 < sizeLine; decide, ?_⟩
      have nrp : r ≠ p := fun y => by rw [y, HP] at hr; cases hr
      have nap : a ≠ p := fun y => by rw [y, HP] at HA; cases HA
      have ndp : dd ≠ p := ne_of HD HP (fun y => nomatch y)
      have HA3 := (upd_ne (o := HO.lst [.ref r]) nap).trans (s2 _ _ HA)
      have HD3 := (upd_ne (o := HO.lst [.ref r]) ndp).trans (s2 _ _ HD)
      refine ⟨_, rfl, .inr ⟨a, _, dd, _, _, _, false, rfl, HA3, HD3, tEr, .own CN, R.ln, _, rfl, iteF ?_⟩⟩
      refine ⟨_, rfl, .inr ⟨a, _, dd, _, _, _, false, rfl, HA3, HD3, tEr, .own CM, R.lm, _, rfl, iteF ?_⟩⟩
      refine ⟨_, rfl, p, _, rfl, .inl (SqL.of upd_same), rfl, _, rfl, ite2 (fun _ => ?_) (fun y => absurd (decide_eq_true rfl) y)⟩
      refine ⟨_, rfl, a, _, dd, _, _, _, true, rfl, HA3, HD3, tEr, .ty "ValueError", tV, _, rfl, iteT ?_⟩
      refine ⟨_, rfl, p, _, 0, _, rfl, rfl, SqL.of upd_same, atI_nat (j := 0) rfl, q3 _ r (fun b o y => ?_) ((upd_ne nrp).trans upd_same)⟩
      exact (upd_ne (ne_of_none y hpn)).trans (s2 _ _ (s1 _ _ y))
    · refine ⟨_, rfl, .inr ⟨a, _, dd, _, _, _, false, rfl, HA, HD, tEr, .own CT', R.mt, _, rfl, iteF ?_⟩⟩
      refine ⟨_, rfl, .inr ⟨a, _, dd, _, _, _, false, rfl, HA, HD, tEr, .own CL, R.ml, _, rfl, iteF ?_⟩⟩
      refine ⟨_, rfl, .inr ⟨a, _, dd, _, _, _, false, rfl, HA, HD, tEr, .own CN, R.mn, _, rfl, iteF ?_⟩⟩
      refine ⟨_, rfl, .inr ⟨a, _, dd, _, _, _, true, rfl, HA, HD, tEr, .own _, R.mm, _, rfl, iteT ?_⟩⟩
      refine ⟨_, rfl, .inl ⟨rfl, _, SqL.of HP⟩, _, rfl, a, dd, _, v, rfl, HA, HD, by simp [List.lookup], by show 2 ≤ sizeLine; decide, fun r hr => ?_⟩
      have s2 := same_upd0 (o := .tup [.str "moment", v]) hr
      refine ⟨p, _, _, rfl, rfl, s2 _ _ HP, by show 0 < sizeLine; decide, ?_⟩
      have nrp : r ≠ p := fun y => by rw [y, HP] at hr; cases hr
      have nap : a ≠ p := fun y => by rw [y, HP] at HA; cases HA
      have ndp : dd ≠ p := ne_of HD HP (fun y => nomatch y)
      have HA3 := (upd_ne (o := HO.lst [.ref r]) nap).trans (s2 _ _ HA)
      have HD3 := (upd_ne (o := HO.lst [.ref r]) ndp).trans (s2 _ _ HD)
      refine ⟨_, rfl, p, _, rfl, .inl (SqL.of upd_same), rfl, _, rfl, ite2 (fun _ => ?_) (fun y => absurd (decide_eq_true rfl) y)⟩
      refine ⟨_, rfl, a, _, dd, _, _, _, true, rfl, HA3, HD3, tEr, .ty "ValueError", tV, _, rfl, iteT ?_⟩
      refine ⟨_, rfl, p, _, 0, _, rfl, rfl, SqL.of upd_same, atI_nat (j := 0) rfl, q3 _ r (fun b o y => ?_) ((upd_ne nrp).trans upd_same)⟩
      exact (upd_ne (ne_of_none y hpn)).trans (s2 _ _ (s1 _ _ y))
end
end K09

namespace K09
open PySem PySem.Spec PyProof.Rows L2 So
abbrev sCrew : Stmt := topS 24
abbrev sOddT : Stmt := topS 25
abbrev sLasts : Stmt := topS 28
theorem scCrew : FnScope ["_law_pen_here", "_law_stem", "_law_sign"] ["_law_pen_here"] (defScope sCrew) := ⟨rfl, rfl, rfl, by decide +kernel, rfl, by decide +kernel, by decide +kernel⟩
theorem scOddT : FnScope ["_law_pen_here"] ["_law_pen_here"] (defScope sOddT) := ⟨rfl, rfl, rfl, by decide +kernel, rfl, by decide +kernel, by decide +kernel⟩
theorem scLasts : FnScope ["_law_firsts", "_law_first"] ["_law_firsts"] (defScope sLasts) := ⟨rfl, rfl, rfl, by decide +kernel, rfl, by decide +kernel, by decide +kernel⟩
theorem Pen.same {H H' : Hp} {p l : Addr} {ns : List Int} {n : Nat} {g : Int} (h : Pen H p l ns n g) (s : Same H H') : Pen H' p l ns n g := ⟨s _ _ h.pen, s _ _ h.cells, h.left⟩
theorem Pen.ne {H : Hp} {p l q : Addr} {ns : List Int} {n : Nat} {g : Int} (h : Pen H p l ns n g) (hq : H q = none) : q ≠ p := (ne_of_none h.pen hq).symm
theorem offS {p : Addr} {H H' : Hp} (s : Same H H') : Off p H H' := fun b o _ e => s b o e
/-! ### the crews -/
def crewOf (stem : Str) (k : Int) : List Str := (cutS "zabc" none (some k)).cps.toList.map fun c => stem ++ (⟨#[c]⟩ : Str)
def crewsAll : List (List Str) := (["", "g", "gauge0"] : List Str).flatMap fun s => [1, 2, 3, 4].map (crewOf s)
def oddNames : List Str := ["", "A", "sound", "zzzzzz9z"]
theorem crew_facts : ∀ c ∈ crewsAll, c ≠ [] ∧ c.length ≤ 4 ∧ c.Nodup ∧ ∀ z ∈ c, isName z = true ∧ z.length ≤ 100 ∧ (∀ x ∈ z.cps.toList, x < 128) ∧ oddNames.contains z = false := by decide +kernel
theorem cut_len : ∀ k ∈ ([1, 2, 3, 4] : List Int), (cutS "zabc" none (some k)).cps.size ≤ 4 := by decide +kernel
section
variable {P : Program} {w : World} {K : PySem.W.Frag} {mg : Str → Option Value} {base : Heap}
def spCrew : Sp := fun vs H Q _ => ∃ (p l : Addr) (ns : List Int) (n : Nat) (g : Int), vs = [.ref p] ∧ Pen H p l ns n g ∧ n < 999000 ∧
  ∀ (crew : List Str) (c : Addr) (n' : Nat) (g' : Int) (H' : Hp), crew ∈ crewsAll → n' ≤ n + 2 → Off p H H' → Pen H' p l ns n' g' → H' c = some (.lst (crew.map V.str)) → c ≠ p → Q (.ref c) H'
theorem ok_crew {f fP fD : Addr} {fd fdP fdD : FuncData} (F : Fun K "_law_crew" "_law_crew" sCrew f fd) (FP : Fun K "_law_pick" "_law_pick" sPick fP fdP) (bP : Binds K fdP ["_law_pen_here", "_law_some"] []) (gP : mg "_law_pick" = some (.ref fP))
    (GP : FnOk P w K mg base CX0 2 fP fdP ["_law_pen_here", "_law_some"] (spPick K)) (FD : Fun K "_law_draw" "_law_draw" sDraw fD fdD) (bD : Binds K fdD ["_law_pen_here", "_law_many"] []) (gD : mg "_law_draw" = some (.ref fD))
    (GD : FnOk P w K mg base CX0 1 fD fdD ["_law_pen_here", "_law_many"] spDraw) : FnOk P w K mg base CX0 3 f fd ["_law_pen_here"] spCrew := by
  refine F.ok scCrew (fun vs H Q E h => ?_) (fun cdv A outer s H vs Q E hr h => ?_)
  · obtain ⟨p, l, ns, n, g, rfl, _⟩ := h
    rfl
  · obtain ⟨p, l, ns, n, g, rfl, hp, hn, k⟩ := h
    have hr1 : Room 1 _ := hr.mono (by decide)
    refine ⟨_, pss_cons (ps_set (i := 1) scCrew.nd rfl (.inr rfl) (pe_call GP hr (by rfl) gP FP.kp bP .nil pass0 (pa_cons (pv 0) (pa_cons (pe_lst (pa_cons pe_str (pa_cons pe_str (pa_cons pe_str (pa_cons pe_str pa_nil))))) pa_nil))))
      (pss_one (ps_ret (pe_lc (own := [("_law_sign", 2)]) (g := gName 2) (tt := tYes) rfl scCrew.nd (pi_str (pe_slice sl_str pe_str po_none (po_some (pe_op op_add pe_int (pe_call GD hr1 (by rfl) gD FD.kp bD .nil pass0 (pa_cons (pv 0) (pa_cons pe_int pa_nil))))))) (blkOk_by (N := ["_law_pen_here", "_law_stem", "_law_sign"]) (sc := defScope sCrew) (by decide +kernel))
        (fun _ _ _ _ _ => pg_name (i := 2) scCrew.nd rfl (Or.inl rfl)) (fun _ _ _ _ _ => pts_nil) (fun _ _ _ _ _ => pe_op op_add_str (pv 1) (pv 2))))), ?_⟩
    refine ⟨_, rfl, (by show 4 ≤ sizeLine; decide), fun q1 hq1 => ?_⟩
    refine ⟨p, l, ns, n, g, _, rfl, hp.new hq1, by omega, .inl ⟨q1, _, rfl, hp.ne hq1, upd_same, (by show 0 < 4; decide), (by show 4 ≤ 1000; decide), fun v n1 g1 H1 hv hn1 off1 pen1 => ?_⟩⟩
    have offA : Off p H H1 := (offS (same_upd0 hq1)).trans off1
    obtain ⟨stem, hst, hsl, rfl⟩ : ∃ stem : Str, stem ∈ (["", "g", "gauge0"] : List Str) ∧ stem.length ≤ 6 ∧ v = .str stem := by
      simp only [List.mem_cons, List.not_mem_nil, or_false] at hv
      rcases hv with h | h | h | h <;> subst h
      · exact ⟨_, by simp, by decide +kernel, rfl⟩
      · exact ⟨_, by simp, by decide +kernel, rfl⟩
      · exact ⟨_, by simp, by decide +kernel, rfl⟩
      · exact ⟨_, by simp, by decide +kernel, rfl⟩
    refine ⟨_, rfl, p, l, ns, n1, g1, _, rfl, pen1, by omega, by decide, by decide, fun d n2 g2 H2 hd0 hd4 hn2 off2 pen2 => ?_⟩
    have hk : (1 + d) ∈ ([1, 2, 3, 4] : List Int) := by
      have : d = 0 ∨ d = 1 ∨ d = 2 ∨ d = 3 := by omega
      rcases this with h | h | h | h <;> subst h <;> decide
    refine ⟨_, _, rfl, rfl, 1 + d, rfl, "zabc", rfl, by decide +kernel, _, rfl, fun D hD => ?_⟩
    have hzs := cut_len _ hk
    generalize hz : cutS "zabc" none (some (1 + d)) = z at hzs
    refine lc_it walk_str (fun i H' => H' D = some (.lst (((z.cps.toList.take i).map fun c => stem ++ (⟨#[c]⟩ : Str)).map V.str)) ∧ Same H2 H') ⟨upd_same, same_upd0 hD⟩ (fun _ _ _ _ => trivial) ?_ ?_
    · rintro i x H3 H4 hi ⟨h3, s3⟩ ⟨rfl, c, hc1, rfl⟩
      have hc2 : z.cps.toList[i]? = some c := by
        rw [Array.getElem?_toList]
        exact hc1
      refine ⟨rfl, _, rfl, _, rfl, _, _, rfl, rfl, ?_, _, h3, ?_, ?_, Same.over s3 hD⟩
      · have : stem.length + 1 ≤ 7 := by omega
        exact Nat.le_trans this (by decide)
      · rw [List.length_map, List.length_map, List.length_take]
        have : z.cps.toList.length = z.cps.size := Array.length_toList
        exact Nat.lt_of_le_of_lt (Nat.le_trans (Nat.min_le_right _ _) (by omega)) (by decide : 4 < sizeLine)
      · rw [upd_same, List.take_add_one, hc2, List.map_append, List.map_append]
        rfl
    · rintro H3 ⟨h3, s3⟩
      rw [List.take_of_length_le (by rw [Array.length_toList]; exact Nat.le_refl _)] at h3
      refine k (crewOf stem (1 + d)) D n2 g2 H3 ?_ (by omega) ((offA.trans off2).trans (offS s3)) (pen2.same s3) ?_ (pen2.ne hD)
      · exact List.mem_flatMap.mpr ⟨stem, hst, List.mem_map.mpr ⟨_, hk, rfl⟩⟩
      · rw [h3, ← hz]
        rfl
/-! ### values -/
/-- a value of the law: what it is, what it shows -/
structure Val (K : PySem.W.Frag) (p : Addr) (H : Hp) (v : V) (T : String) (d : PyData) : Prop where
  gv : Gv H v T
  kp : Kp K p H v d
  np : v ≠ .ref p
  ok : OkD 2000 2 d
theorem Val.same {p : Addr} {H H' : Hp} {v : V} {T : String} {d : PyData} (h : Val K p H v T d) (s : Same H H') : Val K p H' v T d := ⟨h.gv.same s, h.kp.same s, h.np, h.ok⟩
theorem Val.off {p : Addr} {H H' : Hp} {v : V} {T : String} {d : PyData} (h : Val K p H v T d) (s : Off p H H') : Val K p H' v T d := ⟨h.gv.off h.np s, h.kp.off s, h.np, h.ok⟩
def spOddT (K : PySem.W.Frag) : Sp := fun vs H Q _ => ∃ (p l : Addr) (ns : List Int) (n : Nat) (g : Int), vs = [.ref p] ∧ Pen H p l ns n g ∧ n < 999000 ∧
  ∀ (v : V) (T : String) (d : PyData) (n' : Nat) (g' : Int) (H' : Hp), Val K p H' v T d → gMom v = false → n' ≤ n + 1 → Off p H H' → Pen H' p l ns n' g' → Q v H'
theorem ok_oddT {f fP : Addr} {fd fdP : FuncData} (F : Fun K "_law_odd_tick" "_law_odd_tick" sOddT f fd) (FP : Fun K "_law_pick" "_law_pick" sPick fP fdP) (bP : Binds K fdP ["_law_pen_here", "_law_some"] []) (gP : mg "_law_pick" = some (.ref fP))
    (GP : FnOk P w K mg base CX0 2 fP fdP ["_law_pen_here", "_law_some"] (spPick K)) : FnOk P w K mg base CX0 3 f fd ["_law_pen_here"] (spOddT K) := by
  refine F.ok scOddT (fun vs H Q E h => ?_) (fun cdv A outer s H vs Q E hr h => ?_)
  · obtain ⟨p, l, ns, n, g, rfl, _⟩ := h
    rfl
  · obtain ⟨p, l, ns, n, g, rfl, hp, hn, k⟩ := h
    refine ⟨_, pss_one (ps_ret (pe_call GP hr (by rfl) gP FP.kp bP .nil pass0 (pa_cons (pv 0) (pa_cons (pe_lst (pa_cons pe_non (pa_cons pe_bl (pa_cons pe_bl (pa_cons pe_str (pa_cons (pe_un un_neg pe_int) (pa_cons (pe_op op_add (pe_op op_pow pe_int pe_int) pe_int) (pa_cons (pe_un un_neg (pe_op op_pow pe_int pe_int))
        (pa_cons (pe_lst (pa_cons pe_int pa_nil)) (pa_cons (pe_tup pa_nil) (pa_cons pe_dnewK (pa_cons pe_str (pa_cons (pe_op op_pow pe_int pe_int) pa_nil))))))))))))) pa_nil)))), ?_⟩
    refine ⟨_, rfl, _, rfl, _, _, rfl, rfl, ⟨by decide, by decide, by decide⟩, _, _, rfl, rfl, _, _, rfl, rfl, ⟨by decide, by decide, by decide⟩, _, rfl, by show 1 ≤ sizeLine; decide, fun t1 h1 => ⟨by show 0 ≤ sizeLine; decide, fun t2 h2 => fun t3 h3 => ?_⟩⟩
    refine ⟨_, _, rfl, rfl, ⟨by decide, by decide, by decide⟩, by show 12 ≤ sizeLine; decide, fun t4 h4 => ?_⟩
    have u1 := same_upd0 (o := .lst [.int 5]) h1
    have u2 := same_upd0 (o := .tup []) h2
    have u3 := same_upd0 (o := .dK []) h3
    have n1 := hp.ne h1
    have p1 := hp.same u1
    have n2 := p1.ne h2
    have p2 := p1.same u2
    have n3 := p2.ne h3
    have p3 := p2.same u3
    have n4 := p3.ne h4
    generalize hxs : [V.non, V.bl true, V.bl false, V.str "3", V.int (-1), V.int ((10 : Int) ^ Int.toNat 30 + 1), V.int (-(10 : Int) ^ Int.toNat 30), V.ref t1, V.ref t2, V.ref t3, V.str "", V.int ((10 : Int) ^ Int.toNat 59)] = xs
    have u4 := same_upd0 (o := .lst xs) h4
    have len : xs.length = 12 := by rw [← hxs]; rfl
    have p4 := p3.same u4
    have e1 := u4 _ _ (u3 _ _ (u2 _ _ (show (upd H t1 (.lst [.int 5])) t1 = some (.lst [.int 5]) from upd_same)))
    have e2 := u4 _ _ (u3 _ _ (show (upd (upd H t1 (.lst [.int 5])) t2 (.tup [])) t2 = some (.tup []) from upd_same))
    have e3 := u4 _ _ (show (upd (upd (upd H t1 (.lst [.int 5])) t2 (.tup [])) t3 (.dK [])) t3 = some (.dK []) from upd_same)
    have sm := ((u1.trans u2).trans u3).trans u4
    have hS : (upd (upd (upd (upd H t1 (.lst [.int 5])) t2 (.tup [])) t3 (.dK [])) t4 (.lst xs)) t4 = some (.lst xs) := upd_same
    refine ⟨p, l, ns, n, g, _, rfl, p4, by omega, .inl ⟨t4, xs, rfl, n4, hS, by omega, by omega, fun v m1 g1 H1 hv hm1 off1 pen1 => ?_⟩⟩
    clear u1 u2 u3 u4 p1 p2 p3 h1 h2 h3 h4
    revert e1 e2 e3 sm hS off1 p4
    generalize upd (upd (upd (upd H t1 (.lst [.int 5])) t2 (.tup [])) t3 (.dK [])) t4 (.lst xs) = G
    intro p4 e1 e2 e3 sm hS off1
    have ref : ∀ {t : Addr}, t ≠ p → V.ref t ≠ .ref p := fun h z => h (V.ref.inj z)
    have key : ∀ x ∈ xs, ∃ T d, Val K p G x T d ∧ gMom x = false := by
      rw [← hxs]
      simp only [List.forall_mem_cons]
      refine ⟨⟨_, _, ⟨.non, .non, (fun z => nomatch z), OkD.none.mono (by decide) (by decide)⟩, rfl⟩, ⟨_, _, ⟨.bl _, .bl _, (fun z => nomatch z), (OkD.bool _).mono (by decide) (by decide)⟩, rfl⟩, ⟨_, _, ⟨.bl _, .bl _, (fun z => nomatch z), (OkD.bool _).mono (by decide) (by decide)⟩, rfl⟩,
        ⟨_, _, ⟨.str _ (by decide +kernel), .str _, (fun z => nomatch z), (OkD.str (by decide +kernel) (by decide +kernel)).mono (by decide) (by decide)⟩, rfl⟩,
        ⟨_, _, ⟨.int _, .int _, (fun z => nomatch z), (OkD.int (by decide +kernel)).mono (by decide) (by decide)⟩, by decide +kernel⟩, ⟨_, _, ⟨.int _, .int _, (fun z => nomatch z), (OkD.int (by decide +kernel)).mono (by decide) (by decide)⟩, by decide +kernel⟩, ⟨_, _, ⟨.int _, .int _, (fun z => nomatch z), (OkD.int (by decide +kernel)).mono (by decide) (by decide)⟩, by decide +kernel⟩,
        ⟨_, _, ⟨.lst e1, .hole (.lst (SqL.of (by rw [hole_ne n1]; exact e1)) (.cons (.int 5) .nil)), ref n1, by decide +kernel, by decide +kernel, by decide +kernel⟩, rfl⟩,
        ⟨_, _, ⟨.tup e2, .hole (.tup (SqT.of (by rw [hole_ne n2]; exact e2)) .nil), ref n2, by decide +kernel, by decide +kernel, by decide +kernel⟩, rfl⟩,
        ⟨_, _, ⟨.dK e3, .hole (.dct (by rw [hole_ne n3]; exact e3) .nil), ref n3, by decide +kernel, by decide +kernel, by decide +kernel⟩, rfl⟩,
        ⟨_, _, ⟨.str _ (by decide +kernel), .str _, (fun z => nomatch z), (OkD.str (by decide +kernel) (by decide +kernel)).mono (by decide) (by decide)⟩, rfl⟩,
        ⟨_, _, ⟨.int _, .int _, (fun z => nomatch z), (OkD.int (by decide +kernel)).mono (by decide) (by decide)⟩, by decide +kernel⟩, fun _ h => nomatch h⟩
    obtain ⟨T, d, a, b⟩ := key v hv
    exact k v T d m1 g1 H1 (a.off off1) b (by omega) ((offS sm).trans off1) pen1
/-! ### the last moments -/
theorem cutV_1 (xs : List V) : cutV xs (some 1) none = xs.drop 1 := by
  unfold cutV
  rw [HT.sIx_none, show HT.sIx xs.length 0 (some 1) = min 1 xs.length from HT.sIx_nat xs.length 0 1]
  cases xs with
  | nil => rfl
  | cons a r =>
    rw [show min 1 (a :: r).length = 1 from by simp]
    exact List.take_of_length_le (by simp)
def lastsOf (fs : List Int) : List Int := (fs.drop 1).map (· - 1) ++ [1000000000000000000000000000000]
def spLasts (K : PySem.W.Frag) : Sp := fun vs H Q _ => ∃ (a : Addr) (fs : List Int), vs = [.ref a] ∧ H a = some (.lst (fs.map V.int)) ∧ fs.length ≤ 64 ∧ ∀ (c : Addr) (H' : Hp), Same H H' → H c = none → H' c = some (.lst ((lastsOf fs).map V.int)) → Q (.ref c) H'
theorem ok_lasts {f : Addr} {fd : FuncData} (F : Fun K "_law_lasts" "_law_lasts" sLasts f fd) : FnOk P w K mg base CX0 1 f fd ["_law_firsts"] (spLasts K) := by
  refine F.ok scLasts (fun vs H Q E h => ?_) (fun cdv A outer s H vs Q E hr h => ?_)
  · obtain ⟨a, fs, rfl, _⟩ := h
    rfl
  · obtain ⟨a, fs, rfl, ha, hl, q⟩ := h
    refine ⟨_, pss_one (ps_ret (pe_op op_cat (pe_lc (own := [("_law_first", 1)]) (g := gName 1) (tt := tYes) rfl scLasts.nd (pi_list (pe_slice sl_list (pv 0) (po_some pe_int) po_none)) (blkOk_by (N := ["_law_firsts", "_law_first"]) (sc := defScope sLasts) (by decide +kernel))
        (fun _ _ _ _ _ => pg_name (i := 1) scLasts.nd rfl (Or.inl rfl)) (fun _ _ _ _ _ => pts_nil) (fun _ _ _ _ _ => pe_op op_sub (pv 1) pe_int)) (pe_lst (pa_cons (pe_op op_pow pe_int pe_int) pa_nil)))), ?_⟩
    refine ⟨_, rfl, 1, rfl, a, _, rfl, SqL.of ha, fun p hp => ⟨p, rfl, ⟨_, SqL.of upd_same⟩, fun D hD => ?_⟩⟩
    rw [cutV_1, ← List.map_drop]
    generalize hxs : fs.drop 1 = xs
    have hxl : xs.length ≤ 64 := by rw [← hxs, List.length_drop]; omega
    have sp := same_upd0 (o := .lst (xs.map V.int)) hp
    have hpp : (upd H p (.lst (xs.map V.int))) p = some (.lst (xs.map V.int)) := upd_same
    rw [cutV_1, ← List.map_drop, hxs] at hD
    revert hpp sp hD
    generalize upd H p (.lst (xs.map V.int)) = G
    intro hD sp hpp
    refine lc_it walk_list (fun i H' => H' D = some (.lst ((xs.take i).map fun k => V.int (k - 1))) ∧ Same G H') ⟨upd_same, same_upd0 hD⟩ (fun _ _ _ y => SqL.of (y.2 _ _ hpp)) ?_ ?_
    · rintro i x H3 H4 hi ⟨h3, s3⟩ ⟨rfl, hx⟩
      obtain ⟨k, hk, rfl⟩ : ∃ k, xs[i]? = some k ∧ x = .int k := by
        rw [List.getElem?_map] at hx
        cases e : xs[i]? with
        | none => rw [e] at hx; cases hx
        | some n => rw [e] at hx; exact ⟨n, rfl, (Option.some.inj hx).symm⟩
      refine ⟨rfl, _, rfl, _, _, rfl, rfl, _, h3, ?_, ?_, Same.over s3 hD⟩
      · rw [List.length_map, List.length_take]
        have := sizeLine_eq
        omega
      · rw [upd_same, List.take_add_one, hk, List.map_append]
        rfl
    · rintro H3 ⟨h3, s3⟩
      rw [List.length_map, List.take_length] at h3
      refine ⟨_, _, rfl, rfl, ⟨by decide, by decide, by decide⟩, by show 1 ≤ sizeLine; decide, fun t ht => ?_⟩
      have s4 := same_upd0 (o := .lst [V.int ((10 : Int) ^ Int.toNat 30)]) ht
      refine ⟨D, t, _, _, rfl, rfl, s4 _ _ h3, upd_same, ?_, fun c hc => ?_⟩
      · rw [List.length_map]
        show xs.length + 1 ≤ sizeLine
        have := sizeLine_eq
        omega
      · refine q c _ (((sp.trans s3).trans s4).trans (same_upd0 hc)) ((sp.trans (s3.trans s4)).free hc) ?_
        rw [upd_same]
        unfold lastsOf
        rw [hxs, List.map_append, List.map_map]
        rfl
end
end K09

namespace K09
open PySem PySem.Spec PyProof.Rows L2 So
abbrev sStarts : Stmt := topS 26
abbrev startsN : List Str := ["_law_pen_here", "_law_crew_here", "_law_starts_here", "_law_word", "_law_base", "_law_some", "_law_k", "_law_first"]
theorem scStarts : FnScope startsN ["_law_pen_here", "_law_crew_here"] (defScope sStarts) := ⟨rfl, rfl, rfl, by decide +kernel, rfl, by decide +kernel, by decide +kernel⟩
def BgOk (l : List Int) : Prop := l.length < 64 ∧ (∀ n ∈ l, gBeg (.int n) = true) ∧ l.Pairwise (· < ·)
/-- the beginnings of the tools zs in the dict at d -/
def StAt (H : Hp) (d : Addr) (zs : List Str) (S : Str → List Int) : Prop := ∃ kvs : List (Key × V), H d = some (.dK kvs) ∧ (kvs.length ≤ zs.length ∧ ∀ z, z ∉ zs → valV kvs (.inr z) = none) ∧ ∀ z ∈ zs, (∃ a, valV kvs (.inr z) = some (.ref a) ∧ H a = some (.lst ((0 :: S z).map V.int))) ∧ BgOk (S z)
theorem pen_ne {H : Hp} {p l a : Addr} {ns : List Int} {n : Nat} {g : Int} {xs : List Int} (h : Pen H p l ns n g) (e : H a = some (.lst (xs.map V.int))) : a ≠ p := ne_of e h.pen (fun z => by
  injection z with z
  cases xs with
  | nil => cases z
  | cons x r => cases z)
theorem StAt.off {H H' : Hp} {d p l : Addr} {zs : List Str} {S : Str → List Int} {ns : List Int} {n : Nat} {g : Int} (h : StAt H d zs S) (hp : Pen H p l ns n g) (s : Off p H H') : StAt H' d zs S := by
  obtain ⟨kvs, h1, h2, h3⟩ := h
  refine ⟨kvs, s _ _ (ne_of h1 hp.pen (fun z => nomatch z)) h1, h2, fun z hz => ?_⟩
  obtain ⟨⟨a, e1, e2⟩, e3⟩ := h3 z hz
  exact ⟨⟨a, e1, s _ _ (pen_ne hp e2) e2⟩, e3⟩
theorem StAt.same {H H' : Hp} {d : Addr} {zs : List Str} {S : Str → List Int} (h : StAt H d zs S) (s : Same H H') : StAt H' d zs S := by
  obtain ⟨kvs, h1, h2, h3⟩ := h
  refine ⟨kvs, s _ _ h1, h2, fun z hz => ?_⟩
  obtain ⟨⟨a, e1, e2⟩, e3⟩ := h3 z hz
  exact ⟨⟨a, e1, s _ _ e2⟩, e3⟩
theorem zero_first {ns xs : List Int} (hw : ns.Pairwise (· < ·)) (hm : ∀ k, k ∈ ns ↔ k ∈ 0 :: xs) (hx : ∀ n ∈ xs, gBeg (.int n) = true) (hl : ns.length < 64) : ∃ later, ns = 0 :: later ∧ BgOk later := by
  have pos : ∀ n ∈ xs, 1 ≤ n := fun n h => (of_decide_eq_true (hx n h)).1
  cases ns with
  | nil => exact absurd ((hm 0).mpr List.mem_cons_self) (by simp)
  | cons h t =>
    rw [List.pairwise_cons] at hw
    have e : h = 0 := by
      rcases List.mem_cons.mp ((hm 0).mpr List.mem_cons_self) with e | e
      · exact e.symm
      · have h1 := hw.1 0 e
        rcases List.mem_cons.mp ((hm h).mp List.mem_cons_self) with e2 | e2
        · exact e2
        · have := pos h e2
          omega
    subst e
    refine ⟨t, rfl, by rw [List.length_cons] at hl; omega, fun n hn => ?_, hw.2⟩
    have h1 := hw.1 n hn
    rcases List.mem_cons.mp ((hm n).mp (List.mem_cons_of_mem _ hn)) with e2 | e2
    · omega
    · exact hx n e2
section
variable {P : Program} {w : World} {K : PySem.W.Frag} {mg : Str → Option Value} {base : Heap}
def spStarts : Sp := fun vs H Q _ => ∃ (p l c : Addr) (ns : List Int) (n : Nat) (g : Int) (crew : List Str), vs = [.ref p, .ref c] ∧ Pen H p l ns n g ∧ n < 900000 ∧ H c = some (.lst (crew.map V.str)) ∧ c ≠ p ∧ crew.Nodup ∧ crew.length ≤ 4 ∧
  ∀ (d : Addr) (S : Str → List Int) (n' : Nat) (g' : Int) (H' : Hp), StAt H' d crew S → n' ≤ n + 36 → Off p H H' → Pen H' p l ns n' g' → Q (.ref d) H'
theorem ok_starts {f fP fD : Addr} {fd fdP fdD : FuncData} (F : Fun K "_law_starts" "_law_starts" sStarts f fd) (L : WordsL mg) (mr : mg "range" = none) (mi : mg "int" = none) (FP : Fun K "_law_pick" "_law_pick" sPick fP fdP) (bP : Binds K fdP ["_law_pen_here", "_law_some"] []) (gP : mg "_law_pick" = some (.ref fP))
    (GP : FnOk P w K mg base CX0 2 fP fdP ["_law_pen_here", "_law_some"] (spPick K)) (FD : Fun K "_law_draw" "_law_draw" sDraw fD fdD) (bD : Binds K fdD ["_law_pen_here", "_law_many"] []) (gD : mg "_law_draw" = some (.ref fD))
    (GD : FnOk P w K mg base CX0 1 fD fdD ["_law_pen_here", "_law_many"] spDraw) : FnOk P w K mg base CX0 3 f fd ["_law_pen_here", "_law_crew_here"] spStarts := by
  refine F.ok scStarts (fun vs H Q E h => ?_) (fun cdv A outer s H vs Q E hr h => ?_)
  · obtain ⟨p, l, c, ns, n, g, crew, rfl, _⟩ := h
    rfl
  · obtain ⟨p, l, c, ns, n, g, crew, rfl, hp, hn, hc, hcp, hnd, hcl, k⟩ := h
    have hr1 : Room 1 _ := hr.mono (by decide)
    refine ⟨_, pss_cons (ps_set (i := 2) scStarts.nd rfl (.inl rfl) pe_dnewK)
      (pss_cons (ps_for PassesOwn.never rfl (pi_list (pv 1)) (pg_name (i := 3) scStarts.nd rfl (Or.inl rfl))
        (pss_cons (ps_set (i := 4) scStarts.nd rfl (.inr rfl) (pe_call GP hr (by rfl) gP FP.kp bP .nil pass0 (pa_cons (pv 0) (pa_cons (pe_lst (pa_cons pe_int (pa_cons pe_int (pa_cons pe_int (pa_cons pe_int (pa_cons (pe_op op_sub (pe_op op_pow pe_int pe_int) pe_int) (pa_cons (pe_op op_add pe_int (pe_call GD hr1 (by rfl) gD FD.kp bD .nil pass0 (pa_cons (pv 0) (pa_cons (pe_op op_pow pe_int pe_int) pa_nil)))) pa_nil))))))) pa_nil))))
        (pss_cons (ps_setLc (i := 5) (own := [("_law_k", 6)]) (g := gName 6) (tt := tYes) rfl scStarts.nd rfl rfl (sw_true rfl rfl rfl (by decide +kernel)) (pi_range1 (by rfl) mr (pa_cons (pe_call GD hr1 (by rfl) gD FD.kp bD .nil pass0 (pa_cons (pv 0) (pa_cons pe_int pa_nil))) pa_nil)) (blkOk_by (N := startsN) (sc := defScope sStarts) (by decide +kernel))
          (fun _ _ _ _ _ => pg_name (i := 6) scStarts.nd rfl (Or.inl rfl)) (fun _ _ _ _ _ => pts_nil) (fun _ _ _ _ _ => pe_op op_add (pv 4) (pe_call GD hr1 (by rfl) gD FD.kp bD .nil pass0 (pa_cons (pv 0) (pa_cons pe_int pa_nil)))))
        (pss_one (ps_dput (hu_of hr) (pv 2) (pv 3) (pe_callB (cr_sortedSet rfl) (by rfl) L.sorted (by decide +kernel) (pa_cons (pe_callTy (cr_setI rfl) (by rfl) L.set (by decide +kernel) (pa_cons (pe_op op_cat (pe_lst (pa_cons pe_int pa_nil)) (pe_lc (own := [("_law_first", 7)]) (g := gName 7) (tt := tYes) rfl scStarts.nd (pi_list (pv 5)) (blkOk_by (N := startsN) (sc := defScope sStarts) (by decide +kernel))
          (fun _ _ _ _ _ => pg_name (i := 7) scStarts.nd rfl (Or.inl rfl)) (fun _ _ _ _ _ => pts_nil) (fun _ _ _ _ _ => pe_callTy call_int1 (by rfl) mi (by decide +kernel) (pa_cons (pv 7) pa_nil)))) pa_nil)) pa_nil)) (by rfl))))))
      (pss_one (ps_ret (pv 2)))), ?_⟩
    refine fun d hd => ?_
    have nd : d ≠ p := hp.ne hd
    have s0 := same_upd0 (o := .dK []) hd
    have hc0 := s0 _ _ hc
    refine ⟨_, rfl, c, rfl, ⟨_, SqL.of hc0⟩, ?_⟩
    refine for_it walk_list (fun i σ H' => (∃ x3 x4 x5, σ = [some (.ref p), some (.ref c), some (.ref d), x3, x4, x5, none, none]) ∧ ∃ (n' : Nat) (g' : Int) (S : Str → List Int), Pen H' p l ns n' g' ∧ n' ≤ n + 9 * i ∧ Off p H H' ∧ H' c = some (.lst (crew.map V.str)) ∧ StAt H' d (crew.take i) S)
      ⟨⟨_, _, _, rfl⟩, n, g, fun _ => [], hp.same s0, by omega, offS s0, hc0, [], upd_same, ⟨Nat.zero_le _, fun _ _ => rfl⟩, fun z hz => by simp at hz⟩ (fun _ _ _ _ h => by obtain ⟨_, _, _, _, _, _, _, h, _⟩ := h; exact SqL.of h) ?_ ?_
    · rintro i x σ H1 H2 hi ⟨⟨x3, x4, x5, rfl⟩, n1, g1, S, pen1, hn1, off1, hc1, st1⟩ ⟨rfl, hx⟩
      obtain ⟨z, hz, rfl⟩ : ∃ z, crew[i]? = some z ∧ x = .str z := by
        rw [List.getElem?_map] at hx
        cases e : crew[i]? with
        | none => rw [e] at hx; cases hx
        | some n => rw [e] at hx; exact ⟨n, rfl, (Option.some.inj hx).symm⟩
      have hi4 : i < 4 := by rw [List.length_map] at hi; omega
      refine ⟨_, rfl, _, _, rfl, rfl, ⟨by decide, by decide, by decide⟩, _, _, rfl, rfl, _, rfl, _, _, rfl, rfl, ⟨by decide, by decide, by decide⟩, p, l, ns, n1, g1, _, rfl, pen1, by omega, by decide +kernel, by decide +kernel, fun e1 n2 g2 H3 he0 he1 hn2 off2 pen2 => ?_⟩
      refine ⟨_, _, rfl, rfl, by show 6 ≤ sizeLine; decide, fun q1 hq1 => ?_⟩
      refine ⟨p, l, ns, n2, g2, _, rfl, pen2.new hq1, by omega, .inl ⟨q1, _, rfl, pen2.ne hq1, upd_same, (by show 0 < 6; decide), (by show 6 ≤ 1000; decide), fun v n3 g3 H4 hv hn3 off3 pen3 => ?_⟩⟩
      have offB := off2.trans ((offS (same_upd0 hq1)).trans off3)
      obtain ⟨b, hb1, hb2, rfl⟩ : ∃ b : Int, 1 ≤ b ∧ b ≤ 999999999999999999999999999995 ∧ v = .int b := by
        have he1' : e1 < 100000000000000000000000000000 := he1
        simp only [List.mem_cons, List.not_mem_nil, or_false] at hv
        rcases hv with h | h | h | h | h | h <;> subst h
        · exact ⟨_, by decide, by decide, rfl⟩
        · exact ⟨_, by decide, by decide, rfl⟩
        · exact ⟨_, by decide, by decide, rfl⟩
        · exact ⟨_, by decide, by decide, rfl⟩
        · exact ⟨_, by decide +kernel, by decide +kernel, rfl⟩
        · exact ⟨1 + e1, by omega, by omega, rfl⟩
      refine ⟨_, rfl, p, l, ns, n3, g3, _, rfl, pen3, by omega, by decide, by decide, fun m n4 g4 H5 hm0 hm7 hn4 off4 pen4 => ⟨_, rfl, by omega, by omega, fun D hD => ?_⟩⟩
      have offC := off1.trans (offB.trans off4)
      have nD := pen4.ne hD
      refine lc_it (walk_range (lo := 0) (n := m.toNat)) (fun j H' => ∃ (vals : List Int) (n' : Nat) (g' : Int), Pen H' p l ns n' g' ∧ n' ≤ n4 + j ∧ Off p H5 H' ∧ H' D = some (.lst (vals.map V.int)) ∧ vals.length = j ∧ ∀ y ∈ vals, gBeg (.int y) = true)
        ⟨[], n4, g4, pen4.new hD, by omega, offS (same_upd0 hD), upd_same, rfl, fun _ h => nomatch h⟩ (fun _ _ _ _ => trivial) ?_ ?_
      · rintro j x H6 H7 hj ⟨vals, n5, g5, pen5, hn5, off5, hD5, hvl, hvb⟩ ⟨rfl, rfl⟩
        refine ⟨rfl, _, rfl, _, rfl, p, l, ns, n5, g5, _, rfl, pen5, by omega, by decide, by decide, fun e n6 g6 H8 he0 he6 hn6 off6 pen6 => ⟨_, _, rfl, rfl, _, off6 _ _ nD hD5, ?_, vals ++ [b + e], n6, g6, ?_, by omega, ?_, ?_, ?_, ?_⟩⟩
        · rw [List.length_map, hvl]
          have := sizeLine_eq
          omega
        · exact ⟨(upd_ne (Ne.symm nD)).trans pen6.pen, (upd_ne (ne_of_none pen4.cells hD)).trans pen6.cells, pen6.left⟩
        · intro c' o hc' e'
          rw [upd_ne (fun y => by rw [y, hD] at e'; cases e')]
          exact off6 _ _ hc' (off5 _ _ hc' e')
        · rw [upd_same, List.map_append]
          rfl
        · rw [List.length_append, hvl]
          rfl
        · intro y hy
          rcases List.mem_append.mp hy with h | h
          · exact hvb y h
          · rw [List.mem_singleton.mp h]
            exact decide_eq_true ⟨by omega, by omega⟩
      · rintro H6 ⟨vals, n5, g5, pen5, hn5, off5, hD5, hvl, hvb⟩
        have hv7 : vals.length ≤ 6 := by omega
        refine ⟨by show 1 ≤ sizeLine; decide, fun t ht => ?_⟩
        have s1 := same_upd0 (o := .lst [V.int 0]) ht
        refine ⟨_, rfl, D, rfl, ⟨_, SqL.of (s1 _ _ hD5)⟩, fun D2 hD2 => ?_⟩
        refine lc_it walk_list (fun j H' => Same (upd H6 t (.lst [V.int 0])) H' ∧ H' D2 = some (.lst ((vals.take j).map V.int))) ⟨same_upd0 hD2, upd_same⟩ (fun _ _ _ y => SqL.of (y.1 _ _ (s1 _ _ hD5))) ?_ ?_
        · rintro j x H7 H8 hj ⟨s2, h2⟩ ⟨rfl, hx2⟩
          obtain ⟨y, hy, rfl⟩ : ∃ y, vals[j]? = some y ∧ x = .int y := by
            rw [List.getElem?_map] at hx2
            cases e : vals[j]? with
            | none => rw [e] at hx2; cases hx2
            | some n => rw [e] at hx2; exact ⟨n, rfl, (Option.some.inj hx2).symm⟩
          refine ⟨rfl, _, rfl, .inl ⟨_, rfl, _, h2, ?_, Same.over s2 hD2, ?_⟩⟩
          · rw [List.length_map, List.length_take]
            have := sizeLine_eq
            omega
          · rw [upd_same, List.take_add_one, hy, List.map_append]
            rfl
        · rintro H7 ⟨s2, h2⟩
          rw [List.length_map, List.take_length] at h2
          have ht2 := s2 _ _ (show (upd H6 t (.lst [V.int 0])) t = some (.lst [V.int 0]) from upd_same)
          refine ⟨t, D2, _, _, rfl, rfl, ht2, h2, ?_, fun q hq => ?_⟩
          · rw [List.length_map]
            show 1 + vals.length ≤ sizeLine
            have := sizeLine_eq
            omega
          have s3 := s2.trans (same_upd0 (o := .lst ([V.int 0] ++ vals.map V.int)) hq)
          have hlen : (0 :: vals).length < 64 := by rw [List.length_cons]; omega
          refine ⟨q, 0 :: vals, rfl, .inl (SqL.of upd_same), hlen, fun p2 c2 hp2 hc2 => ⟨p2, _, c2, rfl, upd_same, Nat.lt_of_le_of_lt hc2 hlen, fun ns' p3 hw hm hl3 hp3 => ?_⟩⟩
          obtain ⟨later, rfl, hlb⟩ := zero_first hw (fun k => (hm k).trans ⟨of_decide_eq_true, decide_eq_true⟩) hvb (by rw [hl3]; exact Nat.lt_of_le_of_lt hc2 hlen)
          have s4 := (s3.trans (same_upd0 hp2)).trans (same_upd0 (o := .lst ((0 :: later).map V.int)) hp3)
          have s5 := s1.trans s4
          have h5 : (upd (upd (upd H7 q (.lst ([V.int 0] ++ vals.map V.int))) p2 (SetO w p2 (fun k => decide (k ∈ 0 :: vals)) c2)) p3 (.lst ((0 :: later).map V.int))) p3 = some (.lst ((0 :: later).map V.int)) := upd_same
          obtain ⟨kvs, k1, ⟨k4, k2⟩, k3⟩ := (st1.off pen1 (offB.trans (off4.trans off5))).same s5
          refine ⟨_, rfl, _, rfl, d, _, rfl, .inl ⟨kvs, .inr z, k1, rfl, ?_, rfl⟩, ⟨_, _, _, rfl⟩, n5, g5, fun y => if y = z then later else S y, ?_, by omega, ?_, ?_, ?_⟩
          · have h1 : (crew.take i).length ≤ i := List.length_take_le i crew
            have := sizeLine_eq
            omega
          · have pen6 := pen5.same s5
            exact ⟨(upd_ne (Ne.symm nd)).trans pen6.pen, (upd_ne (ne_of pen6.cells k1 (fun y => nomatch y))).trans pen6.cells, pen6.left⟩
          · intro b' o hb e
            rw [upd_ne (ne_of_none e hd)]
            exact s5 _ _ (off5 _ _ hb (offC _ _ hb e))
          · have hc6 := s5 _ _ (off5 _ _ hcp (off4 _ _ hcp (offB _ _ hcp hc1)))
            exact (upd_ne (ne_of hc6 k1 (fun y => nomatch y))).trans hc6
          · have et : crew.take (i + 1) = crew.take i ++ [z] := by rw [List.take_add_one, hz]; rfl
            refine ⟨_, upd_same, ⟨?_, fun y hy => ?_⟩, fun y hy => ?_⟩
            · rw [et, List.length_append]
              exact Nat.le_trans (length_putK _ _ _) (by show kvs.length + 1 ≤ _; exact Nat.add_le_add_right k4 1)
            · rw [et] at hy
              simp only [List.mem_append, List.mem_singleton, not_or] at hy
              rw [valV_put, if_neg (fun q => hy.2 (Sum.inr.inj q))]
              exact k2 y hy.1
            · rw [valV_put]
              by_cases ey : y = z
              · subst ey
                refine ⟨⟨p3, if_pos rfl, ?_⟩, ?_⟩
                · show _ = some (HO.lst ((0 :: (if y = y then later else S y)).map V.int))
                  rw [if_pos rfl, upd_ne (ne_of h5 k1 (fun y => nomatch y))]
                  exact h5
                · show BgOk (if y = y then later else S y)
                  rw [if_pos rfl]
                  exact hlb
              · rw [et] at hy
                simp only [List.mem_append, List.mem_singleton] at hy
                obtain ⟨⟨a, a1, a2⟩, a3⟩ := k3 y (hy.resolve_right ey)
                refine ⟨⟨a, (if_neg (fun q => ey (Sum.inr.inj q))).trans a1, ?_⟩, ?_⟩
                · show _ = some (HO.lst ((0 :: (if y = z then later else S y)).map V.int))
                  rw [if_neg ey, upd_ne (ne_of a2 k1 (fun y => nomatch y))]
                  exact a2
                · show BgOk (if y = z then later else S y)
                  rw [if_neg ey]
                  exact a3
    · rintro σ H1 ⟨⟨x3, x4, x5, rfl⟩, n1, g1, S, pen1, hn1, off1, hc1, st1⟩
      rw [List.length_map] at hn1
      rw [List.length_map, List.take_length] at st1
      exact ⟨_, rfl, k d S n1 g1 H1 st1 (by omega) off1 pen1⟩
end
end K09

namespace K09
open PySem PySem.Spec PyProof.Rows L2 So
abbrev sTicks : Stmt := topS 29
theorem scTicks : FnScope ["_law_pen_here", "_law_firsts", "_law_some", "_law_first", "_law_tick"] ["_law_pen_here", "_law_firsts"] (defScope sTicks) := ⟨rfl, rfl, rfl, by decide +kernel, rfl, by decide +kernel, by decide +kernel⟩
/-! ### the arithmetic of lives -/
theorem lastsOf_cons (x y : Int) (r : List Int) : lastsOf (x :: y :: r) = (y - 1) :: lastsOf (y :: r) := rfl
theorem lastsOf_len : ∀ fs : List Int, fs ≠ [] → (lastsOf fs).length = fs.length
  | x :: r, _ => by simp [lastsOf]
theorem last_uniq : ∀ (fs : List Int) (k : Nat) (i r : Int), fs.Pairwise (· < ·) → fs[k]? = some i →
    (((∀ n ∈ fs, n ≤ i) ∧ r = 1000000000000000000000000000000) ∨ ∃ m ∈ fs, i < m ∧ (∀ n ∈ fs, i < n → m ≤ n) ∧ r = m - 1) → (lastsOf fs)[k]? = some r
  | [], _, _, _, _, h, _ => by simp at h
  | [x], k, i, r, _, h, c => by
    cases k with
    | zero =>
      obtain rfl : x = i := by simpa using h
      rcases c with ⟨_, rfl⟩ | ⟨m, hm, h1, _⟩
      · rfl
      · rw [List.mem_singleton.mp hm] at h1
        exact absurd h1 (Int.lt_irrefl _)
    | succ k => simp at h
  | x :: y :: r', k, i, r, hp, h, c => by
    rw [List.pairwise_cons] at hp
    have hxy : x < y := hp.1 y List.mem_cons_self
    cases k with
    | zero =>
      obtain rfl : x = i := by simpa using h
      rw [lastsOf_cons]
      rcases c with ⟨c1, _⟩ | ⟨m, hm, h1, h2, rfl⟩
      · exact absurd (c1 y (List.mem_cons_of_mem _ List.mem_cons_self)) (by omega)
      · have a := h2 y (List.mem_cons_of_mem _ List.mem_cons_self) hxy
        have b : y ≤ m := by
          rcases List.mem_cons.mp hm with e | e
          · omega
          · rcases List.mem_cons.mp e with e | e
            · omega
            · have := (List.pairwise_cons.mp hp.2).1 m e
              omega
        obtain rfl : m = y := by omega
        rfl
    | succ k =>
      have hi : i ∈ y :: r' := List.mem_of_getElem? (show (y :: r')[k]? = some i from h)
      have hxi := hp.1 i hi
      rw [lastsOf_cons]
      refine last_uniq (y :: r') k i r hp.2 h ?_
      rcases c with ⟨c1, e⟩ | ⟨m, hm, h1, h2, e⟩
      · exact .inl ⟨fun n hn => c1 n (List.mem_cons_of_mem _ hn), e⟩
      · refine .inr ⟨m, ?_, h1, fun n hn => h2 n (List.mem_cons_of_mem _ hn), e⟩
        rcases List.mem_cons.mp hm with e | e
        · omega
        · exact e
def inP (t : Int) (q : Int × Int) : Bool := decide (q.1 ≤ t) && decide (t ≤ q.2)
def ownOf (fs : List Int) (t : Int) : List Int := ((fs.zip (lastsOf fs)).filter (inP t)).map Prod.fst
theorem own_none : ∀ (fs : List Int) (t : Int), (∀ n ∈ fs, t < n) → ownOf fs t = [] := fun fs t h => by
  unfold ownOf
  rw [List.map_eq_nil_iff, List.filter_eq_nil_iff]
  rintro ⟨a, b⟩ hq
  have := h a (List.of_mem_zip hq).1
  unfold inP
  rw [decide_eq_false (by show ¬ a ≤ t; omega)]
  simp
theorem own_cons (x y : Int) (r : List Int) (t : Int) : ownOf (x :: y :: r) t = (if inP t (x, y - 1) = true then [x] else []) ++ ownOf (y :: r) t := by
  unfold ownOf
  rw [lastsOf_cons, List.zip_cons_cons, List.filter_cons]
  split <;> simp
theorem own_one : ∀ (fs : List Int) (x : Int) (t : Int), (x :: fs).Pairwise (· < ·) → x ≤ t → t ≤ 1000000000000000000000000000000 → ∃ b, ownOf (x :: fs) t = [b] ∧ b ∈ x :: fs ∧ b ≤ t ∧ ∀ n ∈ x :: fs, n ≤ t → n ≤ b
  | [], x, t, _, h1, h2 => by
    refine ⟨x, ?_, List.mem_cons_self, h1, fun n hn _ => by rw [List.mem_singleton.mp hn]; exact Int.le_refl _⟩
    show ((([x] : List Int).zip [1000000000000000000000000000000]).filter (inP t)).map Prod.fst = [x]
    have : inP t (x, 1000000000000000000000000000000) = true := by
      unfold inP
      rw [decide_eq_true h1, decide_eq_true h2]
      rfl
    simp [this]
  | y :: r, x, t, hp, h1, h2 => by
    rw [own_cons]
    rw [List.pairwise_cons] at hp
    by_cases c : y ≤ t
    · obtain ⟨b, e1, e2, e3, e4⟩ := own_one r y t hp.2 c h2
      have : inP t (x, y - 1) = false := by
        show (decide (x ≤ t) && decide (t ≤ y - 1)) = false
        rw [decide_eq_false (show ¬ t ≤ y - 1 by omega), Bool.and_false]
      rw [this, e1]
      refine ⟨b, rfl, List.mem_cons_of_mem _ e2, e3, fun n hn hnt => ?_⟩
      rcases List.mem_cons.mp hn with e | e
      · have := hp.1 b e2
        omega
      · exact e4 n e hnt
    · have : inP t (x, y - 1) = true := by
        unfold inP
        rw [decide_eq_true h1, decide_eq_true (by show t ≤ y - 1; omega)]
        rfl
      have hall : ∀ n ∈ y :: r, t < n := fun n hn => by
        rcases List.mem_cons.mp hn with e | e
        · omega
        · have := (List.pairwise_cons.mp hp.2).1 n e
          omega
      rw [this, own_none _ _ hall]
      refine ⟨x, rfl, List.mem_cons_self, h1, fun n hn hnt => ?_⟩
      rcases List.mem_cons.mp hn with e | e
      · omega
      · have := hall n e
        omega
section
variable {P : Program} {w : World} {K : PySem.W.Frag} {mg : Str → Option Value} {base : Heap}
def spTicks : Sp := fun vs H Q _ => ∃ (p l a : Addr) (ns : List Int) (n : Nat) (g : Int) (fs : List Int), vs = [.ref p, .ref a] ∧ Pen H p l ns n g ∧ n < 990000 ∧ H a = some (.lst (fs.map V.int)) ∧ fs.length ≤ 64 ∧
  ∀ (ts : List Int) (c : Addr) (n' : Nat) (g' : Int) (H' : Hp), (∀ t ∈ ts, 0 ≤ t ∧ t ≤ 1000000000000000000000000000000) → n' ≤ n + 2 → Off p H H' → Pen H' p l ns n' g' → H' c = some (.lst (ts.map V.int)) → Q (.ref c) H'
theorem ok_ticks {f fD : Addr} {fd fdD : FuncData} (F : Fun K "_law_ticks" "_law_ticks" sTicks f fd) (FD : Fun K "_law_draw" "_law_draw" sDraw fD fdD) (bD : Binds K fdD ["_law_pen_here", "_law_many"] []) (gD : mg "_law_draw" = some (.ref fD))
    (GD : FnOk P w K mg base CX0 1 fD fdD ["_law_pen_here", "_law_many"] spDraw) : FnOk P w K mg base CX0 2 f fd ["_law_pen_here", "_law_firsts"] spTicks := by
  refine F.ok scTicks (fun vs H Q E h => ?_) (fun cdv A outer s H vs Q E hr h => ?_)
  · obtain ⟨p, l, a, ns, n, g, fs, rfl, _⟩ := h
    rfl
  · obtain ⟨p, l, a, ns, n, g, fs, rfl, hp, hn, ha, hl, k⟩ := h
    refine ⟨_, pss_cons (ps_set (i := 2) scTicks.nd rfl (.inl rfl) (pe_lst (pa_cons pe_int (pa_cons (pe_op op_pow pe_int pe_int) (pa_cons (pe_call GD hr (by rfl) gD FD.kp bD .nil pass0 (pa_cons (pv 0) (pa_cons (pe_op op_pow pe_int pe_int) pa_nil))) (pa_cons (pe_call GD hr (by rfl) gD FD.kp bD .nil pass0 (pa_cons (pv 0) (pa_cons pe_int pa_nil))) pa_nil))))))
      (pss_cons (ps_for PassesOwn.never rfl (pi_list (pv 1)) (pg_name (i := 3) scTicks.nd rfl (Or.inl rfl)) (pss_one (ps_set (i := 2) scTicks.nd rfl (.inl rfl) (pe_op op_cat (pv 2) (pe_lst (pa_cons (pv 3) (pa_cons (pe_op op_add (pv 3) pe_int) (pa_cons (pe_op op_sub (pv 3) pe_int) pa_nil))))))))
      (pss_one (ps_ret (pe_lc (own := [("_law_tick", 4)]) (g := gName 4) rfl scTicks.nd (pi_list (pv 2)) (blkOk_by (N := ["_law_pen_here", "_law_firsts", "_law_some", "_law_first", "_law_tick"]) (sc := defScope sTicks) (by decide +kernel))
        (fun _ _ _ _ _ => pg_name (i := 4) scTicks.nd rfl (Or.inl rfl)) (fun _ _ _ _ _ => pts_one (pt_chain op_le op_le pe_int (pv 4) (pe_op op_pow pe_int pe_int))) (fun _ _ _ _ _ => pv 4))))), ?_⟩
    have np : a ≠ p := pen_ne hp ha
    refine ⟨_, _, rfl, rfl, ⟨by decide, by decide, by decide⟩, _, rfl, _, _, rfl, rfl, ⟨by decide, by decide, by decide⟩, p, l, ns, n, g, _, rfl, hp, by omega, by decide +kernel, by decide +kernel, fun d1 n1 g1 H1 d10 d11 hn1 off1 pen1 => ?_⟩
    refine ⟨_, rfl, p, l, ns, n1, g1, _, rfl, pen1, by omega, by decide, by decide, fun d2 n2 g2 H2 d20 d21 hn2 off2 pen2 => ⟨by show 4 ≤ sizeLine; decide, fun c hc => ?_⟩⟩
    have s2 := same_upd0 (o := .lst [V.int 0, V.int ((10 : Int) ^ Int.toNat 30), V.int d1, V.int d2]) hc
    have ha2 := s2 _ _ (off2 _ _ np (off1 _ _ np ha))
    have pen3 := pen2.same s2
    have off3 : Off p H _ := (off1.trans off2).trans (offS s2)
    refine ⟨_, rfl, a, rfl, ⟨_, SqL.of ha2⟩, ?_⟩
    refine for_it walk_list (fun i σ H' => ∃ (c : Addr) (ts : List Int) (x3 : Option V), σ = [some (.ref p), some (.ref a), some (.ref c), x3, none] ∧ Off p H H' ∧ Pen H' p l ns n2 g2 ∧ H' a = some (.lst (fs.map V.int)) ∧ H' c = some (.lst (ts.map V.int)) ∧ ts.length ≤ 4 + 3 * i)
      ⟨c, [0, (10 : Int) ^ Int.toNat 30, d1, d2], none, rfl, off3, pen3, ha2, upd_same, by show 4 ≤ 4 + 3 * 0; decide⟩ (fun _ _ _ _ h => by obtain ⟨_, _, _, _, _, _, h, _⟩ := h; exact SqL.of h) ?_ ?_
    · rintro i x σ H3 H4 hi ⟨c, ts, x3, rfl, off4, pen4, ha4, hc4, hl4⟩ ⟨rfl, hx⟩
      obtain ⟨z, hz, rfl⟩ : ∃ z, fs[i]? = some z ∧ x = .int z := by
        rw [List.getElem?_map] at hx
        cases e : fs[i]? with
        | none => rw [e] at hx; cases hx
        | some n => rw [e] at hx; exact ⟨n, rfl, (Option.some.inj hx).symm⟩
      have hi64 : i < 64 := by rw [List.length_map] at hi; omega
      refine ⟨_, rfl, _, rfl, _, rfl, _, _, rfl, rfl, _, rfl, _, _, rfl, rfl, by show 3 ≤ sizeLine; decide, fun t ht => ?_⟩
      have s5 := same_upd0 (o := .lst [V.int z, V.int (z + 1), V.int (z - 1)]) ht
      refine ⟨c, t, _, _, rfl, rfl, s5 _ _ hc4, upd_same, ?_, fun q hq => ?_⟩
      · rw [List.length_map]
        show ts.length + 3 ≤ sizeLine
        have := sizeLine_eq
        omega
      · have s6 := s5.trans (same_upd0 (o := .lst (ts.map V.int ++ [V.int z, V.int (z + 1), V.int (z - 1)])) hq)
        refine ⟨q, ts ++ [z, z + 1, z - 1], _, rfl, off4.trans (offS s6), pen4.same s6, s6 _ _ ha4, ?_, ?_⟩
        · rw [upd_same, List.map_append]
          rfl
        · rw [List.length_append]
          show ts.length + 3 ≤ 4 + 3 * (i + 1)
          omega
    · rintro σ H3 ⟨c, ts, x3, rfl, off4, pen4, ha4, hc4, hl4⟩
      rw [List.length_map] at hl4
      refine ⟨_, rfl, c, rfl, ⟨_, SqL.of hc4⟩, fun D hD => ?_⟩
      refine lc_it walk_list (fun j H' => Same H3 H' ∧ ∃ us : List Int, H' D = some (.lst (us.map V.int)) ∧ us.length ≤ j ∧ ∀ t ∈ us, 0 ≤ t ∧ t ≤ 1000000000000000000000000000000) ⟨same_upd0 hD, [], upd_same, Nat.le_refl _, fun _ h => nomatch h⟩ (fun _ _ _ y => SqL.of (y.1 _ _ hc4)) ?_ ?_
      · rintro j x H5 H6 hj ⟨s5, us, hD5, hul, hub⟩ ⟨rfl, hx⟩
        obtain ⟨z, hz, rfl⟩ : ∃ z, ts[j]? = some z ∧ x = .int z := by
          rw [List.getElem?_map] at hx
          cases e : ts[j]? with
          | none => rw [e] at hx; cases hx
          | some n => rw [e] at hx; exact ⟨n, rfl, (Option.some.inj hx).symm⟩
        have hj2 : j < ts.length := by rw [List.length_map] at hj; exact hj
        refine ⟨rfl, _, rfl, _, _, rfl, rfl, _, rfl, ite2 (fun c1 => ?_) (fun c1 => ?_)⟩
        · refine ⟨_, _, rfl, rfl, ⟨by decide, by decide, by decide⟩, _, _, rfl, rfl, _, rfl, ?_⟩
          by_cases c2 : z ≤ 1000000000000000000000000000000
          · rw [show decide (z ≤ (10 : Int) ^ Int.toNat 30) = true from decide_eq_true c2]
            refine iteT ⟨_, rfl, _, hD5, ?_, Same.over s5 hD, us ++ [z], ?_, ?_, ?_⟩
            · rw [List.length_map]
              have := sizeLine_eq
              omega
            · rw [upd_same, List.map_append]
              rfl
            · rw [List.length_append]
              exact Nat.add_le_add_right hul 1
            · intro t ht
              rcases List.mem_append.mp ht with h | h
              · exact hub t h
              · rw [List.mem_singleton.mp h]
                exact ⟨of_decide_eq_true c1, c2⟩
          · rw [show decide (z ≤ (10 : Int) ^ Int.toNat 30) = false from decide_eq_false c2]
            exact iteF ⟨s5, us, hD5, by omega, hub⟩
        · exact ⟨_, rfl, iteF ⟨s5, us, hD5, by omega, hub⟩⟩
      · rintro H5 ⟨s5, us, hD5, hul, hub⟩
        exact k us D n2 g2 H5 hub (by omega) (off4.trans (offS s5)) (pen4.same s5) hD5
end
end K09

namespace K09
open PySem PySem.Spec PyProof.Rows L2 So
abbrev sToolR : Stmt := topS 30
abbrev toolN : List Str := ["_law_pen_here", "_law_lives", "_law_starts_here", "_law_word", "_law_firsts", "_law_lasts_here", "_law_k", "_law_tick", "_law_owners", "_law_first"]
theorem scToolR : FnScope toolN ["_law_pen_here", "_law_lives", "_law_starts_here", "_law_word"] (defScope sToolR) := ⟨rfl, rfl, rfl, by decide +kernel, rfl, by decide +kernel, by decide +kernel⟩
def kOne {α : Type} : List α → List α → List α
  | [u], [w] => [u, w]
  | _, _ => []
def kSwap {α : Type} : List α → List α → List α
  | [u], [m, t] => [u, t, m]
  | _, _ => []
theorem ixl {X : Cx} {K : PySem.W.Frag} (h : X.K = K) : IxR X (rIxL K) := h ▸ ix_list
theorem shaped_tup (ns : List Int) : SeqAt.shaped (.tuple (ns.map PyData.int)) = true := by
  unfold SeqAt.shaped
  rw [Bool.and_eq_true]
  have hd := depth_ints ns
  refine ⟨?_, decide_eq_true ?_⟩
  · show PyData.canLay0 _ = true
    simp only [PyData.canLay0]
    induction ns with
    | nil => rfl
    | cons a r ih => simpa [PyData.canLayAll0, PyData.canLay0] using ih (depth_ints r)
  · simp only [PyData.depth]
    omega
theorem eqv_ints : ∀ ns : List Int, PyData.eqvAll (ns.map PyData.int) (ns.map PyData.int) = true
  | [] => by simp [PyData.eqvAll]
  | n :: r => by simp [PyData.eqvAll, PyData.eqv, eqv_ints r]
theorem fok_get {F : Str → Option (List Int)} (hF : FOk F) {z : Str} {ns : List Int} (e : F z = some ns) : ns.Pairwise (· < ·) ∧ ns.length ≤ 64 ∧ (∀ n ∈ ns, 0 ≤ n ∧ n ≤ 1000000000000000000000000000000) := by
  obtain ⟨l, rfl, h1, h2, h3⟩ := hF z ns e
  have pos : ∀ n ∈ l, 1 ≤ n ∧ n ≤ 1000000000000000000000000000000 := fun n h => of_decide_eq_true (h2 n h)
  refine ⟨List.pairwise_cons.mpr ⟨fun n hn => by have := (pos n hn).1; omega, h3⟩, by rw [List.length_cons]; omega, fun n hn => ?_⟩
  rcases List.mem_cons.mp hn with e | e
  · omega
  · have := pos n e
    omega
section
variable {P : Program} {w : World} {K : PySem.W.Frag} {mg : Str → Option Value} {base : Heap}
/-- the methods of lives, to the law's defs -/
structure Mths (K : PySem.W.Frag) (P : Program) (w : World) (mg : Str → Option Value) (base : Heap) (C CM CT' CL : Addr) : Prop where
  T : Lvs K mg C
  beg : ∃ (f : Addr) (fd : FuncData), Meth K C "beginnings" f ∧ KBinds K fd ["self", "tool"] ["tool"] kOne kOne ∧ FnOk P w K mg base (L2.CX P w) 3 f fd ["self", "tool"] (spBeg C CT')
  life : ∃ (f : Addr) (fd : FuncData), Meth K C "life_of" f ∧ Binds K fd ["self", "tool", "moment"] [] ∧ KBinds K fd ["self", "tool", "moment"] ["moment", "tool"] kSwap kSwap ∧ FnOk P w K mg base (L2.CX P w) 4 f fd ["self", "tool", "moment"] (spLife C CM CT')
  last : ∃ (f : Addr) (fd : FuncData), Meth K C "last_of" f ∧ Binds K fd ["self", "life"] [] ∧ KBinds K fd ["self", "life"] ["life"] kOne kOne ∧ FnOk P w K mg base (L2.CX P w) 3 f fd ["self", "life"] (spLast C CL)
  cont : ∃ (f : Addr) (fd : FuncData), Binds K fd ["self", "life"] [] ∧ PySem.W.findIn K (.ref C) "__contains__" = some (some (.ref f)) ∧ PySem.W.isFn K (.ref f) = true ∧ FnOk P w K mg base CX0 2 f fd ["self", "life"] (spCont C)
def spToolR (C : Addr) : Sp := fun vs H Q _ => ∃ (p l a d : Addr) (ns : List Int) (n : Nat) (g : Int) (z : Str) (crew : List Str) (S : Str → List Int) (F : Str → Option (List Int)), vs = [.ref p, .ref a, .ref d, .str z] ∧ Pen H p l ns n g ∧ n < 990000 ∧ LvAt C H a F ∧ FOk F ∧ StAt H d crew S ∧ z ∈ crew ∧ F z = some (0 :: S z) ∧
  z.length ≤ 100 ∧ (∀ c ∈ z.cps.toList, c < 128) ∧ ∀ (n' : Nat) (g' : Int) (H' : Hp), n' ≤ n + 2 → Off p H H' → Pen H' p l ns n' g' → Q (.bl true) H'
theorem ok_toolR {C CM CT' CL f fS fT : Addr} {fd fdS fdT : FuncData} (F : Fun K "_law_tool_right" "_law_tool_right" sToolR f fd) (M : Mths K P w mg base C CM CT' CL) (L : WordsL mg) (mr : mg "range" = none) (ml : mg "len" = none) (mp : mg "repr" = none)
    (FS : Fun K "_law_lasts" "_law_lasts" sLasts fS fdS) (bS : Binds K fdS ["_law_firsts"] []) (gS : mg "_law_lasts" = some (.ref fS)) (GS : FnOk P w K mg base CX0 1 fS fdS ["_law_firsts"] (spLasts K))
    (FT : Fun K "_law_ticks" "_law_ticks" sTicks fT fdT) (bT : Binds K fdT ["_law_pen_here", "_law_firsts"] []) (gT : mg "_law_ticks" = some (.ref fT)) (GT : FnOk P w K mg base CX0 2 fT fdT ["_law_pen_here", "_law_firsts"] spTicks) :
    FnG P w K mg base CX0 5 f fd ["_law_pen_here", "_law_lives", "_law_starts_here", "_law_word"] (spToolR C) := by
  obtain ⟨f1, fd1, m1, k1, G1⟩ := M.beg
  obtain ⟨f2, fd2, m2, b2, k2, G2⟩ := M.life
  obtain ⟨f3, fd3, m3, b3, k3, G3⟩ := M.last
  obtain ⟨f4, fd4, b4, s4, i4, G4⟩ := M.cont
  refine fnG_of F scToolR (fun vs H Q E h => ?_) (fun cdv A outer s H vs Q E hg hr h => ?_)
  · obtain ⟨p, l, a, d, ns, n, g, z, crew, S, F, rfl, _⟩ := h
    rfl
  · obtain ⟨p, l, a, d, ns, n, g, z, crew, S, F, rfl, hp, hn, hL, hO, hS, hz, hF, hzl, hzc, k⟩ := h
    have hr1 : Room 1 _ := hr.mono (by decide)
    have hr2 : Room 2 _ := hr.mono (by decide)
    have hr3 : Room 3 _ := hr.mono (by decide)
    refine ⟨_, pss_cons (ps_set (i := 4) scToolR.nd rfl (.inr rfl) (pe_dget (hu_of hr) (pv 2) (pv 3) (fun _ _ => rfl)))
      (pss_cons (ps_set (i := 5) scToolR.nd rfl (.inr rfl) (pe_call GS hr1 (by rfl) gS FS.kp bS .nil pass0 (pa_cons (pv 4) pa_nil)))
      (pss_cons (ps_for PassesOwn.never rfl (pi_range1 (by rfl) mr (pa_cons (pe_callB call_len_seq (by rfl) ml PySem.boot_len (pa_cons (pv 4) pa_nil)) pa_nil)) (pg_name (i := 6) scToolR.nd rfl (Or.inl rfl))
        (pss_one (ps_if (PW.pt (pw_or (pt_cmpR op_ne (pe_meth (pv 1) M.T.cl m3 G3 hr3 b3 .nil passNo (pa_cons (pe_tup (pa_cons (pv 3) (pa_cons (pe_ix ix_list (pv 4) (pv 6) (fun _ _ => rfl)) pa_nil))) pa_nil)) (pe_ix ix_list (pv 5) (pv 6) (fun _ _ => rfl)) (nomark _))
          (pw_or1 (pt_cmpR op_ne (pe_methK (pv 1) M.T.cl m3 G3 hr3 k3 passNo (pk_cons (pe_tup (pa_cons (pv 3) (pa_cons (pe_ix ix_list (pv 4) (pv 6) (fun _ _ => rfl)) pa_nil))) pk_nil)) (pe_ix ix_list (pv 5) (pv 6) (fun _ _ => rfl)) (nomark _))))) (pss_one (ps_ret pe_bl)) pss_nil)))
      (pss_cons (ps_if (pt_cmpR (op_neD hr.units) (pe_methK (pv 1) M.T.cl m1 G1 hr3 k1 passNo (pk_cons (pv 3) pk_nil)) (pe_callTy call_tuple_of (by rfl) L.tuple (by decide +kernel) (pa_cons (pv 4) pa_nil)) (nomark _)) (pss_one (ps_ret pe_bl)) pss_nil)
      (pss_cons (ps_for PassesOwn.never rfl (pi_list (pe_call GT hr2 (by rfl) gT FT.kp bT .nil pass0 (pa_cons (pv 0) (pa_cons (pv 4) pa_nil)))) (pg_name (i := 7) scToolR.nd rfl (Or.inr rfl))
        (pss_cons (ps_setLc (i := 8) (own := [("_law_k", 6)]) (g := gName 6) rfl scToolR.nd rfl rfl (sw_true rfl rfl rfl (by decide +kernel)) (pi_range1 (by rfl) mr (pa_cons (pe_callB call_len_seq (by rfl) ml PySem.boot_len (pa_cons (pv 4) pa_nil)) pa_nil)) (blkOk_by (N := toolN) (sc := defScope sToolR) (by decide +kernel))
          (fun _ _ _ _ _ => pg_name (i := 6) scToolR.nd rfl (Or.inl rfl)) (fun _ _ _ _ _ => pts_one (pt_chain op_le op_le (pe_ix (ixl (K := K) rfl) (pv 4) (pv 6) (fun _ _ => rfl)) (pv 7) (pe_ix (ixl (K := K) rfl) (pv 5) (pv 6) (fun _ _ => rfl)))) (fun _ _ _ _ _ => pe_ix (ixl (K := K) rfl) (pv 4) (pv 6) (fun _ _ => rfl)))
        (pss_cons (ps_if (pt_cmpR op_ne (pe_callB (call_reprG hg hr.units) (by rfl) mp (by decide +kernel) (pa_cons (pe_lc (own := [("_law_first", 9)]) (g := gName 9) (tt := tYes) rfl scToolR.nd (pi_list (pv 8)) (blkOk_by (N := toolN) (sc := defScope sToolR) (by decide +kernel)) (fun _ _ _ _ _ => pg_name (i := 9) scToolR.nd rfl (Or.inl rfl)) (fun _ _ _ _ _ => pts_nil) (fun _ _ _ _ _ => pe_tup (pa_cons (pv 3) (pa_cons (pv 9) pa_nil)))) pa_nil))
            (pe_callB (call_reprG hg hr.units) (by rfl) mp (by decide +kernel) (pa_cons (pe_lst (pa_cons (pe_meth (pv 1) M.T.cl m2 G2 hr b2 .nil passNo (pa_cons (pv 3) (pa_cons (pv 7) pa_nil))) pa_nil)) pa_nil)) (nomark _)) (pss_one (ps_ret pe_bl)) pss_nil)
        (pss_one (ps_if (pt_cmpR (op_notInO G4 s4 i4 b4 pass0 hr2) (pe_methK (pv 1) M.T.cl m2 G2 hr k2 passNo (pk_cons (pv 7) (pk_cons (pv 3) pk_nil))) (pv 1) (by rfl)) (pss_one (ps_ret pe_bl)) pss_nil)))))
      (pss_one (ps_ret pe_bl)))))), ?_⟩
    obtain ⟨kvs, st1, st2, st3⟩ := id hS
    obtain ⟨⟨aF, st4, hF4⟩, st5⟩ := st3 z hz
    have npF : aF ≠ p := pen_ne hp hF4
    obtain ⟨hpw, hfl, hfm⟩ := fok_get hO hF
    generalize hfs : 0 :: S z = fs at hF hF4 hpw hfl hfm
    have hne : fs ≠ [] := by rw [← hfs]; simp
    refine ⟨_, rfl, _, rfl, d, _, rfl, .inl ⟨kvs, .inr z, .inl st1, rfl, st4.symm⟩, ?_⟩
    refine ⟨_, rfl, aF, fs, rfl, hF4, hfl, fun cl H1 s1 hcl0 hcl => ?_⟩
    have hlz := lastsOf_len fs hne
    have hF41 := s1 _ _ hF4
    have hL1 := hL.same s1
    refine ⟨_, rfl, aF, _, rfl, .inl (SqL.of hF41), _, rfl, by omega, by rw [List.length_map]; omega, ?_⟩
    refine for_range (lo := 0) (n := (((fs.map V.int).length : Nat) : Int).toNat) (fun i σ' H' => (∃ x6, σ' = [some (.ref p), some (.ref a), some (.ref d), some (.str z), some (.ref aF), some (.ref cl), x6, none, none, none]) ∧ Same H1 H') ⟨⟨_, rfl⟩, Same.refl H1⟩ ?_ ?_
    · rintro i σ' H2 hi ⟨⟨x6, rfl⟩, s2⟩
      rw [Int.toNat_natCast, List.length_map] at hi
      have ek : (0 + (i : Int)) = ((i : Nat) : Int) := Int.zero_add _
      obtain ⟨v, hv⟩ : ∃ v, fs[i]? = some v := ⟨fs[i]'hi, List.getElem?_eq_getElem hi⟩
      have hvm : v ∈ fs := List.mem_of_getElem? hv
      have at1 : ∀ {us : List Int} {v : Int}, us[i]? = some v → atI (us.map V.int) (0 + (i : Int)) = some (.int v) := fun {us v} e => by
        rw [ek]
        refine atI_nat ?_
        rw [List.getElem?_map, e]
        rfl
      have hF42 := s2 _ _ hF41
      have hcl2 := s2 _ _ hcl
      have hL2 := hL1.same s2
      obtain ⟨dx, dk, kv2, l1, l2, l3, l4⟩ := id hL2
      have hin : inF F (some (.str z, .int v)) = true := by
        show (match F z with | some ns => decide (v ∈ ns) | none => false) = true
        rw [hF]
        exact decide_eq_true hvm
      refine ⟨_, rfl, a, dx, _, rfl, l1, rfl, _, rfl, _, rfl, _, rfl, aF, _, _, _, rfl, rfl, SqL.of hF42, at1 hv, by show 2 ≤ sizeLine; decide, fun t1 ht1 => ?_⟩
      have s3 := same_upd0 (o := .tup [.str z, .int v]) ht1
      refine ⟨a, _, some (.str z, .int v), F, rfl, hL2.same s3, hO, .inr ⟨_, _, t1, _, _, rfl, rfl, upd_same, .str z (Nat.le_trans hzl (by decide)), .int v⟩, fun u i0 ns0 r e1 e2 hi0 cond H4 s4 => ?_, fun e => by rw [hin] at e; cases e⟩
      cases e1
      obtain rfl : fs = ns0 := Option.some.inj (hF.symm.trans e2)
      have hr0 := last_uniq fs i v r hpw hv cond
      have s34 := s3.trans s4
      refine ⟨_, rfl, _, rfl, cl, _, _, _, rfl, rfl, SqL.of (s34 _ _ hcl2), at1 hr0, rfl, _, rfl, ite2 (fun e => absurd e (by simp)) (fun _ => ?_)⟩
      refine ⟨_, rfl, a, dx, _, rfl, s34 _ _ l1, rfl, _, rfl, _, rfl, _, rfl, aF, _, _, _, rfl, rfl, SqL.of (s34 _ _ hF42), at1 hv, by show 2 ≤ sizeLine; decide, fun t2 ht2 => ?_⟩
      have s5 := same_upd0 (o := .tup [.str z, .int v]) ht2
      refine ⟨a, _, some (.str z, .int v), F, rfl, (hL2.same s34).same s5, hO, .inr ⟨_, _, t2, _, _, rfl, rfl, upd_same, .str z (Nat.le_trans hzl (by decide)), .int v⟩, fun u i0 ns0 r' e1 e2 hi0 cond H6 s6 => ?_, fun e => by rw [hin] at e; cases e⟩
      cases e1
      obtain rfl : fs = ns0 := Option.some.inj (hF.symm.trans e2)
      have hr1 := last_uniq fs i v r' hpw hv cond
      have s56 := s34.trans (s5.trans s6)
      refine ⟨_, rfl, _, rfl, cl, _, _, _, rfl, rfl, SqL.of (s56 _ _ hcl2), at1 hr1, rfl, _, rfl, ite2 (fun e => absurd e (by simp)) (fun _ => ?_)⟩
      exact ⟨⟨_, rfl⟩, s2.trans s56⟩
    · rintro σ' H2 ⟨⟨x6, rfl⟩, s2⟩
      have hF42 := s2 _ _ hF41
      have hcl2 := s2 _ _ hcl
      have hL2 := hL1.same s2
      obtain ⟨dx, dk, kv2, l1, l2, l3, l4⟩ := id hL2
      refine ⟨_, rfl, a, dx, _, rfl, l1, rfl, _, rfl, a, .str z, "str", F, rfl, hL2, .str z (Nat.le_trans hzl (by decide)), fun ns0 e0 t ht => ?_, fun e => by rw [show fB F (.str z) = F z from rfl, hF] at e; cases e⟩
      obtain rfl : fs = ns0 := Option.some.inj (hF.symm.trans e0)
      refine ⟨_, rfl, aF, _, rfl, .inl ⟨SqL.of hF42, fun t2 ht2 => ?_⟩⟩
      have s3 := same_upd0 (o := .tup (fs.map V.int)) ht2
      refine ⟨.tuple (fs.map PyData.int), .tuple (fs.map PyData.int), .tup (SqT.of (s3 _ _ ht)) (dp_ints fs), .tup (SqT.of upd_same) (dp_ints fs), shaped_tup fs, shaped_tup fs, _, rfl, ?_⟩
      rw [show PyData.eqv (.tuple (fs.map PyData.int)) (.tuple (fs.map PyData.int)) = true from by simp only [PyData.eqv]; exact eqv_ints fs]
      refine iteF ?_
      have s23 := (s1.trans s2).trans s3
      have pen3 := hp.same s23
      refine ⟨_, rfl, _, rfl, p, l, aF, ns, n, g, fs, rfl, pen3, hn, s3 _ _ hF42, hfl, fun ts c n1 g1 H4 hts hn1 off1 pen4 hc4 => ?_⟩
      have offA : Off p H H4 := (offS s23).trans off1
      refine ⟨c, rfl, ⟨_, SqL.of hc4⟩, ?_⟩
      refine for_it walk_list (fun i σ' H' => (∃ x7 x8, σ' = [some (.ref p), some (.ref a), some (.ref d), some (.str z), some (.ref aF), some (.ref cl), x6, x7, x8, none]) ∧ Same H4 H') ⟨⟨_, _, rfl⟩, Same.refl H4⟩ (fun _ _ _ _ y => SqL.of (y.2 _ _ hc4)) ?_ ?_
      · rintro i x σ' H5 H6 hi ⟨⟨x7, x8, rfl⟩, s5⟩ ⟨rfl, hx⟩
        obtain ⟨t, ht, rfl⟩ : ∃ t, t ∈ ts ∧ x = .int t := by
          obtain ⟨t, h1, h2⟩ := List.mem_map.mp (List.mem_of_getElem? hx)
          exact ⟨t, h1, h2.symm⟩
        obtain ⟨ht0, htM⟩ := hts t ht
        have hF45 := s5 _ _ (off1 _ _ npF (s3 _ _ hF42))
        have ncl : cl ≠ p := pen_ne pen3 (s3 _ _ hcl2)
        have hcl5 := s5 _ _ (off1 _ _ ncl (s3 _ _ hcl2))
        have hL5 := ((hL2.same s3).off off1 pen3.pen).same s5
        obtain ⟨b, hown, hbm, hbt, hbg⟩ : ∃ b, ownOf fs t = [b] ∧ b ∈ fs ∧ b ≤ t ∧ ∀ n ∈ fs, n ≤ t → n ≤ b := by
          rw [← hfs] at hpw ⊢
          exact own_one (S z) 0 t hpw ht0 htM
        have hbM := hfm b hbm
        clear hfs
        refine ⟨_, rfl, aF, _, rfl, .inl (SqL.of hF45), _, rfl, by omega, by rw [List.length_map]; omega, fun D hD => ?_⟩
        refine lc_it (walk_range (lo := 0) (n := (((fs.map V.int).length : Nat) : Int).toNat)) (fun j H' => Same _ H' ∧ H' D = some (.lst (((((fs.zip (lastsOf fs)).take j).filter (inP t)).map Prod.fst).map V.int))) ⟨same_upd0 hD, upd_same⟩ (fun _ _ _ _ => trivial) ?_ ?_
        · rintro j x H7 H8 hj ⟨s7, hD7⟩ ⟨rfl, rfl⟩
          rw [Int.toNat_natCast, List.length_map] at hj
          have ek : (0 + (j : Int)) = ((j : Nat) : Int) := Int.zero_add _
          obtain ⟨v, hv⟩ : ∃ v, fs[j]? = some v := ⟨fs[j]'hj, List.getElem?_eq_getElem hj⟩
          obtain ⟨u, hu⟩ : ∃ u, (lastsOf fs)[j]? = some u := ⟨(lastsOf fs)[j]'(by omega), List.getElem?_eq_getElem (by omega)⟩
          have at1 : ∀ {us : List Int} {v : Int}, us[j]? = some v → atI (us.map V.int) (0 + (j : Int)) = some (.int v) := fun {us v} e => by
            rw [ek]
            refine atI_nat ?_
            rw [List.getElem?_map, e]
            rfl
          have hzp : (fs.zip (lastsOf fs)).take (j + 1) = (fs.zip (lastsOf fs)).take j ++ [(v, u)] := by
            rw [List.take_add_one, (List.getElem?_zip_eq_some (z := (v, u))).mpr ⟨hv, hu⟩]
            rfl
          have hl1 : (((((fs.zip (lastsOf fs)).take j).filter (inP t)).map Prod.fst).map V.int).length < sizeLine := by
            rw [List.length_map, List.length_map]
            have h1 := List.length_filter_le (inP t) ((fs.zip (lastsOf fs)).take j)
            have h2 : ((fs.zip (lastsOf fs)).take j).length ≤ j := List.length_take_le _ _
            have := sizeLine_eq
            omega
          have hF47 := s7 _ _ hF45
          have hcl7 := s7 _ _ hcl5
          have no : inP t (v, u) = false → Same _ H8 ∧ H8 D = some (HO.lst (((((fs.zip (lastsOf fs)).take (j + 1)).filter (inP t)).map Prod.fst).map V.int)) := fun e => ⟨s7, by
            rw [hzp, List.filter_append, List.filter_cons, e]
            simpa using hD7⟩
          refine ⟨rfl, _, rfl, _, rfl, aF, _, _, _, rfl, rfl, SqL.of hF47, at1 hv, _, rfl, _, _, rfl, rfl, _, rfl, ite2 (fun c1 => ?_) (fun c1 => ⟨_, rfl, iteF (no ?_)⟩)⟩
          · refine ⟨_, rfl, _, rfl, cl, _, _, _, rfl, rfl, SqL.of hcl7, at1 hu, _, _, rfl, rfl, _, rfl, ?_⟩
            by_cases c2 : t ≤ u
            · rw [decide_eq_true c2]
              refine iteT ⟨_, rfl, _, rfl, aF, _, _, _, rfl, rfl, SqL.of hF47, at1 hv, _, hD7, hl1, Same.over s7 hD, ?_⟩
              have e : inP t (v, u) = true := by
                show (decide (v ≤ t) && decide (t ≤ u)) = true
                rw [c1, decide_eq_true c2]
                rfl
              rw [upd_same, hzp, List.filter_append, List.filter_cons, e]
              simp
            · rw [decide_eq_false c2]
              refine iteF (no ?_)
              show (decide (v ≤ t) && decide (t ≤ u)) = false
              rw [decide_eq_false c2, Bool.and_false]
          · show (decide (v ≤ t) && decide (t ≤ u)) = false
            cases e : decide (v ≤ t) with
            | true => exact absurd e c1
            | false => rfl
        · rintro H7 ⟨s7, hD7⟩
          have hD7 : H7 D = some (.lst [.int b]) := by
            rw [hD7, Int.toNat_natCast, List.length_map, List.take_of_length_le (by rw [List.length_zip]; omega)]
            show some (HO.lst ((ownOf fs t).map V.int)) = _
            rw [hown]
            rfl
          have hL7 := hL5.same s7
          have gm : gMom (.int t) = true := decide_eq_true ⟨ht0, htM⟩
          have okb : OkD (2000 * 2 + 2 * 2 + 3) 2 (.tuple [.str z, .int b]) := OkD.tuple (n := 2000) (m := 0) (ds := [.str z, .int b]) fun d hd => by
            rcases List.mem_cons.mp hd with e | e
            · rw [e]
              exact OkD.str hzc hzl
            · rw [List.mem_singleton.mp e]
              exact OkD.int (by omega)
          have okl := ((OkD.list (n := 2000 * 2 + 2 * 2 + 3) (m := 2) (ds := [.tuple [.str z, .int b]]) fun d hd => by rw [List.mem_singleton.mp hd]; exact okb).mono (n' := 5000) (m' := 4) (by show (2000 * 2 + 2 * 2 + 3) * 1 + 2 * 1 + 3 ≤ 5000; decide) (by decide)).repr (by decide) (by decide)
          refine ⟨_, rfl, D, rfl, ⟨_, SqL.of hD7⟩, fun D2 hD2 => ?_⟩
          refine lc_it (walk_list (xs := [V.int b])) (fun j H' => Same H7 H' ∧ ((j = 0 ∧ H' D2 = some (.lst [])) ∨ (j = 1 ∧ ∃ tp, H' tp = some (.tup [.str z, .int b]) ∧ H' D2 = some (.lst [.ref tp])))) ⟨same_upd0 hD2, .inl ⟨rfl, upd_same⟩⟩ (fun _ _ _ y => SqL.of (y.1 _ _ hD7)) ?_ ?_
          · rintro j x H8 H9 hj ⟨s8, h8⟩ ⟨rfl, hx⟩
            have hj0 : j = 0 := by
              have : j < 1 := hj
              omega
            subst hj0
            cases hx
            rcases h8 with ⟨_, h8⟩ | ⟨e, _⟩
            · refine ⟨rfl, _, rfl, _, rfl, by show 2 ≤ sizeLine; decide, fun tp htp => ?_⟩
              have s9 := same_upd0 (o := .tup [.str z, .int b]) htp
              have e8 := s9 _ _ h8
              have nt : tp ≠ D2 := fun y => by rw [y, h8] at htp; cases htp
              exact ⟨_, e8, by decide, Same.over (s8.trans s9) hD2, .inr ⟨rfl, tp, (upd_ne nt).trans upd_same, upd_same⟩⟩
            · cases e
          · rintro H8 ⟨s8, h8⟩
            obtain ⟨tp, e1, e2⟩ : ∃ tp, H8 tp = some (.tup [.str z, .int b]) ∧ H8 D2 = some (.lst [.ref tp]) := by
              rcases h8 with ⟨e, _⟩ | ⟨_, h⟩
              · cases e
              · exact h
            refine ⟨_, .list [.tuple [.str z, .int b]], rfl, .lst (SqL.of e2) (.cons (.tup (SqT.of e1) (.cons (.str z) (.cons (.int b) .nil))) .nil), okl.1, okl.2.1, okl.2.2, ?_⟩
            have hL8 := hL7.same s8
            obtain ⟨dx8, _, _, l8, _⟩ := id hL8
            refine ⟨_, rfl, a, dx8, _, rfl, l8, rfl, _, rfl, _, rfl, a, .str z, .int t, "str", "int", F, rfl, hL8, hO, .str z (Nat.le_trans hzl (by decide)), .int t, fun i0 ns0 b' f1 f2 _ f3 f4 f5 tq H9 s9 hq => ?_, fun e => (by rw [show fB F (.str z) = F z from rfl, hF] at e; cases e), fun _ _ e => (by rw [gm] at e; cases e)⟩
            cases f2
            obtain rfl : fs = ns0 := Option.some.inj (hF.symm.trans f1)
            obtain rfl : b = b' := by
              have h1 := hbg b' f3 f4
              have h2 := f5 b hbm hbt
              omega
            refine ⟨by show 1 ≤ sizeLine; decide, fun c2 hc2 => ?_⟩
            have s10 := same_upd0 (o := .lst [.ref tq]) hc2
            refine ⟨_, .list [.tuple [.str z, .int b]], rfl, .lst (SqL.of upd_same) (.cons (.tup (SqT.of (s10 _ _ hq)) (.cons (.str z) (.cons (.int b) .nil))) .nil), okl.1, okl.2.1, okl.2.2, ?_⟩
            refine ⟨rfl, _, rfl, ite2 (fun e => absurd e (by simp)) (fun _ => ?_)⟩
            have sA := (s8.trans s9).trans s10
            have hLA := hL7.same sA
            obtain ⟨dxA, _, _, lA, _⟩ := id hLA
            refine ⟨_, rfl, a, dxA, _, rfl, lA, rfl, _, rfl, _, rfl, a, .str z, .int t, "str", "int", F, rfl, hLA, hO, .str z (Nat.le_trans hzl (by decide)), .int t, fun i0 ns0 b' f1 f2 _ f3 f4 f5 tw H11 s11 hw => ?_, fun e => (by rw [show fB F (.str z) = F z from rfl, hF] at e; cases e), fun _ _ e => (by rw [gm] at e; cases e)⟩
            cases f2
            obtain rfl : fs = ns0 := Option.some.inj (hF.symm.trans f1)
            have hLB := hLA.same s11
            have hin : inF F (some (.str z, .int b')) = true := by
              show (match F z with | some ns => decide (b' ∈ ns) | none => false) = true
              rw [hF]
              exact decide_eq_true f3
            obtain ⟨dxB, _, _, lB, _⟩ := id hLB
            refine ⟨_, rfl, a, dxB, _, rfl, lB, a, _, some (.str z, .int b'), F, rfl, hLB, .inr ⟨_, _, tw, _, _, rfl, rfl, hw, .str z (Nat.le_trans hzl (by decide)), .int b'⟩, _, rfl, _, rfl, ?_⟩
            rw [hin]
            exact iteF ⟨⟨_, _, rfl⟩, ((s5.trans s7).trans sA).trans s11⟩
      · rintro σ' H5 ⟨⟨x7, x8, rfl⟩, s5⟩
        exact k n1 g1 H5 hn1 (offA.trans (offS s5)) (pen4.same s5)
end
end K09

namespace K09
open PySem PySem.Spec PyProof.Rows L2 So LamX
abbrev sRef : Stmt := topS 31
abbrev refN : List Str := ["_law_pen_here", "_law_lives", "_law_crew_here", "_law_heard_here", "_law_some", "_law_odd", "_law_other", "_law_tick"]
theorem scRef : FnScope refN ["_law_pen_here", "_law_lives", "_law_crew_here"] (defScope sRef) := ⟨rfl, rfl, rfl, by decide +kernel, rfl, by decide +kernel, by decide +kernel⟩
theorem extN_of {H H' : Hp} (s : Same H H') : ExtN H H' := fun b o e _ => s b o e
theorem tabs_off {T : List (Addr × Str)} {H H' : Hp} {p : Addr} {xs : List V} (hp : H p = some (.lst xs)) (t : Tabs T H) (o : Off p H H') : Tabs T H' := by
  intro y hy
  obtain ⟨ps, h1, h2, h3⟩ := t y hy
  refine ⟨ps, o _ _ (ne_of h1 hp (fun z => nomatch z)) h1, h2, fun pos cv hc => ?_⟩
  obtain ⟨c, e1, e2⟩ := h3 pos cv hc
  refine ⟨c, e1, o _ _ (fun z => ?_) e2⟩
  rw [z, hp] at e2
  cases e2
theorem lst_ne {xs : List V} : ∀ ps, HO.lst xs ≠ .tbl ps := fun ps z => nomatch z
theorem tup_ne {xs : List V} : ∀ ps, HO.tup xs ≠ .tbl ps := fun ps z => nomatch z
theorem Pen.ext {H H' : Hp} {p l : Addr} {ns : List Int} {n : Nat} {g : Int} (h : Pen H p l ns n g) (s : ExtN H H') : Pen H' p l ns n g := ⟨s _ _ h.pen lst_ne, s _ _ h.cells lst_ne, h.left⟩
theorem Gv.extN {H H' : Hp} {v : V} {T : String} (h : Gv H v T) (s : ExtN H H') : Gv H' v T := by
  cases h with
  | non => exact .non
  | bl b => exact .bl b
  | int i => exact .int i
  | str z h => exact .str z h
  | lst e => exact .lst (s _ _ e lst_ne)
  | tup e => exact .tup (s _ _ e tup_ne)
  | dK e => exact .dK (s _ _ e fun ps z => nomatch z)
theorem LvAt.extN {C : Addr} {H H' : Hp} {a : Addr} {F : Str → Option (List Int)} (h : LvAt C H a F) (s : ExtN H H') : LvAt C H' a F := by
  obtain ⟨dx, d, kvs, h1, h2, h3, h4⟩ := h
  refine ⟨dx, d, kvs, s _ _ h1 (fun ps z => nomatch z), s _ _ h2 (fun ps z => nomatch z), h3, fun z ns e => ?_⟩
  obtain ⟨t, e1, e2⟩ := h4 z ns e
  exact ⟨t, e1, s _ _ e2 tup_ne⟩
theorem LyAt.extN {H H' : Hp} {y : V} {o : Option (V × V)} (h : LyAt H y o) (s : ExtN H H') : LyAt H' y o := by
  rcases h with ⟨e, T, h1, h2⟩ | ⟨u, x, p, T1, T2, e, e1, h1, h2, h3⟩
  · refine .inl ⟨e, T, h1.extN s, fun z => ?_⟩
    obtain ⟨p, xs, a, b, c⟩ := h2 z
    exact ⟨p, xs, a, s _ _ b tup_ne, c⟩
  · exact .inr ⟨u, x, p, T1, T2, e, e1, s _ _ h1 tup_ne, h2.extN s, h3.extN s⟩
theorem fB_mom {F : Str → Option (List Int)} (hF : FOk F) {u : V} {ns : List Int} (e : fB F u = some ns) : ∀ n ∈ ns, gMom (.int n) = true := by
  cases u with
  | str z => exact fun n hn => decide_eq_true ((fok_get hF e).2.2 n hn)
  | _ => cases e
theorem inF_odd {F : Str → Option (List Int)} (hF : FOk F) {u x : V} (h : gMom x = false) : inF F (some (u, x)) = false := by
  cases x with
  | int i =>
    show (match fB F u with | some ns => decide (i ∈ ns) | none => false) = false
    cases e : fB F u with
    | none => rfl
    | some ns => exact decide_eq_false fun hi => by rw [fB_mom hF e i hi] at h; cases h
  | _ => rfl
theorem inF_none {F : Str → Option (List Int)} {u x : V} (h : fB F u = none) : inF F (some (u, x)) = false := by
  cases x with
  | int i =>
    show (match fB F u with | some ns => decide (i ∈ ns) | none => false) = false
    rw [h]
  | _ => rfl
theorem kp_un {K : PySem.W.Frag} {p : Addr} {H : Hp} {v : V} {d : PyData} (h : Kp K p H v d) : Dd K (hole p H) v d := by
  obtain ⟨F, h1, h2, h3⟩ := h
  refine Dd.same (fun b o e => ?_) h3
  rw [hole_ne (fun z => by rw [z, h1] at e; cases e)]
  exact h2 _ _ e
theorem two_in {n m : Nat} {d e : PyData} (h1 : OkD n m d) (h2 : OkD n m e) : ∀ x ∈ [d, e], OkD n m x := fun x hx => by
  rcases List.mem_cons.mp hx with h | h
  · rw [h]
    exact h1
  · rw [List.mem_singleton.mp h]
    exact h2
section
variable {P : Program} {w : World} {K : PySem.W.Frag} {mg : Str → Option Value} {base : Heap}
theorem Val.extN {p : Addr} {H H' : Hp} {v : V} {T : String} {d : PyData} (h : Val K p H v T d) (s : ExtN H H') : Val K p H' v T d := ⟨h.gv.extN s, h.kp.extN s, h.np, h.ok⟩
def qRef : Str := (envOfC "_law_refused_right" (defScope sRef) 0 0 (.ref 0)).qual ++ "<lambda>"
def spRef (C P1 : Addr) : Sp := fun vs H Q _ => ∃ (p l a c : Addr) (ns : List Int) (n : Nat) (g : Int) (crew : List Str) (F : Str → Option (List Int)), vs = [.ref p, .ref a, .ref c] ∧ Pen H p l ns n g ∧ n < 990000 ∧ LvAt C H a F ∧ FOk F ∧ H c = some (.lst (crew.map V.str)) ∧ c ≠ p ∧ crew ∈ crewsAll ∧
  (∀ z, z ∈ crew ↔ (F z).isSome = true) ∧ Tabs [(P1, qRef)] H ∧ ∀ (n' : Nat) (g' : Int) (H' : Hp), n' ≤ n + 3 → Pen H' p l ns n' g' → Tabs [(P1, qRef)] H' → Q (.bl true) H'
theorem ok_ref {C CT CN CM CT' CL f fP fO fH c1 P1 : Addr} {fd fdP fdO fdH : FuncData} (F : Fun K "_law_refused_right" "_law_refused_right" sRef f fd) (hcode : fd.code = .ref c1) (TB : TabB base mg c1 P1) (M : Mths K P w mg base C CM CT' CL) (R : HrL K mg CT CN CM CT' CL) (mp : mg "repr" = none)
    (FP : Fun K "_law_pick" "_law_pick" sPick fP fdP) (bP : Binds K fdP ["_law_pen_here", "_law_some"] []) (gP : mg "_law_pick" = some (.ref fP)) (GP : FnOk P w K mg base CX0 2 fP fdP ["_law_pen_here", "_law_some"] (spPick K))
    (FO : Fun K "_law_odd_tick" "_law_odd_tick" sOddT fO fdO) (bO : Binds K fdO ["_law_pen_here"] []) (gO : mg "_law_odd_tick" = some (.ref fO)) (GO : FnOk P w K mg base CX0 3 fO fdO ["_law_pen_here"] (spOddT K))
    (FH : Fun K "_law_heard" "_law_heard" sHeard fH fdH) (bH0 : Binds K fdH ["_law_ask"] []) (gH : mg "_law_heard" = some (.ref fH)) :
    FnG P w K mg base CX0 7 f fd ["_law_pen_here", "_law_lives", "_law_crew_here"] (spRef C P1) := by
  obtain ⟨f2, fd2, m2, b2, k2, G2⟩ := M.life
  obtain ⟨f3, fd3, m3, b3, k3, G3⟩ := M.last
  obtain ⟨ocH, odH, kVH, docH, pmH, anH, cdvH, ctH, oslH, efd, lkH, hcH⟩ := FH.ex
  subst efd
  have bH := bH0
  refine fnG_ofC F hcode scRef (fun vs H Q E h => ?_) (fun A outer s H vs Q E hg hr h => ?_)
  · obtain ⟨p, l, a, c, ns, n, g, crew, F, rfl, _⟩ := h
    rfl
  · obtain ⟨p, l, a, c, ns, n, g, crew, F, rfl, hp, hn, hL, hO, hc, hcp, hcr, hF, hT, q⟩ := h
    have hr2 : Room 2 _ := hr.mono (by decide)
    have hr3 : Room 3 _ := hr.mono (by decide)
    refine ⟨_, pss_cons (ps_set (i := 5) scRef.nd rfl (.inr rfl) (pe_call GP hr2 (by rfl) gP FP.kp bP .nil pass0 (pa_cons (pv 0) (pa_cons (pe_lst (pa_cons pe_non (pa_cons pe_int (pa_cons pe_bl (pa_cons (pe_lst pa_nil) (pa_cons (pe_tup (pa_cons pe_str pa_nil)) (pa_cons pe_dnewK (pa_cons pe_str (pa_cons pe_str (pa_cons pe_str (pa_cons pe_str (pa_cons (pe_op op_pow pe_int pe_int) pa_nil)))))))))))) pa_nil))))
      (pss_cons (ps_set (i := 7) scRef.nd rfl (.inr rfl) (pe_call GO hr3 (by rfl) gO FO.kp bO .nil pass0 (pa_cons (pv 0) pa_nil)))
      (pss_cons (ps_set (i := 3) scRef.nd rfl (.inl rfl) (pe_lst (pa_cons (pe_lamcall (T := [(P1, _)]) (TT := TTL CT' CL CM) (t := _) (k := 4) (by rfl) gH FH.kp lkH hcH bH scHeard rfl (Or.inl rfl) (heard_gives R) TB rfl (by exact List.mem_singleton.mpr rfl) (fun q hq _ => by rw [List.mem_singleton.mp hq]) hr (lamS_by (sc := defScope sRef) (by decide +kernel)) rfl (fun _ _ _ _ _ => rfl)
          (fun A outer s H E f c' hr' => pe_meth (pv 1) M.T.cl m2 G2 hr' b2 .nil (passes_call (takes_of rfl rfl rfl rfl) (fun _ _ _ _ h => h)) (pa_cons (pv 5) (pa_cons pe_int pa_nil)))) pa_nil)))
      (pss_cons (ps_expr (pe_bm PySem.F.plainAttrs_list PySem.F.slot_list_append PySem.F.type_list_append mt_append (pv 3) (pa_cons (pe_lamcall (T := [(P1, _)]) (TT := TTL CT' CL CM) (t := _) (k := 4) (by rfl) gH FH.kp lkH hcH bH scHeard rfl (Or.inl rfl) (heard_gives R) TB rfl (by exact List.mem_singleton.mpr rfl) (fun q hq _ => by rw [List.mem_singleton.mp hq]) hr (lamS_by (sc := defScope sRef) (by decide +kernel)) rfl (fun _ _ _ _ _ => rfl)
          (fun A outer s H E f c' hr' => pe_meth (pv 1) M.T.cl m2 G2 hr' b2 .nil (passes_call (takes_of rfl rfl rfl rfl) (fun _ _ _ _ h => h)) (pa_cons (pv 5) (pa_cons (pv 7) pa_nil)))) pa_nil)))
      (pss_cons (ps_set (i := 3) scRef.nd rfl (.inl rfl) (pe_op op_cat (pv 3) (pe_lst (pa_cons (pe_lamcall (T := [(P1, _)]) (TT := TTL CT' CL CM) (t := _) (k := 4) (by rfl) gH FH.kp lkH hcH bH scHeard rfl (Or.inl rfl) (heard_gives R) TB rfl (by exact List.mem_singleton.mpr rfl) (fun q hq _ => by rw [List.mem_singleton.mp hq]) hr (lamS_by (sc := defScope sRef) (by decide +kernel)) rfl (fun _ _ _ _ _ => rfl)
          (fun A outer s H E f c' hr' => pe_meth (pv 1) M.T.cl m2 G2 hr' b2 .nil (passes_call (takes_of rfl rfl rfl rfl) (fun _ _ _ _ h => h)) (pa_cons (pe_ix (ixl (K := K) rfl) (pv 2) (pe_un un_neg pe_int) (fun _ _ => rfl)) (pa_cons (pv 7) pa_nil)))) pa_nil))))
      (pss_cons (ps_if (pt_cmpR op_ne (pe_callB (call_reprG hg hr.units) (by rfl) mp (by decide +kernel) (pa_cons (pv 3) pa_nil)) (pe_callB (call_reprG hg hr.units) (by rfl) mp (by decide +kernel) (pa_cons (pe_lst (pa_cons (pe_tup (pa_cons pe_str (pa_cons (pv 5) pa_nil))) (pa_cons (pe_tup (pa_cons pe_str (pa_cons (pv 5) pa_nil))) (pa_cons (pe_tup (pa_cons pe_str (pa_cons (pv 7) pa_nil))) pa_nil)))) pa_nil)) (nomark _)) (pss_one (ps_ret pe_bl)) pss_nil)
      (pss_cons (ps_set (i := 4) scRef.nd rfl (.inl rfl) (pe_lst (pa_cons pe_non (pa_cons pe_int (pa_cons (pe_tup pa_nil) (pa_cons (pe_tup (pa_cons (pe_ix ix_list (pv 2) pe_int (fun _ _ => rfl)) pa_nil)) (pa_cons (pe_lst (pa_cons (pe_ix ix_list (pv 2) pe_int (fun _ _ => rfl)) (pa_cons pe_int pa_nil))) (pa_cons (pe_tup (pa_cons (pe_ix ix_list (pv 2) pe_int (fun _ _ => rfl)) (pa_cons pe_int (pa_cons pe_int pa_nil)))) (pa_cons (pe_tup (pa_cons (pv 5) (pa_cons pe_int pa_nil)))
          (pa_cons (pe_tup (pa_cons (pe_ix ix_list (pv 2) pe_int (fun _ _ => rfl)) (pa_cons pe_bl pa_nil))) (pa_cons (pe_tup (pa_cons (pe_ix ix_list (pv 2) pe_int (fun _ _ => rfl)) (pa_cons pe_bl pa_nil))) pa_nil)))))))))))
      (pss_cons (ps_set (i := 6) scRef.nd rfl (.inr rfl) (pe_call GP hr2 (by rfl) gP FP.kp bP .nil pass0 (pa_cons (pv 0) (pa_cons (pe_op op_cat (pv 4) (pe_lst (pa_cons (pe_tup (pa_cons (pe_ix ix_list (pv 2) pe_int (fun _ _ => rfl)) (pa_cons (pv 7) pa_nil))) (pa_cons (pe_tup (pa_cons (pe_ix ix_list (pv 2) pe_int (fun _ _ => rfl)) (pa_cons (pe_un un_neg pe_int) pa_nil))) (pa_cons (pe_tup (pa_cons pe_int (pa_cons (pe_ix ix_list (pv 2) pe_int (fun _ _ => rfl)) pa_nil)))
          (pa_cons (pe_ix ix_list (pv 2) pe_int (fun _ _ => rfl)) (pa_cons pe_dnewK pa_nil))))))) pa_nil))))
      (pss_one (ps_ret (pe_cmpR op_eq (pe_callB (call_reprG hg hr.units) (by rfl) mp (by decide +kernel) (pa_cons (pe_lamcall (T := [(P1, _)]) (TT := TTL CT' CL CM) (t := _) (k := 4) (by rfl) gH FH.kp lkH hcH bH scHeard rfl (Or.inl rfl) (heard_gives R) TB rfl (by exact List.mem_singleton.mpr rfl) (fun q hq _ => by rw [List.mem_singleton.mp hq]) hr (lamS_by (sc := defScope sRef) (by decide +kernel)) rfl (fun _ _ _ _ _ => rfl)
          (fun A outer s H E f c' hr' => pe_meth (pv 1) M.T.cl m3 G3 (hr'.mono (by decide)) b3 .nil (passes_call (takes_of rfl rfl rfl rfl) (fun _ _ _ _ h => h)) (pa_cons (pv 6) pa_nil))) pa_nil)) (pe_callB (call_reprG hg hr.units) (by rfl) mp (by decide +kernel) (pa_cons (pe_tup (pa_cons pe_str (pa_cons (pv 6) pa_nil))) pa_nil)) (nomark _))))))))))), ?_⟩
    obtain ⟨hne, hcl, hnd, hcf⟩ := crew_facts crew hcr
    have fno : ∀ z, oddNames.contains z = true → F z = none := fun z h => by
      cases e : F z with
      | none => rfl
      | some ns =>
        have h1 := (hF z).mpr (by rw [e]; rfl)
        rw [(hcf z h1).2.2.2] at h
        cases h
    refine ⟨_, rfl, by show 0 ≤ sizeLine; decide, fun t1 h1 => ⟨by show 1 ≤ sizeLine; decide, fun t2 h2 => fun t3 h3 => ⟨_, _, rfl, rfl, ⟨by decide, by decide, by decide⟩, by show 11 ≤ sizeLine; decide, fun t4 h4 => ?_⟩⟩⟩
    have u1 := same_upd0 (o := .lst []) h1
    have u2 := same_upd0 (o := .tup [.str "a"]) h2
    have u3 := same_upd0 (o := .dK []) h3
    have n1 := hp.ne h1
    have p1 := hp.same u1
    have n2 := p1.ne h2
    have p2 := p1.same u2
    have n3 := p2.ne h3
    have p3 := p2.same u3
    have n4 := p3.ne h4
    generalize hxs : [V.non, V.int 7, V.bl true, V.ref t1, V.ref t2, V.ref t3, V.str "", V.str "A", V.str "sound", V.str "zzzzzz9z", V.int ((10 : Int) ^ Int.toNat 30)] = xs
    have u4 := same_upd0 (o := .lst xs) h4
    have len : xs.length = 11 := by rw [← hxs]; rfl
    have p4 := p3.same u4
    have e1 := u4 _ _ (u3 _ _ (u2 _ _ (show (upd H t1 (.lst [])) t1 = some (.lst []) from upd_same)))
    have e2 := u4 _ _ (u3 _ _ (show (upd (upd H t1 (.lst [])) t2 (.tup [.str "a"])) t2 = some (.tup [.str "a"]) from upd_same))
    have e3 := u4 _ _ (show (upd (upd (upd H t1 (.lst [])) t2 (.tup [.str "a"])) t3 (.dK [])) t3 = some (.dK []) from upd_same)
    have sm := ((u1.trans u2).trans u3).trans u4
    have hS : (upd (upd (upd (upd H t1 (.lst [])) t2 (.tup [.str "a"])) t3 (.dK [])) t4 (.lst xs)) t4 = some (.lst xs) := upd_same
    refine ⟨p, l, ns, n, g, _, rfl, p4, by omega, .inl ⟨t4, xs, rfl, n4, hS, by omega, by omega, fun odd m1 g1 H1 hv hm1 off1 pen1 => ?_⟩⟩
    clear u1 u2 u3 u4 p1 p2 p3 h1 h2 h3 h4
    revert e1 e2 e3 sm hS off1 p4
    generalize upd (upd (upd (upd H t1 (.lst [])) t2 (.tup [.str "a"])) t3 (.dK [])) t4 (.lst xs) = G
    intro p4 e1 e2 e3 sm hS off1
    have ref : ∀ {t : Addr}, t ≠ p → V.ref t ≠ .ref p := fun h z => h (V.ref.inj z)
    have key : ∀ x ∈ xs, ∃ T d, Val K p G x T d ∧ fB F x = none := by
      rw [← hxs]
      simp only [List.forall_mem_cons]
      refine ⟨⟨_, _, ⟨.non, .non, (fun z => nomatch z), OkD.none.mono (by decide) (by decide)⟩, rfl⟩, ⟨_, _, ⟨.int _, .int _, (fun z => nomatch z), (OkD.int (by decide +kernel)).mono (by decide) (by decide)⟩, rfl⟩, ⟨_, _, ⟨.bl _, .bl _, (fun z => nomatch z), (OkD.bool _).mono (by decide) (by decide)⟩, rfl⟩,
        ⟨_, _, ⟨.lst e1, .hole (.lst (SqL.of (by rw [hole_ne n1]; exact e1)) .nil), ref n1, by decide +kernel, by decide +kernel, by decide +kernel⟩, rfl⟩,
        ⟨_, _, ⟨.tup e2, .hole (.tup (SqT.of (by rw [hole_ne n2]; exact e2)) (.cons (.str _) .nil)), ref n2, by decide +kernel, by decide +kernel, by decide +kernel⟩, rfl⟩,
        ⟨_, _, ⟨.dK e3, .hole (.dct (by rw [hole_ne n3]; exact e3) .nil), ref n3, by decide +kernel, by decide +kernel, by decide +kernel⟩, rfl⟩,
        ⟨_, _, ⟨.str _ (by decide +kernel), .str _, (fun z => nomatch z), (OkD.str (by decide +kernel) (by decide +kernel)).mono (by decide) (by decide)⟩, fno _ (by decide +kernel)⟩,
        ⟨_, _, ⟨.str _ (by decide +kernel), .str _, (fun z => nomatch z), (OkD.str (by decide +kernel) (by decide +kernel)).mono (by decide) (by decide)⟩, fno _ (by decide +kernel)⟩,
        ⟨_, _, ⟨.str _ (by decide +kernel), .str _, (fun z => nomatch z), (OkD.str (by decide +kernel) (by decide +kernel)).mono (by decide) (by decide)⟩, fno _ (by decide +kernel)⟩,
        ⟨_, _, ⟨.str _ (by decide +kernel), .str _, (fun z => nomatch z), (OkD.str (by decide +kernel) (by decide +kernel)).mono (by decide) (by decide)⟩, fno _ (by decide +kernel)⟩,
        ⟨_, _, ⟨.int _, .int _, (fun z => nomatch z), (OkD.int (by decide +kernel)).mono (by decide) (by decide)⟩, rfl⟩, fun _ h => nomatch h⟩
    obtain ⟨T1, d1, vo1, fo⟩ := key odd hv
    clear key hxs e1 e2 e3 hv hS
    have offA : Off p H H1 := (offS sm).trans off1
    refine ⟨_, rfl, p, l, ns, m1, g1, rfl, pen1, by omega, fun tick T2 d2 m2 g2 H2 vt gm hm2 off2 pen2 => ?_⟩
    have offB := offA.trans off2
    have vo : Val K p H2 odd T1 d1 := (vo1.off off1).off off2
    have hL2 := hL.off offB hp.pen
    have hc2 := offB _ _ hcp hc
    have t2 : Tabs [(P1, qRef)] H2 := tabs_off hp.pen hT offB
    clear hL hc hT hp off1 off2 offA offB pen1 sm vo1 p4
    -- the first
    refine ⟨t2, fun H3 x3 t3 => ?_⟩
    obtain ⟨dx3, _, _, l3, _⟩ := hL2.extN x3
    refine ⟨_, rfl, a, dx3, _, rfl, l3, rfl, _, rfl, a, odd, .int 3, T1, "int", F, rfl, hL2.extN x3, hO, (vo.extN x3).gv, .int 3, fun _ _ _ e => (by rw [fo] at e; cases e), fun _ d' H4 s4 hd4 => ⟨"tool", CT', "tool", odd, d', .inl ⟨rfl, rfl, rfl⟩, rfl, rfl, hd4, fun H5 r1 s5 hr1 => ?_⟩, fun _ e => (by rw [fo] at e; cases e)⟩
    have y5 : ExtN H2 H5 := x3.trans (extN_of (s4.trans s5))
    have t5 := t3.ext (s4.trans s5)
    refine ⟨by show 1 ≤ sizeLine; decide, fun q1 hq1 => ?_⟩
    have s6 := same_upd0 (o := .lst [.ref r1]) hq1
    have h6 : (upd H5 q1 (.lst [.ref r1])) q1 = some (.lst [.ref r1]) := upd_same
    have y6 := y5.trans (extN_of s6)
    have t6 := t5.ext s6
    revert s6 h6 y6 t6
    generalize upd H5 q1 (.lst [.ref r1]) = H6
    intro s6 h6 y6 t6
    -- the second
    refine ⟨_, rfl, .inl ⟨rfl, _, SqL.of h6⟩, t6, fun H7 x7 t7 => ?_⟩
    have y7 := y6.trans x7
    obtain ⟨dx7, _, _, l7, _⟩ := hL2.extN y7
    refine ⟨_, rfl, a, dx7, _, rfl, l7, rfl, _, rfl, _, rfl, a, odd, tick, T1, T2, F, rfl, hL2.extN y7, hO, (vo.extN y7).gv, (vt.extN y7).gv, fun _ _ _ e => (by rw [fo] at e; cases e), fun _ d' H8 s8 hd8 => ⟨"tool", CT', "tool", odd, d', .inl ⟨rfl, rfl, rfl⟩, rfl, rfl, hd8, fun H9 r2 s9 hr2 => ?_⟩, fun _ e => (by rw [fo] at e; cases e)⟩
    have s89 := s8.trans s9
    have h9 := s89 _ _ (x7 _ _ h6 lst_ne)
    have t9 := t7.ext s89
    refine ⟨q1, _, _, rfl, rfl, h9, by show 1 < sizeLine; decide, ?_⟩
    have o10 : Off q1 H9 (upd H9 q1 (.lst ([.ref r1] ++ [.ref r2]))) := Off.upd Off.refl
    have h10 : (upd H9 q1 (.lst ([.ref r1] ++ [.ref r2]))) q1 = some (.lst [.ref r1, .ref r2]) := upd_same
    revert o10 h10
    generalize upd H9 q1 (.lst ([.ref r1] ++ [.ref r2])) = H10
    intro o10 h10
    have y10 : ExtN H5 H10 := fun b o e n => o10 _ _ (ne_of_none e hq1) (s89 _ _ (x7 _ _ (s6 _ _ e) n))
    have z10 := y5.trans y10
    have r1a := y10 _ _ hr1 tup_ne
    have r2a := o10 _ _ (ne_of hr2 h9 (fun z => nomatch z)) hr2
    have t10 := tabs_off h9 t9 o10
    -- the third
    refine ⟨_, rfl, t10, fun H11 x11 t11 => ?_⟩
    have y11 := z10.trans x11
    obtain ⟨dx11, _, _, l11, _⟩ := hL2.extN y11
    obtain ⟨lz, hlz⟩ : ∃ lz, crew = crew.dropLast ++ [lz] := ⟨crew.getLast hne, (List.dropLast_concat_getLast hne).symm⟩
    have hlm : lz ∈ crew := by rw [hlz]; simp
    obtain ⟨lns, hln⟩ := Option.isSome_iff_exists.mp ((hF lz).mp hlm)
    have at1 : atI (crew.map V.str) (-1) = some (.str lz) := by
      rw [hlz, List.map_append]
      exact atI_last _ _
    refine ⟨_, rfl, a, dx11, _, rfl, l11, rfl, _, rfl, _, rfl, c, _, _, _, rfl, rfl, SqL.of (y11 _ _ hc2 lst_ne), at1, _, rfl, a, .str lz, tick, "str", T2, F, rfl, hL2.extN y11, hO, .str lz (Nat.le_trans (hcf lz hlm).2.1 (by decide)), (vt.extN y11).gv, fun _ _ _ _ e g => (by rw [gm] at g; cases g), fun e => (by rw [show fB F (.str lz) = F lz from rfl, hln] at e; cases e),
      fun _ _ _ d' H12 s12 hd12 => ⟨"moment", CM, "moment", tick, d', .inr (.inr ⟨rfl, rfl, rfl⟩), rfl, rfl, hd12, fun H13 r3 s13 hr3 => ?_⟩⟩
    have s123 := s12.trans s13
    have y13 := y11.trans (extN_of s123)
    have h13 := s123 _ _ (x11 _ _ h10 lst_ne)
    have t13 := t11.ext s123
    have r1b := s123 _ _ (x11 _ _ r1a tup_ne)
    have r2b := s123 _ _ (x11 _ _ r2a tup_ne)
    refine ⟨by show 1 ≤ sizeLine; decide, fun q2 hq2 => ?_⟩
    have s14 := same_upd0 (o := .lst [.ref r3]) hq2
    refine ⟨q1, q2, _, _, rfl, rfl, s14 _ _ h13, upd_same, by show 3 ≤ sizeLine; decide, fun q3 hq3 => ?_⟩
    have s15 := s14.trans (same_upd0 (o := .lst ([.ref r1, .ref r2] ++ [.ref r3])) hq3)
    have h15 : (upd (upd H13 q2 (.lst [.ref r3])) q3 (.lst ([.ref r1, .ref r2] ++ [.ref r3]))) q3 = some (.lst [.ref r1, .ref r2, .ref r3]) := upd_same
    revert s15 h15
    generalize upd (upd H13 q2 (.lst [.ref r3])) q3 (.lst ([.ref r1, .ref r2] ++ [.ref r3])) = H15
    intro s15 h15
    have y15 := y13.trans (extN_of s15)
    have t15 := t13.ext s15
    have vo15 := vo.extN y15
    have vt15 := vt.extN y15
    have dr1 : Dd K H15 (.ref r1) (.tuple [.str "tool", d1]) := .tup (SqT.of (s15 _ _ r1b)) (.cons (.str _) (.cons vo15.kp.dd .nil))
    have dr2 : Dd K H15 (.ref r2) (.tuple [.str "tool", d1]) := .tup (SqT.of (s15 _ _ r2b)) (.cons (.str _) (.cons vo15.kp.dd .nil))
    have dr3 : Dd K H15 (.ref r3) (.tuple [.str "moment", d2]) := .tup (SqT.of (s15 _ _ hr3)) (.cons (.str _) (.cons vt15.kp.dd .nil))
    have okT : OkD (2000 * 2 + 2 * 2 + 3) 4 (.tuple [.str "tool", d1]) := OkD.tuple (n := 2000) (m := 2) (ds := [.str "tool", d1]) (two_in ((OkD.str (by decide +kernel) (by decide +kernel)).mono (by decide) (by decide)) vo.ok)
    have okM : OkD (2000 * 2 + 2 * 2 + 3) 4 (.tuple [.str "moment", d2]) := OkD.tuple (n := 2000) (m := 2) (ds := [.str "moment", d2]) (two_in ((OkD.str (by decide +kernel) (by decide +kernel)).mono (by decide) (by decide)) vt.ok)
    have okA := ((OkD.list (n := 2000 * 2 + 2 * 2 + 3) (m := 4) (ds := [.tuple [.str "tool", d1], .tuple [.str "tool", d1], .tuple [.str "moment", d2]]) fun d hd => by
      simp only [List.mem_cons, List.not_mem_nil, or_false] at hd
      rcases hd with h | h | h <;> rw [h]
      · exact okT
      · exact okT
      · exact okM).mono (n' := 20000) (m' := 6) (by show (2000 * 2 + 2 * 2 + 3) * 3 + 2 * 3 + 3 ≤ 20000; decide) (by decide)).repr (by decide) (by decide)
    refine ⟨_, rfl, _, .list [.tuple [.str "tool", d1], .tuple [.str "tool", d1], .tuple [.str "moment", d2]], rfl, .lst (SqL.of h15) (.cons dr1 (.cons dr2 (.cons dr3 .nil))), okA.1, okA.2.1, okA.2.2, ?_⟩
    refine ⟨_, rfl, by show 2 ≤ sizeLine; decide, fun w1 hw1 => ?_⟩
    have v1 := same_upd0 (o := .tup [.str "tool", odd]) hw1
    refine ⟨_, rfl, by show 2 ≤ sizeLine; decide, fun w2 hw2 => ?_⟩
    have v2 := same_upd0 (o := .tup [.str "tool", odd]) hw2
    refine ⟨_, rfl, by show 2 ≤ sizeLine; decide, fun w3 hw3 => ?_⟩
    have v3 := same_upd0 (o := .tup [.str "moment", tick]) hw3
    refine ⟨by show 3 ≤ sizeLine; decide, fun w4 hw4 => ?_⟩
    have v4 := same_upd0 (o := .lst [.ref w1, .ref w2, .ref w3]) hw4
    have f1 := v4 _ _ (v3 _ _ (v2 _ _ (show (upd H15 w1 (.tup [.str "tool", odd])) w1 = some (.tup [.str "tool", odd]) from upd_same)))
    have f2 := v4 _ _ (v3 _ _ (show (upd (upd H15 w1 (.tup [.str "tool", odd])) w2 (.tup [.str "tool", odd])) w2 = some (.tup [.str "tool", odd]) from upd_same))
    have f3 := v4 _ _ (show (upd (upd (upd H15 w1 (.tup [.str "tool", odd])) w2 (.tup [.str "tool", odd])) w3 (.tup [.str "moment", tick])) w3 = some (.tup [.str "moment", tick]) from upd_same)
    have f4 : (upd (upd (upd (upd H15 w1 (.tup [.str "tool", odd])) w2 (.tup [.str "tool", odd])) w3 (.tup [.str "moment", tick])) w4 (.lst [.ref w1, .ref w2, .ref w3])) w4 = some (.lst [.ref w1, .ref w2, .ref w3]) := upd_same
    have v14 := ((v1.trans v2).trans v3).trans v4
    revert f1 f2 f3 f4 v14
    generalize upd (upd (upd (upd H15 w1 (.tup [.str "tool", odd])) w2 (.tup [.str "tool", odd])) w3 (.tup [.str "moment", tick])) w4 (.lst [.ref w1, .ref w2, .ref w3]) = G0
    intro f1 f2 f3 f4 v14
    have y16 := y15.trans (extN_of v14)
    have vo16 := vo.extN y16
    have vt16 := vt.extN y16
    refine ⟨_, .list [.tuple [.str "tool", d1], .tuple [.str "tool", d1], .tuple [.str "moment", d2]], rfl, .lst (SqL.of f4) (.cons (.tup (SqT.of f1) (.cons (.str _) (.cons vo16.kp.dd .nil))) (.cons (.tup (SqT.of f2) (.cons (.str _) (.cons vo16.kp.dd .nil))) (.cons (.tup (SqT.of f3) (.cons (.str _) (.cons vt16.kp.dd .nil))) .nil))), okA.1, okA.2.1, okA.2.2, ?_⟩
    refine ⟨rfl, _, rfl, ite2 (fun e => absurd e (by simp)) (fun _ => ?_)⟩
    have t16 := t15.ext v14
    have pen16 := pen2.ext y16
    have hL16 := hL2.extN y16
    have hc16 := y16 _ _ hc2 lst_ne
    obtain ⟨c0, rest, hcw⟩ : ∃ c0 rest, crew = c0 :: rest := by
      cases h : crew with
      | nil => exact absurd h hne
      | cons x r => exact ⟨x, r, rfl⟩
    have hc0m : c0 ∈ crew := by rw [hcw]; exact List.mem_cons_self
    obtain ⟨_, hc0l, hc0c, _⟩ := hcf c0 hc0m
    have at0 : atI (crew.map V.str) 0 = some (.str c0) := by
      refine atI_nat (j := 0) ?_
      rw [hcw]
      rfl
    clear v1 v2 v3 v4 hw1 hw2 hw3 hw4 dr1 dr2 dr3 h15 okT okM t15 t13 t11 t10 t9 t7 t6 t5 t3 vo15 vt15 f1 f2 f3 f4 at1 pen2 hL2 hc2 t2 r1a r1b r2a r2b hr1 hr2 hr3
    have pn0 := pen16
    have hc0' := hc16
    have S0 : Same G0 G0 := Same.refl G0
    refine ⟨by show 0 ≤ sizeLine; decide, fun a1 ha1 => ?_⟩
    have sm1 := same_upd0 (o := .tup []) ha1
    have e1 : (upd G0 a1 (.tup [])) a1 = some (.tup []) := upd_same
    have np1 := pn0.ne ha1
    revert sm1 e1
    generalize upd G0 a1 (.tup []) = G1
    intro sm1 e1
    have pn1 := pn0.same sm1
    have hc1' := sm1 _ _ hc0'
    have S1 := S0.trans sm1
    refine ⟨_, rfl, c, _, _, _, rfl, rfl, SqL.of hc1', at0, by show 1 ≤ sizeLine; decide, fun a2 ha2 => ?_⟩
    have sm2 := same_upd0 (o := .tup [.str c0]) ha2
    have e2 : (upd G1 a2 (.tup [.str c0])) a2 = some (.tup [.str c0]) := upd_same
    have np2 := pn1.ne ha2
    revert sm2 e2
    generalize upd G1 a2 (.tup [.str c0]) = G2
    intro sm2 e2
    have pn2 := pn1.same sm2
    have hc2' := sm2 _ _ hc1'
    have S2 := S1.trans sm2
    replace e1 := sm2 _ _ e1
    refine ⟨_, rfl, c, _, _, _, rfl, rfl, SqL.of hc2', at0, by show 2 ≤ sizeLine; decide, fun a3 ha3 => ?_⟩
    have sm3 := same_upd0 (o := .lst [.str c0, .int 0]) ha3
    have e3 : (upd G2 a3 (.lst [.str c0, .int 0])) a3 = some (.lst [.str c0, .int 0]) := upd_same
    have np3 := pn2.ne ha3
    revert sm3 e3
    generalize upd G2 a3 (.lst [.str c0, .int 0]) = G3
    intro sm3 e3
    have pn3 := pn2.same sm3
    have hc3' := sm3 _ _ hc2'
    have S3 := S2.trans sm3
    replace e1 := sm3 _ _ e1
    replace e2 := sm3 _ _ e2
    refine ⟨_, rfl, c, _, _, _, rfl, rfl, SqL.of hc3', at0, by show 3 ≤ sizeLine; decide, fun a4 ha4 => ?_⟩
    have sm4 := same_upd0 (o := .tup [.str c0, .int 0, .int 0]) ha4
    have e4 : (upd G3 a4 (.tup [.str c0, .int 0, .int 0])) a4 = some (.tup [.str c0, .int 0, .int 0]) := upd_same
    have np4 := pn3.ne ha4
    revert sm4 e4
    generalize upd G3 a4 (.tup [.str c0, .int 0, .int 0]) = G4
    intro sm4 e4
    have pn4 := pn3.same sm4
    have hc4' := sm4 _ _ hc3'
    have S4 := S3.trans sm4
    replace e1 := sm4 _ _ e1
    replace e2 := sm4 _ _ e2
    replace e3 := sm4 _ _ e3
    refine ⟨_, rfl, by show 2 ≤ sizeLine; decide, fun a5 ha5 => ?_⟩
    have sm5 := same_upd0 (o := .tup [odd, .int 0]) ha5
    have e5 : (upd G4 a5 (.tup [odd, .int 0])) a5 = some (.tup [odd, .int 0]) := upd_same
    have np5 := pn4.ne ha5
    revert sm5 e5
    generalize upd G4 a5 (.tup [odd, .int 0]) = G5
    intro sm5 e5
    have pn5 := pn4.same sm5
    have hc5' := sm5 _ _ hc4'
    have S5 := S4.trans sm5
    replace e1 := sm5 _ _ e1
    replace e2 := sm5 _ _ e2
    replace e3 := sm5 _ _ e3
    replace e4 := sm5 _ _ e4
    refine ⟨_, rfl, c, _, _, _, rfl, rfl, SqL.of hc5', at0, by show 2 ≤ sizeLine; decide, fun a6 ha6 => ?_⟩
    have sm6 := same_upd0 (o := .tup [.str c0, .bl true]) ha6
    have e6 : (upd G5 a6 (.tup [.str c0, .bl true])) a6 = some (.tup [.str c0, .bl true]) := upd_same
    have np6 := pn5.ne ha6
    revert sm6 e6
    generalize upd G5 a6 (.tup [.str c0, .bl true]) = G6
    intro sm6 e6
    have pn6 := pn5.same sm6
    have hc6' := sm6 _ _ hc5'
    have S6 := S5.trans sm6
    replace e1 := sm6 _ _ e1
    replace e2 := sm6 _ _ e2
    replace e3 := sm6 _ _ e3
    replace e4 := sm6 _ _ e4
    replace e5 := sm6 _ _ e5
    refine ⟨_, rfl, c, _, _, _, rfl, rfl, SqL.of hc6', at0, by show 2 ≤ sizeLine; decide, fun a7 ha7 => ?_⟩
    have sm7 := same_upd0 (o := .tup [.str c0, .bl false]) ha7
    have e7 : (upd G6 a7 (.tup [.str c0, .bl false])) a7 = some (.tup [.str c0, .bl false]) := upd_same
    have np7 := pn6.ne ha7
    revert sm7 e7
    generalize upd G6 a7 (.tup [.str c0, .bl false]) = G7
    intro sm7 e7
    have pn7 := pn6.same sm7
    have hc7' := sm7 _ _ hc6'
    have S7 := S6.trans sm7
    replace e1 := sm7 _ _ e1
    replace e2 := sm7 _ _ e2
    replace e3 := sm7 _ _ e3
    replace e4 := sm7 _ _ e4
    replace e5 := sm7 _ _ e5
    replace e6 := sm7 _ _ e6
    refine ⟨by show 9 ≤ sizeLine; decide, fun a8 ha8 => ?_⟩
    have sm8 := same_upd0 (o := .lst [.non, .int 0, .ref a1, .ref a2, .ref a3, .ref a4, .ref a5, .ref a6, .ref a7]) ha8
    have e8 : (upd G7 a8 (.lst [.non, .int 0, .ref a1, .ref a2, .ref a3, .ref a4, .ref a5, .ref a6, .ref a7])) a8 = some (.lst [.non, .int 0, .ref a1, .ref a2, .ref a3, .ref a4, .ref a5, .ref a6, .ref a7]) := upd_same
    have np8 := pn7.ne ha8
    revert sm8 e8
    generalize upd G7 a8 (.lst [.non, .int 0, .ref a1, .ref a2, .ref a3, .ref a4, .ref a5, .ref a6, .ref a7]) = G8
    intro sm8 e8
    have pn8 := pn7.same sm8
    have hc8' := sm8 _ _ hc7'
    have S8 := S7.trans sm8
    replace e1 := sm8 _ _ e1
    replace e2 := sm8 _ _ e2
    replace e3 := sm8 _ _ e3
    replace e4 := sm8 _ _ e4
    replace e5 := sm8 _ _ e5
    replace e6 := sm8 _ _ e6
    replace e7 := sm8 _ _ e7
    refine ⟨_, rfl, _, rfl, _, rfl, c, _, _, _, rfl, rfl, SqL.of hc8', at0, _, rfl, by show 2 ≤ sizeLine; decide, fun a9 ha9 => ?_⟩
    have sm9 := same_upd0 (o := .tup [.str c0, tick]) ha9
    have e9 : (upd G8 a9 (.tup [.str c0, tick])) a9 = some (.tup [.str c0, tick]) := upd_same
    have np9 := pn8.ne ha9
    revert sm9 e9
    generalize upd G8 a9 (.tup [.str c0, tick]) = G9
    intro sm9 e9
    have pn9 := pn8.same sm9
    have hc9' := sm9 _ _ hc8'
    have S9 := S8.trans sm9
    replace e1 := sm9 _ _ e1
    replace e2 := sm9 _ _ e2
    replace e3 := sm9 _ _ e3
    replace e4 := sm9 _ _ e4
    replace e5 := sm9 _ _ e5
    replace e6 := sm9 _ _ e6
    replace e7 := sm9 _ _ e7
    replace e8 := sm9 _ _ e8
    refine ⟨_, rfl, c, _, _, _, rfl, rfl, SqL.of hc9', at0, _, rfl, by show 2 ≤ sizeLine; decide, fun a10 ha10 => ?_⟩
    have sm10 := same_upd0 (o := .tup [.str c0, .int (-1)]) ha10
    have e10 : (upd G9 a10 (.tup [.str c0, .int (-1)])) a10 = some (.tup [.str c0, .int (-1)]) := upd_same
    have np10 := pn9.ne ha10
    revert sm10 e10
    generalize upd G9 a10 (.tup [.str c0, .int (-1)]) = G10
    intro sm10 e10
    have pn10 := pn9.same sm10
    have hc10' := sm10 _ _ hc9'
    have S10 := S9.trans sm10
    replace e1 := sm10 _ _ e1
    replace e2 := sm10 _ _ e2
    replace e3 := sm10 _ _ e3
    replace e4 := sm10 _ _ e4
    replace e5 := sm10 _ _ e5
    replace e6 := sm10 _ _ e6
    replace e7 := sm10 _ _ e7
    replace e8 := sm10 _ _ e8
    replace e9 := sm10 _ _ e9
    refine ⟨_, rfl, c, _, _, _, rfl, rfl, SqL.of hc10', at0, by show 2 ≤ sizeLine; decide, fun a11 ha11 => ?_⟩
    have sm11 := same_upd0 (o := .tup [.int 0, .str c0]) ha11
    have e11 : (upd G10 a11 (.tup [.int 0, .str c0])) a11 = some (.tup [.int 0, .str c0]) := upd_same
    have np11 := pn10.ne ha11
    revert sm11 e11
    generalize upd G10 a11 (.tup [.int 0, .str c0]) = G11
    intro sm11 e11
    have pn11 := pn10.same sm11
    have hc11' := sm11 _ _ hc10'
    have S11 := S10.trans sm11
    replace e1 := sm11 _ _ e1
    replace e2 := sm11 _ _ e2
    replace e3 := sm11 _ _ e3
    replace e4 := sm11 _ _ e4
    replace e5 := sm11 _ _ e5
    replace e6 := sm11 _ _ e6
    replace e7 := sm11 _ _ e7
    replace e8 := sm11 _ _ e8
    replace e9 := sm11 _ _ e9
    replace e10 := sm11 _ _ e10
    refine ⟨_, rfl, c, _, _, _, rfl, rfl, SqL.of hc11', at0, fun a12 ha12 => ?_⟩
    have sm12 := same_upd0 (o := .dK []) ha12
    have e12 : (upd G11 a12 (.dK [])) a12 = some (.dK []) := upd_same
    have np12 := pn11.ne ha12
    revert sm12 e12
    generalize upd G11 a12 (.dK []) = G12
    intro sm12 e12
    have pn12 := pn11.same sm12
    have hc12' := sm12 _ _ hc11'
    have S12 := S11.trans sm12
    replace e1 := sm12 _ _ e1
    replace e2 := sm12 _ _ e2
    replace e3 := sm12 _ _ e3
    replace e4 := sm12 _ _ e4
    replace e5 := sm12 _ _ e5
    replace e6 := sm12 _ _ e6
    replace e7 := sm12 _ _ e7
    replace e8 := sm12 _ _ e8
    replace e9 := sm12 _ _ e9
    replace e10 := sm12 _ _ e10
    replace e11 := sm12 _ _ e11
    refine ⟨by show 5 ≤ sizeLine; decide, fun a13 ha13 => ?_⟩
    have sm13 := same_upd0 (o := .lst [.ref a9, .ref a10, .ref a11, .str c0, .ref a12]) ha13
    have e13 : (upd G12 a13 (.lst [.ref a9, .ref a10, .ref a11, .str c0, .ref a12])) a13 = some (.lst [.ref a9, .ref a10, .ref a11, .str c0, .ref a12]) := upd_same
    have np13 := pn12.ne ha13
    revert sm13 e13
    generalize upd G12 a13 (.lst [.ref a9, .ref a10, .ref a11, .str c0, .ref a12]) = G13
    intro sm13 e13
    have pn13 := pn12.same sm13
    have hc13' := sm13 _ _ hc12'
    have S13 := S12.trans sm13
    replace e1 := sm13 _ _ e1
    replace e2 := sm13 _ _ e2
    replace e3 := sm13 _ _ e3
    replace e4 := sm13 _ _ e4
    replace e5 := sm13 _ _ e5
    replace e6 := sm13 _ _ e6
    replace e7 := sm13 _ _ e7
    replace e8 := sm13 _ _ e8
    replace e9 := sm13 _ _ e9
    replace e10 := sm13 _ _ e10
    replace e11 := sm13 _ _ e11
    replace e12 := sm13 _ _ e12
    refine ⟨a8, a13, _, _, rfl, rfl, e8, e13, by show 14 ≤ sizeLine; decide, fun a14 ha14 => ?_⟩
    have sm14 := same_upd0 (o := .lst ([.non, .int 0, .ref a1, .ref a2, .ref a3, .ref a4, .ref a5, .ref a6, .ref a7] ++ [.ref a9, .ref a10, .ref a11, .str c0, .ref a12])) ha14
    have e14 : (upd G13 a14 (.lst ([.non, .int 0, .ref a1, .ref a2, .ref a3, .ref a4, .ref a5, .ref a6, .ref a7] ++ [.ref a9, .ref a10, .ref a11, .str c0, .ref a12]))) a14 = some (.lst ([.non, .int 0, .ref a1, .ref a2, .ref a3, .ref a4, .ref a5, .ref a6, .ref a7] ++ [.ref a9, .ref a10, .ref a11, .str c0, .ref a12])) := upd_same
    have np14 := pn13.ne ha14
    revert sm14 e14
    generalize upd G13 a14 (.lst ([.non, .int 0, .ref a1, .ref a2, .ref a3, .ref a4, .ref a5, .ref a6, .ref a7] ++ [.ref a9, .ref a10, .ref a11, .str c0, .ref a12])) = G14
    intro sm14 e14
    have pn14 := pn13.same sm14
    have hc14' := sm14 _ _ hc13'
    have S14 := S13.trans sm14
    replace e1 := sm14 _ _ e1
    replace e2 := sm14 _ _ e2
    replace e3 := sm14 _ _ e3
    replace e4 := sm14 _ _ e4
    replace e5 := sm14 _ _ e5
    replace e6 := sm14 _ _ e6
    replace e7 := sm14 _ _ e7
    replace e8 := sm14 _ _ e8
    replace e9 := sm14 _ _ e9
    replace e10 := sm14 _ _ e10
    replace e11 := sm14 _ _ e11
    replace e12 := sm14 _ _ e12
    replace e13 := sm14 _ _ e13
    generalize hxs2 : [V.non, V.int 0, V.ref a1, V.ref a2, V.ref a3, V.ref a4, V.ref a5, V.ref a6, V.ref a7] ++ [V.ref a9, V.ref a10, V.ref a11, V.str c0, V.ref a12] = xs2 at e14
    have len2 : xs2.length = 14 := by rw [← hxs2]; rfl
    refine ⟨p, l, ns, m2, g2, _, rfl, pn14, by omega, .inl ⟨a14, xs2, rfl, np14, e14, by omega, by omega, fun other m3 g3 HA hv hm3 offC penC => ?_⟩⟩
    have yA : ∀ {b : Addr} {o : HO}, b ≠ p → G14 b = some o → HA b = some o := fun n e => offC _ _ n e
    have voA := (vo16.same S14).off offC
    have vtA := (vt16.same S14).off offC
    have hLA := (hL16.same S14).off offC pn14.pen
    have tA := tabs_off pn14.pen (t16.ext S14) offC
    have z1 := yA np1 e1
    have z2 := yA np2 e2
    have z3 := yA np3 e3
    have z4 := yA np4 e4
    have z5 := yA np5 e5
    have z6 := yA np6 e6
    have z7 := yA np7 e7
    have z9 := yA np9 e9
    have z10 := yA np10 e10
    have z11 := yA np11 e11
    have z12 := yA np12 e12
    have okc : OkD 2000 2 (.str c0) := (OkD.str hc0c hc0l).mono (by decide) (by decide)
    have ok0 : ∀ i : Int, i.natAbs < 2 ^ 250 → OkD 2000 2 (.int i) := fun i h => (OkD.int h).mono (by decide) (by decide)
    have okb : ∀ b, OkD 2000 2 (.bool b) := fun b => (OkD.bool b).mono (by decide) (by decide)
    have gvc : Gv HA (.str c0) "str" := .str c0 (Nat.le_trans hc0l (by decide))
    have tw : ∀ {d e : PyData}, OkD 2000 2 d → OkD 2000 2 e → OkD 7000 4 (.tuple [d, e]) := fun {d e} h1 h2 => (OkD.tuple (n := 2000) (m := 2) (ds := [d, e]) (two_in h1 h2)).mono (by show 2000 * 2 + 2 * 2 + 3 ≤ 7000; decide) (by decide)
    have twl : ∀ {d e : PyData}, OkD 2000 2 d → OkD 2000 2 e → OkD 7000 4 (.list [d, e]) := fun {d e} h1 h2 => (OkD.list (n := 2000) (m := 2) (ds := [d, e]) (two_in h1 h2)).mono (by show 2000 * 2 + 2 * 2 + 3 ≤ 7000; decide) (by decide)
    have hl : ∀ {b : Addr} {o : HO}, b ≠ p → HA b = some o → hole p HA b = some o := fun n e => by rw [hole_ne n]; exact e
    have nt : ∀ {T : String} {Q : Prop}, T ≠ "tuple" → T = "tuple" → Q := fun a b => absurd b a
    have key2 : ∀ x ∈ xs2, ∃ o d, LyAt HA x o ∧ inF F o = false ∧ Kp K p HA x d ∧ OkD 7000 4 d := by
      rw [← hxs2]
      simp only [List.cons_append, List.nil_append, List.forall_mem_cons]
      refine ⟨⟨none, _, .inl ⟨rfl, _, .non, nt (by decide)⟩, rfl, .non, OkD.none.mono (by decide) (by decide)⟩, ⟨none, _, .inl ⟨rfl, _, .int 0, nt (by decide)⟩, rfl, .int _, (ok0 0 (by decide)).mono (by decide) (by decide)⟩,
        ⟨none, _, .inl ⟨rfl, _, .tup z1, fun _ => ⟨a1, _, rfl, z1, by decide⟩⟩, rfl, .hole (.tup (SqT.of (hl np1 z1)) .nil), by decide +kernel, by decide +kernel, by decide +kernel⟩,
        ⟨none, .tuple [.str c0], .inl ⟨rfl, _, .tup z2, fun _ => ⟨a2, _, rfl, z2, (by show (1 : Nat) ≠ 2; decide)⟩⟩, rfl, .hole (.tup (SqT.of (hl np2 z2)) (.cons (.str _) .nil)), (OkD.tuple (n := 2000) (m := 2) (ds := [.str c0]) (fun d hd => by rw [List.mem_singleton.mp hd]; exact okc)).mono (by show 2000 * 1 + 2 * 1 + 3 ≤ 7000; decide) (by decide)⟩,
        ⟨none, .list [.str c0, .int 0], .inl ⟨rfl, _, .lst z3, nt (by decide)⟩, rfl, .hole (.lst (SqL.of (hl np3 z3)) (.cons (.str _) (.cons (.int _) .nil))), twl okc (ok0 0 (by decide))⟩,
        ⟨none, .tuple [.str c0, .int 0, .int 0], .inl ⟨rfl, _, .tup z4, fun _ => ⟨a4, _, rfl, z4, (by show (3 : Nat) ≠ 2; decide)⟩⟩, rfl, .hole (.tup (SqT.of (hl np4 z4)) (.cons (.str _) (.cons (.int _) (.cons (.int _) .nil)))), (OkD.tuple (n := 2000) (m := 2) (ds := [.str c0, .int 0, .int 0]) (fun d hd => by
          simp only [List.mem_cons, List.not_mem_nil, or_false] at hd
          rcases hd with h | h | h <;> rw [h]
          · exact okc
          · exact ok0 0 (by decide)
          · exact ok0 0 (by decide))).mono (by show 2000 * 3 + 2 * 3 + 3 ≤ 7000; decide) (by decide)⟩,
        ⟨some (odd, .int 0), .tuple [d1, .int 0], .inr ⟨odd, .int 0, a5, T1, _, rfl, rfl, z5, voA.gv, .int 0⟩, inF_none fo, .hole (.tup (SqT.of (hl np5 z5)) (.cons (kp_un voA.kp) (.cons (.int _) .nil))), tw voA.ok (ok0 0 (by decide))⟩,
        ⟨some (.str c0, .bl true), .tuple [.str c0, .bool true], .inr ⟨.str c0, .bl true, a6, _, _, rfl, rfl, z6, gvc, .bl _⟩, rfl, .hole (.tup (SqT.of (hl np6 z6)) (.cons (.str _) (.cons (.bl _) .nil))), tw okc (okb _)⟩,
        ⟨some (.str c0, .bl false), .tuple [.str c0, .bool false], .inr ⟨.str c0, .bl false, a7, _, _, rfl, rfl, z7, gvc, .bl _⟩, rfl, .hole (.tup (SqT.of (hl np7 z7)) (.cons (.str _) (.cons (.bl _) .nil))), tw okc (okb _)⟩,
        ⟨some (.str c0, tick), .tuple [.str c0, d2], .inr ⟨.str c0, tick, a9, _, T2, rfl, rfl, z9, gvc, vtA.gv⟩, inF_odd hO gm, .hole (.tup (SqT.of (hl np9 z9)) (.cons (.str _) (.cons (kp_un vtA.kp) .nil))), tw okc vtA.ok⟩,
        ⟨some (.str c0, .int (-1)), .tuple [.str c0, .int (-1)], .inr ⟨.str c0, .int (-1), a10, _, _, rfl, rfl, z10, gvc, .int _⟩, inF_odd hO (by decide +kernel), .hole (.tup (SqT.of (hl np10 z10)) (.cons (.str _) (.cons (.int _) .nil))), tw okc (ok0 _ (by decide))⟩,
        ⟨some (.int 0, .str c0), .tuple [.int 0, .str c0], .inr ⟨.int 0, .str c0, a11, _, _, rfl, rfl, z11, .int _, gvc⟩, rfl, .hole (.tup (SqT.of (hl np11 z11)) (.cons (.int _) (.cons (.str _) .nil))), tw (ok0 0 (by decide)) okc⟩,
        ⟨none, .str c0, .inl ⟨rfl, _, gvc, nt (by decide)⟩, rfl, .str _, okc.mono (by decide) (by decide)⟩,
        ⟨none, _, .inl ⟨rfl, _, .dK z12, nt (by decide)⟩, rfl, .hole (.dct (hl np12 z12) .nil), by decide +kernel, by decide +kernel, by decide +kernel⟩, fun _ h => nomatch h⟩
    obtain ⟨o, d, hly, hof, kpo, oko⟩ := key2 other hv
    clear key2 hxs2 hv e14
    -- the fourth
    refine ⟨tA, fun HB xB tB => ?_⟩
    obtain ⟨dxB, _, _, lB, _⟩ := hLA.extN xB
    refine ⟨_, rfl, a, dxB, _, rfl, lB, rfl, _, rfl, a, other, o, F, rfl, hLA.extN xB, hO, hly.extN xB, fun u i0 ns0 r e1 e2 hi0 _ _ _ => (by
      rw [e1] at hof
      have : inF F (some (u, .int i0)) = true := by
        show (match fB F u with | some ns => decide (i0 ∈ ns) | none => false) = true
        rw [e2]
        exact decide_eq_true hi0
      rw [this] at hof
      cases hof), fun _ d' HC sC hdC => ⟨"life", CL, "value", other, d', .inr (.inl ⟨rfl, rfl, rfl⟩), rfl, rfl, hdC, fun HD r4 sD hr4 => ?_⟩⟩
    have sCD := sC.trans sD
    have xD := xB.trans (extN_of sCD)
    have okL := ((OkD.tuple (n := 7000) (m := 4) (ds := [.str "life", d]) (two_in ((OkD.str (by decide +kernel) (by decide +kernel)).mono (by decide) (by decide)) oko)).mono (n' := 20000) (m' := 6) (by show 7000 * 2 + 2 * 2 + 3 ≤ 20000; decide) (by decide)).repr (by decide) (by decide)
    refine ⟨_, .tuple [.str "life", d], rfl, .tup (SqT.of hr4) (.cons (.str _) (.cons (kpo.extN xD).dd .nil)), okL.1, okL.2.1, okL.2.2, ?_⟩
    refine ⟨_, rfl, by show 2 ≤ sizeLine; decide, fun w5 hw5 => ?_⟩
    have sE := same_upd0 (o := .tup [.str "life", other]) hw5
    refine ⟨_, .tuple [.str "life", d], rfl, .tup (SqT.of upd_same) (.cons (.str _) (.cons ((kpo.extN xD).same sE).dd .nil)), okL.1, okL.2.1, okL.2.2, rfl, ?_⟩
    rw [decide_eq_true rfl]
    exact q m3 g3 _ (by omega) ((penC.ext xD).same sE) ((tB.ext sCD).ext sE)
end
end K09

namespace K09
open PySem PySem.Spec PyProof.Rows L2 So LamX
abbrev sLaw : Stmt := topS 32
abbrev lawN : List Str := ["_law_script", "_law_pen_here", "_law_turn", "_law_crew_here", "_law_starts_here", "_law_word", "_law_lives"]
theorem scLaw : FnScope lawN ["_law_script"] (defScope sLaw) := ⟨rfl, rfl, rfl, by decide +kernel, rfl, by decide +kernel, by decide +kernel⟩
theorem cut63 (xs : List V) : cutV xs none (some 63) = xs.take 63 := by
  unfold cutV
  rw [HT.sIx_none, show HT.sIx xs.length xs.length (some 63) = min 63 xs.length from HT.sIx_nat xs.length xs.length 63]
  simp
theorem sll {X : Cx} {K : PySem.W.Frag} (h : X.K = K) : SlR X (rSlL K) := h ▸ sl_list
theorem merge_new : ∀ (more kvs : List (Key × V)), (∀ kv ∈ more, valV kvs kv.1 = none) → (more.map (·.1)).Nodup → mergeK kvs more = kvs ++ more
  | [], kvs, _, _ => by simp [mergeK]
  | x :: r, kvs, h, hn => by
    rw [List.map_cons, List.nodup_cons] at hn
    have h1 : putK kvs x.1 x.2 = kvs ++ [x] := putK_new x.2 (h x List.mem_cons_self)
    show mergeK (putK kvs x.1 x.2) r = _
    rw [h1, merge_new r (kvs ++ [x]) (fun kv hkv => ?_) hn.2, List.append_assoc]
    · rfl
    · rw [← h1, valV_put, if_neg (fun e => hn.1 (by rw [← e]; exact List.mem_map.mpr ⟨kv, hkv, rfl⟩))]
      exact h kv (List.mem_cons_of_mem _ hkv)
theorem valV_mem {k : Key} : ∀ {kvs : List (Key × V)}, k ∈ kvs.map (·.1) → ∃ v, valV kvs k = some v ∧ (k, v) ∈ kvs
  | [], h => by simp at h
  | x :: r, h => by
    by_cases e : x.1 = k
    · exact ⟨x.2, valV_pos e, by rw [← e]; exact List.mem_cons_self⟩
    · rw [List.map_cons] at h
      obtain ⟨v, h1, h2⟩ := valV_mem (kvs := r) ((List.mem_cons.mp h).resolve_left (fun z => e z.symm))
      exact ⟨v, (valV_neg e).trans h1, List.mem_cons_of_mem _ h2⟩
section
variable {P : Program} {w : World} {K : PySem.W.Frag} {mg : Str → Option Value} {base : Heap}
def spPen (K : PySem.W.Frag) : Sp := fun vs H Q _ => ∃ (a : Addr) (ns : List Int), vs = [.ref a] ∧ SqL K H a (ns.map V.int) ∧ ∀ (H' : Hp) (p l : Addr) (ns' : List Int), Same H H' → Pen H' p l ns' 0 0 → Q (.ref p) H'
theorem ok_pen {f : Addr} {fd : FuncData} (F : Fun K "_law_pen" "_law_pen" sPen f fd) (ml : mg "list" = none) : FnOk P w K mg base CX0 1 f fd ["_law_script"] (spPen K) := by
  refine F.ok scPen (fun vs H Q E h => ?_) (fun cdv A outer s H vs Q E hr h => ?_)
  · obtain ⟨a, ns, rfl, _⟩ := h
    rfl
  · obtain ⟨a, ns, rfl, hS, q⟩ := h
    refine ⟨_, pss_one (ps_ret (pe_lst (pa_cons (pe_callTy call_list_of (by rfl) ml (by decide +kernel) (pa_cons (pe_slice sl_list (pv 0) po_none (po_some pe_int)) pa_nil)) (pa_cons pe_int (pa_cons pe_int pa_nil))))), ?_⟩
    refine ⟨_, rfl, 63, rfl, a, ns.map V.int, rfl, hS, fun c hc => ?_⟩
    rw [cut63, ← List.map_take]
    refine ⟨c, _, rfl, .inl (SqL.of upd_same), fun l hl => ?_⟩
    refine ⟨by show 3 ≤ sizeLine; decide, fun p hp => ?_⟩
    have s1 : Same H (upd (upd (upd H c (.lst ((ns.take 63).map V.int))) l (.lst ((ns.take 63).map V.int))) p (.lst [.ref l, .int 0, .int 0])) := by
      refine ((same_upd0 hc).trans (same_upd0 hl)).trans (same_upd0 hp)
    have nlp : l ≠ p := fun e => by
      rw [e, upd_same] at hp
      cases hp
    exact q _ p l (ns.take 63) s1 ⟨upd_same, (upd_ne nlp).trans upd_same, Int.le_refl 0⟩
def spLaw (K : PySem.W.Frag) (P1 : Addr) : Sp := fun vs H Q _ => ∃ (a : Addr) (ns : List Int), vs = [.ref a] ∧ SqL K H a (ns.map V.int) ∧ H P1 = some (.tbl #[]) ∧ ∀ H', Q (.bl true) H'
theorem ok_law {f P1 C fI fPen fCr fSt fTR fRR : Addr} {fd fdI fdPen fdCr fdSt fdTR fdRR : FuncData} (F : Fun K "law" "law" sLaw f fd) (T : Lvs K mg C) (mr : mg "range" = none) (md : mg "dict" = none)
    (FPen : Fun K "_law_pen" "_law_pen" sPen fPen fdPen) (bPen : Binds K fdPen ["_law_script"] []) (gPen : mg "_law_pen" = some (.ref fPen)) (GPen : FnOk P w K mg base CX0 1 fPen fdPen ["_law_script"] (spPen K))
    (FCr : Fun K "_law_crew" "_law_crew" sCrew fCr fdCr) (bCr : Binds K fdCr ["_law_pen_here"] []) (gCr : mg "_law_crew" = some (.ref fCr)) (GCr : FnOk P w K mg base CX0 3 fCr fdCr ["_law_pen_here"] spCrew)
    (FSt : Fun K "_law_starts" "_law_starts" sStarts fSt fdSt) (bSt : Binds K fdSt ["_law_pen_here", "_law_crew_here"] []) (gSt : mg "_law_starts" = some (.ref fSt)) (GSt : FnOk P w K mg base CX0 3 fSt fdSt ["_law_pen_here", "_law_crew_here"] spStarts)
    (FTR : Fun K "_law_tool_right" "_law_tool_right" sToolR fTR fdTR) (bTR : Binds K fdTR ["_law_pen_here", "_law_lives", "_law_starts_here", "_law_word"] []) (gTR : mg "_law_tool_right" = some (.ref fTR)) (GTR : FnG P w K mg base CX0 5 fTR fdTR ["_law_pen_here", "_law_lives", "_law_starts_here", "_law_word"] (spToolR C))
    (FRR : Fun K "_law_refused_right" "_law_refused_right" sRef fRR fdRR) (bRR : Binds K fdRR ["_law_pen_here", "_law_lives", "_law_crew_here"] []) (gRR : mg "_law_refused_right" = some (.ref fRR)) (GRR : FnG P w K mg base CX0 7 fRR fdRR ["_law_pen_here", "_law_lives", "_law_crew_here"] (spRef C P1))
    (MI : Mk K C fI) (bI : Binds K fdI ["self", "begun"] []) (GI : FnOk P w K mg base CX0 5 fI fdI ["self", "begun"] (spLInit K C)) : FnG P w K mg base CX0 8 f fd ["_law_script"] (spLaw K P1) := by
  refine fnG_of F scLaw (fun vs H Q E h => ?_) (fun cdv A outer s H vs Q E hg hr h => ?_)
  · obtain ⟨a, ns, rfl, _⟩ := h
    rfl
  · obtain ⟨a, ns, rfl, hS, hT0, q⟩ := h
    have hr1 : Room 1 _ := hr.mono (by decide)
    have hr3 : Room 3 _ := hr.mono (by decide)
    have hr5 : Room 5 _ := hr.mono (by decide)
    have hr6 : Room 6 _ := hr.mono (by decide)
    refine ⟨_, pss_cons (ps_set (i := 1) scLaw.nd rfl (.inl rfl) (pe_call GPen hr1 (by rfl) gPen FPen.kp bPen .nil pass0 (pa_cons (pv 0) pa_nil)))
      (pss_cons (ps_for PassesOwn.never rfl (pi_range1 (by rfl) mr (pa_cons pe_int pa_nil)) (pg_name (i := 2) scLaw.nd rfl (Or.inl rfl))
        (pss_cons (ps_set (i := 3) scLaw.nd rfl (.inl rfl) (pe_call GCr hr3 (by rfl) gCr FCr.kp bCr .nil pass0 (pa_cons (pv 1) pa_nil)))
        (pss_cons (ps_set (i := 4) scLaw.nd rfl (.inr rfl) (pe_call GSt hr3 (by rfl) gSt FSt.kp bSt .nil pass0 (pa_cons (pv 1) (pa_cons (pv 3) pa_nil))))
        (pss_cons (ps_set (i := 6) scLaw.nd rfl (.inl rfl) (pe_make MI GI hr6 (by rfl) T.mgC bI .nil pass0 (pa_cons (pe_callTy (call_dictP rfl) (by rfl) md (by decide +kernel) (pa_cons (pe_lc (own := [("_law_word", 5)]) (g := gName 5) (tt := tYes) rfl scLaw.nd (pi_list (pv 3)) (blkOk_by (N := lawN) (sc := defScope sLaw) (by decide +kernel))
            (fun _ _ _ _ _ => pg_name (i := 5) scLaw.nd rfl (Or.inl rfl)) (fun _ _ _ _ _ => pts_nil) (fun _ _ _ _ _ => pe_tup (pa_cons (pv 5) (pa_cons (pe_slice (sll (K := K) rfl) (pe_dget (hu_of hr) (pv 4) (pv 5) (fun _ _ => rfl)) (po_some pe_int) po_none) pa_nil)))) pa_nil)) pa_nil)))
        (pss_cons (ps_for PassesOwn.never rfl (pi_list (pv 3)) (pg_name (i := 5) scLaw.nd rfl (Or.inl rfl))
          (pss_one (ps_if (pt_not (pt_val (pe_callG GTR hg hr5 (by rfl) gTR FTR.kp bTR .nil pass0 (pa_cons (pv 1) (pa_cons (pv 6) (pa_cons (pv 4) (pa_cons (pv 5) pa_nil))))))) (pss_one (ps_ret pe_bl)) pss_nil)))
        (pss_one (ps_if (pt_not (pt_val (pe_callG GRR hg hr (by rfl) gRR FRR.kp bRR .nil pass0 (pa_cons (pv 1) (pa_cons (pv 6) (pa_cons (pv 3) pa_nil)))))) (pss_one (ps_ret pe_bl)) pss_nil)))))))
      (pss_one (ps_ret pe_bl))), ?_⟩
    refine ⟨_, rfl, a, ns, rfl, hS, fun H1 p l cs s1 pen1 => ?_⟩
    have tb1 : Tabs [(P1, qRef)] H1 := by
      intro y hy
      rw [List.mem_singleton.mp hy]
      exact TabS.nil (s1 _ _ hT0)
    refine ⟨4, rfl, by decide, by decide, for_range (lo := 0) (n := 4) (fun i σ H' => ∃ x2 x3 x4 x5 x6 n' g', σ = [some (.ref a), some (.ref p), x2, x3, x4, x5, x6] ∧ Pen H' p l cs n' g' ∧ n' ≤ 60 * i ∧ Tabs [(P1, qRef)] H')
      ⟨none, none, none, none, none, 0, 0, rfl, pen1, Nat.zero_le _, tb1⟩ ?_ ?_⟩
    case refine_2 =>
      rintro σ H2 ⟨x2, x3, x4, x5, x6, n', g', rfl, pen, hn, t2⟩
      exact q _
    rintro i σ H2 hi ⟨x2, x3, x4, x5, x6, n2, g2, rfl, pen2, hn2, t2⟩
    refine ⟨_, rfl, p, l, cs, n2, g2, rfl, pen2, by omega, fun crew c n3 g3 H3 hcr hn3 off3 pen3 hc3 hcp => ?_⟩
    obtain ⟨hne, hcl, hnd, hcf⟩ := crew_facts crew hcr
    refine ⟨_, rfl, _, rfl, p, l, c, cs, n3, g3, crew, rfl, pen3, by omega, hc3, hcp, hnd, hcl, fun d S n4 g4 H4 st4 hn4 off4 pen4 => ?_⟩
    have hc4 := off4 _ _ hcp hc3
    have t4 := tabs_off pen2.pen t2 (off3.trans off4)
    obtain ⟨kvs0, k1, ⟨k2, k3⟩, k4⟩ := id st4
    refine ⟨_, rfl, c, rfl, ⟨_, SqL.of hc4⟩, fun D hD => ?_⟩
    refine lc_it walk_list (fun j H' => Same H4 H' ∧ ∃ (ps : List Addr) (kvs : List (Key × V)), H' D = some (.lst (ps.map V.ref)) ∧ ps.length = j ∧ Paired (fun q kv => H' q = some (.tup [kV kv.1, kv.2])) ps kvs ∧ kvs.map (·.1) = (crew.take j).map Sum.inr ∧
      ∀ kv ∈ kvs, ∀ z, kv.1 = .inr z → ∃ l, kv.2 = .ref l ∧ H' l = some (.lst ((S z).map V.int))) ⟨same_upd0 hD, [], [], upd_same, rfl, .nil, rfl, fun _ h => nomatch h⟩ (fun _ _ _ y => SqL.of (y.1 _ _ hc4)) ?_ ?_
    · rintro j x H5 H6 hj ⟨s5, ps, kvs, hD5, hpl, hpd, hks, hkv⟩ ⟨rfl, hx⟩
      obtain ⟨z, hz, rfl⟩ : ∃ z, crew[j]? = some z ∧ x = .str z := by
        rw [List.getElem?_map] at hx
        cases e : crew[j]? with
        | none => rw [e] at hx; cases hx
        | some n => rw [e] at hx; exact ⟨n, rfl, (Option.some.inj hx).symm⟩
      obtain ⟨⟨aF, a1, a2⟩, a3⟩ := k4 z (List.mem_of_getElem? hz)
      have hj4 : j < 4 := by rw [List.length_map] at hj; omega
      refine ⟨rfl, _, rfl, _, rfl, _, rfl, d, _, rfl, .inl ⟨kvs0, .inr z, .inl (s5 _ _ k1), rfl, a1.symm⟩, 1, rfl, aF, _, rfl, SqL.of (s5 _ _ a2), fun l2 hl2 => ⟨by show 2 ≤ sizeLine; decide, fun tp htp => ?_⟩⟩
      rw [cutV_1, ← List.map_drop, show (0 :: S z).drop 1 = S z from rfl] at htp ⊢
      have s6 := same_upd0 (o := .lst ((S z).map V.int)) hl2
      have s7 := s6.trans (same_upd0 (o := .tup [.str z, .ref l2]) htp)
      have l2a := same_upd0 (o := .tup [.str z, .ref l2]) htp _ _ (show (upd H6 l2 (.lst ((S z).map V.int))) l2 = _ from upd_same)
      have l2b : (upd (upd H6 l2 (.lst ((S z).map V.int))) tp (.tup [.str z, .ref l2])) tp = some (.tup [.str z, .ref l2]) := upd_same
      have nl2 : l2 ≠ D := fun y => by rw [y, hD5] at hl2; cases hl2
      revert s7 l2a l2b
      generalize upd (upd H6 l2 (.lst ((S z).map V.int))) tp (.tup [.str z, .ref l2]) = H7
      intro s7 l2a l2b
      have hD7 := s7 _ _ hD5
      refine ⟨_, hD7, ?_, Same.over (s5.trans s7) hD, ps ++ [tp], kvs ++ [(.inr z, .ref l2)], ?_, ?_, ?_, ?_, ?_⟩
      · rw [List.length_map, hpl]
        have := sizeLine_eq
        omega
      · rw [upd_same, List.map_append]
        rfl
      · rw [List.length_append, hpl]
        rfl
      · refine (L2.Paired.mapP hpd fun q kv e => ?_).snoc ?_
        · have e7 := s7 _ _ e
          exact (upd_ne (ne_of e7 hD7 (fun y => nomatch y))).trans e7
        · exact (upd_ne (ne_of l2b hD7 (fun y => nomatch y))).trans l2b
      · rw [List.map_append, hks, List.take_add_one, hz, List.map_append]
        rfl
      · intro kv hkv2 y hy
        rcases List.mem_append.mp hkv2 with h | h
        · obtain ⟨l3, f1, f2⟩ := hkv kv h y hy
          have n3 : l3 ≠ D := fun w => by
            rw [w, hD5] at f2
            have f3 := Option.some.inj f2
            injection f3 with f4
            cases hps : ps with
            | nil =>
              rw [hps] at hpd
              cases hpd
              cases h
            | cons q qs =>
              rw [hps] at f4
              cases hS : S y with
              | nil => rw [hS] at f4; cases f4
              | cons u us => rw [hS] at f4; cases f4
          exact ⟨l3, f1, (upd_ne n3).trans (s7 _ _ f2)⟩
        · rw [List.mem_singleton.mp h] at hy ⊢
          cases hy
          exact ⟨l2, rfl, (upd_ne nl2).trans l2a⟩
    · rintro H5 ⟨s5, ps, kvs, hD5, hpl, hpd, hks, hkv⟩
      rw [List.length_map, List.take_length] at hks
      have hkn : (kvs.map (·.1)).Nodup := by
        rw [hks]
        exact List.Pairwise.map _ (fun _ _ h e => h (Sum.inr.inj e)) hnd
      refine ⟨D, ps, kvs, rfl, SqL.of hD5, L2.Paired.mapP hpd fun _ _ e => SqT.of e, fun b hb => ?_⟩
      rw [merge_new kvs [] (fun _ _ => rfl) hkn, List.nil_append]
      intro x dx hx hdx ne
      have s6 := same_upd0 (o := .dK kvs) hb
      have s7 : Same (upd H5 b (.dK kvs)) (upd (upd (upd H5 b (.dK kvs)) dx (.own x)) x (.ins C dx [])) := fun y o e => by
        rw [upd_ne (ne_of_none e hx), upd_ne (ne_of_none e hdx)]
        exact e
      refine ⟨x, dx, b, fun z => if z ∈ crew then some (S z) else none, rfl, upd_same, ?_, fun H8 off8 hL8 => ⟨rfl, ?_⟩⟩
      · refine ⟨kvs, crew, s7 _ _ upd_same, hks, by omega, fun z => ?_, fun z hz => ⟨(hcf z hz).1, Nat.le_trans (hcf z hz).2.1 (by decide)⟩, fun z ns0 hz => ?_⟩
        · by_cases h : z ∈ crew
          · simp [h]
          · simp [h]
        · by_cases h : z ∈ crew
          · have hz : (if z ∈ crew then some (S z) else none) = some ns0 := hz
            rw [if_pos h] at hz
            cases hz
            obtain ⟨v, e1, e2⟩ := valV_mem (k := .inr z) (kvs := kvs) (by rw [hks]; exact List.mem_map.mpr ⟨z, h, rfl⟩)
            obtain ⟨l3, f1, f2⟩ := hkv _ e2 z rfl
            have f1 : v = .ref l3 := f1
            rw [f1] at e1
            exact ⟨l3, e1, .inl (SqL.of (s7 _ _ (s6 _ _ f2))), (k4 z h).2.1, (k4 z h).2.2.1, (k4 z h).2.2.2⟩
          · have hz : (if z ∈ crew then some (S z) else none) = some ns0 := hz
            rw [if_neg h] at hz
            cases hz
      · have sAll : Same H4 H8 := fun y o e => off8 _ _ (ne_of_none (s6 _ _ (s5 _ _ e)) hx) (s7 _ _ (s6 _ _ (s5 _ _ e)))
        have pen8 := pen4.same sAll
        have hc8 := sAll _ _ hc4
        have st8 := st4.same sAll
        have t8 := t4.ext sAll
        generalize hF2 : (fun z => ((fun z => if z ∈ crew then some (S z) else none) z).map (fun x => (0 : Int) :: x)) = F2 at hL8
        have F2in : ∀ z ∈ crew, F2 z = some (0 :: S z) := fun z h => by rw [← hF2]; simp [h]
        have F2no : ∀ z, z ∉ crew → F2 z = none := fun z h => by rw [← hF2]; simp [h]
        have hO : FOk F2 := fun z ns0 e => by
          by_cases h : z ∈ crew
          · rw [F2in z h] at e
            cases e
            exact ⟨S z, rfl, (k4 z h).2.1, (k4 z h).2.2.1, (k4 z h).2.2.2⟩
          · rw [F2no z h] at e
            cases e
        clear s5 s6 s7 hks hkv hpd hD5
        refine ⟨_, rfl, c, rfl, ⟨_, SqL.of hc8⟩, ?_⟩
        refine for_it walk_list (fun j σ' H' => (∃ x5, σ' = [some (.ref a), some (.ref p), some (.int (0 + (i : Int))), some (.ref c), some (.ref d), x5, some (.ref x)]) ∧ ∃ (n' : Nat) (g' : Int), Pen H' p l cs n' g' ∧ n' ≤ n4 + 2 * j ∧ Off p H8 H') ⟨⟨_, rfl⟩, n4, g4, pen8, by omega, Off.refl⟩ (fun _ _ _ _ y => by obtain ⟨_, _, _, _, _, o⟩ := y; exact SqL.of (o _ _ hcp hc8)) ?_ ?_
        · rintro j y σ' H9 H10 hj ⟨⟨x5, rfl⟩, n5, g5, pen5, hn5, off5⟩ ⟨rfl, hy⟩
          obtain ⟨z, hz, rfl⟩ : ∃ z, crew[j]? = some z ∧ y = .str z := by
            rw [List.getElem?_map] at hy
            cases e : crew[j]? with
            | none => rw [e] at hy; cases hy
            | some n => rw [e] at hy; exact ⟨n, rfl, (Option.some.inj hy).symm⟩
          have hj4 : j < 4 := by rw [List.length_map] at hj; omega
          have hzm := List.mem_of_getElem? hz
          refine ⟨_, rfl, _, rfl, _, rfl, _, rfl, p, l, x, d, cs, n5, g5, z, crew, S, F2, rfl, pen5, by omega, hL8.off off5 pen8.pen, hO, st8.off pen8 off5, hzm, F2in z hzm, (hcf z hzm).2.1, (hcf z hzm).2.2.1, fun n6 g6 H11 hn6 off6 pen6 => ⟨_, rfl, iteF ?_⟩⟩
          exact ⟨⟨_, rfl⟩, n6, g6, pen6, by omega, off5.trans off6⟩
        · rintro σ' H9 ⟨⟨x5, rfl⟩, n5, g5, pen5, hn5, off5⟩
          rw [List.length_map] at hn5
          refine ⟨_, rfl, _, rfl, _, rfl, p, l, x, c, cs, n5, g5, crew, F2, rfl, pen5, by omega, hL8.off off5 pen8.pen, hO, off5 _ _ hcp hc8, hcp, hcr, fun z => ?_, tabs_off pen8.pen t8 off5, fun n6 g6 H10 hn6 pen6 t6 => ⟨_, rfl, iteF ⟨_, _, _, _, _, n6, g6, rfl, pen6, by omega, t6⟩⟩⟩
          by_cases h : z ∈ crew
          · rw [F2in z h]
            simp [h]
          · rw [F2no z h]
            simp [h]
end
end K09

namespace K09
open PySem PySem.Spec PyProof.Rows L2 So LamX
def strOf? : Value → Option Str
  | .str x _ => some x
  | _ => none
theorem vals_strs : ∀ {ss : List Str} {us : List Value}, us.map strOf? = ss.map some → Vals (ss.map V.str) us
  | [], [], _ => .nil
  | [], _ :: _, h => by simp at h
  | _ :: _, [], h => by simp at h
  | x :: ss, u :: us, h => by
    simp only [List.map_cons, List.cons.injEq] at h
    refine .cons ?_ (vals_strs h.2)
    cases u <;> simp [strOf?] at h
    rename_i y t
    exact ⟨t, by rw [h.1]⟩

section
variable {K : PySem.W.Frag}
theorem exm_own {D S : Addr} (h2 : PySem.W.isClsIn K S = true) (h3 : PySem.W.typeIn K (.ref S) = some (.type "type")) (h1 : PySem.W.subIn K (.ref S) (.type "BaseException") = some true) (h4 : PySem.W.subIn K (.ref D) (.ref S) = some true) (_ : PySem.W.subIn K (.ref S) (.ref S) = some true) : PySem.W.exmOne K (.ref D) (.ref S) = some true := by
  unfold PySem.W.exmOne PySem.W.kitCls
  unfold PySem.W.isClsIn at h2
  simp [h1, h2, h3, h4]
theorem tab_by {x : Str} {f c P : Addr} {o1 u1 : Value} {o2 u2 : Option Addr} {o3 u3 : Array (Option Value)} {fd : FuncData} {vs : Array Value} (a : PySem.W.nsIn K mainGlobals x = some (some (.ref f))) (l : K.lookup f = some ⟨o1, o2, .func fd, o3⟩) (hc : fd.code = .ref c)
    (lc : K.lookup c = some ⟨u1, u2, .fields vs, u3⟩) (hv : (vs[11]? : Option Value) = some (.ref P)) : PySem.W.tabIn K x = some (c, P) := by
  unfold PySem.W.tabIn
  rw [a]
  simp only [l, hc, lc, hv]
theorem kit_VE {D : Addr} (h : PySem.W.subIn K (.ref D) (.type "ValueError") = some true) : PySem.W.kitOne K (.ref D) (.type "ValueError") = some true := by
  unfold PySem.W.kitOne PySem.W.kitCls
  have e : PySem.W.kitMeta "ValueError" = true := by decide +kernel
  simp [h, e]
theorem kit_own {D C : Addr} {b : Bool} (hc : PySem.W.isClsIn K C = true) (ht : PySem.W.typeIn K (.ref C) = some (.type "type")) (hs : PySem.W.subIn K (.ref D) (.ref C) = some b) (self : PySem.W.subIn K (.ref C) (.ref C) = some true) : PySem.W.kitOne K (.ref D) (.ref C) = some b := by
  by_cases e : D = C
  · subst e
    rw [self] at hs
    rw [kit_self, hs]
  · unfold PySem.W.kitOne PySem.W.kitCls
    unfold PySem.W.isClsIn at hc
    simp [hc, ht, hs, e]
theorem kb_one {fd : FuncData} {x : Str} (h : ∀ (s : Shared) (u w : Value), BindsTo s fd ⟨[u], [(x, w)]⟩ [("self", u), (x, w)]) : KBinds K fd ["self", x] [x] kOne kOne := by
  refine ⟨fun s us ws _ hl => ?_, fun {vs us zs ws} r rz => ?_⟩
  · match us, ws, hl with
    | [u], [w], _ => exact h s u w
    | [], _, hl => cases hl
    | [_], [], hl => cases hl
    | [_], _ :: _ :: _, hl => cases hl
    | _ :: _ :: _, _, hl => cases hl
  · cases r with
    | nil => exact .nil
    | cons r1 r =>
      cases r with
      | cons _ _ => exact .nil
      | nil =>
        cases rz with
        | nil => exact .nil
        | cons r2 rz =>
          cases rz with
          | nil => exact .cons r1 (.cons r2 .nil)
          | cons _ _ => exact .nil
theorem kb_swap {fd : FuncData} (h : ∀ (s : Shared) (u m t : Value), BindsTo s fd ⟨[u], [("moment", m), ("tool", t)]⟩ [("self", u), ("tool", t), ("moment", m)]) : KBinds K fd ["self", "tool", "moment"] ["moment", "tool"] kSwap kSwap := by
  refine ⟨fun s us ws _ hl => ?_, fun {vs us zs ws} r rz => ?_⟩
  · match us, ws, hl with
    | [u], [m, t], _ => exact h s u m t
    | [], _, hl => cases hl
    | [_], [], hl => cases hl
    | [_], [_], hl => cases hl
    | [_], _ :: _ :: _ :: _, hl => cases hl
    | _ :: _ :: _, _, hl => cases hl
  · cases r with
    | nil => exact .nil
    | cons r1 r =>
      cases r with
      | cons _ _ => exact .nil
      | nil =>
        cases rz with
        | nil => exact .nil
        | cons r2 rz =>
          cases rz with
          | nil => exact .nil
          | cons r3 rz =>
            cases rz with
            | nil => exact .cons r1 (.cons r3 (.cons r2 .nil))
            | cons _ _ => exact .nil
end
theorem all_mk {l : PySem.W.OpenLaw} {w : World} {K : PySem.W.Frag} {h : Heap} {mg : Str → Option Value} {fa C CT CN CM CS CO CL aNo c0 P0 fpen fdraw fpick fcrew foddt fstarts fheard flasts fticks ftoolr frefr flaw fwhole fmoment fname fcheck fwith finit fbeg flife flast fcont feN feM feS feO feL : Addr} (X : K.In h) (G : h.Ns mainGlobals mg) (hfa : mg "law" = some (.ref fa))
    {odpen anpen oddraw andraw odpick anpick odcrew ancrew ododdt anoddt odstarts anstarts odheard anheard odlasts anlasts odticks anticks odtoolr antoolr odrefr anrefr odlaw anlaw odwhole anwhole odmoment anmoment odname anname odcheck ancheck odwith anwith odinit aninit odbeg anbeg odlife anlife odlast anlast odcont ancont odN odeN aneN odeM aneM odeS aneS odeO aneO odeL aneL odcode : Option Addr} {slpen sldraw slpick slcrew sloddt slstarts slheard sllasts slticks sltoolr slrefr sllaw slwhole slmoment slname slcheck slwith slinit slbeg sllife sllast slcont slN sleN sleM sleS sleO sleL slcode : Array (Option Value)} {ocpen kVpen dcpen pmpen ctpen cdpen ocdraw kVdraw dcdraw pmdraw ctdraw cddraw ocpick kVpick dcpick pmpick ctpick cdpick occrew kVcrew dccrew pmcrew ctcrew cdcrew ocoddt kVoddt dcoddt pmoddt ctoddt cdoddt ocstarts kVstarts dcstarts pmstarts ctstarts cdstarts ocheard kVheard dcheard pmheard ctheard cdheard oclasts kVlasts dclasts pmlasts ctlasts cdlasts octicks kVticks dcticks pmticks ctticks cdticks octoolr kVtoolr dctoolr pmtoolr cttoolr cdtoolr ocrefr kVrefr dcrefr pmrefr ctrefr oclaw kVlaw dclaw pmlaw ctlaw cdlaw ocwhole kVwhole dcwhole pmwhole ctwhole cdwhole ocmoment kVmoment dcmoment pmmoment ctmoment cdmoment ocname kVname dcname pmname ctname cdname occheck kVcheck dccheck pmcheck ctcheck cdcheck ocwith kVwith dcwith pmwith ctwith cdwith ocinit kVinit dcinit pminit ctinit cdinit ocbeg kVbeg dcbeg pmbeg ctbeg cdbeg oclife kVlife dclife pmlife ctlife cdlife oclast kVlast dclast pmlast ctlast cdlast occont kVcont dccont pmcont ctcont cdcont oceN kVeN dceN pmeN cteN cdeN oceM kVeM dceM pmeM cteM cdeM oceS kVeS dceS pmeS cteS cdeS oceO kVeO dceO pmeO cteO cdeO oceL kVeL dceL pmeL cteL cdeL occode : Value} {tG tL tA tD : Tok} {itsN vscode : Array Value} {nN : Nat} {nmN qN : Str} {NN : Addr} {bsN subN : List Value} {snN : List Str} {abN : Bool} {colN : Option Bool} {ddN : Option Addr} {m0N m1N m2N m3N m5N : Option Value} {nmM qM : Str} {NM : Addr} {bsM subM : List Value} {snM : List Str} {abM : Bool} {colM : Option Bool} {ddM : Option Addr} {m0M m1M m2M m3M m5M : Option Value} {nmS qS : Str} {NS : Addr} {bsS subS : List Value} {snS : List Str} {abS : Bool} {colS : Option Bool} {ddS : Option Addr} {m0S m1S m2S m3S m5S : Option Value} {nmO qO : Str} {NO : Addr} {bsO subO : List Value} {snO : List Str} {abO : Bool} {colO : Option Bool} {ddO : Option Addr} {m0O m1O m2O m3O m5O : Option Value} {nmL qL : Str} {NL : Addr} {bsL subL : List Value} {snL : List Str} {abL : Bool} {colL : Option Bool} {ddL : Option Addr} {m0L m1L m2L m3L m5L : Option Value}
    (aC : PySem.W.nsIn K mainGlobals "Lives" = some (some (.ref C)))
    (apen : PySem.W.nsIn K mainGlobals "_law_pen" = some (some (.ref fpen)))
    (lpen : K.lookup fpen = some ⟨ocpen, odpen, .func (PySem.W.fnOf "_law_pen" "_law_pen" (defArgs sPen) (defBody sPen) (defScope sPen) .none kVpen dcpen pmpen anpen cdpen ctpen), slpen⟩)
    (cpen : PySem.W.codeIn K cdpen "_law_pen" = true)
    (kpen : PySem.W.keepIn K (.ref fpen) = true)
    (adraw : PySem.W.nsIn K mainGlobals "_law_draw" = some (some (.ref fdraw)))
    (ldraw : K.lookup fdraw = some ⟨ocdraw, oddraw, .func (PySem.W.fnOf "_law_draw" "_law_draw" (defArgs sDraw) (defBody sDraw) (defScope sDraw) .none kVdraw dcdraw pmdraw andraw cddraw ctdraw), sldraw⟩)
    (cdraw : PySem.W.codeIn K cddraw "_law_draw" = true)
    (kdraw : PySem.W.keepIn K (.ref fdraw) = true)
    (apick : PySem.W.nsIn K mainGlobals "_law_pick" = some (some (.ref fpick)))
    (lpick : K.lookup fpick = some ⟨ocpick, odpick, .func (PySem.W.fnOf "_law_pick" "_law_pick" (defArgs sPick) (defBody sPick) (defScope sPick) .none kVpick dcpick pmpick anpick cdpick ctpick), slpick⟩)
    (cpick : PySem.W.codeIn K cdpick "_law_pick" = true)
    (kpick : PySem.W.keepIn K (.ref fpick) = true)
    (acrew : PySem.W.nsIn K mainGlobals "_law_crew" = some (some (.ref fcrew)))
    (lcrew : K.lookup fcrew = some ⟨occrew, odcrew, .func (PySem.W.fnOf "_law_crew" "_law_crew" (defArgs sCrew) (defBody sCrew) (defScope sCrew) .none kVcrew dccrew pmcrew ancrew cdcrew ctcrew), slcrew⟩)
    (ccrew : PySem.W.codeIn K cdcrew "_law_crew" = true)
    (kcrew : PySem.W.keepIn K (.ref fcrew) = true)
    (aoddt : PySem.W.nsIn K mainGlobals "_law_odd_tick" = some (some (.ref foddt)))
    (loddt : K.lookup foddt = some ⟨ocoddt, ododdt, .func (PySem.W.fnOf "_law_odd_tick" "_law_odd_tick" (defArgs sOddT) (defBody sOddT) (defScope sOddT) .none kVoddt dcoddt pmoddt anoddt cdoddt ctoddt), sloddt⟩)
    (coddt : PySem.W.codeIn K cdoddt "_law_odd_tick" = true)
    (koddt : PySem.W.keepIn K (.ref foddt) = true)
    (astarts : PySem.W.nsIn K mainGlobals "_law_starts" = some (some (.ref fstarts)))
    (lstarts : K.lookup fstarts = some ⟨ocstarts, odstarts, .func (PySem.W.fnOf "_law_starts" "_law_starts" (defArgs sStarts) (defBody sStarts) (defScope sStarts) .none kVstarts dcstarts pmstarts anstarts cdstarts ctstarts), slstarts⟩)
    (cstarts : PySem.W.codeIn K cdstarts "_law_starts" = true)
    (kstarts : PySem.W.keepIn K (.ref fstarts) = true)
    (aheard : PySem.W.nsIn K mainGlobals "_law_heard" = some (some (.ref fheard)))
    (lheard : K.lookup fheard = some ⟨ocheard, odheard, .func (PySem.W.fnOf "_law_heard" "_law_heard" (defArgs sHeard) (defBody sHeard) (defScope sHeard) .none kVheard dcheard pmheard anheard cdheard ctheard), slheard⟩)
    (cheard : PySem.W.codeIn K cdheard "_law_heard" = true)
    (kheard : PySem.W.keepIn K (.ref fheard) = true)
    (alasts : PySem.W.nsIn K mainGlobals "_law_lasts" = some (some (.ref flasts)))
    (llasts : K.lookup flasts = some ⟨oclasts, odlasts, .func (PySem.W.fnOf "_law_lasts" "_law_lasts" (defArgs sLasts) (defBody sLasts) (defScope sLasts) .none kVlasts dclasts pmlasts anlasts cdlasts ctlasts), sllasts⟩)
    (clasts : PySem.W.codeIn K cdlasts "_law_lasts" = true)
    (klasts : PySem.W.keepIn K (.ref flasts) = true)
    (aticks : PySem.W.nsIn K mainGlobals "_law_ticks" = some (some (.ref fticks)))
    (lticks : K.lookup fticks = some ⟨octicks, odticks, .func (PySem.W.fnOf "_law_ticks" "_law_ticks" (defArgs sTicks) (defBody sTicks) (defScope sTicks) .none kVticks dcticks pmticks anticks cdticks ctticks), slticks⟩)
    (cticks : PySem.W.codeIn K cdticks "_law_ticks" = true)
    (kticks : PySem.W.keepIn K (.ref fticks) = true)
    (atoolr : PySem.W.nsIn K mainGlobals "_law_tool_right" = some (some (.ref ftoolr)))
    (ltoolr : K.lookup ftoolr = some ⟨octoolr, odtoolr, .func (PySem.W.fnOf "_law_tool_right" "_law_tool_right" (defArgs sToolR) (defBody sToolR) (defScope sToolR) .none kVtoolr dctoolr pmtoolr antoolr cdtoolr cttoolr), sltoolr⟩)
    (ctoolr : PySem.W.codeIn K cdtoolr "_law_tool_right" = true)
    (ktoolr : PySem.W.keepIn K (.ref ftoolr) = true)
    (arefr : PySem.W.nsIn K mainGlobals "_law_refused_right" = some (some (.ref frefr)))
    (lrefr : K.lookup frefr = some ⟨ocrefr, odrefr, .func (PySem.W.fnOf "_law_refused_right" "_law_refused_right" (defArgs sRef) (defBody sRef) (defScope sRef) .none kVrefr dcrefr pmrefr anrefr (.ref c0) ctrefr), slrefr⟩)
    (crefr : PySem.W.codeIn K (.ref c0) "_law_refused_right" = true)
    (krefr : PySem.W.keepIn K (.ref frefr) = true)
    (alaw : PySem.W.nsIn K mainGlobals "law" = some (some (.ref flaw)))
    (llaw : K.lookup flaw = some ⟨oclaw, odlaw, .func (PySem.W.fnOf "law" "law" (defArgs sLaw) (defBody sLaw) (defScope sLaw) .none kVlaw dclaw pmlaw anlaw cdlaw ctlaw), sllaw⟩)
    (claw : PySem.W.codeIn K cdlaw "law" = true)
    (klaw : PySem.W.keepIn K (.ref flaw) = true)
    (awhole : PySem.W.nsIn K mainGlobals "is_whole" = some (some (.ref fwhole)))
    (lwhole : K.lookup fwhole = some ⟨ocwhole, odwhole, .func (PySem.W.fnOf "is_whole" "is_whole" (defArgs sWhole) (defBody sWhole) (defScope sWhole) .none kVwhole dcwhole pmwhole anwhole cdwhole ctwhole), slwhole⟩)
    (cwhole : PySem.W.codeIn K cdwhole "is_whole" = true)
    (kwhole : PySem.W.keepIn K (.ref fwhole) = true)
    (amoment : PySem.W.nsIn K mainGlobals "is_moment" = some (some (.ref fmoment)))
    (lmoment : K.lookup fmoment = some ⟨ocmoment, odmoment, .func (PySem.W.fnOf "is_moment" "is_moment" (defArgs sMoment) (defBody sMoment) (defScope sMoment) .none kVmoment dcmoment pmmoment anmoment cdmoment ctmoment), slmoment⟩)
    (cmoment : PySem.W.codeIn K cdmoment "is_moment" = true)
    (kmoment : PySem.W.keepIn K (.ref fmoment) = true)
    (aname : PySem.W.nsIn K mainGlobals "is_name" = some (some (.ref fname)))
    (lname : K.lookup fname = some ⟨ocname, odname, .func (PySem.W.fnOf "is_name" "is_name" (defArgs sName) (defBody sName) (defScope sName) .none kVname dcname pmname anname cdname ctname), slname⟩)
    (cname : PySem.W.codeIn K cdname "is_name" = true)
    (kname : PySem.W.keepIn K (.ref fname) = true)
    (acheck : PySem.W.nsIn K mainGlobals "check_form" = some (some (.ref fcheck)))
    (lcheck : K.lookup fcheck = some ⟨occheck, odcheck, .func (PySem.W.fnOf "check_form" "check_form" (defArgs sCheck) (defBody sCheck) (defScope sCheck) .none kVcheck dccheck pmcheck ancheck cdcheck ctcheck), slcheck⟩)
    (ccheck : PySem.W.codeIn K cdcheck "check_form" = true)
    (kcheck : PySem.W.keepIn K (.ref fcheck) = true)
    (awith : PySem.W.nsIn K mainGlobals "with_first" = some (some (.ref fwith)))
    (lwith : K.lookup fwith = some ⟨ocwith, odwith, .func (PySem.W.fnOf "with_first" "with_first" (defArgs sWith) (defBody sWith) (defScope sWith) .none kVwith dcwith pmwith anwith cdwith ctwith), slwith⟩)
    (cwith : PySem.W.codeIn K cdwith "with_first" = true)
    (kwith : PySem.W.keepIn K (.ref fwith) = true)
    (ainit : PySem.W.findIn K (.ref C) "__init__" = some (some (.ref finit)))
    (iinit : PySem.W.isFn K (.ref finit) = true)
    (linit : K.lookup finit = some ⟨ocinit, odinit, .func (PySem.W.fnOf "__init__" "Lives.__init__" (defArgs sLInit) (defBody sLInit) (defScope sLInit) .none kVinit dcinit pminit aninit cdinit ctinit), slinit⟩)
    (cinit : PySem.W.codeIn K cdinit "Lives.__init__" = true)
    (kinit : PySem.W.keepIn K (.ref finit) = true)
    (abeg : PySem.W.findIn K (.ref C) "beginnings" = some (some (.ref fbeg)))
    (ibeg : PySem.W.isFn K (.ref fbeg) = true)
    (lbeg : K.lookup fbeg = some ⟨ocbeg, odbeg, .func (PySem.W.fnOf "beginnings" "Lives.beginnings" (defArgs sBeg) (defBody sBeg) (defScope sBeg) .none kVbeg dcbeg pmbeg anbeg cdbeg ctbeg), slbeg⟩)
    (cbeg : PySem.W.codeIn K cdbeg "Lives.beginnings" = true)
    (kbeg : PySem.W.keepIn K (.ref fbeg) = true)
    (alife : PySem.W.findIn K (.ref C) "life_of" = some (some (.ref flife)))
    (ilife : PySem.W.isFn K (.ref flife) = true)
    (llife : K.lookup flife = some ⟨oclife, odlife, .func (PySem.W.fnOf "life_of" "Lives.life_of" (defArgs sLife) (defBody sLife) (defScope sLife) .none kVlife dclife pmlife anlife cdlife ctlife), sllife⟩)
    (clife : PySem.W.codeIn K cdlife "Lives.life_of" = true)
    (klife : PySem.W.keepIn K (.ref flife) = true)
    (alast : PySem.W.findIn K (.ref C) "last_of" = some (some (.ref flast)))
    (ilast : PySem.W.isFn K (.ref flast) = true)
    (llast : K.lookup flast = some ⟨oclast, odlast, .func (PySem.W.fnOf "last_of" "Lives.last_of" (defArgs sLast) (defBody sLast) (defScope sLast) .none kVlast dclast pmlast anlast cdlast ctlast), sllast⟩)
    (clast : PySem.W.codeIn K cdlast "Lives.last_of" = true)
    (klast : PySem.W.keepIn K (.ref flast) = true)
    (acont : PySem.W.findIn K (.ref C) "__contains__" = some (some (.ref fcont)))
    (icont : PySem.W.isFn K (.ref fcont) = true)
    (lcont : K.lookup fcont = some ⟨occont, odcont, .func (PySem.W.fnOf "__contains__" "Lives.__contains__" (defArgs sCont) (defBody sCont) (defScope sCont) .none kVcont dccont pmcont ancont cdcont ctcont), slcont⟩)
    (ccont : PySem.W.codeIn K cdcont "Lives.__contains__" = true)
    (kcont : PySem.W.keepIn K (.ref fcont) = true)
    (pg : PySem.W.plainGet K C Str.empty = true)
    (hd : PySem.W.hasDictIn K C = true)
    (po : PySem.W.plainOver K C = true)
    (sa : PySem.W.findIn K (.ref C) "__setattr__" = some (some (.builtin "object.__setattr__")))
    (mk : PySem.W.makesIn K C = true)
    (kc : PySem.W.keepIn K (.ref C) = true)
    (n_begun : PySem.W.findIn K (.ref C) "_begun" = some none)
    (thn : PySem.W.specialIn K (.builtin "object.__class__") "__get__" = some (some (.builtin "getset_descriptor.__get__")))
    (tht : PySem.W.takesIn K (.builtin "object.__class__") = some true)
    (hcls : PySem.W.isClsIn K C = true)
    (htyp : PySem.W.typeIn K (.ref C) = some (.type "type"))
    (gG : PySem.W.nsIn K mainGlobals "GREATEST" = some (some (.int 1000000000000000000000000000000 tG)))
    (gL : PySem.W.nsIn K mainGlobals "LONGEST_NAME" = some (some (.int 8 tL)))
    (gA : PySem.W.nsIn K mainGlobals "LETTERS" = some (some (.str letters tA)))
    (gD : PySem.W.nsIn K mainGlobals "DIGITS" = some (some (.str digits tD)))
    (gN : PySem.W.nsIn K mainGlobals "NO_NAMES" = some (some (.ref aNo)))
    (lN : K.lookup aNo = some ⟨.type "tuple", odN, .seq itsN nN, slN⟩)
    (vN : itsN.toList.map strOf? = noNames.map some)
    (b_isinstance : PySem.W.nsIn K mainGlobals "isinstance" = some none)
    (b_int : PySem.W.nsIn K mainGlobals "int" = some none)
    (b_bool : PySem.W.nsIn K mainGlobals "bool" = some none)
    (b_str : PySem.W.nsIn K mainGlobals "str" = some none)
    (b_len : PySem.W.nsIn K mainGlobals "len" = some none)
    (b_all : PySem.W.nsIn K mainGlobals "all" = some none)
    (b_range : PySem.W.nsIn K mainGlobals "range" = some none)
    (b_repr : PySem.W.nsIn K mainGlobals "repr" = some none)
    (b_list : PySem.W.nsIn K mainGlobals "list" = some none)
    (b_abs : PySem.W.nsIn K mainGlobals "abs" = some none)
    (b_ValueError : PySem.W.nsIn K mainGlobals "ValueError" = some none)
    (b_sorted : PySem.W.nsIn K mainGlobals "sorted" = some none)
    (b_set : PySem.W.nsIn K mainGlobals "set" = some none)
    (b_max : PySem.W.nsIn K mainGlobals "max" = some none)
    (b_min : PySem.W.nsIn K mainGlobals "min" = some none)
    (b_tuple : PySem.W.nsIn K mainGlobals "tuple" = some none)
    (b_dict : PySem.W.nsIn K mainGlobals "dict" = some none)
    (aT : PySem.W.nsIn K mainGlobals "TillError" = some (some (.ref CT)))
    (iT : PySem.W.isClsIn K CT = true)
    (tT : PySem.W.typeIn K (.ref CT) = some (.type "type"))
    (eT : PySem.W.subIn K (.ref CT) (.type "BaseException") = some true)
    (sT : PySem.W.subIn K (.ref CT) (.ref CT) = some true)
    (aN : PySem.W.nsIn K mainGlobals "BadName" = some (some (.ref CN)))
    (aM : PySem.W.nsIn K mainGlobals "BadMoment" = some (some (.ref CM)))
    (aS : PySem.W.nsIn K mainGlobals "BadSaying" = some (some (.ref CS)))
    (aO : PySem.W.nsIn K mainGlobals "NoTool" = some (some (.ref CO)))
    (aL : PySem.W.nsIn K mainGlobals "NoLife" = some (some (.ref CL)))
    (xN : K.lookup CN = some (excClassObj nmN qN CN NN bsN [.ref CT, .type "ValueError", .type "Exception", .type "BaseException", .type "object"] true snN subN abN colN ddN m0N m1N m2N m3N m5N "ValueError.__new__"))
    (seN : PySem.W.findIn K (.ref CN) "__setattr__" = some (some (.builtin "object.__setattr__")))
    (geN : PySem.W.findIn K (.ref CN) "__getattribute__" = some (some (.builtin "BaseException.__getattribute__")))
    (heN : PySem.W.findIn K (.ref CN) "__getattr__" = some none)
    (neN : PySem.W.findIn K (.ref CN) "name" = some none)
    (aeN : PySem.W.findIn K (.ref CN) "__init__" = some (some (.ref feN)))
    (teN : PySem.W.typeIn K (.ref feN) = some (.type "function"))
    (leN : K.lookup feN = some ⟨oceN, odeN, .func (PySem.W.fnOf "__init__" "BadName.__init__" (defArgs sEN) (defBody sEN) (defScope sEN) .none kVeN dceN pmeN aneN cdeN cteN), sleN⟩)
    (ceN : PySem.W.codeIn K cdeN "BadName.__init__" = true)
    (keN : PySem.W.keepIn K (.ref feN) = true)
    (kkeN : PySem.W.keepIn K (.ref CN) = true)
    (exeN : PySem.W.subIn K (.ref CN) (.type "BaseException") = some true)
    (tyeN : PySem.W.typeIn K (.ref CN) = some (.type "type"))
    (hdeN : PySem.W.hasDictIn K CN = true)
    (iceN : PySem.W.isClsIn K CN = true)
    (veeN : PySem.W.subIn K (.ref CN) (.type "ValueError") = some true)
    (uteN : PySem.W.subIn K (.ref CN) (.ref CT) = some true)
    (caeN : PySem.W.findIn K (.ref CN) "__class__" = some (some (.builtin "object.__class__")))
    (cmeN : PySem.W.mroIn K CN (.type "object") = some true)
    (uNN : PySem.W.subIn K (.ref CN) (.ref CN) = some true)
    (uNM : PySem.W.subIn K (.ref CN) (.ref CM) = some false)
    (uNS : PySem.W.subIn K (.ref CN) (.ref CS) = some false)
    (uNO : PySem.W.subIn K (.ref CN) (.ref CO) = some false)
    (uNL : PySem.W.subIn K (.ref CN) (.ref CL) = some false)
    (xM : K.lookup CM = some (excClassObj nmM qM CM NM bsM [.ref CT, .type "ValueError", .type "Exception", .type "BaseException", .type "object"] true snM subM abM colM ddM m0M m1M m2M m3M m5M "ValueError.__new__"))
    (seM : PySem.W.findIn K (.ref CM) "__setattr__" = some (some (.builtin "object.__setattr__")))
    (geM : PySem.W.findIn K (.ref CM) "__getattribute__" = some (some (.builtin "BaseException.__getattribute__")))
    (heM : PySem.W.findIn K (.ref CM) "__getattr__" = some none)
    (neM : PySem.W.findIn K (.ref CM) "moment" = some none)
    (aeM : PySem.W.findIn K (.ref CM) "__init__" = some (some (.ref feM)))
    (teM : PySem.W.typeIn K (.ref feM) = some (.type "function"))
    (leM : K.lookup feM = some ⟨oceM, odeM, .func (PySem.W.fnOf "__init__" "BadMoment.__init__" (defArgs sEM) (defBody sEM) (defScope sEM) .none kVeM dceM pmeM aneM cdeM cteM), sleM⟩)
    (ceM : PySem.W.codeIn K cdeM "BadMoment.__init__" = true)
    (keM : PySem.W.keepIn K (.ref feM) = true)
    (kkeM : PySem.W.keepIn K (.ref CM) = true)
    (exeM : PySem.W.subIn K (.ref CM) (.type "BaseException") = some true)
    (tyeM : PySem.W.typeIn K (.ref CM) = some (.type "type"))
    (hdeM : PySem.W.hasDictIn K CM = true)
    (iceM : PySem.W.isClsIn K CM = true)
    (veeM : PySem.W.subIn K (.ref CM) (.type "ValueError") = some true)
    (uteM : PySem.W.subIn K (.ref CM) (.ref CT) = some true)
    (caeM : PySem.W.findIn K (.ref CM) "__class__" = some (some (.builtin "object.__class__")))
    (cmeM : PySem.W.mroIn K CM (.type "object") = some true)
    (uMN : PySem.W.subIn K (.ref CM) (.ref CN) = some false)
    (uMM : PySem.W.subIn K (.ref CM) (.ref CM) = some true)
    (uMS : PySem.W.subIn K (.ref CM) (.ref CS) = some false)
    (uMO : PySem.W.subIn K (.ref CM) (.ref CO) = some false)
    (uML : PySem.W.subIn K (.ref CM) (.ref CL) = some false)
    (xS : K.lookup CS = some (excClassObj nmS qS CS NS bsS [.ref CT, .type "ValueError", .type "Exception", .type "BaseException", .type "object"] true snS subS abS colS ddS m0S m1S m2S m3S m5S "ValueError.__new__"))
    (seS : PySem.W.findIn K (.ref CS) "__setattr__" = some (some (.builtin "object.__setattr__")))
    (geS : PySem.W.findIn K (.ref CS) "__getattribute__" = some (some (.builtin "BaseException.__getattribute__")))
    (heS : PySem.W.findIn K (.ref CS) "__getattr__" = some none)
    (neS : PySem.W.findIn K (.ref CS) "value" = some none)
    (aeS : PySem.W.findIn K (.ref CS) "__init__" = some (some (.ref feS)))
    (teS : PySem.W.typeIn K (.ref feS) = some (.type "function"))
    (leS : K.lookup feS = some ⟨oceS, odeS, .func (PySem.W.fnOf "__init__" "BadSaying.__init__" (defArgs sES) (defBody sES) (defScope sES) .none kVeS dceS pmeS aneS cdeS cteS), sleS⟩)
    (ceS : PySem.W.codeIn K cdeS "BadSaying.__init__" = true)
    (keS : PySem.W.keepIn K (.ref feS) = true)
    (kkeS : PySem.W.keepIn K (.ref CS) = true)
    (exeS : PySem.W.subIn K (.ref CS) (.type "BaseException") = some true)
    (tyeS : PySem.W.typeIn K (.ref CS) = some (.type "type"))
    (hdeS : PySem.W.hasDictIn K CS = true)
    (iceS : PySem.W.isClsIn K CS = true)
    (veeS : PySem.W.subIn K (.ref CS) (.type "ValueError") = some true)
    (uteS : PySem.W.subIn K (.ref CS) (.ref CT) = some true)
    (caeS : PySem.W.findIn K (.ref CS) "__class__" = some (some (.builtin "object.__class__")))
    (cmeS : PySem.W.mroIn K CS (.type "object") = some true)
    (uSN : PySem.W.subIn K (.ref CS) (.ref CN) = some false)
    (uSM : PySem.W.subIn K (.ref CS) (.ref CM) = some false)
    (uSS : PySem.W.subIn K (.ref CS) (.ref CS) = some true)
    (uSO : PySem.W.subIn K (.ref CS) (.ref CO) = some false)
    (uSL : PySem.W.subIn K (.ref CS) (.ref CL) = some false)
    (xO : K.lookup CO = some (excClassObj nmO qO CO NO bsO [.ref CT, .type "ValueError", .type "Exception", .type "BaseException", .type "object"] true snO subO abO colO ddO m0O m1O m2O m3O m5O "ValueError.__new__"))
    (seO : PySem.W.findIn K (.ref CO) "__setattr__" = some (some (.builtin "object.__setattr__")))
    (geO : PySem.W.findIn K (.ref CO) "__getattribute__" = some (some (.builtin "BaseException.__getattribute__")))
    (heO : PySem.W.findIn K (.ref CO) "__getattr__" = some none)
    (neO : PySem.W.findIn K (.ref CO) "tool" = some none)
    (aeO : PySem.W.findIn K (.ref CO) "__init__" = some (some (.ref feO)))
    (teO : PySem.W.typeIn K (.ref feO) = some (.type "function"))
    (leO : K.lookup feO = some ⟨oceO, odeO, .func (PySem.W.fnOf "__init__" "NoTool.__init__" (defArgs sET) (defBody sET) (defScope sET) .none kVeO dceO pmeO aneO cdeO cteO), sleO⟩)
    (ceO : PySem.W.codeIn K cdeO "NoTool.__init__" = true)
    (keO : PySem.W.keepIn K (.ref feO) = true)
    (kkeO : PySem.W.keepIn K (.ref CO) = true)
    (exeO : PySem.W.subIn K (.ref CO) (.type "BaseException") = some true)
    (tyeO : PySem.W.typeIn K (.ref CO) = some (.type "type"))
    (hdeO : PySem.W.hasDictIn K CO = true)
    (iceO : PySem.W.isClsIn K CO = true)
    (veeO : PySem.W.subIn K (.ref CO) (.type "ValueError") = some true)
    (uteO : PySem.W.subIn K (.ref CO) (.ref CT) = some true)
    (caeO : PySem.W.findIn K (.ref CO) "__class__" = some (some (.builtin "object.__class__")))
    (cmeO : PySem.W.mroIn K CO (.type "object") = some true)
    (uON : PySem.W.subIn K (.ref CO) (.ref CN) = some false)
    (uOM : PySem.W.subIn K (.ref CO) (.ref CM) = some false)
    (uOS : PySem.W.subIn K (.ref CO) (.ref CS) = some false)
    (uOO : PySem.W.subIn K (.ref CO) (.ref CO) = some true)
    (uOL : PySem.W.subIn K (.ref CO) (.ref CL) = some false)
    (xL : K.lookup CL = some (excClassObj nmL qL CL NL bsL [.ref CT, .type "ValueError", .type "Exception", .type "BaseException", .type "object"] true snL subL abL colL ddL m0L m1L m2L m3L m5L "ValueError.__new__"))
    (seL : PySem.W.findIn K (.ref CL) "__setattr__" = some (some (.builtin "object.__setattr__")))
    (geL : PySem.W.findIn K (.ref CL) "__getattribute__" = some (some (.builtin "BaseException.__getattribute__")))
    (heL : PySem.W.findIn K (.ref CL) "__getattr__" = some none)
    (neL : PySem.W.findIn K (.ref CL) "value" = some none)
    (aeL : PySem.W.findIn K (.ref CL) "__init__" = some (some (.ref feL)))
    (teL : PySem.W.typeIn K (.ref feL) = some (.type "function"))
    (leL : K.lookup feL = some ⟨oceL, odeL, .func (PySem.W.fnOf "__init__" "NoLife.__init__" (defArgs sEL) (defBody sEL) (defScope sEL) .none kVeL dceL pmeL aneL cdeL cteL), sleL⟩)
    (ceL : PySem.W.codeIn K cdeL "NoLife.__init__" = true)
    (keL : PySem.W.keepIn K (.ref feL) = true)
    (kkeL : PySem.W.keepIn K (.ref CL) = true)
    (exeL : PySem.W.subIn K (.ref CL) (.type "BaseException") = some true)
    (tyeL : PySem.W.typeIn K (.ref CL) = some (.type "type"))
    (hdeL : PySem.W.hasDictIn K CL = true)
    (iceL : PySem.W.isClsIn K CL = true)
    (veeL : PySem.W.subIn K (.ref CL) (.type "ValueError") = some true)
    (uteL : PySem.W.subIn K (.ref CL) (.ref CT) = some true)
    (caeL : PySem.W.findIn K (.ref CL) "__class__" = some (some (.builtin "object.__class__")))
    (cmeL : PySem.W.mroIn K CL (.type "object") = some true)
    (uLN : PySem.W.subIn K (.ref CL) (.ref CN) = some false)
    (uLM : PySem.W.subIn K (.ref CL) (.ref CM) = some false)
    (uLS : PySem.W.subIn K (.ref CL) (.ref CS) = some false)
    (uLO : PySem.W.subIn K (.ref CL) (.ref CO) = some false)
    (uLL : PySem.W.subIn K (.ref CL) (.ref CL) = some true)
    (lcode : K.lookup c0 = some ⟨occode, odcode, .fields vscode, slcode⟩)
    (vcode : (vscode[11]? : Option Value) = some (.ref P0))
    (nT : K.lookup P0 = none)
    : ∃ (fd : FuncData) (c0 P0 : Addr), PySem.W.tabIn K "_law_refused_right" = some (c0, P0) ∧ K.lookup P0 = none ∧ (∀ (s : Shared) (v : Value), BindsTo s fd ⟨[v], []⟩ [("_law_script", v)]) ∧
      ∀ base : Heap, K.In base → base.Ns mainGlobals mg → TabB base mg c0 P0 → FnG l.prog w K mg base CX0 8 fa fd ["_law_script"] (spLaw K P0) := by
  have e := hfa.symm.trans (PySem.W.mg_of X G alaw)
  cases e
  have g1 := fun {n : Str} {v : Value} (e : PySem.W.nsIn K mainGlobals n = some (some v)) => PySem.W.mg_of X G e
  have g0 := fun {n : Str} (e : PySem.W.nsIn K mainGlobals n = some none) => PySem.W.mg_none_of X G e
  have T : Lvs K mg C := ⟨⟨pg, hd, po, sa⟩, n_begun, g1 aC, fun T hT => by
    simp only [List.mem_cons, List.not_mem_nil, or_false] at hT
    rcases hT with h | h | h | h | h | h | h <;> subst h <;> exact ⟨kit_no hcls htyp (by decide +kernel), notFirst_ty (by decide +kernel)⟩⟩
  have hv := vals_strs vN
  have W : Words K mg := ⟨⟨_, g1 gG⟩, ⟨_, g1 gL⟩, ⟨_, g1 gA⟩, ⟨_, g1 gD⟩, ⟨aNo, g1 gN, fun H => .inr ⟨_, itsN, nN, lN, rfl, rfl, by
    have := hv.length
    rw [List.length_map] at this
    rw [← Array.length_toList, ← this]
    decide, hv⟩⟩, g0 b_isinstance, g0 b_int, g0 b_bool, g0 b_str, g0 b_len, g0 b_all⟩
  have L : WordsL mg := ⟨g0 b_sorted, g0 b_set, g0 b_max, g0 b_min, g0 b_tuple⟩
  have F_pen := fun_mk (st := sPen) lpen cpen kpen
  have F_draw := fun_mk (st := sDraw) ldraw cdraw kdraw
  have F_pick := fun_mk (st := sPick) lpick cpick kpick
  have F_crew := fun_mk (st := sCrew) lcrew ccrew kcrew
  have F_oddt := fun_mk (st := sOddT) loddt coddt koddt
  have F_starts := fun_mk (st := sStarts) lstarts cstarts kstarts
  have F_heard := fun_mk (st := sHeard) lheard cheard kheard
  have F_lasts := fun_mk (st := sLasts) llasts clasts klasts
  have F_ticks := fun_mk (st := sTicks) lticks cticks kticks
  have F_toolr := fun_mk (st := sToolR) ltoolr ctoolr ktoolr
  have F_refr := fun_mk (st := sRef) lrefr crefr krefr
  have F_law := fun_mk (st := sLaw) llaw claw klaw
  have F_whole := fun_mk (st := sWhole) lwhole cwhole kwhole
  have F_moment := fun_mk (st := sMoment) lmoment cmoment kmoment
  have F_name := fun_mk (st := sName) lname cname kname
  have F_check := fun_mk (st := sCheck) lcheck ccheck kcheck
  have F_with := fun_mk (st := sWith) lwith cwith kwith
  have F_init := fun_mk (st := sLInit) linit cinit kinit
  have F_beg := fun_mk (st := sBeg) lbeg cbeg kbeg
  have F_life := fun_mk (st := sLife) llife clife klife
  have F_last := fun_mk (st := sLast) llast clast klast
  have F_cont := fun_mk (st := sCont) lcont ccont kcont
  have F_eN := fun_mk (st := sEN) leN ceN keN
  have F_eM := fun_mk (st := sEM) leM ceM keM
  have F_eS := fun_mk (st := sES) leS ceS keS
  have F_eO := fun_mk (st := sET) leO ceO keO
  have F_eL := fun_mk (st := sEL) leL ceL keL
  have b_pen_ := F_pen.binds (ps := ["_law_script"]) fun _ _ _ _ _ _ us hl => match us, hl with | [_], _ => rfl
  have b_draw_ := F_draw.binds (ps := ["_law_pen_here", "_law_many"]) fun _ _ _ _ _ _ us hl => match us, hl with | [_, _], _ => rfl
  have b_pick_ := F_pick.binds (ps := ["_law_pen_here", "_law_some"]) fun _ _ _ _ _ _ us hl => match us, hl with | [_, _], _ => rfl
  have b_crew_ := F_crew.binds (ps := ["_law_pen_here"]) fun _ _ _ _ _ _ us hl => match us, hl with | [_], _ => rfl
  have b_oddt_ := F_oddt.binds (ps := ["_law_pen_here"]) fun _ _ _ _ _ _ us hl => match us, hl with | [_], _ => rfl
  have b_starts_ := F_starts.binds (ps := ["_law_pen_here", "_law_crew_here"]) fun _ _ _ _ _ _ us hl => match us, hl with | [_, _], _ => rfl
  have b_heard_ := F_heard.binds (ps := ["_law_ask"]) fun _ _ _ _ _ _ us hl => match us, hl with | [_], _ => rfl
  have b_lasts_ := F_lasts.binds (ps := ["_law_firsts"]) fun _ _ _ _ _ _ us hl => match us, hl with | [_], _ => rfl
  have b_ticks_ := F_ticks.binds (ps := ["_law_pen_here", "_law_firsts"]) fun _ _ _ _ _ _ us hl => match us, hl with | [_, _], _ => rfl
  have b_toolr_ := F_toolr.binds (ps := ["_law_pen_here", "_law_lives", "_law_starts_here", "_law_word"]) fun _ _ _ _ _ _ us hl => match us, hl with | [_, _, _, _], _ => rfl
  have b_refr_ := F_refr.binds (ps := ["_law_pen_here", "_law_lives", "_law_crew_here"]) fun _ _ _ _ _ _ us hl => match us, hl with | [_, _, _], _ => rfl
  have b_law_ := F_law.binds (ps := ["_law_script"]) fun _ _ _ _ _ _ us hl => match us, hl with | [_], _ => rfl
  have b_whole_ := F_whole.binds (ps := ["value"]) fun _ _ _ _ _ _ us hl => match us, hl with | [_], _ => rfl
  have b_moment_ := F_moment.binds (ps := ["value"]) fun _ _ _ _ _ _ us hl => match us, hl with | [_], _ => rfl
  have b_name_ := F_name.binds (ps := ["value"]) fun _ _ _ _ _ _ us hl => match us, hl with | [_], _ => rfl
  have b_check_ := F_check.binds (ps := ["value", "form"]) fun _ _ _ _ _ _ us hl => match us, hl with | [_, _], _ => rfl
  have b_with_ := F_with.binds (ps := ["tool", "moments"]) fun _ _ _ _ _ _ us hl => match us, hl with | [_, _], _ => rfl
  have b_init_ := F_init.binds (ps := ["self", "begun"]) fun _ _ _ _ _ _ us hl => match us, hl with | [_, _], _ => rfl
  have b_beg_ := F_beg.binds (ps := ["self", "tool"]) fun _ _ _ _ _ _ us hl => match us, hl with | [_, _], _ => rfl
  have b_life_ := F_life.binds (ps := ["self", "tool", "moment"]) fun _ _ _ _ _ _ us hl => match us, hl with | [_, _, _], _ => rfl
  have b_last_ := F_last.binds (ps := ["self", "life"]) fun _ _ _ _ _ _ us hl => match us, hl with | [_, _], _ => rfl
  have b_cont_ := F_cont.binds (ps := ["self", "life"]) fun _ _ _ _ _ _ us hl => match us, hl with | [_, _], _ => rfl
  have b_eN_ := F_eN.binds (ps := ["self", "name"]) fun _ _ _ _ _ _ us hl => match us, hl with | [_, _], _ => rfl
  have b_eM_ := F_eM.binds (ps := ["self", "moment"]) fun _ _ _ _ _ _ us hl => match us, hl with | [_, _], _ => rfl
  have b_eS_ := F_eS.binds (ps := ["self", "value"]) fun _ _ _ _ _ _ us hl => match us, hl with | [_, _], _ => rfl
  have b_eO_ := F_eO.binds (ps := ["self", "tool"]) fun _ _ _ _ _ _ us hl => match us, hl with | [_, _], _ => rfl
  have b_eL_ := F_eL.binds (ps := ["self", "value"]) fun _ _ _ _ _ _ us hl => match us, hl with | [_, _], _ => rfl
  have RN : Err K CN := ⟨geN, heN, exeN, hdeN, caeN, thn, tht, cmeN⟩
  have ON : OneE K mg "BadName" "name" CN feN _ := ⟨⟨⟨_, _, _, _, _, _, _, _, _, _, _, _, _, _, _, xN, by rfl⟩, seN, exeN, tyeN, kkeN⟩, aeN, teN, g1 aN, neN, RN, b_eN_⟩
  have RM : Err K CM := ⟨geM, heM, exeM, hdeM, caeM, thn, tht, cmeM⟩
  have OM : OneE K mg "BadMoment" "moment" CM feM _ := ⟨⟨⟨_, _, _, _, _, _, _, _, _, _, _, _, _, _, _, xM, by rfl⟩, seM, exeM, tyeM, kkeM⟩, aeM, teM, g1 aM, neM, RM, b_eM_⟩
  have RS : Err K CS := ⟨geS, heS, exeS, hdeS, caeS, thn, tht, cmeS⟩
  have OS : OneE K mg "BadSaying" "value" CS feS _ := ⟨⟨⟨_, _, _, _, _, _, _, _, _, _, _, _, _, _, _, xS, by rfl⟩, seS, exeS, tyeS, kkeS⟩, aeS, teS, g1 aS, neS, RS, b_eS_⟩
  have RO : Err K CO := ⟨geO, heO, exeO, hdeO, caeO, thn, tht, cmeO⟩
  have OO : OneE K mg "NoTool" "tool" CO feO _ := ⟨⟨⟨_, _, _, _, _, _, _, _, _, _, _, _, _, _, _, xO, by rfl⟩, seO, exeO, tyeO, kkeO⟩, aeO, teO, g1 aO, neO, RO, b_eO_⟩
  have RL : Err K CL := ⟨geL, heL, exeL, hdeL, caeL, thn, tht, cmeL⟩
  have OL : OneE K mg "NoLife" "value" CL feL _ := ⟨⟨⟨_, _, _, _, _, _, _, _, _, _, _, _, _, _, _, xL, by rfl⟩, seL, exeL, tyeL, kkeL⟩, aeL, teL, g1 aL, neL, RL, b_eL_⟩
  have RR : Errs K mg CN CM CS CO CL := ⟨⟨_, _, ON, F_eN⟩, ⟨_, _, OM, F_eM⟩, ⟨_, _, OS, F_eS⟩, ⟨_, _, OO, F_eO⟩, ⟨_, _, OL, F_eL⟩⟩
  have HR : HrL K mg CT CN CM CO CL := {
    gT := g1 aT, gN := g1 aN, gM := g1 aM, gTo := g1 aO, gL := g1 aL, gV := g0 b_ValueError, isi := g0 b_isinstance, len := g0 b_len
    te := fun C hC => by
      simp only [List.mem_cons, List.not_mem_nil, or_false] at hC
      rcases hC with rfl | rfl | rfl
      · exact ⟨exm_own iT tT eT uteO sT, kit_VE veeO, RO⟩
      · exact ⟨exm_own iT tT eT uteL sT, kit_VE veeL, RL⟩
      · exact ⟨exm_own iT tT eT uteM sT, kit_VE veeM, RM⟩
    eN := RN
    no := fun C hC => by
      simp only [List.mem_cons, List.not_mem_nil, or_false] at hC
      rcases hC with rfl | rfl | rfl | rfl
      · exact kit_no iceO tyeO (by decide +kernel)
      · exact kit_no iceL tyeL (by decide +kernel)
      · exact kit_no iceN tyeN (by decide +kernel)
      · exact kit_no iceM tyeM (by decide +kernel)
    tt := kit_self
    tl := kit_own iceL tyeL uOL uLL
    tn := kit_own iceN tyeN uON uNN
    tm := kit_own iceM tyeM uOM uMM
    lt := kit_own iceO tyeO uLO uOO
    ll := kit_self
    ln := kit_own iceN tyeN uLN uNN
    lm := kit_own iceM tyeM uLM uMM
    mt := kit_own iceO tyeO uMO uOO
    ml := kit_own iceL tyeL uML uLL
    mn := kit_own iceN tyeN uMN uNN
    mm := kit_self
    fN := neN, fM := neM, fT := neO, fL := neL }
  have Mk0 : Mk K C finit := ⟨mk, ainit, iinit, kc⟩
  refine ⟨PySem.W.fnOf "law" "law" (defArgs sLaw) (defBody sLaw) (defScope sLaw) .none kVlaw dclaw pmlaw anlaw cdlaw ctlaw, c0, P0, tab_by arefr lrefr rfl lcode vcode, nT, fun s v => .of_eq rfl, fun base _ _ TB => ?_⟩
  have GD := ok_draw (P := l.prog) (w := w) (base := base) F_draw (g0 b_len) (g0 b_int) (g0 b_abs)
  have GPk := ok_pick (P := l.prog) (w := w) (base := base) F_pick (g0 b_len) F_draw b_draw_ (g1 adraw) GD
  have GPen := ok_pen (P := l.prog) (w := w) (base := base) F_pen (g0 b_list)
  have GCr := ok_crew (P := l.prog) (w := w) (base := base) F_crew F_pick b_pick_ (g1 apick) GPk F_draw b_draw_ (g1 adraw) GD
  have GOt := ok_oddT (P := l.prog) (w := w) (base := base) F_oddt F_pick b_pick_ (g1 apick) GPk
  have GSt := ok_starts (P := l.prog) (w := w) (base := base) F_starts L (g0 b_range) (g0 b_int) F_pick b_pick_ (g1 apick) GPk F_draw b_draw_ (g1 adraw) GD
  have GLs := ok_lasts (P := l.prog) (w := w) (mg := mg) (base := base) F_lasts
  have GTk := ok_ticks (P := l.prog) (w := w) (base := base) F_ticks F_draw b_draw_ (g1 adraw) GD
  have GM := ok_moment (P := l.prog) (w := w) (base := base) F_moment W F_whole b_whole_ (g1 awhole)
  have GN := ok_name (P := l.prog) (w := w) (base := base) F_name W
  have GC := ok_check (P := l.prog) (w := w) (base := base) F_check W RR F_moment b_moment_ (g1 amoment) GM F_name b_name_ (g1 aname) GN
  have GWi := ok_with (P := l.prog) (w := w) (base := base) F_with L F_check b_check_ (g1 acheck) GC
  have GI := ok_linit (P := l.prog) (w := w) (base := base) F_init T L F_with b_with_ (g1 awith) GWi
  have mB : Meth K C "beginnings" fbeg := ⟨abeg, ibeg, kbeg⟩
  have mLi : Meth K C "life_of" flife := ⟨alife, ilife, klife⟩
  have mLa : Meth K C "last_of" flast := ⟨alast, ilast, klast⟩
  have GBg := ok_beg (P := l.prog) (w := w) (base := base) F_beg T W RR
  have GLi := ok_life (P := l.prog) (w := w) (base := base) F_life L mB T b_beg_ GBg F_check b_check_ (g1 acheck) GC
  have GCo := ok_cont (P := l.prog) (w := w) (base := base) F_cont T W L F_whole b_whole_ (g1 awhole)
  have GLa := ok_last (P := l.prog) (w := w) (base := base) F_last T W L RR b_cont_ GCo acont icont
  have mths : Mths K l.prog w mg base C CM CO CL := ⟨T, ⟨_, _, mB, kb_one fun s u w => .of_eq rfl, GBg⟩, ⟨_, _, mLi, b_life_, kb_swap fun s u m t => .of_eq rfl, GLi⟩, ⟨_, _, mLa, b_last_, kb_one fun s u w => .of_eq rfl, GLa⟩, ⟨_, _, b_cont_, acont, icont, GCo⟩⟩
  have GTR := ok_toolR (P := l.prog) (w := w) (base := base) F_toolr mths L (g0 b_range) (g0 b_len) (g0 b_repr) F_lasts b_lasts_ (g1 alasts) GLs F_ticks b_ticks_ (g1 aticks) GTk
  have GRR := ok_ref (P := l.prog) (w := w) (base := base) F_refr rfl TB mths HR (g0 b_repr) F_pick b_pick_ (g1 apick) GPk F_oddt b_oddt_ (g1 aoddt) GOt F_heard b_heard_ (g1 aheard)
  exact ok_law F_law T (g0 b_range) (g0 b_dict) F_pen b_pen_ (g1 apen) GPen F_crew b_crew_ (g1 acrew) GCr F_starts b_starts_ (g1 astarts) GSt F_toolr b_toolr_ (g1 atoolr) GTR F_refr b_refr_ (g1 arefr) GRR Mk0 b_init_ GI
theorem walk {l : PySem.W.OpenLaw} {q : Program} {loose : List Str} {XP : (Str → Option Value) → Heap → Prop} {YP : World → Heap → Prop} {d : DefRec} {K : Params → PySem.W.Frag} (hn : l.most = some 63) (hdf : d.params.defaults = []) (hnm : d.name = "law")
    (hrec : ((recsOf q).find? (fun e => e.name == ("_law_refused_right" : Str))).isSome = true) (hY : ∀ (w : World) (h : Heap), YP w h → (K w.params).In h)
    (F : ∀ (w : World) (mg : Str → Option Value) (fa : Addr) (h : Heap), (K w.params).In h → h.Ns mainGlobals mg → mg "law" = some (.ref fa) →
      ∃ (fd : FuncData) (c0 P0 : Addr), PySem.W.tabIn (K w.params) "_law_refused_right" = some (c0, P0) ∧ (K w.params).lookup P0 = none ∧ (∀ (s : Shared) (u : Value), BindsTo s fd ⟨[u], []⟩ [("_law_script", u)]) ∧
        ∀ base : Heap, (K w.params).In base → base.Ns mainGlobals mg → TabB base mg c0 P0 → FnG l.prog w (K w.params) mg base CX0 8 fa fd ["_law_script"] (spLaw (K w.params) P0)) :
    PySem.W.WalkO q loose XP YP l.row.toRowW d [] (fun f vs => PySem.call f vs) := by
  apply Att.attach_callB hn hdf
  intro w s₀ s₁ mg mb fa o pm cd doc a vs ns G Y _ _ _ hmg hobj hints hlen hbits hg
  have KX := hY w _ Y
  rw [hnm] at hmg
  obtain ⟨fd, c0, P0, ht, nT, hb, hF⟩ := F w mg fa _ KX G.T.g hmg
  obtain ⟨d', hd'⟩ := Option.isSome_iff_exists.mp hrec
  obtain ⟨C, tb⟩ := PySem.W.tab_of G.T KX hd' ht
  exact law_callTG KX G.T.g G.T.b G.T.builtins G.T.nolimit hg tb nT C G.T.bmain hobj hints (Nat.le_trans hlen (by decide)) ⟨rfl, by decide, by decide⟩ hF hb (fun H hT hS => ⟨a, ns, rfl, hS, hT, fun _ => rfl⟩) fun _ _ _ z => z
end K09

open PySem PySem.W PyProof.Rows in
set_option maxRecDepth 100000 in
set_option maxHeartbeats 0 in
theorem PySem.Challenge.cw_soundtill_k09_points_in_lives_holds : PySem.Challenge.rw_soundtill_k09_points_in_lives.Holds := by
  w_on; o_law; k_head; (case hw => w_witness2)
  k_fill
  refine K09.walk (l := PySem.Challenge.rw_soundtill_k09_points_in_lives) rfl rfl rfl (by decide +kernel) (fun w h Y => PySem.W.km_in_of Y) ?F
  case F =>
    intro w mg fa h KX G hmg
    refine' K09.all_mk KX G hmg ?aC ?apen ?lpen ?cpen ?kpen ?adraw ?ldraw ?cdraw ?kdraw ?apick ?lpick ?cpick ?kpick ?acrew ?lcrew ?ccrew ?kcrew ?aoddt ?loddt ?coddt ?koddt ?astarts ?lstarts ?cstarts ?kstarts ?aheard ?lheard ?cheard ?kheard ?alasts ?llasts ?clasts ?klasts ?aticks ?lticks ?cticks ?kticks ?atoolr ?ltoolr ?ctoolr ?ktoolr ?arefr ?lrefr ?crefr ?krefr ?alaw ?llaw ?claw ?klaw ?awhole ?lwhole ?cwhole ?kwhole ?amoment ?lmoment ?cmoment ?kmoment ?aname ?lname ?cname ?kname ?acheck ?lcheck ?ccheck ?kcheck ?awith ?lwith ?cwith ?kwith ?ainit ?iinit ?linit ?cinit ?kinit ?abeg ?ibeg ?lbeg ?cbeg ?kbeg ?alife ?ilife ?llife ?clife ?klife ?alast ?ilast ?llast ?clast ?klast ?acont ?icont ?lcont ?ccont ?kcont ?pg ?hd ?po ?sa ?mk ?kc ?n_begun ?thn ?tht ?hcls ?htyp ?gG ?gL ?gA ?gD ?gN ?lN ?vN ?b_isinstance ?b_int ?b_bool ?b_str ?b_len ?b_all ?b_range ?b_repr ?b_list ?b_abs ?b_ValueError ?b_sorted ?b_set ?b_max ?b_min ?b_tuple ?b_dict ?aT ?iT ?tT ?eT ?sT ?aN ?aM ?aS ?aO ?aL ?xN ?seN ?geN ?heN ?neN ?aeN ?teN ?leN ?ceN ?keN ?kkeN ?exeN ?tyeN ?hdeN ?iceN ?veeN ?uteN ?caeN ?cmeN ?uNN ?uNM ?uNS ?uNO ?uNL ?xM ?seM ?geM ?heM ?neM ?aeM ?teM ?leM ?ceM ?keM ?kkeM ?exeM ?tyeM ?hdeM ?iceM ?veeM ?uteM ?caeM ?cmeM ?uMN ?uMM ?uMS ?uMO ?uML ?xS ?seS ?geS ?heS ?neS ?aeS ?teS ?leS ?ceS ?keS ?kkeS ?exeS ?tyeS ?hdeS ?iceS ?veeS ?uteS ?caeS ?cmeS ?uSN ?uSM ?uSS ?uSO ?uSL ?xO ?seO ?geO ?heO ?neO ?aeO ?teO ?leO ?ceO ?keO ?kkeO ?exeO ?tyeO ?hdeO ?iceO ?veeO ?uteO ?caeO ?cmeO ?uON ?uOM ?uOS ?uOO ?uOL ?xL ?seL ?geL ?heL ?neL ?aeL ?teL ?leL ?ceL ?keL ?kkeL ?exeL ?tyeL ?hdeL ?iceL ?veeL ?uteL ?caeL ?cmeL ?uLN ?uLM ?uLS ?uLO ?uLL ?lcode ?vcode ?nT
    (case aC => k_is)
    (case apen => k_is)
    (case lpen => k_is)
    (case cpen => k_is)
    (case kpen => k_is)
    (case adraw => k_is)
    (case ldraw => k_is)
    (case cdraw => k_is)
    (case kdraw => k_is)
    (case apick => k_is)
    (case lpick => k_is)
    (case cpick => k_is)
    (case kpick => k_is)
    (case acrew => k_is)
    (case lcrew => k_is)
    (case ccrew => k_is)
    (case kcrew => k_is)
    (case aoddt => k_is)
    (case loddt => k_is)
    (case coddt => k_is)
    (case koddt => k_is)
    (case astarts => k_is)
    (case lstarts => k_is)
    (case cstarts => k_is)
    (case kstarts => k_is)
    (case aheard => k_is)
    (case lheard => k_is)
    (case cheard => k_is)
    (case kheard => k_is)
    (case alasts => k_is)
    (case llasts => k_is)
    (case clasts => k_is)
    (case klasts => k_is)
    (case aticks => k_is)
    (case lticks => k_is)
    (case cticks => k_is)
    (case kticks => k_is)
    (case atoolr => k_is)
    (case ltoolr => k_is)
    (case ctoolr => k_is)
    (case ktoolr => k_is)
    (case arefr => k_is)
    (case lrefr => k_is)
    (case crefr => k_is)
    (case krefr => k_is)
    (case alaw => k_is)
    (case llaw => k_is)
    (case claw => k_is)
    (case klaw => k_is)
    (case awhole => k_is)
    (case lwhole => k_is)
    (case cwhole => k_is)
    (case kwhole => k_is)
    (case amoment => k_is)
    (case lmoment => k_is)
    (case cmoment => k_is)
    (case kmoment => k_is)
    (case aname => k_is)
    (case lname => k_is)
    (case cname => k_is)
    (case kname => k_is)
    (case acheck => k_is)
    (case lcheck => k_is)
    (case ccheck => k_is)
    (case kcheck => k_is)
    (case awith => k_is)
    (case lwith => k_is)
    (case cwith => k_is)
    (case kwith => k_is)
    (case ainit => k_is)
    (case iinit => k_is)
    (case linit => k_is)
    (case cinit => k_is)
    (case kinit => k_is)
    (case abeg => k_is)
    (case ibeg => k_is)
    (case lbeg => k_is)
    (case cbeg => k_is)
    (case kbeg => k_is)
    (case alife => k_is)
    (case ilife => k_is)
    (case llife => k_is)
    (case clife => k_is)
    (case klife => k_is)
    (case alast => k_is)
    (case ilast => k_is)
    (case llast => k_is)
    (case clast => k_is)
    (case klast => k_is)
    (case acont => k_is)
    (case icont => k_is)
    (case lcont => k_is)
    (case ccont => k_is)
    (case kcont => k_is)
    (case pg => k_is)
    (case hd => k_is)
    (case po => k_is)
    (case sa => k_is)
    (case mk => k_is)
    (case kc => k_is)
    (case n_begun => k_is)
    (case thn => k_is)
    (case tht => k_is)
    (case hcls => k_is)
    (case htyp => k_is)
    (case gG => k_is)
    (case gL => k_is)
    (case gA => k_is)
    (case gD => k_is)
    (case gN => k_is)
    (case lN => k_is)
    (case vN => rfl)
    (case b_isinstance => k_is)
    (case b_int => k_is)
    (case b_bool => k_is)
    (case b_str => k_is)
    (case b_len => k_is)
    (case b_all => k_is)
    (case b_range => k_is)
    (case b_repr => k_is)
    (case b_list => k_is)
    (case b_abs => k_is)
    (case b_ValueError => k_is)
    (case b_sorted => k_is)
    (case b_set => k_is)
    (case b_max => k_is)
    (case b_min => k_is)
    (case b_tuple => k_is)
    (case b_dict => k_is)
    (case aT => k_is)
    (case iT => k_is)
    (case tT => k_is)
    (case eT => k_is)
    (case sT => k_is)
    (case aN => k_is)
    (case aM => k_is)
    (case aS => k_is)
    (case aO => k_is)
    (case aL => k_is)
    (case xN => k_is)
    (case seN => k_is)
    (case geN => k_is)
    (case heN => k_is)
    (case neN => k_is)
    (case aeN => k_is)
    (case teN => k_is)
    (case leN => k_is)
    (case ceN => k_is)
    (case keN => k_is)
    (case kkeN => k_is)
    (case exeN => k_is)
    (case tyeN => k_is)
    (case hdeN => k_is)
    (case iceN => k_is)
    (case veeN => k_is)
    (case uteN => k_is)
    (case caeN => k_is)
    (case cmeN => k_is)
    (case uNN => k_is)
    (case uNM => k_is)
    (case uNS => k_is)
    (case uNO => k_is)
    (case uNL => k_is)
    (case xM => k_is)
    (case seM => k_is)
    (case geM => k_is)
    (case heM => k_is)
    (case neM => k_is)
    (case aeM => k_is)
    (case teM => k_is)
    (case leM => k_is)
    (case ceM => k_is)
    (case keM => k_is)
    (case kkeM => k_is)
    (case exeM => k_is)
    (case tyeM => k_is)
    (case hdeM => k_is)
    (case iceM => k_is)
    (case veeM => k_is)
    (case uteM => k_is)
    (case caeM => k_is)
    (case cmeM => k_is)
    (case uMN => k_is)
    (case uMM => k_is)
    (case uMS => k_is)
    (case uMO => k_is)
    (case uML => k_is)
    (case xS => k_is)
    (case seS => k_is)
    (case geS => k_is)
    (case heS => k_is)
    (case neS => k_is)
    (case aeS => k_is)
    (case teS => k_is)
    (case leS => k_is)
    (case ceS => k_is)
    (case keS => k_is)
    (case kkeS => k_is)
    (case exeS => k_is)
    (case tyeS => k_is)
    (case hdeS => k_is)
    (case iceS => k_is)
    (case veeS => k_is)
    (case uteS => k_is)
    (case caeS => k_is)
    (case cmeS => k_is)
    (case uSN => k_is)
    (case uSM => k_is)
    (case uSS => k_is)
    (case uSO => k_is)
    (case uSL => k_is)
    (case xO => k_is)
    (case seO => k_is)
    (case geO => k_is)
    (case heO => k_is)
    (case neO => k_is)
    (case aeO => k_is)
    (case teO => k_is)
    (case leO => k_is)
    (case ceO => k_is)
    (case keO => k_is)
    (case kkeO => k_is)
    (case exeO => k_is)
    (case tyeO => k_is)
    (case hdeO => k_is)
    (case iceO => k_is)
    (case veeO => k_is)
    (case uteO => k_is)
    (case caeO => k_is)
    (case cmeO => k_is)
    (case uON => k_is)
    (case uOM => k_is)
    (case uOS => k_is)
    (case uOO => k_is)
    (case uOL => k_is)
    (case xL => k_is)
    (case seL => k_is)
    (case geL => k_is)
    (case heL => k_is)
    (case neL => k_is)
    (case aeL => k_is)
    (case teL => k_is)
    (case leL => k_is)
    (case ceL => k_is)
    (case keL => k_is)
    (case kkeL => k_is)
    (case exeL => k_is)
    (case tyeL => k_is)
    (case hdeL => k_is)
    (case iceL => k_is)
    (case veeL => k_is)
    (case uteL => k_is)
    (case caeL => k_is)
    (case cmeL => k_is)
    (case uLN => k_is)
    (case uLM => k_is)
    (case uLS => k_is)
    (case uLO => k_is)
    (case uLL => k_is)
    (case lcode => k_is)
    (case vcode => rfl)
    (case nT => first | kernel_rfl | rfl)
