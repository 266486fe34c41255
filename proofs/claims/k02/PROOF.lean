import PyProof.Rows.All
import Wide.All
import OpenK.AllK
import Wide.FinOn
import HandS.ForMost
import HandS.OwnEq
import HandS.IsInst
import HandS.Wide
import HandS.EndBits
import HandS.Property
import KE.LtData
import HandS.NamedTupSort
import HandS.Codes
import HandS.Walk
import KE.KCallOwn
import PySem.Challenge.RW_soundtill_k02_sayings_in_order
set_option Elab.async false
set_option linter.all false
set_option maxRecDepth 100000
set_option maxHeartbeats 8000000
/-! So: rules of our own over the hand layer. Runs whose guards are known (for repr), repr of data, == and != by an own __eq__ with both answers, < of data, a method's call with keywords. -/
namespace So
open PySem PySem.Spec PyProof.Rows L2

/-! ### repr of data -/
mutual
theorem dp_noDict {K : PySem.W.Frag} {H : Hp} : ∀ (d : PyData) (v : V), Dp K H v d → d.hasDict = false
  | .none, _, _ => rfl
  | .bool _, _, _ => rfl
  | .int _, _, _ => rfl
  | .str _, _, _ => rfl
  | .list ds, _, h => by
    cases h with
    | lst _ ha => simpa [PyData.hasDict] using dp_noDictAll ds _ ha
  | .tuple ds, _, h => by
    cases h with
    | tup _ ha => simpa [PyData.hasDict] using dp_noDictAll ds _ ha
  | .dict _, _, h => by cases h
theorem dp_noDictAll {K : PySem.W.Frag} {H : Hp} : ∀ (ds : List PyData) (vs : List V), DpAll K H vs ds → PyData.hasDictAll ds = false
  | [], _, _ => rfl
  | d :: ds, _, h => by
    cases h with
    | cons h1 h2 => simp [PyData.hasDictAll, dp_noDict d _ h1, dp_noDictAll ds _ h2]
end

/-- repr(x): what it asks -/
def rRepr (K : PySem.W.Frag) : List V → Hp → VK → Prop := fun xs H Q => ∃ v d, xs = [v] ∧ Dp K H v d ∧ d.showable = true ∧ d.depth ≤ 60 ∧ d.shown.length ≤ sizeLine ∧ Q (.str d.shown) H
section
variable {X : Cx}
theorem call_reprD (hg : X.A.guards = some []) (hu : X.A.units + 64 < cLine) : CallR X (.builtin "repr") (rRepr X.K) := by
  intro pins s σ H xs us Q I r h
  obtain ⟨v, d, rfl, hd, hs, hdep, hz, q⟩ := h
  obtain ⟨u, rfl, rv⟩ := vals1 r
  obtain ⟨as, rd⟩ := Dp.reads I d v u hd rv
  have nd : d.hasDict = false := dp_noDict d v hd
  cases v with
  | ref a =>
    cases rv
    refine repr_of_reads' rd hs (fun z => by rw [nd] at z; cases z) hg (by omega) (fun _ _ e => e) (fun h' t tk k => ?_) hz
    exact ⟨.str d.shown, H, I.kept k, ⟨t, rfl⟩, q⟩
  | non =>
    cases hd
    cases rv
    exact PySem.P.repr_of_none ⟨.str _, H, I.tok _, ⟨_, rfl⟩, q⟩
  | bl b =>
    cases hd
    cases rv
    refine PySem.P.repr_of_bool ⟨.str (PyData.shown (.bool b)), H, I.tok _, ⟨s.toks, ?_⟩, q⟩
    cases b <;> rfl
  | int i =>
    cases hd
    obtain ⟨t, rfl⟩ := rv
    exact PySem.P.repr_of_int (by simpa [PyData.showable] using hs) ⟨.str _, H, I.tok _, ⟨_, rfl⟩, q⟩
  | str x =>
    cases hd
    obtain ⟨t, rfl⟩ := rv
    exact PySem.P.repr_of_str ⟨.str _, H, I.tok _, ⟨_, rfl⟩, q⟩ hz
  | byt b => cases hd
  | flt b => cases hd
  | ty n => cases hd

/-! ### < of data -/
def rLtD (K : PySem.W.Frag) : R2 := fun x y H Q => ∃ d e, Dp K H x d ∧ Dp K H y e ∧ PySem.W.alike d e = true ∧ d ≠ .none ∧ d.depth ≤ 60 ∧ Q (.bl (PySem.W.dataLt d e)) H
theorem op_ltD (hu : X.A.units + 64 < cLine) : OpR X (compareOp .Lt) (rLtD X.K) := by
  intro pins s σ H x y v u Q I rx ry h
  obtain ⟨d, e, hd, he, al, nn, dep, q⟩ := h
  obtain ⟨as, r1⟩ := Dp.reads I d x v hd rx
  obtain ⟨bs, r2⟩ := Dp.reads I e y u he ry
  have hm : min d.depth e.depth ≤ d.depth := Nat.min_le_left _ _
  exact PySem.W.rcLt_alike d e X.A s v u as bs r1 r2 al nn (by omega) _ _ _ _ ⟨.bl _, H, I, rfl, q⟩
end
end So

namespace So
open PySem PySem.Spec PyProof.Rows L2

/-! ### == and != by an own __eq__, both answers -/
/-- x is an instance of C, y of a type that is no class below C; the own __eq__ answers b -/
def rOwn (C : Addr) (K : PySem.W.Frag) (sp : Sp) (E : XK) (g : Bool → Bool) : R2 := fun x y H Q => ∃ a dx fs t, x = .ref a ∧ H a = some (.ins C dx fs) ∧ TyX K H y t ∧ PySem.W.notFirst K C t = true ∧
  sp [.ref a, y] H (fun v H' => ∃ b, v = .bl b ∧ Q (.bl (g b)) H') E
section
variable {X : Cx} {CX : CXT} {k : Nat} {C f : Addr} {fd : FuncData} {ps : List Str} {sp : Sp} {E : XK}
/-- what is wanted of a comparison's answer -/
def BlP (X : Cx) (pins : List (Addr × Obj)) (σ : L2.St) (g : Bool → Bool) (Q : VK) (v : Value) (s' : Shared) : Prop := ∃ b H', v = .bool b ∧ Inv X pins σ H' s' ∧ Q (.bl (g b)) H'
theorem run_eq {pins : List (Addr × Obj)} {s : Shared} {σ : L2.St} {H : Hp} {a dx : Addr} {fs : List (Str × V)} {y : V} {u : Value} {Q : VK} {g : Bool → Bool} {A : Around} (F : FnOk X.prog X.w X.K X.mg X.base CX k f fd ps sp) (hb : Binds X.K fd ps [])
    (hx : Passes CX X E) (hr : Room k A) (hf : A.frames = X.A.frames) (I : Inv X pins σ H s) (ry : RelV y u) (h : sp [.ref a, y] H (fun v H' => ∃ b, v = .bl b ∧ Q (.bl (g b)) H') E) :
    wpAny (model X.prog X.w) A (call (.ref f) [.ref a, u]) (fun v s' => BlP X pins σ g Q v s') X.xe s := by
  have e0 : Env0 X.prog X.w X.K X.mg X.base A X.stack s H := by
    have e := I.env0
    exact ⟨hf.trans e.frames, e.mod, e.bs, e.bsz, e.funs, e.frf, e.hok, e.bare⟩
  have hl : ([Value.ref a, u] ++ ([] : List Value)).length = ps.length := (F.len _ _ _ _ h : [V.ref a, y].length = ps.length)
  refine wpAny_call (codeAny_mono (F.run A X.stack s H ⟨[.ref a, u], []⟩ ([.ref a, u] ++ []) [.ref a, y] _ E hr e0 (hb s [.ref a, u] I.kIn hl) (.cons rfl (.cons ry .nil)) h) fun r s' hq => ?_)
  cases r with
  | error e => exact hx pins σ H s e s' I hq
  | ok fl =>
    cases fl with
    | ret w =>
      obtain ⟨z, H', I', rz, b, ez, q⟩ := I.after hq
      subst ez
      cases rz
      exact ⟨b, H', rfl, I', q⟩
    | next => exact False.elim hq
    | brk => exact False.elim hq
    | cont => exact False.elim hq

theorem op_eqOwn (F : FnOk X.prog X.w X.K X.mg X.base CX k f fd ps sp) (hs : PySem.W.findIn X.K (.ref C) "__eq__" = some (some (.ref f))) (hf : PySem.W.isFn X.K (.ref f) = true) (hb : Binds X.K fd ps []) (hx : Passes CX X E) (hr : Room k X.A) :
    OpR X (compareOp .Eq) (rOwn C X.K sp E id) := by
  intro pins s σ H x y v u Q I rx ry h
  obtain ⟨a, dx, fs, t, rfl, ha, ty, nf, q⟩ := h
  cases rx
  obtain ⟨mA, J, _⟩ := ins_get I.hok ha
  obtain ⟨od, J, _⟩ := J.look
  obtain ⟨P, Z, p, _⟩ := kit_of I ry ty
  obtain ⟨m, hF⟩ := I.fr
  show wpAny _ _ (richCompare .Eq (.ref a) u) _ _ s
  refine PySem.W.cmp_K (op := .Eq) (tb := t) hr.units0 hF I.ok.mod.kin J (Z.ty _ _ I.kIn p) nf hs hf ?_
  refine wpAny_mono (run_eq (dx := dx) (fs := fs) F hb hx hr rfl I ry q) (fun w s' z => ?_) fun _ _ z => z
  obtain ⟨b, H', rfl, I', q'⟩ := z
  exact ⟨.bl b, H', I', rfl, q'⟩

/-- != where the class has an own __eq__ and object's __ne__ -/
theorem op_neOwn (F : FnOk X.prog X.w X.K X.mg X.base CX k f fd ps sp) (hs : PySem.W.findIn X.K (.ref C) "__eq__" = some (some (.ref f))) (hf : PySem.W.isFn X.K (.ref f) = true) (hb : Binds X.K fd ps []) (hx : Passes CX X E) (hr : Room (k + 1) X.A)
    (hn : PySem.W.findIn X.K (.ref C) "__ne__" = some (some (.builtin "object.__ne__"))) (hm : PySem.W.mroIn X.K C (.type "object") = some true) : OpR X (compareOp .NotEq) (rOwn C X.K sp E not) := by
  intro pins s σ H x y v u Q I rx ry h
  obtain ⟨a, dx, fs, t, rfl, ha, ty, nf, q⟩ := h
  cases rx
  obtain ⟨mA, J, _⟩ := ins_get I.hok ha
  obtain ⟨od, J, _⟩ := J.look
  obtain ⟨P, Z, p, _⟩ := kit_of I ry ty
  have KI := I.kIn
  have hb' := Z.ty (model X.prog X.w) _ I.kIn p
  have hu : X.A.units < cLine := hr.units0
  show wpAny _ _ (richCompare .NotEq (.ref a) u) _ _ s
  have one : wpAny (model X.prog X.w) X.A (tryCompare (.ref a) "__ne__" u) (fun r s' => ∃ v, r = some v ∧ EP X pins σ Q v s') X.xe s := by
    unfold tryCompare
    refine wpAny_bind (NtL.csib (J.type.andThen (PySem.W.looks_findIn KI hn)) (PySem.F.cmp_object.ne.bind _) (wpAny_call (codeAny_call_builtin PySem.F.cmp_object.ne.plain PySem.F.cmpEntry_ne (PySem.W.check_slot PySem.F.cmpKind_ne PySem.F.cmpSplit_ne (J.type.andThen (PySem.W.looks_mroIn KI hm)) (PySem.F.cmpArgs_ne _ _) ?_))))
    unfold Builtin.«object.__ne__»
    refine wpAny_bind (wpAny_of_eq (a := ((Value.ref a : Value), [u])) (by first | rfl | (simp only [slotArgs]; rfl)) ?_)
    refine wpAny_bind (wpAny_cRoomFor (by show X.A.units + 1 < cLine; have := hr.units; omega) ?_)
    refine wpAny_bind (PySem.W.ifBound_K KI J hs hf (wpAny_mono (run_eq (dx := dx) (fs := fs) F hb hx hr.in1 rfl I ry q) (fun w s' z => ?_) fun _ _ z => z))
    obtain ⟨b, H', rfl, I', q'⟩ := z
    refine wpAny_bind (wpAny_truthy_bool ?_)
    refine wpAny_pure ?_
    exact wpAny_pure ⟨_, rfl, .bl (!b), H', I', rfl, q'⟩
  unfold richCompare
  simp only [oneThing_ref]
  refine wpAny_holding (wpAny_bind (wpAny_cRoomFor hu ?_))
  refine wpAny_bind (J.type.here (wpAny_bind (hb'.here ?_)))
  have fin : wpAny (model X.prog X.w) X.A (tryCompare (.ref a) "__ne__" u) (fun r s' => ∃ v, r = some v ∧ EP X pins σ Q v s') X.xe s := one
  split
  · rename_i z
    have e : PySem.W.subIn X.K t (.ref C) = some false := by
      rcases Bool.or_eq_true_iff.mp nf with e | e
      · rw [beq_iff_eq.mp e] at z; simp at z
      · exact beq_iff_eq.mp e
    refine wpAny_bind ((PySem.W.looks_subIn KI e).here ?_)
    simp only [Bool.false_eq_true, if_false]
    exact wpAny_bind (wpAny_mono fin (fun r s' z => by obtain ⟨v, rfl, hq⟩ := z; exact wpAny_pure hq) fun _ _ e => e)
  · refine wpAny_bind (wpAny_pure ?_)
    simp only [Bool.false_eq_true, if_false]
    exact wpAny_bind (wpAny_mono fin (fun r s' z => by obtain ⟨v, rfl, hq⟩ := z; exact wpAny_pure hq) fun _ _ e => e)
end
end So

namespace So
open PySem PySem.Spec PyProof.Rows L2

/-! ### runs in which no repr is under way -/
/-- as FnOk, where no repr is under way at the call -/
structure FnG (P : Program) (w : World) (K : PySem.W.Frag) (mg : Str → Option Value) (base : Heap) (CX : CXT) (k : Nat) (f : Addr) (fd : FuncData) (ps : List Str) (sp : Sp) : Prop where
  lenG : ∀ (vs : List V) (H : Hp) (Q : VK) (E : XK), sp vs H Q E → vs.length = ps.length
  runG : ∀ (A : Around) (outer : List Env) (s : Shared) (H : Hp) (args : Args) (us : List Value) (vs : List V) (Q : VK) (E : XK), A.guards = some [] → Room k A → Env0 P w K mg base A outer s H →
    BindsTo s fd args (ps.zip us) → Vals vs us → sp vs H Q E → codeAny (model P w) A (.call (.ref f) args) (CR CX outer P w H s Q E) s
section
variable {P : Program} {w : World} {K : PySem.W.Frag} {mg : Str → Option Value} {base : Heap} {CX : CXT} {sp : Sp} {fd : FuncData} {ps N : List Str} {k : Nat} {f : Addr}
theorem FnG.ofOk (F : FnOk P w K mg base CX k f fd ps sp) : FnG P w K mg base CX k f fd ps sp :=
  ⟨F.len, fun A outer s H args us vs Q E _ => F.run A outer s H args us vs Q E⟩
/-- a def by its body, as the layer's rule, the guards told -/
theorem fnG_of {x qual : Str} {st : Stmt} (F : Fun K x qual st f fd) (S : FnScope N ps (defScope st)) (len : ∀ vs H Q E, sp vs H Q E → vs.length = ps.length)
    (hbody : ∀ (cdv : Value) (A : Around) (outer : List Env) (s : Shared) (H : Hp) (vs : List V) (Q : VK) (E : XK), A.guards = some [] → Room k (A.deeper (envOfC qual (defScope st) s.heap.objs.size f cdv)) → sp vs H Q E →
      ∃ t, PSs (cxOf CX P w K mg base N qual (defScope st) f cdv A outer s H E).nox (defBody st) t ∧ t { nx := fun _ H' => Q .non H', rt := Q } (start N vs) H) : FnG P w K mg base CX (k + 1) f fd ps sp := by
  obtain ⟨oc, od, kV, doc, pm, an, cdv, ct, osl, rfl, lk, hcd⟩ := F.ex
  constructor
  · exact len
  intro A outer s H args us vs Q E hg hr e0 hb r hsp
  have old : ∀ b o, base.get? b = some o → s.heap.get? b = some o := fun b o e => (e0.bs b o e).1
  have KX := e0.mod.kin.keeps old
  have lim := e0.mod.nolimit.keeps old
  refine codeAny_call_function hr.depth (KX _ _ lk) rfl S.co S.gen rfl (PySem.W.codeRec_of KX hcd) (hb _ _ _ _ ?_)
  refine wpAny_newFunctionEnv_cells S.kind (fun y hy => ?_) fun env he s1 x => ?_
  · rcases S.par y.1 (List.of_mem_zip (show (y.1, y.2) ∈ ps.zip us from hy)).1 with q | q
    · exact Or.inl q
    · exact Or.inr (And.intro q (PySem.W.cellsFrom_some _ _ _ (Or.inl q)))
  subst he
  refine And.intro (lim.keeps x.toInCall.keep) (codeAny_func ?_)
  obtain ⟨t, ht, hq⟩ := hbody cdv A outer s H vs Q E hg (hr.deeper _) hsp
  refine wpAny_mono (ht.nox.run [] s1 (start N vs) H _ (inv_start S hr.hd e0 (len _ _ _ _ hsp) r x) hq) (fun fl s' hs => ?_) fun _ _ hs => hs
  match fl, hs with
  | .ret u, ⟨v, σ', H', J, rv, q⟩ => exact ⟨v, H', J.os, J.bare, J.base, J.hok, rv, q⟩
  | .next, ⟨σ', H', J, q⟩ => exact ⟨V.non, H', J.os, J.bare, J.base, J.hok, rfl, q⟩
  | .brk, ⟨_, _, _, q⟩ => exact q.elim
  | .cont, ⟨_, _, _, q⟩ => exact q.elim
end

/-! ### calls -/
section
variable {X : Cx} {CX : CXT} {k : Nat} {f C : Addr} {fd : FuncData} {ps ks : List Str} {sp : Sp} {E : XK} {x m : Str} {p pos apos : Pos} {e o : Expr} {es : List Expr} {kws : List Keyword} {ta : TE} {t tk : TA} {dvs : List V} {ds : List Value}
theorem run_fnG {pins : List (Addr × Obj)} {σ : L2.St} {H : Hp} {s : Shared} {Q : VK} {us : List Value} {vs : List V} (F : FnG X.prog X.w X.K X.mg X.base CX k f fd ps sp) (hg : X.A.guards = some []) (hr : Room k X.A) (hb : Binds X.K fd ps ds) (hd : Vals dvs ds)
    (hx : Passes CX X E) (I : Inv X pins σ H s) (r : Vals vs us) (h : sp (vs ++ dvs) H Q E) : wpAny (model X.prog X.w) X.A (call (.ref f) us) (EP X pins σ Q) X.xe s := by
  have r2 := r.append hd
  have hl : (us ++ ds).length = ps.length := r2.length.symm.trans (F.lenG _ _ _ _ h)
  refine wpAny_call (codeAny_mono (F.runG X.A X.stack s H ⟨us, []⟩ (us ++ ds) (vs ++ dvs) Q E hg hr I.env0 (hb s us I.kIn hl) r2 h) fun r s' hq => ?_)
  match r, hq with
  | .error e, hq => exact hx pins σ H s e s' I hq
  | .ok (.ret u), hq => exact I.after hq
  | .ok .next, hq => exact hq.elim
  | .ok .brk, hq => exact hq.elim
  | .ok .cont, hq => exact hq.elim
/-- f(e, ..), f by FnG -/
theorem pe_callG (F : FnG X.prog X.w X.K X.mg X.base CX k f fd ps sp) (hg : X.A.guards = some []) (hr : Room k X.A) (hgl : Gl X x) (hm : X.mg x = some (.ref f)) (hk : PySem.W.keepIn X.K (.ref f) = true) (hb : Binds X.K fd ps ds) (hd : Vals dvs ds) (hx : Passes CX X E)
    (ha : PA X (e :: es) t) (hdb : (x == ("__debug__" : Str)) = false := by decide) (he : starEach (e :: es) X.env = (false, eval e X.env) :: starEach es X.env := by rfl) (hpl : (backTo pos (starEach es X.env)).any (·.1) = false := by rfl) :
    PE X (.Call (.Name x p) (e :: es) [] pos) (tCall sp dvs E t) := by
  constructor
  intro pins s σ H Q I h
  refine wpAny_Call_Name_kw (ld_glob I hgl hm (PySem.W.callWith_K (h₀ := X.base) I.ok.mod.kin hk (thn (ha.run pos pins s σ H _ I h) fun us s1 q => ?_) he hpl) hdb)
  obtain ⟨vs, H1, I1, r, q⟩ := q
  exact ⟨I1.kIn, run_fnG F hg hr hb hd hx I1 r q⟩
/-- o.m(k = v, ..): keywords alone -/
theorem pe_methK {g : List Value → List Value → List Value} {gV : List V → List V → List V} {pl : Sem Bool} (he : PE X o ta) (c : Cls X.K C) (hm : Meth X.K C m f) (F : FnOk X.prog X.w X.K X.mg X.base CX k f fd ps sp) (hr : Room k X.A) (hb : KBinds X.K fd ps ks g gV)
    (hx : Passes CX X E) (hkw : PK X kws tk) (hall : (backToKw pos (keywordEach kws X.env)).all (·.1.isSome) = true := by rfl) (hks : (backToKw pos (keywordEach kws X.env)).filterMap (·.1) = ks := by rfl)
    (hpl : ((backTo pos (starEach [] X.env)).any (·.1) || (backToKw pos (keywordEach kws X.env)).any (·.1.isNone)) = false := by rfl)
    (ht : eval (.Call (.Attribute o m apos) [] kws pos) X.env = (do
      let ov ← eval o X.env
      standAt apos.atName
      let fx ← holding [ov] (getMethod ov m pl)
      callWith pos fx.1 fx.2 (backTo pos (starEach [] X.env)) (backToKw pos (keywordEach kws X.env))) := by rfl) :
    PE X (.Call (.Attribute o m apos) [] kws pos) (fun σ H Q => ta σ H fun x H1 => ∃ a dx fs, x = .ref a ∧ H1 a = some (.ins C dx fs) ∧ fs.lookup m = none ∧ tk σ H1 fun zs H2 => sp (gV [x] zs) H2 Q E) := by
  constructor
  intro pins s σ H Q I h
  refine PySem.W.methodCall_KW (pl := pl) (thn (he.run pins s σ H _ I h) fun u s1 z => ?_) ht
  obtain ⟨x, H1, I1, rx, a, dx, fs, ex, ea, l, q⟩ := z
  subst ex
  cases rx
  refine getmeth_ok I1 ea c hm l ?_
  refine PySem.W.callWith_KW0 (first := [.ref a]) (h₀ := X.base) I.ok.mod.kin hm.kp hall (thn (hkw.run pos pins s1 σ H1 _ I1 q) fun ws s2 z => ?_) hpl
  obtain ⟨zs, H2, I2, rz, q2⟩ := z
  refine ⟨I2.kIn, ?_⟩
  rw [hks]
  exact run_fnk (us := [.ref a]) (vs := [.ref a]) F hr hb hx I2 (.cons rfl .nil) rz q2
end

/-! ### the end of a law -/
theorem law_callG {P : Program} {w : World} {K : PySem.W.Frag} {mg mb : Str → Option Value} {CX : CXT} {k : Nat} {fa a : Addr} {fd : FuncData} {x : Str} {sp : Sp} {s₁ : Shared} {vs : List Value} {ns : List Int}
    (KX : K.In s₁.heap) (hns : s₁.heap.Ns mainGlobals mg) (hb : s₁.heap.Ns builtinsNs mb) (hbb : ∀ x : Str, x ≠ "__name__" → mb x = bootBuiltins x) (hlim : s₁.heap.NoLimit) (hg : s₁.gens = #[])
    (ha : s₁.heap.get? a = some { cls := .type "list", data := .seq vs.toArray }) (hi : IntsAre vs ns) (hl : ns.length ≤ sizeLine) (hr : Room k callerA)
    (F : ∀ base : Heap, K.In base → base.Ns mainGlobals mg → FnG P w K mg base CX k fa fd [x] sp) (hbind : ∀ (s : Shared) (u : Value), BindsTo s fd ⟨[u], []⟩ [(x, u)])
    (hsp : ∀ H : Hp, Only H → SqL K H a (ns.map V.int) → sp [.ref a] H (fun v _ => v = .bl true) fun _ _ _ => False)
    (hCX : ∀ H e s', CX [] H s₁ (fun _ _ _ => False) e s' → False) :
    codeAny (model P w) callerA (.call (.ref fa) ⟨[.ref a], []⟩) (fun r s' => r = .ok (.ret (.bool true)) ∧ OldK s₁.heap s'.heap ∧ s'.os = s₁.os ∧ AllBare s'.gens) s₁ := by
  -- the call itself, for a heap in which the script alone may be tracked
  have go : ∀ H : Hp, Only H → SqL K H a (ns.map V.int) → HOk P w H s₁.heap → (∀ b u, H b = some u → b = a ∧ K.lookup a = none) →
      codeAny (model P w) callerA (.call (.ref fa) ⟨[.ref a], []⟩) (fun r s' => r = .ok (.ret (.bool true)) ∧ OldK s₁.heap s'.heap ∧ s'.os = s₁.os ∧ AllBare s'.gens) s₁ := by
    intro H hO hS hok hA
    have free : ∀ b : Addr, (b ≠ a ∨ K.lookup a ≠ none) → H b = none := by
      intro b z
      cases q : H b with
      | none => rfl
      | some u => exact (z.elim (fun z => z (hA b u q).1) fun z => z (hA b u q).2).elim
    have notSeq : ∀ {b : Addr} {m : Str → Option Value}, s₁.heap.Ns b m → b ≠ a := by
      rintro b m ⟨o, es, ep, e, d, _⟩ rfl
      rw [ha] at e
      cases e
      cases d
    have inH : ∀ {b : Addr} {m : Str → Option Value}, s₁.heap.Ns b m → (hidT s₁.heap H).Ns b m := by
      intro b m n
      have nb := free b (Or.inl (notSeq n))
      obtain ⟨o, es, ep, e, r⟩ := n
      exact ⟨o, es, ep, hidT_get e nb, r⟩
    have kin : K.In (hidT s₁.heap H) := by
      intro b o e
      refine hidT_get (KX b o e) ?_
      by_cases hb : b = a
      · exact free b (Or.inr (by rw [← hb, e]; exact fun z => nomatch z))
      · exact free b (Or.inl hb)
    have lim2 : (hidT s₁.heap H).NoLimit := by
      obtain ⟨mc, h1, h2⟩ := hlim
      exact ⟨mc, inH h1, h2⟩
    have e0 : Env0 P w K mg (hidT s₁.heap H) callerA [] s₁ H := by
      refine ⟨rfl, ⟨kin, inH hns, ⟨mb, inH hb, hbb⟩, lim2⟩, fun b o e => of_hidT e, Nat.le_of_eq (hidT_size _ _), True.intro, ?_, hok, .of_eq hg⟩
      intro b hb
      cases hb
    refine codeAny_mono ((F _ kin (inH hns)).runG callerA [] s₁ H ⟨[.ref a], []⟩ [.ref a] [.ref a] _ _ rfl hr e0 (hbind s₁ (.ref a)) (.cons rfl .nil) (hsp H hO hS)) fun r s' h => ?_
    match r, h with
    | .error e, h => exact (hCX H e s' h).elim
    | .ok .next, h => exact h.elim
    | .ok .brk, h => exact h.elim
    | .ok .cont, h => exact h.elim
    | .ok (.ret u), ⟨v, H', os, bare, un, hok', rv, q⟩ =>
      have q2 : v = .bl true := q
      subst q2
      cases rv
      refine ⟨rfl, OldK.of_keep (fun b o e => ?_), os, bare⟩
      rcases hO b with z | ⟨ob, xs, z⟩
      · exact un.keep b o e z (fun z => nomatch z) (fun z => nomatch z)
      · have z1 := (hok b _ z).1
        have z2 := (hok' b _ (un.frzs b ob _ z)).1
        rw [z1] at e
        rw [z2, e]
  have rv := vals_ints hi
  have hlen : (ns.map V.int).length ≤ sizeLine := by rw [List.length_map]; exact hl
  cases hk : K.lookup a with
  | some o =>
    have e := KX a o hk
    rw [ha] at e
    cases e
    exact go (fun _ => none) (fun _ => Or.inl rfl) (Or.inr ⟨_, vs.toArray, _, hk, rfl, rfl, rfl, by rw [List.size_toArray, hi.length]; exact hl, by simpa using rv⟩) (fun b u z => nomatch z) fun b u z => nomatch z
  | none =>
    have at_ : ∀ b u, (if b = a then some (HO.frz { cls := .type "list", data := .seq vs.toArray } (.lst (ns.map V.int))) else none) = some u → b = a ∧ u = .frz { cls := .type "list", data := .seq vs.toArray } (.lst (ns.map V.int)) := by
      intro b u z
      split at z
      · rename_i hb
        exact ⟨hb, (Option.some.inj z).symm⟩
      · cases z
    refine go (fun b => if b = a then some (.frz { cls := .type "list", data := .seq vs.toArray } (.lst (ns.map V.int))) else none) (fun b => ?_) (Or.inl (Or.inr ⟨_, if_pos rfl⟩)) (fun b u z => ?_) fun b u z => ⟨(at_ b u z).1, hk⟩
    · by_cases hb : b = a
      · exact Or.inr ⟨_, _, if_pos hb⟩
      · exact Or.inl (if_neg hb)
    · obtain ⟨rfl, rfl⟩ := at_ b u z
      exact ⟨ha, hlen, vs, _, rv, ha⟩

theorem walk_ofG {l : PySem.W.OpenLaw} {n k : Nat} {q : Program} {loose : List Str} {XP : (Str → Option Value) → Heap → Prop} {YP : World → Heap → Prop} {d : DefRec} {K : Params → PySem.W.Frag} {CX : World → CXT} {sp : World → Sp} {x : Str}
    (hn : l.most = some n) (hn2 : n ≤ sizeLine) (hdf : d.params.defaults = []) (hr : Room k callerA) (hY : ∀ (w : World) (h : Heap), YP w h → (K w.params).In h)
    (F : ∀ (w : World) (mg : Str → Option Value) (fa : Addr) (h : Heap), (K w.params).In h → h.Ns mainGlobals mg → mg d.name = some (.ref fa) →
      ∃ fd : FuncData, (∀ (s : Shared) (u : Value), BindsTo s fd ⟨[u], []⟩ [(x, u)]) ∧ ∀ base : Heap, (K w.params).In base → base.Ns mainGlobals mg → FnG l.prog w (K w.params) mg base (CX w) k fa fd [x] (sp w))
    (hsp : ∀ (w : World) (H : Hp) (a : Addr) (ns : List Int), ns.length ≤ n → (∀ z ∈ ns, Builtin.Int.intBits z ≤ 1048576) → Only H → SqL (K w.params) H a (ns.map V.int) → sp w [.ref a] H (fun v _ => v = .bl true) fun _ _ _ => False)
    (hCX : ∀ (w : World) (H : Hp) (s : Shared) (e : Value) (s' : Shared), CX w [] H s (fun _ _ _ => False) e s' → False) :
    PySem.W.WalkO q loose XP YP l.row.toRowW d [] (fun f vs => PySem.call f vs) := by
  apply Att.attach_callB hn hdf
  intro w s₀ s₁ mg mb fa o pm cd doc a vs ns G Y _ _ _ hmg hobj hints hlen hbits hg
  obtain ⟨fd, hb, hF⟩ := F w mg fa _ (hY w _ Y) G.T.g hmg
  exact law_callG (hY w _ Y) G.T.g G.T.b G.T.builtins G.T.nolimit hg hobj hints (Nat.le_trans hlen hn2) hr hF hb (fun H hO hS => hsp w H a ns hlen hbits hO hS) fun H e s' => hCX w H s₁ e s'
end So

namespace So
open PySem PySem.Spec PyProof.Rows L2
section
variable {K : PySem.W.Frag} {C : Addr}
theorem kit_self : PySem.W.kitOne K (.ref C) (.ref C) = some true := by
  unfold PySem.W.kitOne
  rw [if_pos]
  simp
/-- no built-in type stands below an own class -/
theorem sub_ty {T : String} (h : (fastBuiltinMro T).map (fun l => l.all fun v => match v with | .type _ => true | _ => false) = some true) : PySem.W.subIn K (.type T) (.ref C) = some false := by
  show (fastBuiltinMro T).map (·.contains (.ref C)) = some false
  cases e : fastBuiltinMro T with
  | none => rw [e] at h; cases h
  | some l =>
    rw [e] at h
    have h2 : (l.all fun v => match v with | .type _ => true | _ => false) = true := Option.some.inj h
    show some (l.contains (.ref C)) = some false
    congr 1
    cases c : l.contains (.ref C) with
    | false => rfl
    | true =>
      have m : (Value.ref C) ∈ l := by simpa using c
      have := List.all_eq_true.mp h2 _ m
      cases this
theorem notFirst_ty {T : String} (h : (fastBuiltinMro T).map (fun l => l.all fun v => match v with | .type _ => true | _ => false) = some true) : PySem.W.notFirst K C (.type T) = true := by
  unfold PySem.W.notFirst
  rw [sub_ty h]
  simp
theorem kit_no {T : String} (hc : PySem.W.isClsIn K C = true) (ht : PySem.W.typeIn K (.ref C) = some (.type "type")) (h : (fastBuiltinMro T).map (fun l => l.all fun v => match v with | .type _ => true | _ => false) = some true) : PySem.W.kitOne K (.type T) (.ref C) = some false := by
  unfold PySem.W.kitOne PySem.W.kitCls
  unfold PySem.W.isClsIn at hc
  have hb : ((PySem.W.clsIn K C).isSome && PySem.W.typeIn K (.ref C) == some (.type "type")) = true := by
    rw [hc, ht]
    simp
  have sb := sub_ty (K := K) (C := C) h
  simp [hb, sb]
end
end So

namespace K02
open PySem PySem.Spec PyProof.Rows L2 So
/-! ### the text -/
def topS (i : Nat) : Stmt := PySem.Challenge.pw_soundtill_k02_sayings_in_order.main.body.getD i (.Pass ⟨0, 0, 0, 0⟩)
abbrev sPen : Stmt := topS 28
abbrev sDraw : Stmt := topS 29
abbrev sPick : Stmt := topS 30
abbrev sDrawn : Stmt := topS 31
abbrev sLaw : Stmt := topS 32
theorem scPen : FnScope ["_law_script"] ["_law_script"] (defScope sPen) := ⟨rfl, rfl, rfl, by decide +kernel, rfl, by decide +kernel, by decide +kernel⟩
theorem scDraw : FnScope ["_law_pen_here", "_law_many", "_law_digit", "_law_at", "_law_cell", "_law_great", "_law_mixed"] ["_law_pen_here", "_law_many"] (defScope sDraw) := ⟨rfl, rfl, rfl, by decide +kernel, rfl, by decide +kernel, by decide +kernel⟩
theorem scPick : FnScope ["_law_pen_here", "_law_some"] ["_law_pen_here", "_law_some"] (defScope sPick) := ⟨rfl, rfl, rfl, by decide +kernel, rfl, by decide +kernel, by decide +kernel⟩
theorem scDrawn : FnScope ["_law_pen_here", "_law_word", "_law_tick"] ["_law_pen_here"] (defScope sDrawn) := ⟨rfl, rfl, rfl, by decide +kernel, rfl, by decide +kernel, by decide +kernel⟩

/-! ### the pen -/
/-- the pen at p: the cells at l, how many were begun, what is left of a great one -/
structure Pen (H : Hp) (p l : Addr) (ns : List Int) (n : Nat) (g : Int) : Prop where
  pen : H p = some (.lst [.ref l, .int n, .int g])
  cells : H l = some (.lst (ns.map V.int))
  left : 0 ≤ g
/-- all that was tracked beside p is as it was -/
def Off (p : Addr) (H H' : Hp) : Prop := ∀ b o, b ≠ p → H b = some o → H' b = some o
theorem Off.refl {p : Addr} {H : Hp} : Off p H H := fun _ _ _ e => e
theorem Off.trans {p : Addr} {H H1 H2 : Hp} (a : Off p H H1) (b : Off p H1 H2) : Off p H H2 := fun c o n e => b c o n (a c o n e)
theorem Off.upd {p : Addr} {H H1 : Hp} {o : HO} (a : Off p H H1) : Off p H (upd H1 p o) := fun c u n e => by
  rw [upd_ne n]
  exact a c u n e
theorem Off.new {p q : Addr} {H H1 : Hp} {o : HO} (a : Off p H H1) (h : H1 q = none) : Off p H (L2.upd H1 q o) := fun c u n e => by
  have e1 := a c u n e
  rw [upd_ne (ne_of_none e1 h)]
  exact e1
theorem dp_ints {K : PySem.W.Frag} {H : Hp} : ∀ ns : List Int, DpAll K H (ns.map V.int) (ns.map PyData.int)
  | [] => .nil
  | n :: r => .cons (.int n) (dp_ints r)
theorem depth_ints : ∀ ns : List Int, PyData.depthAll (ns.map PyData.int) ≤ 1
  | [] => by simp [PyData.depthAll]
  | n :: r => by
    have h := depth_ints r
    simp only [List.map_cons, PyData.depthAll, PyData.depth]
    omega
theorem shaped_ints (ns : List Int) : SeqAt.shaped (.list (ns.map PyData.int)) = true := by
  unfold SeqAt.shaped
  rw [Bool.and_eq_true]
  have hd := depth_ints ns
  refine ⟨?_, decide_eq_true ?_⟩
  · show PyData.canLay0 _ = true
    simp only [PyData.canLay0]
    induction ns with
    | nil => rfl
    | cons a r ih => simpa [PyData.canLayAll0, PyData.canLay0] using ih (depth_ints r)
  · simp only [PyData.depth]
    omega
theorem Pen.apart {H : Hp} {p l : Addr} {ns : List Int} {n : Nat} {g : Int} (h : Pen H p l ns n g) : l ≠ p := by
  refine ne_of h.cells h.pen (fun z => ?_)
  injection z with z
  cases ns with
  | nil => cases z
  | cons a r => cases z
theorem eqv_nil (ds : List PyData) : PyData.eqv (.list ds) (.list []) = ds.isEmpty := by
  cases ds <;> simp [PyData.eqv, PyData.eqvAll]
section
variable {P : Program} {w : World} {K : PySem.W.Frag} {mg : Str → Option Value} {base : Heap}
def spDraw : Sp := fun vs H Q _ => ∃ (p l : Addr) (ns : List Int) (n : Nat) (g many : Int), vs = [.ref p, .int many] ∧ Pen H p l ns n g ∧ n < 1000000 ∧ 0 < many ∧ many.natAbs < 2 ^ 200 ∧
  ∀ (d : Int) (n' : Nat) (g' : Int) (H' : Hp), 0 ≤ d → d < many → n' ≤ n + 1 → Off p H H' → Pen H' p l ns n' g' → Q (.int d) H'
theorem ok_draw {f : Addr} {fd : FuncData} (F : Fun K "_law_draw" "_law_draw" sDraw f fd) (ml : mg "len" = none) (mi : mg "int" = none) (ma : mg "abs" = none) : FnOk P w K mg base CX0 1 f fd ["_law_pen_here", "_law_many"] spDraw := by
  refine F.ok scDraw (fun vs H Q E h => ?_) (fun cdv A outer s H vs Q E hr h => ?_)
  · obtain ⟨p, l, ns, n, g, many, rfl, _⟩ := h
    rfl
  · obtain ⟨p, l, ns, n, g, many, rfl, hp, hn, hm, hm2, q⟩ := h
    refine ⟨_, pss_cons (ps_if (pt_cmpR op_gt (pe_ix ix_list (pv 0) pe_int (fun _ _ => rfl)) pe_int (nomark _))
        (pss_cons (ps_set (i := 2) scDraw.nd rfl (.inl rfl) (pe_op op_mod (pe_callTy call_int1 (by rfl) mi (by decide +kernel) (pa_cons (pe_ix ix_list (pv 0) pe_int (fun _ _ => rfl)) pa_nil)) (pv 1)))
        (pss_cons (ps_asg (pe_op op_fdivW (pe_callTy call_int1 (by rfl) mi (by decide +kernel) (pa_cons (pe_ix ix_list (pv 0) pe_int (fun _ _ => rfl)) pa_nil)) (pv 1)) (pg_sub (pv 0) pe_int set_list))
        (pss_one (ps_ret (pv 2))))) pss_nil)
      (pss_cons (ps_set (i := 3) scDraw.nd rfl (.inl rfl) (pe_ix ix_list (pv 0) pe_int (fun _ _ => rfl)))
      (pss_cons (ps_asg (pe_op op_add (pv 3) pe_int) (pg_sub (pv 0) pe_int set_list))
      (pss_cons (ps_set (i := 4) scDraw.nd rfl (.inl rfl) (pe_op op_add (pe_op op_mul pe_int (pv 3)) pe_int))
      (C8.pss_cut (ps_if (pt_cmpR (op_neD (by have := hr.units; exact this)) (pe_ix ix_list (pv 0) pe_int (fun _ _ => rfl)) (pe_lst pa_nil) (nomark _))
        (pss_one (ps_set (i := 4) scDraw.nd rfl (.inl rfl) (pe_ix ix_list (pe_ix ix_list (pv 0) pe_int (fun _ _ => rfl)) (pe_op op_mod (pe_callTy call_int1 (by rfl) mi (by decide +kernel) (pa_cons (pv 3) pa_nil)) (pe_callB call_len_seq (by rfl) ml PySem.boot_len (pa_cons (pe_ix ix_list (pv 0) pe_int (fun _ _ => rfl)) pa_nil))) (fun _ _ => rfl)))) pss_nil)
      (pss_cons (ps_if (PW.pt (pw_and (pt_cmpR op_lt (pv 3) (pe_callB call_len_seq (by rfl) ml PySem.boot_len (pa_cons (pe_ix ix_list (pv 0) pe_int (fun _ _ => rfl)) pa_nil)) (nomark _))
            (pw_and1 (pt_cmpR op_ge (pe_callB call_abs (by rfl) ma (by decide +kernel) (pa_cons (pv 4) pa_nil)) (pe_op op_pow pe_int pe_int) (nomark _)))))
        (pss_cons (ps_set (i := 5) scDraw.nd rfl (.inl rfl) (pe_op op_add (pe_op op_mul pe_int (pe_op op_sub (pe_callB call_abs (by rfl) ma (by decide +kernel) (pa_cons (pv 4) pa_nil)) (pe_op op_pow pe_int pe_int)))
            (pe_callTy call_int1 (by rfl) mi (by decide +kernel) (pa_cons (pe_cmpR op_lt (pv 4) pe_int (nomark _)) pa_nil))))
        (pss_cons (ps_asg (pe_op op_fdivW (pe_callTy call_int1 (by rfl) mi (by decide +kernel) (pa_cons (pv 5) pa_nil)) (pv 1)) (pg_sub (pv 0) pe_int set_list))
        (pss_one (ps_ret (pe_op op_mod (pe_callTy call_int1 (by rfl) mi (by decide +kernel) (pa_cons (pv 5) pa_nil)) (pv 1)))))) pss_nil)
      (pss_cons (ps_set (i := 6) scDraw.nd rfl (.inl rfl) (pe_op op_mod (pe_callTy call_int1 (by rfl) mi (by decide +kernel) (pa_cons
          (pe_op op_pow (pe_op op_add (pe_op op_add (pe_op op_mod (pe_callTy call_int1 (by rfl) mi (by decide +kernel) (pa_cons (pv 4) pa_nil)) pe_int) (pe_op op_mul pe_int (pv 3))) pe_int) pe_int) pa_nil)) pe_int))
      (pss_cons (ps_set (i := 6) scDraw.nd rfl (.inl rfl) (pe_op op_mod (pe_callTy call_int1 (by rfl) mi (by decide +kernel) (pa_cons
          (pe_op op_pow (pe_op op_add (pe_op op_add (pe_op op_mul (pv 6) (pe_op op_add (pe_op op_mul pe_int (pv 3)) pe_int)) (pe_op op_mul (pe_op op_mul pe_int (pv 3)) (pv 3))) pe_int) pe_int) pa_nil)) pe_int))
      (pss_one (ps_ret (pe_op op_mod (pe_callTy call_int1 (by rfl) mi (by decide +kernel) (pa_cons (pe_op op_fdiv (pv 6) pe_int) pa_nil)) (pv 1))))))))))), ?_⟩
    have hP : SqL K H p [.ref l, .int n, .int g] := SqL.of hp.pen
    refine ⟨_, rfl, p, _, 2, _, rfl, rfl, hP, atI_nat (j := 2) rfl, _, _, rfl, rfl, _, rfl, ite2 (fun e => ?_) (fun e => ?_)⟩
    · refine ⟨_, rfl, p, _, 2, _, rfl, rfl, hP, atI_nat (j := 2) rfl, .inl ⟨_, rfl, _, rfl, _, _, rfl, rfl, hm, ?_⟩⟩
      refine ⟨_, rfl, p, _, 2, _, rfl, rfl, hP, atI_nat (j := 2) rfl, .inl ⟨_, rfl, _, rfl, _, _, rfl, rfl, wide_div hm hm2 (by decide) (by decide), _, rfl, p, _, 2, 2, rfl, rfl, hp.pen, rfl, ?_⟩⟩
      refine ⟨_, rfl, q _ n (g / many) _ (Int.emod_nonneg _ (Int.ne_of_gt hm)) (Int.emod_lt_of_pos _ hm) (by omega) Off.refl.upd ⟨upd_same, (upd_ne hp.apart).trans hp.cells, Int.ediv_nonneg hp.left (Int.le_of_lt hm)⟩⟩
    · refine ⟨_, rfl, p, _, 1, _, rfl, rfl, hP, atI_nat (j := 1) rfl, ?_⟩
      refine ⟨_, rfl, _, _, rfl, rfl, _, rfl, p, _, 1, 1, rfl, rfl, hp.pen, rfl, ?_⟩
      have hP1 : (upd H p (.lst [.ref l, .int (n + 1), .int g])) p = some (.lst [.ref l, .int (n + 1), .int g]) := upd_same
      have hL1 : (upd H p (.lst [.ref l, .int (n + 1), .int g])) l = some (.lst (ns.map V.int)) := (upd_ne hp.apart).trans hp.cells
      have hO1 : Off p H (upd H p (.lst [.ref l, .int (n + 1), .int g])) := Off.refl.upd
      refine ⟨_, rfl, _, _, rfl, rfl, .inl ⟨by decide, by decide⟩, _, _, rfl, rfl, ?_⟩
      refine ⟨fun σ' H2 => ∃ c : Int, σ' = [some (.ref p), some (.int many), none, some (.int n), some (.int c), none, none] ∧ H2 p = some (.lst [.ref l, .int (n + 1), .int g]) ∧ H2 l = some (.lst (ns.map V.int)) ∧ Off p H H2, ?_, ?_⟩
      · refine ⟨_, rfl, p, _, 0, _, rfl, rfl, SqL.of hP1, atI_nat (j := 0) rfl, Nat.zero_le _, fun z hz => ?_⟩
        have hP2 := (upd_ne (o := .lst []) (ne_of_none hP1 hz)).trans hP1
        have hL2 := (upd_ne (o := .lst []) (ne_of_none hL1 hz)).trans hL1
        refine ⟨.list (ns.map PyData.int), .list [], .lst (SqL.of hL2) (dp_ints ns), .lst (SqL.of upd_same) .nil, shaped_ints ns, by decide, _, rfl, ite2 (fun e1 => ?_) (fun e1 => ?_)⟩
        · rw [eqv_nil] at e1
          have hlen : 0 < ns.length := by
            cases ns with
            | nil => cases e1
            | cons a r => exact Nat.succ_pos _
          have hlt : n % ns.length < ns.length := Nat.mod_lt _ hlen
          refine ⟨_, rfl, p, _, 0, _, rfl, rfl, SqL.of hP2, atI_nat (j := 0) rfl, _, rfl, .inl ⟨_, rfl, _, rfl, p, _, 0, _, rfl, rfl, SqL.of hP2, atI_nat (j := 0) rfl, l, _, rfl, .inl (SqL.of hL2), _, _, rfl, rfl, (by rw [List.length_map]; omega), l, _, _, .int ns[n % ns.length], rfl, rfl, SqL.of hL2, ?_, ?_⟩⟩
          · have e2 : ((n : Int) % (((ns.map V.int).length : Nat) : Int)) = ((n % ns.length : Nat) : Int) := by
              rw [List.length_map]
              exact (Int.natCast_emod n ns.length).symm
            rw [e2]
            refine atI_nat ?_
            rw [List.getElem?_map, List.getElem?_eq_getElem hlt]
            rfl
          · exact ⟨_, rfl, hP2, hL2, hO1.new hz⟩
        · exact ⟨_, rfl, hP2, hL2, hO1.new hz⟩
      · rintro σ' H2 ⟨c, rfl, hP2, hL2, hO2⟩
        have hmix : ∀ t : Int, 0 ≤ t % many ∧ t % many < many := fun t => ⟨Int.emod_nonneg _ (Int.ne_of_gt hm), Int.emod_lt_of_pos _ hm⟩
        have bm : ∀ Y : Int, 0 ≤ Y % 2147483629 ∧ Y % 2147483629 < 2147483629 := fun Y => ⟨Int.emod_nonneg _ (by decide), Int.emod_lt_of_pos _ (by decide)⟩
        have bd : ∀ Y : Int, -(2 ^ 64) < Y % 2147483629 ∧ Y % 2147483629 < 2 ^ 64 := fun Y => by
          have := bm Y
          omega
        have key : ∀ Y : Int, ((Y % 2147483629) * (2 * (n : Int) + 35) + 53061 * (n : Int) * (n : Int) + 17).natAbs < 2 ^ 64 := by
          intro Y
          have b2 := bm Y
          revert b2
          generalize Y % 2147483629 = m1
          intro b2
          have b3 : 0 ≤ m1 * (2 * (n : Int) + 35) ∧ m1 * (2 * (n : Int) + 35) ≤ 2147483629 * 2000035 := ⟨Int.mul_nonneg b2.1 (by omega), Int.mul_le_mul (by omega) (by omega) (by omega) (by decide)⟩
          have b4 : 0 ≤ 53061 * (n : Int) * (n : Int) ∧ 53061 * (n : Int) * (n : Int) ≤ (53061 * 1000000) * 1000000 := ⟨Int.mul_nonneg (by omega) (by omega), Int.mul_le_mul (by omega) (by omega) (by omega) (by decide)⟩
          omega
        refine ⟨_, rfl, _, rfl, p, _, 0, _, rfl, rfl, SqL.of hP2, atI_nat (j := 0) rfl, l, _, rfl, .inl (SqL.of hL2), _, _, rfl, rfl, _, rfl, ite2 (fun e1 => ⟨_, rfl, _, rfl, _, _, rfl, rfl, ⟨by decide, by decide, by decide⟩, _, _, rfl, rfl, _, rfl, ite2 (fun e2 => ?great) (fun e2 => ?late)⟩) (fun e1 => ?small)⟩
        case great =>
          have e3 : (10 : Int) ^ (18 : Int).toNat ≤ (if c < 0 then -c else c) := of_decide_eq_true e2
          refine ⟨_, rfl, _, rfl, _, _, rfl, rfl, ⟨by decide, by decide, by decide⟩, _, _, rfl, rfl, _, _, rfl, rfl, .inl ⟨by decide, by decide⟩, _, rfl, _, _, rfl, rfl, .inr ⟨_, rfl, _, _, rfl, rfl, ?_⟩⟩
          have hG : ∀ k : Bool, 0 ≤ 2 * ((if c < 0 then -c else c) - (10 : Int) ^ (18 : Int).toNat) + (if k = true then (1 : Int) else 0) := by
            intro k
            have : (0 : Int) ≤ (if k = true then (1 : Int) else 0) := by cases k <;> decide
            omega
          have hG1 := hG (decide (c < 0))
          refine ⟨_, rfl, .inl ⟨_, rfl, _, rfl, _, _, rfl, rfl, wide_div hm hm2 (by decide) (by decide), _, rfl, p, _, 2, 2, rfl, rfl, hP2, rfl, ?_⟩⟩
          exact ⟨_, rfl, .inl ⟨_, rfl, _, rfl, _, _, rfl, rfl, hm, q _ (n + 1) _ _ (hmix _).1 (hmix _).2 (Nat.le_refl _) hO2.upd ⟨upd_same, (upd_ne (Pen.apart ⟨hP2, hL2, hp.left⟩)).trans hL2, Int.ediv_nonneg hG1 (Int.le_of_lt hm)⟩⟩⟩
        all_goals
          have b1 : 0 ≤ c % 2147483563 ∧ c % 2147483563 < 2147483563 := ⟨Int.emod_nonneg _ (by decide), Int.emod_lt_of_pos _ (by decide)⟩
          refine ⟨_, rfl, .inl ⟨_, rfl, _, _, rfl, rfl, (by decide : (0 : Int) < 2147483563), _, rfl, _, _, rfl, rfl, .inl ⟨by decide, by decide⟩, _, _, rfl, rfl, _, _, rfl, rfl, _, _, rfl, rfl, ⟨by decide, by decide, ?_⟩, .inl ⟨_, rfl, _, _, rfl, rfl, (by decide : (0 : Int) < 2147483629), ?_⟩⟩⟩
          · omega
          refine ⟨_, rfl, _, rfl, _, _, rfl, rfl, .inl ⟨by decide, by decide⟩, _, _, rfl, rfl, _, _, rfl, rfl, .inl (bd _), _, rfl, _, _, rfl, rfl, .inl ⟨by decide, by decide⟩, _, rfl, _, _, rfl, rfl, .inr ⟨?_, ?_⟩, _, _, rfl, rfl, _, _, rfl, rfl, _, _, rfl, rfl, ⟨by decide, by decide, key _⟩, .inl ⟨_, rfl, _, _, rfl, rfl, (by decide : (0 : Int) < 2147483587), ?_⟩⟩
          · omega
          · omega
          exact ⟨_, rfl, _, _, rfl, rfl, ⟨by decide, by decide⟩, .inl ⟨_, rfl, _, rfl, _, _, rfl, rfl, hm, q _ (n + 1) g H2 (hmix _).1 (hmix _).2 (Nat.le_refl _) hO2 ⟨hP2, hL2, hp.left⟩⟩⟩

/-- one of a list's things -/
def spPick (K : PySem.W.Frag) : Sp := fun vs H Q _ => ∃ (p q l : Addr) (ns : List Int) (n : Nat) (g : Int) (xs : List V), vs = [.ref p, .ref q] ∧ Pen H p l ns n g ∧ n < 1000000 ∧ q ≠ p ∧ H q = some (.lst xs) ∧ 0 < xs.length ∧ xs.length ≤ 1000 ∧
  ∀ (v : V) (n' : Nat) (g' : Int) (H' : Hp), v ∈ xs → n' ≤ n + 1 → Off p H H' → Pen H' p l ns n' g' → Q v H'
theorem ok_pick {f fD : Addr} {fd fdD : FuncData} (F : Fun K "_law_pick" "_law_pick" sPick f fd) (ml : mg "len" = none) (FD : Fun K "_law_draw" "_law_draw" sDraw fD fdD) (bD : Binds K fdD ["_law_pen_here", "_law_many"] []) (gD : mg "_law_draw" = some (.ref fD))
    (GD : FnOk P w K mg base CX0 1 fD fdD ["_law_pen_here", "_law_many"] spDraw) : FnOk P w K mg base CX0 2 f fd ["_law_pen_here", "_law_some"] (spPick K) := by
  refine F.ok scPick (fun vs H Q E h => ?_) (fun cdv A outer s H vs Q E hr h => ?_)
  · obtain ⟨p, q, l, ns, n, g, xs, rfl, _⟩ := h
    rfl
  · obtain ⟨p, q, l, ns, n, g, xs, rfl, hp, hn, hne, hq, h0, h1, k⟩ := h
    refine ⟨_, pss_one (ps_ret (pe_ix ix_list (pv 1) (pe_call GD hr (by rfl) gD FD.kp bD .nil pass0 (pa_cons (pv 0) (pa_cons (pe_callB call_len_seq (by rfl) ml PySem.boot_len (pa_cons (pv 1) pa_nil)) pa_nil))) (fun _ _ => rfl))), ?_⟩
    refine ⟨_, rfl, _, rfl, _, rfl, q, _, rfl, .inl (SqL.of hq), p, l, ns, n, g, _, rfl, hp, hn, by omega, ?_, ?_⟩
    · have : ((xs.length : Nat) : Int).natAbs = xs.length := Int.natAbs_natCast _
      rw [this]
      exact Nat.lt_of_le_of_lt h1 (by decide)
    · intro d n' g' H' d0 d1 hn' off pen
      obtain ⟨j, rfl⟩ : ∃ j : Nat, d = j := ⟨d.toNat, by omega⟩
      have hlt : j < xs.length := by omega
      exact ⟨q, xs, j, xs[j], rfl, rfl, SqL.of (off q _ hne hq), atI_nat (List.getElem?_eq_getElem hlt), k _ n' g' H' (List.getElem_mem hlt) hn' off pen⟩
theorem Pen.new {H : Hp} {p l q : Addr} {ns : List Int} {n : Nat} {g : Int} {o : HO} (h : Pen H p l ns n g) (hq : H q = none) : Pen (upd H q o) p l ns n g :=
  ⟨(upd_ne (ne_of_none h.pen hq)).trans h.pen, (upd_ne (ne_of_none h.cells hq)).trans h.cells, h.left⟩
def six : List Str := ["a", "aa", "b", "a0", "z9", "aaaaaaaa"]
/-- a drawn face: the tuple of a name, a moment, a truth -/
def spDrawn : Sp := fun vs H Q _ => ∃ (p l : Addr) (ns : List Int) (n : Nat) (g : Int), vs = [.ref p] ∧ Pen H p l ns n g ∧ n < 999000 ∧
  ∀ (w : Str) (m : Int) (b : Bool) (t : Addr) (n' : Nat) (g' : Int) (H' : Hp), w ∈ six → 0 ≤ m → m ≤ 1000000000000000000000000000000 → n' ≤ n + 4 → Off p H H' → Pen H' p l ns n' g' → H' t = some (.tup [.str w, .int m, .bl b]) → Q (.ref t) H'
theorem ok_drawn {f fD fP : Addr} {fd fdD fdP : FuncData} (F : Fun K "_law_drawn" "_law_drawn" sDrawn f fd) (FD : Fun K "_law_draw" "_law_draw" sDraw fD fdD) (bD : Binds K fdD ["_law_pen_here", "_law_many"] []) (gD : mg "_law_draw" = some (.ref fD))
    (GD : FnOk P w K mg base CX0 1 fD fdD ["_law_pen_here", "_law_many"] spDraw) (FP : Fun K "_law_pick" "_law_pick" sPick fP fdP) (bP : Binds K fdP ["_law_pen_here", "_law_some"] []) (gP : mg "_law_pick" = some (.ref fP))
    (GP : FnOk P w K mg base CX0 2 fP fdP ["_law_pen_here", "_law_some"] (spPick K)) : FnOk P w K mg base CX0 3 f fd ["_law_pen_here"] spDrawn := by
  refine F.ok scDrawn (fun vs H Q E h => ?_) (fun cdv A outer s H vs Q E hr h => ?_)
  · obtain ⟨p, l, ns, n, g, rfl, _⟩ := h
    rfl
  · obtain ⟨p, l, ns, n, g, rfl, hp, hn, k⟩ := h
    have hr1 : Room 1 _ := hr.mono (by decide)
    refine ⟨_, pss_cons (ps_set (i := 1) scDrawn.nd rfl (.inl rfl) (pe_call GP hr (by rfl) gP FP.kp bP .nil pass0 (pa_cons (pv 0) (pa_cons (pe_lst (pa_cons pe_str (pa_cons pe_str (pa_cons pe_str (pa_cons pe_str (pa_cons pe_str (pa_cons pe_str pa_nil))))))) pa_nil))))
      (pss_cons (ps_set (i := 2) scDrawn.nd rfl (.inl rfl) (pe_call GP hr (by rfl) gP FP.kp bP .nil pass0 (pa_cons (pv 0) (pa_cons (pe_lst (pa_cons pe_int (pa_cons pe_int (pa_cons pe_int (pa_cons pe_int (pa_cons pe_int (pa_cons (pe_op op_pow pe_int pe_int)
          (pa_cons (pe_op op_sub (pe_op op_pow pe_int pe_int) pe_int) (pa_cons (pe_call GD hr1 (by rfl) gD FD.kp bD .nil pass0 (pa_cons (pv 0) (pa_cons (pe_op op_pow pe_int pe_int) pa_nil))) pa_nil))))))))) pa_nil))))
      (pss_one (ps_ret (pe_tup (pa_cons (pv 1) (pa_cons (pv 2) (pa_cons (pe_cmpR op_eq (pe_call GD hr1 (by rfl) gD FD.kp bD .nil pass0 (pa_cons (pv 0) (pa_cons pe_int pa_nil))) pe_int (nomark _)) pa_nil))))))), ?_⟩
    refine ⟨_, rfl, by decide, fun q hq => ?_⟩
    have pen0 : Pen (upd H q (.lst [V.str "a", V.str "aa", V.str "b", V.str "a0", V.str "z9", V.str "aaaaaaaa"])) p l ns n g := hp.new hq
    refine ⟨p, q, l, ns, n, g, _, rfl, pen0, by omega, (ne_of_none hp.pen hq).symm, upd_same, by decide, by decide, fun v n1 g1 H1 hv hn1 off1 pen1 => ?_⟩
    obtain ⟨z, hz, rfl⟩ : ∃ z, z ∈ six ∧ v = .str z := by
      have : v ∈ six.map V.str := hv
      obtain ⟨z, h1, h2⟩ := List.mem_map.mp this
      exact ⟨z, h1, h2.symm⟩
    refine ⟨_, rfl, _, _, rfl, rfl, ⟨by decide, by decide, by decide⟩, _, _, rfl, rfl, ⟨by decide, by decide, by decide⟩, _, _, rfl, rfl, _, rfl, _, _, rfl, rfl, ⟨by decide, by decide, by decide⟩, p, l, ns, n1, g1, _, rfl, pen1, by omega, by decide, by decide, ?_⟩
    intro d n2 g2 H2 d0 d1 hn2 off2 pen2
    refine ⟨(by show 8 ≤ sizeLine; decide), fun q2 hq2 => ?_⟩
    refine ⟨p, q2, l, ns, n2, g2, _, rfl, pen2.new hq2, by omega, (ne_of_none pen2.pen hq2).symm, upd_same, (by show 0 < 8; decide), (by show 8 ≤ 1000; decide), fun v n3 g3 H3 hv hn3 off3 pen3 => ?_⟩
    obtain ⟨m, m0, m1, rfl⟩ : ∃ m : Int, 0 ≤ m ∧ m ≤ 1000000000000000000000000000000 ∧ v = .int m := by
      have d1' : d < 1000000000000000000000000000000 := d1
      simp only [List.mem_cons, List.not_mem_nil, or_false] at hv
      rcases hv with h | h | h | h | h | h | h | h <;> subst h
      · exact ⟨_, by decide, by decide, rfl⟩
      · exact ⟨_, by decide, by decide, rfl⟩
      · exact ⟨_, by decide, by decide, rfl⟩
      · exact ⟨_, by decide, by decide, rfl⟩
      · exact ⟨_, by decide, by decide, rfl⟩
      · exact ⟨_, by decide, by decide, rfl⟩
      · exact ⟨_, by decide, by decide, rfl⟩
      · exact ⟨_, d0, by omega, rfl⟩
    refine ⟨_, rfl, _, rfl, _, rfl, p, l, ns, n3, g3, _, rfl, pen3, by omega, by decide, by decide, ?_⟩
    intro d' n4 g4 H4 d0' d1' hn4 off4 pen4
    refine ⟨rfl, (by show 3 ≤ sizeLine; decide), fun t ht => ?_⟩
    exact k z m _ t n4 g4 _ hz m0 m1 (by omega) (((((Off.refl.new hq).trans off1).trans off2).trans ((Off.refl.new hq2).trans off3)).trans (off4.new ht)) (pen4.new ht) upd_same
end
end K02

namespace K02
open PySem PySem.Spec PyProof.Rows L2 So
abbrev sWhole : Stmt := topS 14
abbrev sMoment : Stmt := topS 15
abbrev sName : Stmt := topS 16
abbrev sCheck : Stmt := topS 17
abbrev sWordOf : Stmt := topS 24
theorem scWhole : FnScope ["value"] ["value"] (defScope sWhole) := ⟨rfl, rfl, rfl, by decide +kernel, rfl, by decide +kernel, by decide +kernel⟩
theorem scMoment : FnScope ["value"] ["value"] (defScope sMoment) := ⟨rfl, rfl, rfl, by decide +kernel, rfl, by decide +kernel, by decide +kernel⟩
theorem scName : FnScope ["value", "sign"] ["value"] (defScope sName) := ⟨rfl, rfl, rfl, by decide +kernel, rfl, by decide +kernel, by decide +kernel⟩
theorem scCheck : FnScope ["value", "form"] ["value", "form"] (defScope sCheck) := ⟨rfl, rfl, rfl, by decide +kernel, rfl, by decide +kernel, by decide +kernel⟩
theorem scWordOf : FnScope ["value"] ["value"] (defScope sWordOf) := ⟨rfl, rfl, rfl, by decide +kernel, rfl, by decide +kernel, by decide +kernel⟩
/-! ### what a name is -/
def letters : Str := "abcdefghijklmnopqrstuvwxyz"
def digits : Str := "0123456789"
def noNames : List Str := ["begun", "setby", "found", "trusted", "passed", "failed", "agreed", "differed", "served", "backed", "sound", "unsound", "sure", "never", "open", "none", "record", "lot", "menu", "wanted"]
def isAln (c : Nat) : Bool := decide (c ∈ (letters ++ digits).cps.toList)
def isName (z : Str) : Bool := decide (1 ≤ z.length) && decide (z.length ≤ 8) && !(noNames.contains z) && decide (z.cps.toList.headD 0 ∈ letters.cps.toList) && z.cps.toList.all isAln
/-- the module's names that the words of the package read -/
structure Words (K : PySem.W.Frag) (mg : Str → Option Value) : Prop where
  greatest : ∃ t, mg "GREATEST" = some (.int 1000000000000000000000000000000 t)
  longest : ∃ t, mg "LONGEST_NAME" = some (.int 8 t)
  letters : ∃ t, mg "LETTERS" = some (.str letters t)
  digits : ∃ t, mg "DIGITS" = some (.str digits t)
  noNames : ∃ a, mg "NO_NAMES" = some (.ref a) ∧ ∀ H : Hp, SqT K H a (noNames.map V.str)
  isi : mg "isinstance" = none
  int : mg "int" = none
  bool : mg "bool" = none
  str : mg "str" = none
  len : mg "len" = none
  all : mg "all" = none
section
variable {P : Program} {w : World} {K : PySem.W.Frag} {mg : Str → Option Value} {base : Heap}
theorem kit_int_int : PySem.W.kitOne K (.type "int") (.type "int") = some true := kit_ty (by decide +kernel)
theorem kit_int_bool : PySem.W.kitOne K (.type "int") (.type "bool") = some false := kit_ty (by decide +kernel)
theorem kit_str_str : PySem.W.kitOne K (.type "str") (.type "str") = some true := kit_ty (by decide +kernel)
theorem kit_bool_bool : PySem.W.kitOne K (.type "bool") (.type "bool") = some true := kit_ty (by decide +kernel)
/-- is_whole of an int -/
def spWhole : Sp := fun vs H Q _ => ∃ i : Int, vs = [.int i] ∧ Q (.bl true) H
theorem ok_whole {f : Addr} {fd : FuncData} (F : Fun K "is_whole" "is_whole" sWhole f fd) (W : Words K mg) : FnOk P w K mg base CX0 1 f fd ["value"] spWhole := by
  refine F.ok scWhole (fun vs H Q E h => ?_) (fun cdv A outer s H vs Q E hr h => ?_)
  · obtain ⟨i, rfl, _⟩ := h
    rfl
  · obtain ⟨i, rfl, q⟩ := h
    refine ⟨_, pss_one (ps_ret (pe_and (pe_callB call_isi (by rfl) W.isi (by decide +kernel) (pa_cons (pv 0) (pa_cons (pe_bltn (v := .ty "int") (by rfl) W.int (by decide +kernel) rfl) pa_nil)))
      (pe_one (pe_not (pe_callB call_isi (by rfl) W.isi (by decide +kernel) (pa_cons (pv 0) (pa_cons (pe_bltn (v := .ty "bool") (by rfl) W.bool (by decide +kernel) rfl) pa_nil))))))), ?_⟩
    refine ⟨_, rfl, _, _, _, _, true, rfl, .ty "int", .base (.int i), kit_int_int, true, rfl, iteT ?_⟩
    exact ⟨_, rfl, _, _, _, _, false, rfl, .ty "bool", .base (.int i), kit_int_bool, _, rfl, q⟩
/-- is_moment of an int -/
def spMoment : Sp := fun vs H Q _ => ∃ i : Int, vs = [.int i] ∧ Q (.bl (decide (0 ≤ i ∧ i ≤ 1000000000000000000000000000000))) H
theorem ok_moment {f fW : Addr} {fd fdW : FuncData} (F : Fun K "is_moment" "is_moment" sMoment f fd) (W : Words K mg) (FW : Fun K "is_whole" "is_whole" sWhole fW fdW) (bW : Binds K fdW ["value"] []) (gW : mg "is_whole" = some (.ref fW)) :
    FnOk P w K mg base CX0 2 f fd ["value"] spMoment := by
  have GW : FnOk P w K mg base CX0 1 fW fdW ["value"] spWhole := ok_whole FW W
  refine F.ok scMoment (fun vs H Q E h => ?_) (fun cdv A outer s H vs Q E hr h => ?_)
  · obtain ⟨i, rfl, _⟩ := h
    rfl
  · obtain ⟨i, rfl, q⟩ := h
    obtain ⟨tG, hG⟩ := W.greatest
    refine ⟨_, pss_one (ps_ret (pe_and (pe_call GW hr (by rfl) gW FW.kp bW .nil pass0 (pa_cons (pv 0) pa_nil)) (pe_one (pe_chain op_le op_le pe_int (pv 0) (pe_glob (v := .int 1000000000000000000000000000000) rfl hG ⟨_, rfl⟩))))), ?_⟩
    refine ⟨_, rfl, i, rfl, true, rfl, iteT ?_⟩
    refine ⟨_, rfl, _, _, rfl, rfl, _, rfl, ite2 (fun e => ?_) (fun e => ?_)⟩
    · have e' : 0 ≤ i := of_decide_eq_true e
      refine ⟨_, _, rfl, rfl, ?_⟩
      have : decide (0 ≤ i ∧ i ≤ 1000000000000000000000000000000) = decide (i ≤ 1000000000000000000000000000000) := by simp [e']
      rw [this] at q
      exact q
    · have e' : ¬ 0 ≤ i := fun z => e (decide_eq_true z)
      have : decide (0 ≤ i ∧ i ≤ 1000000000000000000000000000000) = false := by simp [e']
      rw [this] at q
      exact q

theorem inV_strs (z : Str) : ∀ l : List Str, inV (.str z) (l.map V.str) = l.contains z
  | [] => rfl
  | x :: r => by
    have h := inV_strs z r
    have e : eqV (.str x) (.str z) = (z == x) := Bool.beq_comm (a := x) (b := z)
    show (eqV (.str x) (.str z) || inV (.str z) (r.map V.str)) = _
    rw [h, e, List.contains_cons]
theorem flat_strs (l : List Str) : (l.map V.str).all flatV = true := by
  rw [List.all_map]
  exact List.all_eq_true.mpr fun _ _ => rfl
theorem Same.over {H H1 : Hp} {D : Addr} {o : HO} (s : Same H H1) (h : H D = none) : Same H (upd H1 D o) := fun b u e => by
  rw [upd_ne (ne_of_none e h)]
  exact s b u e
/-- is_name of a text -/
def spName : Sp := fun vs H Q _ => ∃ z : Str, vs = [.str z] ∧ z.length ≤ 2000 ∧ ∀ H', Same H H' → Q (.bl (isName z)) H'
theorem ok_name {f : Addr} {fd : FuncData} (F : Fun K "is_name" "is_name" sName f fd) (W : Words K mg) : FnOk P w K mg base CX0 1 f fd ["value"] spName := by
  refine F.ok scName (fun vs H Q E h => ?_) (fun cdv A outer s H vs Q E hr h => ?_)
  · obtain ⟨i, rfl, _⟩ := h
    rfl
  · obtain ⟨z, rfl, hz, q⟩ := h
    obtain ⟨tL, hL⟩ := W.longest
    obtain ⟨tA, hA⟩ := W.letters
    obtain ⟨tD, hD⟩ := W.digits
    obtain ⟨aN, gN, hN⟩ := W.noNames
    have gA : ∀ {X : Cx}, X.mg = mg → True := fun _ => trivial
    refine ⟨_, pss_cons (ps_if (PW.pt (pw_or (pt_not (pt_val (pe_callB call_isi (by rfl) W.isi (by decide +kernel) (pa_cons (pv 0) (pa_cons (pe_bltn (v := .ty "str") (by rfl) W.str (by decide +kernel) rfl) pa_nil)))))
        (pw_or (pt_not (pt_chain op_le op_le pe_int (pe_callB call_len_str (by rfl) W.len PySem.boot_len (pa_cons (pv 0) pa_nil)) (pe_glob (v := .int 8) rfl hL ⟨_, rfl⟩)))
          (pw_or1 (pt_cmpR op_in_seq (pv 0) (pe_glob (v := .ref aN) rfl gN rfl) (by rfl))))))
        (pss_one (ps_ret pe_bl)) pss_nil)
      (pss_one (ps_ret (pe_and (pe_cmpR op_in_sign (pe_ix ix_str (pv 0) pe_int (fun _ _ => rfl)) (pe_glob (v := .str letters) rfl hA ⟨_, rfl⟩) (by rfl))
        (pe_one (pe_callB (cr_all rfl) (by rfl) W.all (by decide +kernel) (pa_cons (pe_lc (own := [("sign", 1)]) (g := gName 1) (tt := tYes) rfl scName.nd (pi_str (pv 0)) (blkOk_by (N := ["value", "sign"]) (sc := defScope sName) (by decide +kernel))
          (fun _ _ _ _ _ => pg_name (i := 1) scName.nd rfl (Or.inl rfl)) (fun _ _ _ _ _ => pts_nil)
          (fun _ _ _ _ _ => pe_cmpR op_in_sign (pv 1) (pe_op op_add_str (pe_glob (v := .str letters) rfl hA ⟨_, rfl⟩) (pe_glob (v := .str digits) rfl hD ⟨_, rfl⟩)) (by rfl))) pa_nil)))))), ?_⟩
    have hzl : z.length ≤ sizeLine := Nat.le_trans hz (by decide)
    refine ⟨_, rfl, _, _, _, _, true, rfl, .ty "str", .base (.str z), kit_str_str, true, rfl, iteF ?_⟩
    have no : isName z = false → Q (.bl false) H := fun e => by
      have := q H (Same.refl H)
      rw [e] at this
      exact this
    refine ⟨_, rfl, _, rfl, hzl, _, _, rfl, rfl, _, rfl, ite2 (fun c1 => ?_) (fun c1 => ⟨_, rfl, iteT (no ?_)⟩)⟩
    case refine_2 =>
      have c1' : ¬ (1 : Int) ≤ ((z.length : Nat) : Int) := fun e => c1 (decide_eq_true e)
      unfold isName
      rw [show decide (1 ≤ z.length) = false from decide_eq_false (by omega)]
      rfl
    have c1' : (1 : Int) ≤ ((z.length : Nat) : Int) := of_decide_eq_true c1
    refine ⟨_, _, rfl, rfl, _, rfl, ?_⟩
    by_cases c2 : ((z.length : Nat) : Int) ≤ 8
    case neg =>
      rw [decide_eq_false c2]
      refine iteT (no ?_)
      unfold isName
      rw [show decide (z.length ≤ 8) = false from decide_eq_false (by omega), Bool.and_false]
      rfl
    rw [decide_eq_true c2]
    refine iteF ⟨_, rfl, aN, _, rfl, .inr (hN H), rfl, flat_strs _, ?_⟩
    refine ⟨_, rfl, ?_⟩
    rw [show inV (.str z) (noNames.map V.str) = noNames.contains z from inV_strs z noNames]
    cases c3 : noNames.contains z with
    | true =>
      refine iteT (no ?_)
      unfold isName
      rw [c3, Bool.not_true, Bool.and_false]
      rfl
    | false =>
      refine iteF ?_
      have hz0 : 0 < z.cps.toList.length := by
        have : z.length = z.cps.toList.length := Array.length_toList.symm
        omega
      obtain ⟨c0, cr, hc⟩ : ∃ c0 cr, z.cps.toList = c0 :: cr := by
        cases e : z.cps.toList with
        | nil => rw [e] at hz0; cases hz0
        | cons a r => exact ⟨a, r, rfl⟩
      have e1 : decide (1 ≤ z.length) = true := decide_eq_true (by omega)
      have e2 : decide (z.length ≤ 8) = true := decide_eq_true (by omega)
      have e3 : isName z = (decide (c0 ∈ letters.cps.toList) && z.cps.toList.all isAln) := by
        unfold isName
        rw [e1, e2, c3, hc]
        rfl
      refine ⟨_, rfl, _, _, c0, rfl, rfl, hzl, ?_, _, _, rfl, rfl, _, rfl, ite2 (fun c4 => ?_) (fun c4 => ?_)⟩
      · rw [hc]
        exact atI_nat (j := 0) rfl
      · refine ⟨_, rfl, _, rfl, fun D hD => lc_it walk_str (fun i H' => H' D = some (.lst ((z.cps.toList.take i).map fun c => V.bl (isAln c))) ∧ Same H H') ⟨?_, ?_⟩ (fun _ _ _ _ => trivial) ?_ ?_⟩
        · exact upd_same
        · exact Same.over (Same.refl H) hD
        · rintro i x H1 H2 hi ⟨h1, s1⟩ ⟨rfl, c, hc1, rfl⟩
          have hc2 : z.cps.toList[i]? = some c := by
            rw [Array.getElem?_toList]
            exact hc1
          refine ⟨rfl, _, rfl, _, _, rfl, rfl, by decide, c, _, rfl, rfl, _, h1, ?_, ?_, Same.over s1 hD⟩
          · rw [List.length_map, List.length_take]
            have : z.cps.toList.length = z.length := Array.length_toList
            exact Nat.lt_of_le_of_lt (Nat.le_trans (Nat.min_le_right _ _) (by omega)) (by decide : 2000 < sizeLine)
          · rw [upd_same, List.take_add_one, hc2, List.map_append]
            rfl
        · rintro H1 ⟨h1, s1⟩
          refine ⟨D, z.cps.toList.map isAln, rfl, SqL.of ?_, ?_⟩
          · rw [h1, List.take_of_length_le (by rw [Array.length_toList]; exact Nat.le_refl _), List.map_map]
            rfl
          · have := q H1 s1
            rw [e3, show decide (c0 ∈ letters.cps.toList) = true from c4, Bool.true_and] at this
            rw [List.all_map]
            exact this
      · refine no ?_
        rw [e3]
        have : decide (c0 ∈ letters.cps.toList) = false := by
          cases h : decide (c0 ∈ letters.cps.toList) with
          | true => exact absurd h c4
          | false => rfl
        rw [this]
        rfl
end
end K02

namespace K02
open PySem PySem.Spec PyProof.Rows L2 So
section
variable {P : Program} {w : World} {K : PySem.W.Frag} {mg : Str → Option Value} {base : Heap}
theorem notS {a b : Str} (h : a ≠ b) : ¬ (decide (V.str a = V.str b) = true) := fun e => h (V.str.inj (of_decide_eq_true e))
/-- check_form of what has the form -/
def spCheck : Sp := fun vs H Q _ => ∃ (v : V) (form : Str), vs = [v, .str form] ∧
  ((form = "name" ∧ ∃ z : Str, v = .str z ∧ z.length ≤ 2000 ∧ isName z = true) ∨ (form = "moment" ∧ ∃ i : Int, v = .int i ∧ 0 ≤ i ∧ i ≤ 1000000000000000000000000000000) ∨ (form = "truth" ∧ ∃ b : Bool, v = .bl b)) ∧ ∀ H', Same H H' → Q .non H'
theorem ok_check {f fM fN : Addr} {fd fdM fdN : FuncData} (F : Fun K "check_form" "check_form" sCheck f fd) (W : Words K mg) (FM : Fun K "is_moment" "is_moment" sMoment fM fdM) (bM : Binds K fdM ["value"] []) (gM : mg "is_moment" = some (.ref fM))
    (GM : FnOk P w K mg base CX0 2 fM fdM ["value"] spMoment) (FN : Fun K "is_name" "is_name" sName fN fdN) (bN : Binds K fdN ["value"] []) (gN : mg "is_name" = some (.ref fN)) (GN : FnOk P w K mg base CX0 1 fN fdN ["value"] spName) :
    FnOk P w K mg base CX0 3 f fd ["value", "form"] spCheck := by
  refine F.ok scCheck (fun vs H Q E h => ?_) (fun cdv A outer s H vs Q E hr h => ?_)
  · obtain ⟨v, form, rfl, _⟩ := h
    rfl
  · obtain ⟨v, form, rfl, hf, q⟩ := h
    have hr1 : Room 1 _ := hr.mono (by decide)
    refine ⟨_, pss_cons (ps_if (PW.pt (pw_and (pt_cmpR op_eq (pv 1) pe_str (nomark _)) (pw_and1 (pt_not (pt_val (pe_call GN hr1 (by rfl) gN FN.kp bN .nil pass0 (pa_cons (pv 0) pa_nil))))))) (pss_one ps_never) pss_nil)
      (pss_cons (ps_if (PW.pt (pw_and (pt_cmpR op_eq (pv 1) pe_str (nomark _)) (pw_and1 (pt_not (pt_val (pe_call GM hr (by rfl) gM FM.kp bM .nil pass0 (pa_cons (pv 0) pa_nil))))))) (pss_one ps_never) pss_nil)
      (pss_cons (ps_if (PW.pt (pw_and (pt_cmpR op_eq (pv 1) pe_str (nomark _)) (pw_and1 (pt_not (PW.pt (pw_and (pt_val (pe_call GM hr (by rfl) gM FM.kp bM .nil pass0 (pa_cons (pv 0) pa_nil))) (pw_and1 (pt_cmpR op_gt (pv 0) pe_int (nomark _))))))))) (pss_one ps_never) pss_nil)
      (pss_one (ps_if (PW.pt (pw_and (pt_cmpR op_eq (pv 1) pe_str (nomark _)) (pw_and1 (pt_not (pt_val (pe_callB call_isi (by rfl) W.isi (by decide +kernel) (pa_cons (pv 0) (pa_cons (pe_bltn (v := .ty "bool") (by rfl) W.bool (by decide +kernel) rfl) pa_nil))))))))
        (pss_one ps_never) pss_nil)))), ?_⟩
    rcases hf with ⟨rfl, z, rfl, hz, hn⟩ | ⟨rfl, i, rfl, h0, h1⟩ | ⟨rfl, b, rfl⟩
    · refine ⟨_, rfl, rfl, _, rfl, ite2 (fun _ => ?_) (fun e => absurd (decide_eq_true rfl) e)⟩
      refine ⟨_, rfl, z, rfl, hz, fun H1 s1 => ⟨_, rfl, ?_⟩⟩
      rw [hn]
      refine iteF ?_
      refine ⟨_, rfl, rfl, _, rfl, ite2 (fun e => absurd e (notS (by decide +kernel))) (fun _ => ?_)⟩
      refine ⟨_, rfl, rfl, _, rfl, ite2 (fun e => absurd e (notS (by decide +kernel))) (fun _ => ?_)⟩
      refine ⟨_, rfl, rfl, _, rfl, ite2 (fun e => absurd e (notS (by decide +kernel))) (fun _ => ?_)⟩
      exact q H1 s1
    · refine ⟨_, rfl, rfl, _, rfl, ite2 (fun e => absurd e (notS (by decide +kernel))) (fun _ => ?_)⟩
      refine ⟨_, rfl, rfl, _, rfl, ite2 (fun _ => ?_) (fun e => absurd (decide_eq_true rfl) e)⟩
      refine ⟨_, rfl, i, rfl, _, rfl, ?_⟩
      rw [decide_eq_true (show 0 ≤ i ∧ i ≤ 1000000000000000000000000000000 from ⟨h0, h1⟩)]
      refine iteF ?_
      refine ⟨_, rfl, rfl, _, rfl, ite2 (fun e => absurd e (notS (by decide +kernel))) (fun _ => ?_)⟩
      refine ⟨_, rfl, rfl, _, rfl, ite2 (fun e => absurd e (notS (by decide +kernel))) (fun _ => ?_)⟩
      exact q H (Same.refl H)
    · refine ⟨_, rfl, rfl, _, rfl, ite2 (fun e => absurd e (notS (by decide +kernel))) (fun _ => ?_)⟩
      refine ⟨_, rfl, rfl, _, rfl, ite2 (fun e => absurd e (notS (by decide +kernel))) (fun _ => ?_)⟩
      refine ⟨_, rfl, rfl, _, rfl, ite2 (fun e => absurd e (notS (by decide +kernel))) (fun _ => ?_)⟩
      refine ⟨_, rfl, rfl, _, rfl, ite2 (fun _ => ?_) (fun e => absurd (decide_eq_true rfl) e)⟩
      refine ⟨_, rfl, _, _, _, _, true, rfl, .ty "bool", .base (.bl b), kit_bool_bool, true, rfl, ?_⟩
      exact q H (Same.refl H)
def wordOf (b : Bool) : Str := if b then "sound" else "unsound"
/-- word_of of a truth -/
def spWordOf : Sp := fun vs H Q _ => ∃ b : Bool, vs = [.bl b] ∧ Q (.str (wordOf b)) H
theorem ok_wordOf {f : Addr} {fd : FuncData} (F : Fun K "word_of" "word_of" sWordOf f fd) (W : Words K mg) : FnOk P w K mg base CX0 1 f fd ["value"] spWordOf := by
  refine F.ok scWordOf (fun vs H Q E h => ?_) (fun cdv A outer s H vs Q E hr h => ?_)
  · obtain ⟨b, rfl, _⟩ := h
    rfl
  · obtain ⟨b, rfl, q⟩ := h
    refine ⟨_, pss_cons (ps_if (pt_val (pe_callB call_isi (by rfl) W.isi (by decide +kernel) (pa_cons (pv 0) (pa_cons (pe_bltn (v := .ty "bool") (by rfl) W.bool (by decide +kernel) rfl) pa_nil))))
      (pss_one (ps_ret (pe_ifExp (pt_val (pv 0)) pe_str pe_str))) pss_nil) (pss_one (ps_ret (pe_callTy call_str_int (by rfl) W.str (by decide +kernel) (pa_cons (pv 0) pa_nil)))), ?_⟩
    refine ⟨_, rfl, _, _, _, _, true, rfl, .ty "bool", .base (.bl b), kit_bool_bool, true, rfl, iteT ?_⟩
    refine ⟨_, rfl, b, rfl, ?_⟩
    cases b with
    | true => exact iteT q
    | false => exact iteF q
end
end K02

namespace K02
open PySem PySem.Spec PyProof.Rows L2 So
abbrev sInit : Stmt := inClass (topS 26) 1
abbrev sPoint : Stmt := inClass (topS 26) 5
abbrev sEq : Stmt := inClass (topS 26) 9
abbrev sAhead : Stmt := inClass (topS 26) 10
abbrev sStr : Stmt := inClass (topS 26) 11
theorem scInit : FnScope ["self", "tool", "moment", "is_sound"] ["self", "tool", "moment", "is_sound"] (defScope sInit) := ⟨rfl, rfl, rfl, by decide +kernel, rfl, by decide +kernel, by decide +kernel⟩
theorem scPoint : FnScope ["self"] ["self"] (defScope sPoint) := ⟨rfl, rfl, rfl, by decide +kernel, rfl, by decide +kernel, by decide +kernel⟩
theorem scEq : FnScope ["self", "other"] ["self", "other"] (defScope sEq) := ⟨rfl, rfl, rfl, by decide +kernel, rfl, by decide +kernel, by decide +kernel⟩
theorem scAhead : FnScope ["self", "other"] ["self", "other"] (defScope sAhead) := ⟨rfl, rfl, rfl, by decide +kernel, rfl, by decide +kernel, by decide +kernel⟩
theorem scStr : FnScope ["self"] ["self"] (defScope sStr) := ⟨rfl, rfl, rfl, by decide +kernel, rfl, by decide +kernel, by decide +kernel⟩
/-- the attributes of a saying -/
def sf (z : Str) (m : Int) (b : Bool) : List (Str × V) := [("tool", .str z), ("moment", .int m), ("is_sound", .bl b)]
theorem sf_put (z : Str) (m : Int) (b : Bool) : putF "is_sound" (.bl b) (putF "moment" (.int m) (putF "tool" (.str z) [])) = sf z m b := by
  have e1 : ¬ (("tool" : Str) = "moment") := by decide +kernel
  have e2 : ¬ (("tool" : Str) = "is_sound") := by decide +kernel
  have e3 : ¬ (("moment" : Str) = "is_sound") := by decide +kernel
  simp [putF, sf, e1, e2, e3]
theorem sf_tool (z : Str) (m : Int) (b : Bool) : (sf z m b).lookup ("tool" : Str) = some (.str z) := by
  simp [sf, List.lookup]
theorem sf_moment (z : Str) (m : Int) (b : Bool) : (sf z m b).lookup ("moment" : Str) = some (.int m) := by
  have e1 : (("moment" : Str) == "tool") = false := by decide +kernel
  simp [sf, List.lookup, e1]
theorem sf_sound (z : Str) (m : Int) (b : Bool) : (sf z m b).lookup ("is_sound" : Str) = some (.bl b) := by
  have e1 : (("is_sound" : Str) == "tool") = false := by decide +kernel
  have e2 : (("is_sound" : Str) == "moment") = false := by decide +kernel
  simp [sf, List.lookup, e1, e2]
theorem sf_no (z : Str) (m : Int) (b : Bool) {f : Str} (h1 : (f == "tool") = false) (h2 : (f == "moment") = false) (h3 : (f == "is_sound") = false) : (sf z m b).lookup f = none := by
  simp [sf, List.lookup, h1, h2, h3]
/-- what the top says of the class Saying, at C -/
structure Say (K : PySem.W.Frag) (mg : Str → Option Value) (C : Addr) : Prop where
  cl : Cls K C
  nT : NoAttr K C "tool"
  nM : NoAttr K C "moment"
  nS : NoAttr K C "is_sound"
  mgC : mg "Saying" = some (.ref C)
  ha : PySem.W.findIn K (.ref C) "__class__" = some (some (.builtin "object.__class__"))
  hn : PySem.W.specialIn K (.builtin "object.__class__") "__get__" = some (some (.builtin "getset_descriptor.__get__"))
  htk : PySem.W.takesIn K (.builtin "object.__class__") = some true
  hm : PySem.W.mroIn K C (.type "object") = some true
  me : PySem.W.kitOne K (.ref C) (.ref C) = some true
  no : ∀ T, T ∈ ["tuple", "str", "NoneType", "int", "bool", "list"] → PySem.W.kitOne K (.type T) (.ref C) = some false ∧ PySem.W.notFirst K C (.type T) = true
/-- at a stands the saying (z, m, b) -/
def At (C : Addr) (H : Hp) (a : Addr) (z : Str) (m : Int) (b : Bool) : Prop := ∃ dx, H a = some (.ins C dx (sf z m b))
section
variable {P : Program} {w : World} {K : PySem.W.Frag} {mg : Str → Option Value} {base : Heap}
def spInit (C : Addr) : Sp := fun vs H Q _ => ∃ (x dx : Addr) (z : Str) (m : Int) (b : Bool), vs = [.ref x, .str z, .int m, .bl b] ∧ H x = some (.ins C dx []) ∧ z.length ≤ 2000 ∧ isName z = true ∧ 0 ≤ m ∧ m ≤ 1000000000000000000000000000000 ∧
  ∀ H', Off x H H' → H' x = some (.ins C dx (sf z m b)) → Q .non H'
theorem ok_init {f C fC : Addr} {fd fdC : FuncData} (F : Fun K "__init__" "Saying.__init__" sInit f fd) (T : Say K mg C) (FC : Fun K "check_form" "check_form" sCheck fC fdC) (bC : Binds K fdC ["value", "form"] []) (gC : mg "check_form" = some (.ref fC))
    (GC : FnOk P w K mg base CX0 3 fC fdC ["value", "form"] spCheck) : FnOk P w K mg base CX0 4 f fd ["self", "tool", "moment", "is_sound"] (spInit C) := by
  refine F.ok scInit (fun vs H Q E h => ?_) (fun cdv A outer s H vs Q E hr h => ?_)
  · obtain ⟨x, dx, z, m, b, rfl, _⟩ := h
    rfl
  · obtain ⟨x, dx, z, m, b, rfl, hx, hz, hnm, h0, h1, q⟩ := h
    refine ⟨_, pss_cons (ps_expr (pe_call GC hr (by rfl) gC FC.kp bC .nil pass0 (pa_cons (pv 1) (pa_cons pe_str pa_nil))))
      (pss_cons (ps_expr (pe_call GC hr (by rfl) gC FC.kp bC .nil pass0 (pa_cons (pv 2) (pa_cons pe_str pa_nil))))
      (pss_cons (ps_expr (pe_call GC hr (by rfl) gC FC.kp bC .nil pass0 (pa_cons (pv 3) (pa_cons pe_str pa_nil))))
      (pss_cons (ps_fld (pv 0) (pv 1) rfl) (pss_cons (ps_fld (pv 0) (pv 2) rfl) (pss_one (ps_fld (pv 0) (pv 3) rfl)))))), ?_⟩
    refine ⟨_, rfl, _, _, rfl, .inl ⟨rfl, z, rfl, hz, hnm⟩, fun H1 s1 => ?_⟩
    refine ⟨_, rfl, _, _, rfl, .inr (.inl ⟨rfl, m, rfl, h0, h1⟩), fun H2 s2 => ?_⟩
    refine ⟨_, rfl, _, _, rfl, .inr (.inr ⟨rfl, b, rfl⟩), fun H3 s3 => ?_⟩
    have s123 := (s1.trans s2).trans s3
    refine ⟨_, rfl, _, rfl, x, C, dx, [], rfl, s123 _ _ hx, T.cl, T.nT, (by show 0 < 1000; decide), ?_⟩
    refine ⟨_, rfl, _, rfl, x, C, dx, _, rfl, upd_same, T.cl, T.nM, (by show 1 < 1000; decide), ?_⟩
    refine ⟨_, rfl, _, rfl, x, C, dx, _, rfl, upd_same, T.cl, T.nS, ?_, ?_⟩
    · exact Nat.lt_of_le_of_lt (length_putF _ _ _) (by show 1 + 1 < 1000; decide)
    · refine q _ (fun c o n e => ?_) ?_
      · rw [upd_ne n, upd_ne n, upd_ne n]
        exact s123 c o e
      · rw [upd_same, sf_put]
/-- the property point -/
def spPoint (C : Addr) : Sp := fun vs H Q _ => ∃ (a : Addr) (z : Str) (m : Int) (b : Bool), vs = [.ref a] ∧ At C H a z m b ∧ ∀ p, H p = none → Q (.ref p) (upd H p (.tup [.str z, .int m]))
theorem ok_point {f C : Addr} {fd : FuncData} (F : Fun K "point" "Saying.point" sPoint f fd) (T : Say K mg C) : FnOk P w K mg base CX0 1 f fd ["self"] (spPoint C) := by
  refine F.ok scPoint (fun vs H Q E h => ?_) (fun cdv A outer s H vs Q E hr h => ?_)
  · obtain ⟨a, z, m, b, rfl, _⟩ := h
    rfl
  · obtain ⟨a, z, m, b, rfl, ⟨dx, ha⟩, q⟩ := h
    refine ⟨_, pss_one (ps_ret (pe_tup (pa_cons (pe_fld (pv 0) rfl) (pa_cons (pe_fld (pv 0) rfl) pa_nil)))), ?_⟩
    refine ⟨_, rfl, a, C, dx, _, _, rfl, ha, T.cl, T.nT, sf_tool z m b, _, rfl, a, C, dx, _, _, rfl, ha, T.cl, T.nM, sf_moment z m b, (by show 2 ≤ sizeLine; decide), fun p hp => q p hp⟩
end
end K02

namespace K02
open PySem PySem.Spec PyProof.Rows L2 So
/-- a point as data -/
def dPt (z : Str) (m : Int) : PyData := .tuple [.str z, .int m]
theorem dp_pt {K : PySem.W.Frag} {H : Hp} {p : Addr} {z : Str} {m : Int} (h : H p = some (.tup [.str z, .int m])) : Dp K H (.ref p) (dPt z m) := .tup (SqT.of h) (.cons (.str z) (.cons (.int m) .nil))
theorem shaped_pt {z : Str} {m : Int} (h : PyData.strOk z = true) : SeqAt.shaped (dPt z m) = true := by
  unfold SeqAt.shaped dPt
  simp [PyData.canLay0, PyData.canLayAll0, PyData.depth, PyData.depthAll, h]
theorem eqv_pt (z z' : Str) (m m' : Int) : PyData.eqv (dPt z m) (dPt z' m') = decide (z = z' ∧ m = m') := by
  unfold dPt
  simp only [PyData.eqv, PyData.eqvAll, Bool.and_true]
  by_cases h1 : z = z' <;> by_cases h2 : m = m' <;> simp [h1, h2]
section
variable {P : Program} {w : World} {K : PySem.W.Frag} {mg : Str → Option Value} {base : Heap}
def spEq (K : PySem.W.Frag) (C : Addr) : Sp := fun vs H Q _ => ∃ (a : Addr) (y : V) (z : Str) (m : Int) (b : Bool), vs = [.ref a, y] ∧ At C H a z m b ∧ PyData.strOk z = true ∧
  ((∃ (a' : Addr) (z' : Str) (m' : Int) (b' : Bool), y = .ref a' ∧ At C H a' z' m' b' ∧ PyData.strOk z' = true ∧ ∀ H', Same H H' → Q (.bl (decide ((z = z' ∧ m = m') ∧ b = b'))) H') ∨ (∃ t, TyX K H y t ∧ PySem.W.kitOne K t (.ref C) = some false ∧ Q (.bl false) H))
theorem ok_eq {f C p g : Addr} {fd fdP : FuncData} (F : Fun K "__eq__" "Saying.__eq__" sEq f fd) (W : Words K mg) (T : Say K mg C) (hp : PropOf K C "point" p g) (bP : Binds K fdP ["self"] []) (GP : FnOk P w K mg base CX0 1 g fdP ["self"] (spPoint C)) :
    FnOk P w K mg base CX0 3 f fd ["self", "other"] (spEq K C) := by
  refine F.ok scEq (fun vs H Q E h => ?_) (fun cdv A outer s H vs Q E hr h => ?_)
  · obtain ⟨a, y, z, m, b, rfl, _⟩ := h
    rfl
  · obtain ⟨a, y, z, m, b, rfl, hA, hz, h⟩ := h
    refine ⟨_, pss_cons (ps_if (pt_not (pt_val (pe_callB call_isi (by rfl) W.isi (by decide +kernel) (pa_cons (pv 1) (pa_cons (pe_glob (v := .ref C) rfl T.mgC rfl) pa_nil))))) (pss_one (ps_ret pe_bl)) pss_nil)
      (pss_one (ps_ret (pe_and (pe_cmpR (op_eqD hr.units) (pe_prop (pv 0) T.cl hp GP hr bP .nil pass0 rfl) (pe_prop (pv 1) T.cl hp GP hr bP .nil pass0 rfl) (nomark _))
        (pe_one (pe_cmpR op_eq (pe_fld (pv 0) rfl) (pe_fld (pv 1) rfl) (nomark _)))))), ?_⟩
    rcases h with ⟨a', z', m', b', rfl, hA', hz', q⟩ | ⟨t, ty, hk, q⟩
    · obtain ⟨dx, ha⟩ := id hA
      obtain ⟨dx', ha'⟩ := id hA'
      refine ⟨_, rfl, _, _, _, _, true, rfl, .own C, .base (.ins ha' T.cl T.ha T.hn T.htk T.hm), T.me, true, rfl, iteF ?_⟩
      refine ⟨_, rfl, a, dx, _, rfl, ha, a, z, m, b, rfl, hA, fun p1 h1 => ?_⟩
      have n1 : ∀ {c : Addr} {o : HO}, H c = some o → (upd H p1 (.tup [.str z, .int m])) c = some o := fun e => (upd_ne (ne_of_none e h1)).trans e
      refine ⟨_, rfl, a', dx', _, rfl, n1 ha', a', z', m', b', rfl, ⟨dx', n1 ha'⟩, fun p2 h2 => ?_⟩
      have n2 : ∀ {c : Addr} {o : HO}, (upd H p1 (.tup [.str z, .int m])) c = some o → (upd (upd H p1 (.tup [.str z, .int m])) p2 (.tup [.str z', .int m'])) c = some o := fun e => (upd_ne (ne_of_none e h2)).trans e
      refine ⟨dPt z m, dPt z' m', dp_pt (n2 upd_same), dp_pt upd_same, shaped_pt hz, shaped_pt hz', _, rfl, ?_⟩
      rw [eqv_pt]
      have sm : Same H (upd (upd H p1 (.tup [.str z, .int m])) p2 (.tup [.str z', .int m'])) := fun c o e => n2 (n1 e)
      have qq := q _ sm
      refine ite2 (fun e => ?_) (fun e => ?_)
      · have e' := of_decide_eq_true e
        refine ⟨_, rfl, a, C, dx, _, _, rfl, n2 (n1 ha), T.cl, T.nS, sf_sound z m b, _, rfl, a', C, dx', _, _, rfl, n2 (n1 ha'), T.cl, T.nS, sf_sound z' m' b', rfl, ?_⟩
        have e2 : decide ((z = z' ∧ m = m') ∧ b = b') = decide (V.bl b = V.bl b') := by
          simp [e']
        rw [e2] at qq
        exact qq
      · have e' : ¬ (z = z' ∧ m = m') := fun z => e (decide_eq_true z)
        have e2 : decide ((z = z' ∧ m = m') ∧ b = b') = false := decide_eq_false fun q => e' q.1
        rw [e2] at qq
        exact qq
    · refine ⟨_, rfl, _, _, _, _, false, rfl, .own C, ty, hk, false, rfl, iteT ?_⟩
      exact q
end
end K02

namespace So
open PySem PySem.Spec PyProof.Rows L2
section
variable {X : Cx} {CX : CXT} {k : Nat} {C f : Addr} {fd : FuncData} {ps : List Str} {sp : Sp} {E : XK}
/-- str(o) of an instance whose class has an own __str__ -/
theorem call_strOwn (F : FnOk X.prog X.w X.K X.mg X.base CX k f fd ps sp) (hs : PySem.W.findIn X.K (.ref C) "__str__" = some (some (.ref f))) (hf : PySem.W.isFn X.K (.ref f) = true) (hb : Binds X.K fd ps []) (hx : Passes CX X E) (hr : Room (k + 2) X.A) :
    CallR X (.type "str") (fun xs H Q => ∃ a dx fs, xs = [.ref a] ∧ H a = some (.ins C dx fs) ∧ sp [.ref a] H (fun v H' => ∃ t : Str, v = .str t ∧ Q (.str t) H') E) := by
  intro pins s σ H xs us Q I r h
  obtain ⟨a, dx, fs, rfl, ha, q⟩ := h
  obtain ⟨u, rfl, ru⟩ := vals1 r
  cases ru
  obtain ⟨mA, J, _⟩ := ins_get I.hok ha
  obtain ⟨od, J, _⟩ := J.look
  have hr2 : Room k X.A.in1.in1 := hr.in1.in1
  refine PySem.W.kso_call hr2.units0 I.kIn J hs hf ?_
  have e0 : Env0 X.prog X.w X.K X.mg X.base X.A.in1.in1 X.stack s H := I.env0.in1.in1
  have hl : ([Value.ref a] ++ ([] : List Value)).length = ps.length := (F.len _ _ _ _ q : [V.ref a].length = ps.length)
  refine wpAny_call (codeAny_mono (F.run X.A.in1.in1 X.stack s H ⟨[.ref a], []⟩ ([Value.ref a] ++ []) [.ref a] _ E hr2 e0 (hb s [Value.ref a] I.kIn hl) (show Vals [V.ref a] [Value.ref a] from .cons rfl .nil) q) fun r s' hq => ?_)
  match r, hq with
  | .error e, hq => exact hx pins σ H s e s' I hq
  | .ok (.ret u), hq =>
    obtain ⟨v, H', I', rv, t, ev, q'⟩ := I.after hq
    subst ev
    obtain ⟨tk, rfl⟩ := rv
    exact ⟨.str t, H', I', ⟨tk, rfl⟩, q'⟩
  | .ok .next, hq => exact hq.elim
  | .ok .brk, hq => exact hq.elim
  | .ok .cont, hq => exact hq.elim
end
end So
namespace K02
open PySem PySem.Spec PyProof.Rows L2 So
/-- is_ahead, of the parts -/
def ahead (z : Str) (m : Int) (b : Bool) (z' : Str) (m' : Int) (b' : Bool) : Bool := if z = z' ∧ m = m' then b' && !b else PySem.W.dataLt (dPt z m) (dPt z' m')
section
variable {P : Program} {w : World} {K : PySem.W.Frag} {mg : Str → Option Value} {base : Heap}
def spAhead (C : Addr) : Sp := fun vs H Q _ => ∃ (a a' : Addr) (z z' : Str) (m m' : Int) (b b' : Bool), vs = [.ref a, .ref a'] ∧ At C H a z m b ∧ At C H a' z' m' b' ∧ PyData.strOk z = true ∧ PyData.strOk z' = true ∧
  ∀ H', Same H H' → Q (.bl (ahead z m b z' m' b')) H'
theorem ok_ahead {f C p g : Addr} {fd fdP : FuncData} (F : Fun K "is_ahead" "Saying.is_ahead" sAhead f fd) (T : Say K mg C) (hp : PropOf K C "point" p g) (bP : Binds K fdP ["self"] []) (GP : FnOk P w K mg base CX0 1 g fdP ["self"] (spPoint C)) :
    FnOk P w K mg base CX0 3 f fd ["self", "other"] (spAhead C) := by
  refine F.ok scAhead (fun vs H Q E h => ?_) (fun cdv A outer s H vs Q E hr h => ?_)
  · obtain ⟨a, a', z, z', m, m', b, b', rfl, _⟩ := h
    rfl
  · obtain ⟨a, a', z, z', m, m', b, b', rfl, hA, hA', hz, hz', q⟩ := h
    refine ⟨_, pss_cons (ps_if (pt_cmpR (op_neD hr.units) (pe_prop (pv 0) T.cl hp GP hr bP .nil pass0 rfl) (pe_prop (pv 1) T.cl hp GP hr bP .nil pass0 rfl) (nomark _))
        (pss_one (ps_ret (pe_cmpR (op_ltD hr.units) (pe_prop (pv 0) T.cl hp GP hr bP .nil pass0 rfl) (pe_prop (pv 1) T.cl hp GP hr bP .nil pass0 rfl) (nomark _)))) pss_nil)
      (pss_one (ps_ret (pe_and (pe_fld (pv 1) rfl) (pe_one (pe_not (pe_fld (pv 0) rfl)))))), ?_⟩
    obtain ⟨dx, ha⟩ := id hA
    obtain ⟨dx', ha'⟩ := id hA'
    refine ⟨_, rfl, a, dx, _, rfl, ha, a, z, m, b, rfl, hA, fun p1 h1 => ?_⟩
    have n1 : ∀ {c : Addr} {o : HO}, H c = some o → (upd H p1 (.tup [.str z, .int m])) c = some o := fun e => (upd_ne (ne_of_none e h1)).trans e
    refine ⟨_, rfl, a', dx', _, rfl, n1 ha', a', z', m', b', rfl, ⟨dx', n1 ha'⟩, fun p2 h2 => ?_⟩
    have n2 : ∀ {c : Addr} {o : HO}, (upd H p1 (.tup [.str z, .int m])) c = some o → (upd (upd H p1 (.tup [.str z, .int m])) p2 (.tup [.str z', .int m'])) c = some o := fun e => (upd_ne (ne_of_none e h2)).trans e
    refine ⟨dPt z m, dPt z' m', dp_pt (n2 upd_same), dp_pt upd_same, shaped_pt hz, shaped_pt hz', _, rfl, ?_⟩
    rw [eqv_pt]
    have sm2 : Same H (upd (upd H p1 (.tup [.str z, .int m])) p2 (.tup [.str z', .int m'])) := fun c o e => n2 (n1 e)
    revert sm2
    generalize upd (upd H p1 (.tup [.str z, .int m])) p2 (.tup [.str z', .int m']) = H2
    intro sm2
    refine ite2 (fun e => ?_) (fun e => ?_)
    · have e1 : ¬ (z = z' ∧ m = m') := fun z => by
        rw [decide_eq_true z] at e
        cases e
      refine ⟨_, rfl, a, dx, _, rfl, sm2 _ _ ha, a, z, m, b, rfl, ⟨dx, sm2 _ _ ha⟩, fun p3 h3 => ?_⟩
      have n3 : ∀ {c : Addr} {o : HO}, H2 c = some o → (upd H2 p3 (.tup [.str z, .int m])) c = some o := fun e => (upd_ne (ne_of_none e h3)).trans e
      refine ⟨_, rfl, a', dx', _, rfl, n3 (sm2 _ _ ha'), a', z', m', b', rfl, ⟨dx', n3 (sm2 _ _ ha')⟩, fun p4 h4 => ?_⟩
      have n4 : ∀ {c : Addr} {o : HO}, (upd H2 p3 (.tup [.str z, .int m])) c = some o → (upd (upd H2 p3 (.tup [.str z, .int m])) p4 (.tup [.str z', .int m'])) c = some o := fun e => (upd_ne (ne_of_none e h4)).trans e
      refine ⟨dPt z m, dPt z' m', dp_pt (n4 upd_same), dp_pt upd_same, rfl, (fun z => nomatch z), (by show 1 ≤ 60; decide), ?_⟩
      have := q _ (fun c o e => n4 (n3 (sm2 c o e)))
      unfold ahead at this
      rw [if_neg e1] at this
      exact this
    · have e1 : z = z' ∧ m = m' := by
        by_cases c : z = z' ∧ m = m'
        · exact c
        · exact absurd (by rw [decide_eq_false c]; rfl) e
      have qq := q H2 sm2
      unfold ahead at qq
      rw [if_pos e1] at qq
      refine ⟨_, rfl, a', C, dx', _, _, rfl, sm2 _ _ ha', T.cl, T.nS, sf_sound z' m' b', b', rfl, ?_⟩
      cases b' with
      | true =>
        refine iteT ?_
        exact ⟨_, rfl, a, C, dx, _, _, rfl, sm2 _ _ ha, T.cl, T.nS, sf_sound z m b, b, rfl, qq⟩
      | false => exact iteF qq
/-- the text of a saying -/
def spStr (C : Addr) : Sp := fun vs H Q _ => ∃ (a : Addr) (z : Str) (m : Int) (b : Bool), vs = [.ref a] ∧ At C H a z m b ∧ z.length ≤ 2000 ∧ 0 ≤ m ∧ m ≤ 1000000000000000000000000000000 ∧ ∀ H', Same H H' → Q (.str (Txt.join " " [z, (toString m : String), wordOf b])) H'
theorem ok_str {f C fW : Addr} {fd fdW : FuncData} (F : Fun K "__str__" "Saying.__str__" sStr f fd) (W : Words K mg) (T : Say K mg C) (FW : Fun K "word_of" "word_of" sWordOf fW fdW) (bW : Binds K fdW ["value"] []) (gW : mg "word_of" = some (.ref fW)) :
    FnOk P w K mg base CX0 2 f fd ["self"] (spStr C) := by
  have GW : FnOk P w K mg base CX0 1 fW fdW ["value"] spWordOf := ok_wordOf FW W
  refine F.ok scStr (fun vs H Q E h => ?_) (fun cdv A outer s H vs Q E hr h => ?_)
  · obtain ⟨a, z, m, b, rfl, _⟩ := h
    rfl
  · obtain ⟨a, z, m, b, rfl, ⟨dx, ha⟩, hz, h0, h1, q⟩ := h
    refine ⟨_, pss_one (ps_ret (pe_join pe_str (pe_lst (pa_cons (pe_fld (pv 0) rfl) (pa_cons (pe_callTy call_str_int (by rfl) W.str (by decide +kernel) (pa_cons (pe_fld (pv 0) rfl) pa_nil)) (pa_cons (pe_call GW hr (by rfl) gW FW.kp bW .nil pass0 (pa_cons (pe_fld (pv 0) rfl) pa_nil)) pa_nil)))))), ?_⟩
    have hlog : m.natAbs.log2 < 1920 := by
      have : m.natAbs < 2 ^ 100 := by omega
      exact Nat.lt_of_lt_of_le (PySem.Flt.log2_lt_of (by decide) this) (by decide)
    refine ⟨⟨_, rfl⟩, _, rfl, a, C, dx, _, _, rfl, ha, T.cl, T.nT, sf_tool z m b, _, rfl, a, C, dx, _, _, rfl, ha, T.cl, T.nM, sf_moment z m b, m, rfl, hlog, _, rfl, a, C, dx, _, _, rfl, ha, T.cl, T.nS, sf_sound z m b, b, rfl, (by show 3 ≤ sizeLine; decide), fun p hp => ?_⟩
    refine ⟨_, p, [z, (toString m : String), wordOf b], rfl, rfl, .inl (SqL.of upd_same), ?_, q _ (Same.over (Same.refl H) hp)⟩
    have e1 : (Str.ofString (toString m)).length ≤ 1921 := by
      rw [PyProof.Rows.ofString_length]
      exact int_text_length_le (k := 1920) (by decide) hlog
    have e2 : (wordOf b).length ≤ 7 := by cases b <;> decide
    have e3 : ((" " : String) : Str).length = 1 := by decide
    show (z.length + ((Str.ofString (toString m)).length + ((wordOf b).length + 0))) + 3 * ((" " : String) : Str).length ≤ 16777216
    rw [e3]
    omega
end
end K02

namespace K02
open PySem PySem.Spec PyProof.Rows L2 So
abbrev lawN : List Str := ["_law_script", "_law_pen_here", "_law_faces", "_law_some", "_law_at", "_law_k", "_law_told", "_law_due", "_law_things", "_law_turn", "_law_face", "_law_thing"]
theorem scLaw : FnScope lawN ["_law_script"] (defScope sLaw) := ⟨rfl, rfl, rfl, by decide +kernel, rfl, by decide +kernel, by decide +kernel⟩
theorem cut63 (xs : List V) : cutV xs none (some 63) = xs.take 63 := by
  unfold cutV
  rw [HT.sIx_none, show HT.sIx xs.length xs.length (some 63) = min 63 xs.length from HT.sIx_nat xs.length xs.length 63]
  simp
section
variable {P : Program} {w : World} {K : PySem.W.Frag} {mg : Str → Option Value} {base : Heap}
theorem same_upd0 {H : Hp} {p : Addr} {o : HO} (h : H p = none) : Same H (upd H p o) := Same.over (Same.refl H) h
def spPen (K : PySem.W.Frag) : Sp := fun vs H Q _ => ∃ (a : Addr) (ns : List Int), vs = [.ref a] ∧ SqL K H a (ns.map V.int) ∧ ∀ (H' : Hp) (p l : Addr) (ns' : List Int), Same H H' → Pen H' p l ns' 0 0 → Q (.ref p) H'
theorem ok_pen {f : Addr} {fd : FuncData} (F : Fun K "_law_pen" "_law_pen" sPen f fd) (ml : mg "list" = none) : FnOk P w K mg base CX0 1 f fd ["_law_script"] (spPen K) := by
  refine F.ok scPen (fun vs H Q E h => ?_) (fun cdv A outer s H vs Q E hr h => ?_)
  · obtain ⟨a, ns, rfl, _⟩ := h
    rfl
  · obtain ⟨a, ns, rfl, hS, q⟩ := h
    refine ⟨_, pss_one (ps_ret (pe_lst (pa_cons (pe_callTy call_list_of (by rfl) ml (by decide +kernel) (pa_cons (pe_slice sl_list (pv 0) po_none (po_some pe_int)) pa_nil)) (pa_cons pe_int (pa_cons pe_int pa_nil))))), ?_⟩
    refine ⟨_, rfl, 63, rfl, a, ns.map V.int, rfl, hS, fun c hc => ?_⟩
    rw [cut63, ← List.map_take]
    refine ⟨c, _, rfl, .inl (SqL.of upd_same), fun l hl => ?_⟩
    refine ⟨by show 3 ≤ sizeLine; decide, fun p hp => ?_⟩
    have s1 : Same H (upd (upd (upd H c (.lst ((ns.take 63).map V.int))) l (.lst ((ns.take 63).map V.int))) p (.lst [.ref l, .int 0, .int 0])) := by
      refine ((same_upd0 hc).trans (same_upd0 hl)).trans (same_upd0 hp)
    have nlp : l ≠ p := fun e => by
      rw [e, upd_same] at hp
      cases hp
    exact q _ p l (ns.take 63) s1 ⟨upd_same, (upd_ne nlp).trans upd_same, Int.le_refl 0⟩
end
end K02

namespace K02
open PySem PySem.Spec PyProof.Rows L2 So
/-- how is_ahead(other=..) binds -/
def kOther {α : Type} : List α → List α → List α
  | [u], [w] => [u, w]
  | _, _ => []
/-- what the law's def reads -/
structure Env (P : Program) (w : World) (K : PySem.W.Frag) (mg : Str → Option Value) (base : Heap) (C : Addr) : Prop where
  W : Words K mg
  T : Say K mg C
  rng : mg "range" = none
  rpr : mg "repr" = none
  lst : mg "list" = none
/-! ### faces -/
structure Face where
  w : Str
  m : Int
  b : Bool
def okF (f : Face) : Prop := f.w ∈ six ∧ 0 ≤ f.m ∧ f.m ≤ 1000000000000000000000000000000
theorem six_ok : ∀ w ∈ six, isName w = true ∧ w.length ≤ 2000 ∧ PyData.strOk w = true := by decide +kernel
def TupAt (H : Hp) (t : Addr) (f : Face) : Prop := H t = some (.tup [.str f.w, .int f.m, .bl f.b])
def dFace (f : Face) : PyData := .tuple [.str f.w, .int f.m, .bool f.b]
theorem dp_face {K : PySem.W.Frag} {H : Hp} {t : Addr} {f : Face} (h : TupAt H t f) : Dp K H (.ref t) (dFace f) := .tup (SqT.of h) (.cons (.str _) (.cons (.int _) (.cons (.bl _) .nil)))
theorem shaped_face {f : Face} (h : PyData.strOk f.w = true) : SeqAt.shaped (dFace f) = true := by
  unfold SeqAt.shaped dFace
  simp [PyData.canLay0, PyData.canLayAll0, PyData.depth, PyData.depthAll, h]
theorem eqv_face (f g : Face) : PyData.eqv (dFace f) (dFace g) = decide ((f.w = g.w ∧ f.m = g.m) ∧ f.b = g.b) := by
  unfold dFace
  simp only [PyData.eqv, PyData.eqvAll, Bool.and_true]
  by_cases h1 : f.w = g.w <;> by_cases h2 : f.m = g.m <;> by_cases h3 : f.b = g.b <;> simp [h1, h2, h3]
theorem lt_face (f g : Face) : PySem.W.dataLt (dFace f) (dFace g) = ahead f.w f.m f.b g.w g.m g.b := by
  unfold ahead dFace dPt
  rw [PySem.W.dataLt_tuple, PySem.W.dataLt_tuple]
  by_cases h1 : f.w = g.w
  · have e1 : PyData.eqv (.str f.w) (.str g.w) = true := by simp [PyData.eqv, h1]
    rw [PySem.W.dataLt_all_yes rfl e1, PySem.W.dataLt_all_yes rfl e1]
    by_cases h2 : f.m = g.m
    · have e2 : PyData.eqv (.int f.m) (.int g.m) = true := by simp [PyData.eqv, h2]
      rw [if_pos ⟨h1, h2⟩, PySem.W.dataLt_all_yes rfl e2]
      by_cases h3 : f.b = g.b
      · have e3 : PyData.eqv (.bool f.b) (.bool g.b) = true := by simp [PyData.eqv, h3]
        rw [PySem.W.dataLt_all_yes rfl e3, h3]
        cases g.b <;> rfl
      · have e3 : PyData.eqv (.bool f.b) (.bool g.b) = false := by simp [PyData.eqv, h3]
        rw [PySem.W.dataLt_all_no rfl e3, PySem.W.dataLt_bool]
        cases e4 : f.b <;> cases e5 : g.b <;> simp_all <;> decide
    · have e2 : PyData.eqv (.int f.m) (.int g.m) = false := by simp [PyData.eqv, h2]
      rw [if_neg (fun z => h2 z.2), PySem.W.dataLt_all_no rfl e2, PySem.W.dataLt_all_no rfl e2]
  · have e1 : PyData.eqv (.str f.w) (.str g.w) = false := by simp [PyData.eqv, h1]
    rw [if_neg (fun z => h1 z.1), PySem.W.dataLt_all_no rfl e1, PySem.W.dataLt_all_no rfl e1]
theorem TupAt.off {p t : Addr} {H H' : Hp} {f : Face} {ys : List V} (h : TupAt H t f) (hp : H p = some (.lst ys)) (o : Off p H H') : TupAt H' t f := o t _ (ne_of h hp (fun z => nomatch z)) h
theorem TupAt.same {t : Addr} {H H' : Hp} {f : Face} (h : TupAt H t f) (s : Same H H') : TupAt H' t f := s _ _ h
theorem TupAt.upd {t D : Addr} {H : Hp} {f : Face} {xs : List V} {o : HO} (h : TupAt H t f) (hD : H D = some (.lst xs)) : TupAt (upd H D o) t f := (upd_ne (ne_of h hD (fun z => nomatch z))).trans h
theorem Pen.upd {H : Hp} {p l D : Addr} {ns : List Int} {n : Nat} {g : Int} {o : HO} (h : Pen H p l ns n g) (h1 : D ≠ p) (h2 : D ≠ l) : Pen (upd H D o) p l ns n g :=
  ⟨(upd_ne h1.symm).trans h.pen, (upd_ne h2.symm).trans h.cells, h.left⟩
theorem At.same {C a : Addr} {H H' : Hp} {z : Str} {m : Int} {b : Bool} (h : At C H a z m b) (s : Same H H') : At C H' a z m b := h.elim fun dx e => ⟨dx, s _ _ e⟩
theorem At.upd {C a D : Addr} {H : Hp} {z : Str} {m : Int} {b : Bool} {xs : List V} {o : HO} (h : At C H a z m b) (hD : H D = some (.lst xs)) : At C (upd H D o) a z m b :=
  h.elim fun dx e => ⟨dx, (upd_ne (ne_of e hD (fun z => nomatch z))).trans e⟩
/-- the faces at D, the sayings at S -/
structure Stage (C : Addr) (H : Hp) (D S : Addr) (M : List (Addr × Addr × Face)) : Prop where
  faces : H D = some (.lst (M.map fun x => V.ref x.1))
  some : H S = some (.lst (M.map fun x => V.ref x.2.1))
  each : ∀ x ∈ M, TupAt H x.1 x.2.2 ∧ At C H x.2.1 x.2.2.w x.2.2.m x.2.2.b ∧ okF x.2.2
theorem Stage.same {C D S : Addr} {H H' : Hp} {M : List (Addr × Addr × Face)} (h : Stage C H D S M) (s : Same H H') : Stage C H' D S M :=
  ⟨s _ _ h.faces, s _ _ h.some, fun x hx => ⟨(h.each x hx).1.same s, (h.each x hx).2.1.same s, (h.each x hx).2.2⟩⟩
theorem at0 {xs : List V} {i : Nat} {v : V} (h : xs[i]? = some v) : atI xs (0 + (i : Int)) = some v := by
  rw [Int.zero_add]
  exact atI_nat h
theorem len3 (x y z : Bool) : (PyData.shown (.list [.bool x, .bool y, .bool z])).length ≤ sizeLine := by
  cases x <;> cases y <;> cases z <;> decide
theorem len1 (x : Bool) : (PyData.shown (.bool x)).length ≤ sizeLine := by
  cases x <;> decide
theorem dep3 (x y z : Bool) : (PyData.list [.bool x, .bool y, .bool z]).depth ≤ 60 := by
  simp [PyData.depth, PyData.depthAll]
theorem sh3 (x y z : Bool) : (PyData.list [.bool x, .bool y, .bool z]).showable = true := by
  simp [PyData.showable, PyData.showableAll]
theorem ixl {X : Cx} {K : PySem.W.Frag} (h : X.K = K) : IxR X (rIxL K) := by
  subst h
  exact ix_list
theorem ixt {X : Cx} {K : PySem.W.Frag} (h : X.K = K) : IxR X (rIxT K) := by
  subst h
  exact ix_tup
theorem eqOwnK {X : Cx} {K : PySem.W.Frag} {CX : CXT} {k : Nat} {C f : Addr} {fd : FuncData} {ps : List Str} {sp : Sp} {E : XK} (h : X.K = K) (F : FnOk X.prog X.w X.K X.mg X.base CX k f fd ps sp) (hs : PySem.W.findIn X.K (.ref C) "__eq__" = some (some (.ref f)))
    (hf : PySem.W.isFn X.K (.ref f) = true) (hb : Binds X.K fd ps []) (hx : Passes CX X E) (hr : Room k X.A) : OpR X (compareOp .Eq) (rOwn C K sp E id) := by
  subst h
  exact op_eqOwn F hs hf hb hx hr
section
variable {P : Program} {w : World} {K : PySem.W.Frag} {mg : Str → Option Value} {base : Heap}
def spLaw (K : PySem.W.Frag) : Sp := fun vs H Q _ => ∃ (a : Addr) (ns : List Int), vs = [.ref a] ∧ SqL K H a (ns.map V.int) ∧ ∀ H', Q (.bl true) H'
theorem ok_law {f C fPen fD fDr fI fA fE fS pP gP : Addr} {fd fdPen fdD fdDr fdI fdA fdE fdS fdP : FuncData} (F : Fun K "law" "law" sLaw f fd) (N : Env P w K mg base C)
    (FPen : Fun K "_law_pen" "_law_pen" sPen fPen fdPen) (bPen : Binds K fdPen ["_law_script"] []) (gPen : mg "_law_pen" = some (.ref fPen)) (GPen : FnOk P w K mg base CX0 1 fPen fdPen ["_law_script"] (spPen K))
    (FD : Fun K "_law_draw" "_law_draw" sDraw fD fdD) (bD : Binds K fdD ["_law_pen_here", "_law_many"] []) (gD : mg "_law_draw" = some (.ref fD)) (GD : FnOk P w K mg base CX0 1 fD fdD ["_law_pen_here", "_law_many"] spDraw)
    (FDr : Fun K "_law_drawn" "_law_drawn" sDrawn fDr fdDr) (bDr : Binds K fdDr ["_law_pen_here"] []) (gDr : mg "_law_drawn" = some (.ref fDr)) (GDr : FnOk P w K mg base CX0 3 fDr fdDr ["_law_pen_here"] spDrawn)
    (M : Mk K C fI) (bI : Binds K fdI ["self", "tool", "moment", "is_sound"] []) (GI : FnOk P w K mg base CX0 4 fI fdI ["self", "tool", "moment", "is_sound"] (spInit C))
    (mA : Meth K C "is_ahead" fA) (bA : Binds K fdA ["self", "other"] []) (kA : KBinds K fdA ["self", "other"] ["other"] kOther kOther) (GA : FnOk P w K mg base CX0 3 fA fdA ["self", "other"] (spAhead C))
    (sE : PySem.W.findIn K (.ref C) "__eq__" = some (some (.ref fE))) (iE : PySem.W.isFn K (.ref fE) = true) (bE : Binds K fdE ["self", "other"] []) (GE : FnOk P w K mg base CX0 3 fE fdE ["self", "other"] (spEq K C))
    (nE : PySem.W.findIn K (.ref C) "__ne__" = some (some (.builtin "object.__ne__")))
    (sS : PySem.W.findIn K (.ref C) "__str__" = some (some (.ref fS))) (iS : PySem.W.isFn K (.ref fS) = true) (bS : Binds K fdS ["self"] []) (GS : FnOk P w K mg base CX0 2 fS fdS ["self"] (spStr C))
    (hp : PropOf K C "point" pP gP) (bP : Binds K fdP ["self"] []) (GP : FnOk P w K mg base CX0 1 gP fdP ["self"] (spPoint C)) :
    FnG P w K mg base CX0 6 f fd ["_law_script"] (spLaw K) := by
  refine fnG_of F scLaw (fun vs H Q E h => ?_) (fun cdv A outer s H vs Q E hg hr h => ?_)
  · obtain ⟨a, ns, rfl, _⟩ := h
    rfl
  · obtain ⟨a, ns, rfl, hS, q⟩ := h
    have hr1 : Room 1 _ := hr.mono (by decide)
    have hr2 : Room 2 _ := hr.mono (by decide)
    have hr3 : Room 3 _ := hr.mono (by decide)
    have hr4 : Room 4 _ := hr.mono (by decide)
    refine ⟨_, pss_cons (ps_set (i := 1) scLaw.nd rfl (.inr rfl) (pe_call GPen hr1 (by rfl) gPen FPen.kp bPen .nil pass0 (pa_cons (pv 0) pa_nil)))
      (pss_cons (ps_setLc (i := 2) (own := [("_law_turn", 9)]) (g := gName 9) (tt := tYes) rfl scLaw.nd rfl rfl (sw_true rfl rfl rfl (by decide +kernel)) (pi_range1 (by rfl) N.rng (pa_cons (pe_op op_add pe_int (pe_call GD hr1 (by rfl) gD FD.kp bD .nil pass0 (pa_cons (pv 1) (pa_cons pe_int pa_nil)))) pa_nil))
          (blkOk_by (N := lawN) (sc := defScope sLaw) (by decide +kernel)) (fun _ _ _ _ _ => pg_name (i := 9) scLaw.nd rfl (Or.inl rfl)) (fun _ _ _ _ _ => pts_nil)
          (fun _ _ _ _ _ => pe_call GDr hr3 (by rfl) gDr FDr.kp bDr .nil pass0 (pa_cons (pv 1) pa_nil)))
      (pss_cons (ps_expr (pe_bm PySem.F.plainAttrs_list PySem.F.slot_list_append PySem.F.type_list_append mt_append (pv 2) (pa_cons (pe_ix ix_list (pv 2) (pe_call GD hr1 (by rfl) gD FD.kp bD .nil pass0 (pa_cons (pv 1) (pa_cons (pe_callB call_len_seq (by rfl) N.W.len PySem.boot_len (pa_cons (pv 2) pa_nil)) pa_nil))) (fun _ _ => rfl)) pa_nil)))
      (pss_cons (ps_set (i := 3) scLaw.nd rfl (.inr rfl) (pe_lc (own := [("_law_face", 10)]) (g := gName 10) (tt := tYes) rfl scLaw.nd (pi_list (pv 2)) (blkOk_by (N := lawN) (sc := defScope sLaw) (by decide +kernel))
          (fun _ _ _ _ _ => pg_name (i := 10) scLaw.nd rfl (Or.inl rfl)) (fun _ _ _ _ _ => pts_nil)
          (fun _ _ _ _ _ => pe_make M GI hr (by rfl) N.T.mgC bI .nil pass0 (pa_cons (pe_ix (ixt (K := K) rfl) (pv 10) pe_int (fun _ _ => rfl)) (pa_cons (pe_ix (ixt (K := K) rfl) (pv 10) pe_int (fun _ _ => rfl)) (pa_cons (pe_ix (ixt (K := K) rfl) (pv 10) pe_int (fun _ _ => rfl)) pa_nil))))))
      (pss_cons (ps_for PassesOwn.never rfl (pi_range1 (by rfl) N.rng (pa_cons (pe_callB call_len_seq (by rfl) N.W.len PySem.boot_len (pa_cons (pv 2) pa_nil)) pa_nil)) (pg_name (i := 4) scLaw.nd rfl (Or.inr rfl))
        (pss_cons (ps_for PassesOwn.never rfl (pi_range1 (by rfl) N.rng (pa_cons (pe_callB call_len_seq (by rfl) N.W.len PySem.boot_len (pa_cons (pv 2) pa_nil)) pa_nil)) (pg_name (i := 5) scLaw.nd rfl (Or.inl rfl))
          (pss_cons (ps_set (i := 6) scLaw.nd rfl (.inl rfl) (pe_lst (pa_cons (pe_meth (pe_ix ix_list (pv 3) (pv 4) (fun _ _ => rfl)) N.T.cl mA GA hr3 bA .nil pass0 (pa_cons (pe_ix ix_list (pv 3) (pv 5) (fun _ _ => rfl)) pa_nil))
              (pa_cons (pe_methK (pe_ix ix_list (pv 3) (pv 4) (fun _ _ => rfl)) N.T.cl mA GA hr3 kA pass0 (pk_cons (pe_ix ix_list (pv 3) (pv 5) (fun _ _ => rfl)) pk_nil))
              (pa_cons (pe_cmpR (op_eqOwn GE sE iE bE pass0 hr3) (pe_ix ix_list (pv 3) (pv 4) (fun _ _ => rfl)) (pe_ix ix_list (pv 3) (pv 5) (fun _ _ => rfl)) (nomark _)) pa_nil)))))
          (pss_cons (ps_set (i := 7) scLaw.nd rfl (.inl rfl) (pe_lst (pa_cons (pe_cmpR (op_ltD hr.units) (pe_ix ix_list (pv 2) (pv 4) (fun _ _ => rfl)) (pe_ix ix_list (pv 2) (pv 5) (fun _ _ => rfl)) (nomark _))
              (pa_cons (pe_cmpR (op_ltD hr.units) (pe_ix ix_list (pv 2) (pv 4) (fun _ _ => rfl)) (pe_ix ix_list (pv 2) (pv 5) (fun _ _ => rfl)) (nomark _))
              (pa_cons (pe_cmpR (op_eqD hr.units) (pe_ix ix_list (pv 2) (pv 4) (fun _ _ => rfl)) (pe_ix ix_list (pv 2) (pv 5) (fun _ _ => rfl)) (nomark _)) pa_nil)))))
          (pss_one (ps_if (PW.pt (pw_or (pt_cmpR op_ne (pe_callB (call_reprD hg hr.units) (by rfl) N.rpr (by decide +kernel) (pa_cons (pv 6) pa_nil)) (pe_callB (call_reprD hg hr.units) (by rfl) N.rpr (by decide +kernel) (pa_cons (pv 7) pa_nil)) (nomark _))
              (pw_or1 (pt_cmpR op_ne (pe_callB (call_reprD hg hr.units) (by rfl) N.rpr (by decide +kernel) (pa_cons (pe_cmpR (op_neOwn GE sE iE bE pass0 hr4 nE N.T.hm) (pe_ix ix_list (pv 3) (pv 4) (fun _ _ => rfl)) (pe_ix ix_list (pv 3) (pv 5) (fun _ _ => rfl)) (nomark _)) pa_nil))
                (pe_callB (call_reprD hg hr.units) (by rfl) N.rpr (by decide +kernel) (pa_cons (pe_not (pe_ix ix_list (pv 7) pe_int (fun _ _ => rfl))) pa_nil)) (nomark _))))) (pss_one (ps_ret pe_bl)) pss_nil)))))
        (pss_cons (ps_set (i := 8) scLaw.nd rfl (.inl rfl) (pe_lst (pa_cons (pe_ix ix_list (pv 2) (pv 4) (fun _ _ => rfl)) (pa_cons (pe_callTy (call_strOwn GS sS iS bS pass0 hr4) (by rfl) N.W.str (by decide +kernel) (pa_cons (pe_ix ix_list (pv 3) (pv 4) (fun _ _ => rfl)) pa_nil))
            (pa_cons pe_non (pa_cons pe_int (pa_cons pe_bl (pa_cons (pe_callTy call_list_of (by rfl) N.lst (by decide +kernel) (pa_cons (pe_ix ix_list (pv 2) (pv 4) (fun _ _ => rfl)) pa_nil))
            (pa_cons (pe_prop (pe_ix ix_list (pv 3) (pv 4) (fun _ _ => rfl)) N.T.cl hp GP hr2 bP .nil pass0 rfl) pa_nil)))))))))
        (pss_one (ps_if (pt_cmpR (op_neD hr.units) (pe_lc (own := [("_law_thing", 11)]) (g := gName 11) rfl scLaw.nd (pi_list (pv 8)) (blkOk_by (N := lawN) (sc := defScope sLaw) (by decide +kernel))
            (fun _ _ _ _ _ => pg_name (i := 11) scLaw.nd rfl (Or.inl rfl)) (fun _ _ _ _ _ => pts_one (pt_cmpR (eqOwnK (K := K) (E := E0) rfl GE sE iE bE pass0 hr3) (pe_ix (ixl (K := K) rfl) (pv 3) (pv 4) (fun _ _ => rfl)) (pv 11) (nomark _)))
            (fun _ _ _ _ _ => pv 11)) (pe_lst pa_nil) (nomark _)) (pss_one (ps_ret pe_bl)) pss_nil)))))
      (pss_one (ps_ret pe_bl)))))), ?_⟩
    refine ⟨_, rfl, a, ns, rfl, hS, fun H1 p l cs s1 pen1 => ?_⟩
    refine ⟨_, rfl, p, l, cs, 0, 0, _, rfl, pen1, by decide, by decide, by decide, fun d n1 g1 H2 d0 d1 hn1 off1 pen2 => ?_⟩
    refine ⟨_, _, rfl, rfl, _, rfl, by omega, by omega, fun D hD => ?_⟩
    have hDp : D ≠ p := (ne_of_none pen2.pen hD).symm
    have hDl : D ≠ l := (ne_of_none pen2.cells hD).symm
    refine lc_range (lo := 0) (n := (3 + d).toNat) (fun i H' => ∃ (L : List (Addr × Face)) (n' : Nat) (g' : Int), H' D = some (.lst (L.map fun x => V.ref x.1)) ∧ L.length = i ∧ (∀ x ∈ L, TupAt H' x.1 x.2 ∧ okF x.2) ∧ Pen H' p l cs n' g' ∧ n' ≤ n1 + 4 * i)
      ⟨[], n1, g1, upd_same, rfl, (fun x hx => nomatch hx), pen2.new hD, Nat.le_refl _⟩ ?_ ?_
    · rintro i H3 hi ⟨L, n', g', hL, hlen, hLs, pen, hn'⟩
      refine ⟨rfl, _, rfl, p, l, cs, n', g', rfl, pen, by omega, fun w m b t n2 g2 H4 hw h0 h1 hn2 off2 pen3 ht => ?_⟩
      have hL4 : H4 D = some (.lst (L.map fun x => V.ref x.1)) := off2 D _ hDp hL
      refine ⟨_, hL4, ?_, L ++ [(t, ⟨w, m, b⟩)], n2, g2, ?_, ?_, ?_, pen3.upd hDp hDl, by omega⟩
      · rw [List.length_map, hlen]
        exact Nat.lt_of_lt_of_le hi (Nat.le_trans (by omega : (3 + d).toNat ≤ 10) (by decide))
      · rw [upd_same, List.map_append]
        rfl
      · rw [List.length_append, hlen]
        rfl
      · intro x hx
        rcases List.mem_append.mp hx with hx | hx
        · exact ⟨((hLs x hx).1.off pen.pen off2).upd hL4, (hLs x hx).2⟩
        · obtain rfl := List.mem_singleton.mp hx
          exact ⟨TupAt.upd (f := ⟨w, m, b⟩) ht hL4, hw, h0, h1⟩
    · rintro H3 ⟨L, n', g', hL, hlen, hLs, pen, hn'⟩
      have hLpos : 0 < L.length := by omega
      have hL7 : L.length ≤ 7 := by omega
      refine ⟨_, rfl, .inl ⟨rfl, _, SqL.of hL⟩, _, rfl, _, rfl, _, rfl, D, _, rfl, .inl (SqL.of hL), p, l, cs, n', g', _, rfl, pen, by omega, ?_, ?_, fun d2 n2 g2 H4 e0 e1 hn2 off2 pen3 => ?_⟩
      · rw [List.length_map]
        omega
      · rw [List.length_map]
        omega
      rw [List.length_map] at e1
      obtain ⟨j, rfl⟩ : ∃ j : Nat, d2 = j := ⟨d2.toNat, by omega⟩
      have hj : j < L.length := by omega
      have hL4 : H4 D = some (.lst (L.map fun x => V.ref x.1)) := off2 D _ hDp hL
      have hgj : (L.map fun x => V.ref x.1)[j]? = some (V.ref L[j].1) := by
        rw [List.getElem?_map, List.getElem?_eq_getElem hj]
        rfl
      refine ⟨D, _, j, _, rfl, rfl, SqL.of hL4, atI_nat hgj, D, _, _, rfl, rfl, hL4, ?_, ?_⟩
      · rw [List.length_map]
        exact Nat.lt_of_le_of_lt hL7 (by decide)
      obtain ⟨L2, hL2⟩ : ∃ L2, L2 = L ++ [L[j]] := ⟨_, rfl⟩
      have hD5 : (upd H4 D (.lst ((L.map fun x => V.ref x.1) ++ [V.ref L[j].1]))) D = some (.lst (L2.map fun x => V.ref x.1)) := by
        rw [upd_same, hL2, List.map_append]
        rfl
      have hT5 : ∀ x ∈ L2, TupAt (upd H4 D (.lst ((L.map fun x => V.ref x.1) ++ [V.ref L[j].1]))) x.1 x.2 ∧ okF x.2 := by
        intro x hx
        rw [hL2] at hx
        have hx' : x ∈ L := by
          rcases List.mem_append.mp hx with hx | hx
          · exact hx
          · rw [List.mem_singleton.mp hx]
            exact List.getElem_mem hj
        exact ⟨((hLs x hx').1.off pen.pen off2).upd hL4, (hLs x hx').2⟩
      have hlen2 : L2.length ≤ 8 := by
        rw [hL2, List.length_append]
        show L.length + 1 ≤ 8
        omega
      clear hL2
      revert hD5 hT5
      generalize upd H4 D (.lst ((L.map fun x => V.ref x.1) ++ [V.ref L[j].1])) = H5
      intro hD5 hT5
      refine ⟨_, rfl, D, rfl, ⟨_, SqL.of hD5⟩, fun S hS => ?_⟩
      have hSD : D ≠ S := ne_of_none hD5 hS
      refine lc_list (K := K) (a := D) (xs := L2.map fun x => V.ref x.1) (fun i H' => ∃ M : List (Addr × Addr × Face), H' S = some (.lst (M.map fun x => V.ref x.2.1)) ∧ (M.map fun x => (x.1, x.2.2)) = L2.take i ∧ (∀ x ∈ M, At C H' x.2.1 x.2.2.w x.2.2.m x.2.2.b) ∧ Same H5 H')
        ⟨[], upd_same, by simp, (fun x hx => nomatch hx), same_upd0 hS⟩ (fun i H' _ h => ?_) ?_ ?_
      · obtain ⟨M, _, _, _, sm⟩ := h
        exact SqL.of (sm _ _ hD5)
      · rintro i x H6 hx ⟨M, hM, hMi, hMs, sm⟩
        have hi : i < L2.length := by
          have := (List.getElem?_eq_some_iff.mp hx).1
          rwa [List.length_map] at this
        obtain ⟨⟨t, w, m, b⟩, hLi, rfl⟩ : ∃ y : Addr × Face, L2[i]? = some y ∧ x = V.ref y.1 := by
          rw [List.getElem?_map, List.getElem?_eq_getElem hi] at hx
          exact ⟨L2[i], List.getElem?_eq_getElem hi, (Option.some.inj hx).symm⟩
        obtain ⟨hT, hw, h0, h1⟩ := hT5 _ (List.mem_of_getElem? hLi)
        obtain ⟨k1, k2, k3⟩ := six_ok _ hw
        have hT6 : H6 t = some (.tup [.str w, .int m, .bl b]) := sm _ _ hT
        refine ⟨rfl, _, rfl, t, _, 0, _, rfl, rfl, SqT.of hT6, atI_nat (j := 0) rfl, _, rfl, t, _, 1, _, rfl, rfl, SqT.of hT6, atI_nat (j := 1) rfl, _, rfl, t, _, 2, _, rfl, rfl, SqT.of hT6, atI_nat (j := 2) rfl, ?_⟩
        intro y dx ny ndx nyd
        refine ⟨y, dx, w, m, b, rfl, upd_same, k2, k1, h0, h1, fun H7 off hy => ⟨rfl, ?_⟩⟩
        have s67 : Same H6 H7 := fun c o e => by
          have n1 : c ≠ y := ne_of_none e ny
          refine off c o n1 ?_
          rw [upd_ne n1, upd_ne (ne_of_none e ndx)]
          exact e
        have hM7 := s67 _ _ hM
        have hMl : M.length ≤ 8 := by
          have := congrArg List.length hMi
          rw [List.length_map, List.length_take] at this
          omega
        refine ⟨_, hM7, ?_, M ++ [(t, y, ⟨w, m, b⟩)], ?_, ?_, ?_, Same.over (sm.trans s67) hS⟩
        · rw [List.length_map]
          exact Nat.lt_of_le_of_lt hMl (by decide)
        · rw [upd_same, List.map_append]
          rfl
        · rw [List.map_append, hMi, List.take_add_one, hLi]
          rfl
        · intro x hx
          rcases List.mem_append.mp hx with hx | hx
          · exact ((hMs x hx).same s67).upd hM7
          · obtain rfl := List.mem_singleton.mp hx
            exact At.upd ⟨dx, hy⟩ hM7
      · rintro H6 ⟨M, hM, hMi, hMs, sm⟩
        rw [List.length_map, List.take_length] at hMi
        have st : Stage C H6 D S M := by
          refine ⟨?_, hM, fun x hx => ?_⟩
          · have : (L2.map fun x => V.ref x.1) = M.map fun x => V.ref x.1 := by
              rw [← hMi, List.map_map]
              rfl
            rw [← this]
            exact sm _ _ hD5
          · have hx2 : (x.1, x.2.2) ∈ L2 := by
              rw [← hMi]
              exact List.mem_map_of_mem (f := fun x : Addr × Addr × Face => (x.1, x.2.2)) hx
            exact ⟨(hT5 _ hx2).1.same sm, hMs x hx, (hT5 _ hx2).2⟩
        have hMl : M.length ≤ 8 := by
          have := congrArg List.length hMi
          rw [List.length_map] at this
          omega
        clear hMi hMs hM sm hT5 hD5 hlen2
        refine ⟨_, rfl, D, _, rfl, .inl (SqL.of st.faces), _, rfl, ?_, ?_, ?_⟩
        · rw [List.length_map]
          omega
        · rw [List.length_map]
          omega
        have no_ahead : ∀ (z : Str) (m : Int) (b : Bool), (sf z m b).lookup ("is_ahead" : Str) = none := fun z m b => sf_no z m b (by decide +kernel) (by decide +kernel) (by decide +kernel)
        refine for_range (lo := 0) (n := ((((M.map fun x => V.ref x.1).length : Nat) : Int)).toNat) (fun i σ H' => ∃ y4 y5 y6 y7 y8, σ = [some (.ref a), some (.ref p), some (.ref D), some (.ref S), y4, y5, y6, y7, y8, none, none, none] ∧ Same H6 H')
          ⟨none, none, none, none, none, rfl, Same.refl H6⟩ ?_ (fun σ H7 h => ?_)
        case refine_2 =>
          obtain ⟨_, _, _, _, _, rfl, _⟩ := h
          exact q _
        rintro i σ H7 hi ⟨y4, y5, y6, y7, y8, rfl, sm7⟩
        have hi' : i < M.length := by
          rw [List.length_map] at hi
          omega
        obtain ⟨⟨ti, si, fi⟩, hMi⟩ : ∃ x, M[i]? = some x := ⟨_, List.getElem?_eq_getElem hi'⟩
        obtain ⟨_, _, oki⟩ := st.each _ (List.mem_of_getElem? hMi)
        obtain ⟨_, li, gi⟩ := six_ok _ oki.1
        have hfi : (M.map fun x => V.ref x.1)[i]? = some (V.ref ti) := by
          rw [List.getElem?_map, hMi]
          rfl
        have hgi : (M.map fun x => V.ref x.2.1)[i]? = some (V.ref si) := by
          rw [List.getElem?_map, hMi]
          rfl
        have st7 := st.same sm7
        refine ⟨_, rfl, D, _, rfl, .inl (SqL.of st7.faces), _, rfl, ?_, ?_, ?_⟩
        · rw [List.length_map]
          omega
        · rw [List.length_map]
          omega
        refine for_range (lo := 0) (n := ((((M.map fun x => V.ref x.1).length : Nat) : Int)).toNat) (fun k σ H' => ∃ y5 y6 y7, σ = [some (.ref a), some (.ref p), some (.ref D), some (.ref S), some (.int (0 + i)), y5, y6, y7, y8, none, none, none] ∧ Same H6 H')
          ⟨y5, y6, y7, rfl, sm7⟩ ?_ ?_
        · rintro k σ H8 hk ⟨y5, y6, y7, rfl, sm8⟩
          have hk' : k < M.length := by
            rw [List.length_map] at hk
            omega
          obtain ⟨⟨tk, sk, fk⟩, hMk⟩ : ∃ x, M[k]? = some x := ⟨_, List.getElem?_eq_getElem hk'⟩
          obtain ⟨_, _, okk⟩ := st.each _ (List.mem_of_getElem? hMk)
          obtain ⟨_, lk, gk⟩ := six_ok _ okk.1
          have hfk : (M.map fun x => V.ref x.1)[k]? = some (V.ref tk) := by
            rw [List.getElem?_map, hMk]
            rfl
          have hgk : (M.map fun x => V.ref x.2.1)[k]? = some (V.ref sk) := by
            rw [List.getElem?_map, hMk]
            rfl
          have at1 : ∀ {H'}, Same H6 H' → TupAt H' ti fi ∧ At C H' si fi.w fi.m fi.b ∧ TupAt H' tk fk ∧ At C H' sk fk.w fk.m fk.b ∧ Stage C H' D S M := fun s =>
            ⟨((st.same s).each _ (List.mem_of_getElem? hMi)).1, ((st.same s).each _ (List.mem_of_getElem? hMi)).2.1, ((st.same s).each _ (List.mem_of_getElem? hMk)).1, ((st.same s).each _ (List.mem_of_getElem? hMk)).2.1, st.same s⟩
          obtain ⟨T1, A1, T2, A2, st8⟩ := at1 sm8
          obtain ⟨d1, e1⟩ := id A1
          -- told
          refine ⟨_, rfl, _, rfl, S, _, _, _, rfl, rfl, SqL.of st8.some, at0 hgi, si, d1, _, rfl, e1, no_ahead _ _ _, _, rfl, _, rfl, S, _, _, _, rfl, rfl, SqL.of st8.some, at0 hgk, si, sk, _, _, _, _, _, _, rfl, A1, A2, gi, gk, fun H9 s9 => ?_⟩
          have sm9 := sm8.trans s9
          obtain ⟨T1', A1', T2', A2', st9⟩ := at1 sm9
          obtain ⟨d1', e1'⟩ := id A1'
          refine ⟨_, rfl, _, rfl, S, _, _, _, rfl, rfl, SqL.of st9.some, at0 hgi, si, d1', _, rfl, e1', no_ahead _ _ _, _, rfl, _, rfl, S, _, _, _, rfl, rfl, SqL.of st9.some, at0 hgk, si, sk, _, _, _, _, _, _, rfl, A1', A2', gi, gk, fun H10 s10 => ?_⟩
          have sm10 := sm9.trans s10
          obtain ⟨T1'', A1'', T2'', A2'', st10⟩ := at1 sm10
          obtain ⟨d1'', e1''⟩ := id A1''
          obtain ⟨d2'', e2''⟩ := id A2''
          have nfC : PySem.W.notFirst K C (.ref C) = true := by simp [PySem.W.notFirst]
          refine ⟨_, rfl, _, rfl, S, _, _, _, rfl, rfl, SqL.of st10.some, at0 hgi, _, rfl, _, rfl, S, _, _, _, rfl, rfl, SqL.of st10.some, at0 hgk, si, d1'', _, .ref C, rfl, e1'', .base (.ins e2'' N.T.cl N.T.ha N.T.hn N.T.htk N.T.hm), nfC,
            si, .ref sk, _, _, _, rfl, A1'', gi, .inl ⟨sk, _, _, _, rfl, A2'', gk, fun H11 s11 => ⟨_, rfl, ?_⟩⟩⟩
          refine ⟨(by show 3 ≤ sizeLine; decide), fun B1 hB1 => ?_⟩
          have sm11 := (sm10.trans s11).trans (same_upd0 (o := .lst [V.bl (ahead fi.w fi.m fi.b fk.w fk.m fk.b), V.bl (ahead fi.w fi.m fi.b fk.w fk.m fk.b), V.bl (id (decide ((fi.w = fk.w ∧ fi.m = fk.m) ∧ fi.b = fk.b)))]) hB1)
          have hB1' : (upd H11 B1 (.lst [V.bl (ahead fi.w fi.m fi.b fk.w fk.m fk.b), V.bl (ahead fi.w fi.m fi.b fk.w fk.m fk.b), V.bl (id (decide ((fi.w = fk.w ∧ fi.m = fk.m) ∧ fi.b = fk.b)))])) B1 = some (.lst [V.bl (ahead fi.w fi.m fi.b fk.w fk.m fk.b), V.bl (ahead fi.w fi.m fi.b fk.w fk.m fk.b), V.bl (id (decide ((fi.w = fk.w ∧ fi.m = fk.m) ∧ fi.b = fk.b)))]) := upd_same
          revert sm11 hB1'
          generalize upd H11 B1 (.lst [V.bl (ahead fi.w fi.m fi.b fk.w fk.m fk.b), V.bl (ahead fi.w fi.m fi.b fk.w fk.m fk.b), V.bl (id (decide ((fi.w = fk.w ∧ fi.m = fk.m) ∧ fi.b = fk.b)))]) = H12
          intro sm12 hB12
          obtain ⟨T1b, A1b, T2b, A2b, st12⟩ := at1 sm12
          -- due
          refine ⟨_, rfl, _, rfl, D, _, _, _, rfl, rfl, SqL.of st12.faces, at0 hfi, _, rfl, _, rfl, D, _, _, _, rfl, rfl, SqL.of st12.faces, at0 hfk, dFace fi, dFace fk, dp_face T1b, dp_face T2b, rfl, (fun z => nomatch z), (by show 1 ≤ 60; decide), ?_⟩
          refine ⟨_, rfl, _, rfl, D, _, _, _, rfl, rfl, SqL.of st12.faces, at0 hfi, _, rfl, _, rfl, D, _, _, _, rfl, rfl, SqL.of st12.faces, at0 hfk, dFace fi, dFace fk, dp_face T1b, dp_face T2b, rfl, (fun z => nomatch z), (by show 1 ≤ 60; decide), ?_⟩
          refine ⟨_, rfl, _, rfl, D, _, _, _, rfl, rfl, SqL.of st12.faces, at0 hfi, _, rfl, _, rfl, D, _, _, _, rfl, rfl, SqL.of st12.faces, at0 hfk, dFace fi, dFace fk, dp_face T1b, dp_face T2b, shaped_face gi, shaped_face gk, ?_⟩
          rw [lt_face, eqv_face]
          refine ⟨(by show 3 ≤ sizeLine; decide), fun B2 hB2 => ?_⟩
          have sm13 := sm12.trans (same_upd0 (o := .lst [V.bl (ahead fi.w fi.m fi.b fk.w fk.m fk.b), V.bl (ahead fi.w fi.m fi.b fk.w fk.m fk.b), V.bl (decide ((fi.w = fk.w ∧ fi.m = fk.m) ∧ fi.b = fk.b))]) hB2)
          have hB13 := (upd_ne (o := .lst [V.bl (ahead fi.w fi.m fi.b fk.w fk.m fk.b), V.bl (ahead fi.w fi.m fi.b fk.w fk.m fk.b), V.bl (decide ((fi.w = fk.w ∧ fi.m = fk.m) ∧ fi.b = fk.b))]) (ne_of_none hB12 hB2)).trans hB12
          have hB2' : (upd H12 B2 (.lst [V.bl (ahead fi.w fi.m fi.b fk.w fk.m fk.b), V.bl (ahead fi.w fi.m fi.b fk.w fk.m fk.b), V.bl (decide ((fi.w = fk.w ∧ fi.m = fk.m) ∧ fi.b = fk.b))])) B2 = some (.lst [V.bl (ahead fi.w fi.m fi.b fk.w fk.m fk.b), V.bl (ahead fi.w fi.m fi.b fk.w fk.m fk.b), V.bl (decide ((fi.w = fk.w ∧ fi.m = fk.m) ∧ fi.b = fk.b))]) := upd_same
          revert sm13 hB13 hB2'
          generalize upd H12 B2 (.lst [V.bl (ahead fi.w fi.m fi.b fk.w fk.m fk.b), V.bl (ahead fi.w fi.m fi.b fk.w fk.m fk.b), V.bl (decide ((fi.w = fk.w ∧ fi.m = fk.m) ∧ fi.b = fk.b))]) = H13
          generalize ahead fi.w fi.m fi.b fk.w fk.m fk.b = x1 at *
          intro sm13 hB13 hB2'
          obtain ⟨_, A1c, _, A2c, st13⟩ := at1 sm13
          obtain ⟨d1c, e1c⟩ := id A1c
          obtain ⟨d2c, e2c⟩ := id A2c
          refine ⟨_, rfl, _, .list [.bool x1, .bool x1, .bool (decide ((fi.w = fk.w ∧ fi.m = fk.m) ∧ fi.b = fk.b))], rfl, .lst (SqL.of hB13) (.cons (.bl _) (.cons (.bl _) (.cons (.bl _) .nil))), sh3 _ _ _, dep3 _ _ _, len3 _ _ _, _, rfl,
            _, .list [.bool x1, .bool x1, .bool (decide ((fi.w = fk.w ∧ fi.m = fk.m) ∧ fi.b = fk.b))], rfl, .lst (SqL.of hB2') (.cons (.bl _) (.cons (.bl _) (.cons (.bl _) .nil))), sh3 _ _ _, dep3 _ _ _, len3 _ _ _, rfl, _, rfl, iteNS rfl ?_⟩
          refine ⟨_, rfl, _, rfl, S, _, _, _, rfl, rfl, SqL.of st13.some, at0 hgi, _, rfl, _, rfl, S, _, _, _, rfl, rfl, SqL.of st13.some, at0 hgk, si, d1c, _, .ref C, rfl, e1c, .base (.ins e2c N.T.cl N.T.ha N.T.hn N.T.htk N.T.hm), nfC,
            si, .ref sk, _, _, _, rfl, A1c, gi, .inl ⟨sk, _, _, _, rfl, A2c, gk, fun H14 s14 => ⟨_, rfl, ?_⟩⟩⟩
          refine ⟨_, .bool _, rfl, .bl _, rfl, (by show 0 ≤ 60; decide), len1 _, _, rfl, B2, _, 2, _, rfl, rfl, SqL.of (s14 _ _ hB2'), atI_nat (j := 2) rfl, _, rfl, _, .bool _, rfl, .bl _, rfl, (by show 0 ≤ 60; decide), len1 _, rfl, _, rfl, iteNS rfl ?_⟩
          exact ⟨_, _, _, rfl, sm13.trans s14⟩
        · rintro σ H8 ⟨y5, y6, y7, rfl, sm8⟩
          have at1 : ∀ {H'}, Same H6 H' → TupAt H' ti fi ∧ At C H' si fi.w fi.m fi.b ∧ Stage C H' D S M := fun s => ⟨((st.same s).each _ (List.mem_of_getElem? hMi)).1, ((st.same s).each _ (List.mem_of_getElem? hMi)).2.1, st.same s⟩
          obtain ⟨T1, A1, st8⟩ := at1 sm8
          obtain ⟨d1, e1⟩ := id A1
          refine ⟨_, rfl, _, rfl, D, _, _, _, rfl, rfl, SqL.of st8.faces, at0 hfi, _, rfl, _, rfl, S, _, _, _, rfl, rfl, SqL.of st8.some, at0 hgi, si, d1, _, rfl, e1, si, _, _, _, rfl, A1, li, oki.2.1, oki.2.2, fun H9 s9 => ⟨_, rfl, ?_⟩⟩
          have sm9 := sm8.trans s9
          obtain ⟨T1', A1', st9⟩ := at1 sm9
          refine ⟨_, rfl, _, rfl, D, _, _, _, rfl, rfl, SqL.of st9.faces, at0 hfi, ti, _, rfl, .inr (SqT.of T1'), fun B3 hB3 => ?_⟩
          have sm10 := sm9.trans (same_upd0 (o := .lst [V.str fi.w, V.int fi.m, V.bl fi.b]) hB3)
          have hB3' : (upd H9 B3 (.lst [V.str fi.w, V.int fi.m, V.bl fi.b])) B3 = some (.lst [V.str fi.w, V.int fi.m, V.bl fi.b]) := upd_same
          revert sm10 hB3'
          generalize upd H9 B3 (.lst [V.str fi.w, V.int fi.m, V.bl fi.b]) = H10
          intro sm10 hB3'
          obtain ⟨T1'', A1'', st10⟩ := at1 sm10
          obtain ⟨d1'', e1''⟩ := id A1''
          refine ⟨_, rfl, _, rfl, S, _, _, _, rfl, rfl, SqL.of st10.some, at0 hgi, si, d1'', _, rfl, e1'', si, _, _, _, rfl, A1'', fun B4 hB4 => ?_⟩
          have n4 := same_upd0 (o := .tup [V.str fi.w, V.int fi.m]) hB4
          have hB4' : (upd H10 B4 (.tup [V.str fi.w, V.int fi.m])) B4 = some (.tup [V.str fi.w, V.int fi.m]) := upd_same
          revert n4 hB4'
          generalize upd H10 B4 (.tup [V.str fi.w, V.int fi.m]) = H11
          intro n4 hB4'
          have sm11 := sm10.trans n4
          refine ⟨(by show 7 ≤ sizeLine; decide), fun B5 hB5 => ?_⟩
          generalize hx8 : ([V.ref ti, V.str _, V.non, V.int 0, V.bl true, V.ref B3, V.ref B4] : List V) = xs8
          have key : ∀ y ∈ xs8, ∀ H', Same H11 H' → ∃ T : String, T ∈ ["tuple", "str", "NoneType", "int", "bool", "list"] ∧ TyX K H' y (.type T) := by
            intro y hy H' sm
            have t1 : H' ti = some (.tup [.str fi.w, .int fi.m, .bl fi.b]) := sm _ _ (n4 _ _ T1'')
            have t3 := sm _ _ (n4 _ _ hB3')
            have t4 := sm _ _ hB4'
            rw [← hx8] at hy
            simp only [List.mem_cons, List.not_mem_nil, or_false] at hy
            rcases hy with h | h | h | h | h | h | h <;> subst h
            · exact ⟨"tuple", by decide, .base (.tup t1)⟩
            · exact ⟨"str", by decide, .base (.str _)⟩
            · exact ⟨"NoneType", by decide, .base .non⟩
            · exact ⟨"int", by decide, .base (.int _)⟩
            · exact ⟨"bool", by decide, .base (.bl _)⟩
            · exact ⟨"list", by decide, .base (.lst t3)⟩
            · exact ⟨"tuple", by decide, .base (.tup t4)⟩
          have sm12 := sm11.trans (same_upd0 (o := .lst xs8) hB5)
          have n5 := same_upd0 (o := .lst xs8) hB5
          have hB5' : (upd H11 B5 (.lst xs8)) B5 = some (.lst xs8) := upd_same
          revert sm12 n5 hB5'
          generalize upd H11 B5 (.lst xs8) = H12
          intro sm12 n5 hB5'
          refine ⟨_, rfl, B5, rfl, ⟨_, SqL.of hB5'⟩, fun E1 hE1 => lc_list (K := K) (a := B5) (xs := xs8) (fun _ H' => H' E1 = some (.lst []) ∧ Same H12 H') ⟨upd_same, same_upd0 hE1⟩ (fun _ H' _ h => SqL.of (h.2 _ _ hB5')) ?_ ?_⟩
          · rintro j y H' hy ⟨hE, sm⟩
            obtain ⟨T, hT, ty⟩ := key y (List.mem_of_getElem? hy) H' (n5.trans sm)
            obtain ⟨_, A1c, st13⟩ := at1 (sm12.trans sm)
            obtain ⟨d1c, e1c⟩ := id A1c
            refine ⟨rfl, _, rfl, _, rfl, S, _, _, _, rfl, rfl, SqL.of st13.some, at0 hgi, _, rfl, si, d1c, _, .type T, rfl, e1c, ty, (N.T.no T hT).2, si, y, _, _, _, rfl, A1c, gi, .inr ⟨.type T, ty, (N.T.no T hT).1, false, rfl, _, rfl, hE, sm⟩⟩
          · rintro H' ⟨hE, sm⟩
            refine ⟨Nat.zero_le _, fun E2 hE2 => ⟨.list [], .list [], .lst (SqL.of ((upd_ne (ne_of_none hE hE2)).trans hE)) .nil, .lst (SqL.of upd_same) .nil, by decide, by decide, _, rfl, ?_⟩⟩
            rw [eqv_nil]
            refine iteF ?_
            exact ⟨_, _, _, _, _, rfl, (sm12.trans sm).trans (same_upd0 hE2)⟩
end
end K02

namespace K02
open PySem PySem.Spec PyProof.Rows L2 So
def strOf? : Value → Option Str
  | .str x _ => some x
  | _ => none
theorem vals_strs : ∀ {ss : List Str} {us : List Value}, us.map strOf? = ss.map some → Vals (ss.map V.str) us
  | [], [], _ => .nil
  | [], _ :: _, h => by simp at h
  | _ :: _, [], h => by simp at h
  | x :: ss, u :: us, h => by
    simp only [List.map_cons, List.cons.injEq] at h
    refine .cons ?_ (vals_strs h.2)
    cases u <;> simp [strOf?] at h
    rename_i y t
    exact ⟨t, by rw [h.1]⟩
theorem kb_other {K : PySem.W.Frag} {fd : FuncData} (h : ∀ (s : Shared) (u w : Value), BindsTo s fd ⟨[u], [("other", w)]⟩ [("self", u), ("other", w)]) : KBinds K fd ["self", "other"] ["other"] kOther kOther := by
  refine ⟨fun s us ws _ hl => ?_, fun {vs us zs ws} r rz => ?_⟩
  · match us, ws, hl with
    | [u], [w], _ => exact h s u w
    | [], _, hl => cases hl
    | [_], [], hl => cases hl
    | [_], _ :: _ :: _, hl => cases hl
    | _ :: _ :: _, _, hl => cases hl
  · cases r with
    | nil => exact .nil
    | cons r1 r =>
      cases r with
      | nil =>
        cases rz with
        | nil => exact .nil
        | cons r2 rz =>
          cases rz with
          | nil => exact .cons r1 (.cons r2 .nil)
          | cons _ _ => exact .nil
      | cons _ _ => exact .nil
theorem all_mk {l : PySem.W.OpenLaw} {w : World} {K : PySem.W.Frag} {h : Heap} {mg : Str → Option Value} {fa C pP aN fpen fdraw fpick fdrawn flaw fwhole fmoment fname fcheck fword finit feq fahead fstr fpoint : Addr} (X : K.In h) (G : h.Ns mainGlobals mg) (hfa : mg "law" = some (.ref fa))
    {odpen anpen oddraw andraw odpick anpick oddrawn andrawn odlaw anlaw odwhole anwhole odmoment anmoment odname anname odcheck ancheck odword anword odinit aninit odeq aneq odahead anahead odstr anstr odpoint anpoint odN : Option Addr} {slpen sldraw slpick sldrawn sllaw slwhole slmoment slname slcheck slword slinit sleq slahead slstr slpoint slN : Array (Option Value)} {ocpen kVpen dcpen pmpen cdpen ctpen ocdraw kVdraw dcdraw pmdraw cddraw ctdraw ocpick kVpick dcpick pmpick cdpick ctpick ocdrawn kVdrawn dcdrawn pmdrawn cddrawn ctdrawn oclaw kVlaw dclaw pmlaw cdlaw ctlaw ocwhole kVwhole dcwhole pmwhole cdwhole ctwhole ocmoment kVmoment dcmoment pmmoment cdmoment ctmoment ocname kVname dcname pmname cdname ctname occheck kVcheck dccheck pmcheck cdcheck ctcheck ocword kVword dcword pmword cdword ctword ocinit kVinit dcinit pminit cdinit ctinit oceq kVeq dceq pmeq cdeq cteq ocahead kVahead dcahead pmahead cdahead ctahead ocstr kVstr dcstr pmstr cdstr ctstr ocpoint kVpoint dcpoint pmpoint cdpoint ctpoint : Value} {tG tL tA tD : Tok} {itsN : Array Value} {nN : Nat} {restP : List Value}
    (aC : PySem.W.nsIn K mainGlobals "Saying" = some (some (.ref C)))
    (apen : PySem.W.nsIn K mainGlobals "_law_pen" = some (some (.ref fpen)))
    (lpen : K.lookup fpen = some ⟨ocpen, odpen, .func (PySem.W.fnOf "_law_pen" "_law_pen" (defArgs sPen) (defBody sPen) (defScope sPen) .none kVpen dcpen pmpen anpen cdpen ctpen), slpen⟩)
    (cpen : PySem.W.codeIn K cdpen "_law_pen" = true)
    (kpen : PySem.W.keepIn K (.ref fpen) = true)
    (adraw : PySem.W.nsIn K mainGlobals "_law_draw" = some (some (.ref fdraw)))
    (ldraw : K.lookup fdraw = some ⟨ocdraw, oddraw, .func (PySem.W.fnOf "_law_draw" "_law_draw" (defArgs sDraw) (defBody sDraw) (defScope sDraw) .none kVdraw dcdraw pmdraw andraw cddraw ctdraw), sldraw⟩)
    (cdraw : PySem.W.codeIn K cddraw "_law_draw" = true)
    (kdraw : PySem.W.keepIn K (.ref fdraw) = true)
    (apick : PySem.W.nsIn K mainGlobals "_law_pick" = some (some (.ref fpick)))
    (lpick : K.lookup fpick = some ⟨ocpick, odpick, .func (PySem.W.fnOf "_law_pick" "_law_pick" (defArgs sPick) (defBody sPick) (defScope sPick) .none kVpick dcpick pmpick anpick cdpick ctpick), slpick⟩)
    (cpick : PySem.W.codeIn K cdpick "_law_pick" = true)
    (kpick : PySem.W.keepIn K (.ref fpick) = true)
    (adrawn : PySem.W.nsIn K mainGlobals "_law_drawn" = some (some (.ref fdrawn)))
    (ldrawn : K.lookup fdrawn = some ⟨ocdrawn, oddrawn, .func (PySem.W.fnOf "_law_drawn" "_law_drawn" (defArgs sDrawn) (defBody sDrawn) (defScope sDrawn) .none kVdrawn dcdrawn pmdrawn andrawn cddrawn ctdrawn), sldrawn⟩)
    (cdrawn : PySem.W.codeIn K cddrawn "_law_drawn" = true)
    (kdrawn : PySem.W.keepIn K (.ref fdrawn) = true)
    (alaw : PySem.W.nsIn K mainGlobals "law" = some (some (.ref flaw)))
    (llaw : K.lookup flaw = some ⟨oclaw, odlaw, .func (PySem.W.fnOf "law" "law" (defArgs sLaw) (defBody sLaw) (defScope sLaw) .none kVlaw dclaw pmlaw anlaw cdlaw ctlaw), sllaw⟩)
    (claw : PySem.W.codeIn K cdlaw "law" = true)
    (klaw : PySem.W.keepIn K (.ref flaw) = true)
    (awhole : PySem.W.nsIn K mainGlobals "is_whole" = some (some (.ref fwhole)))
    (lwhole : K.lookup fwhole = some ⟨ocwhole, odwhole, .func (PySem.W.fnOf "is_whole" "is_whole" (defArgs sWhole) (defBody sWhole) (defScope sWhole) .none kVwhole dcwhole pmwhole anwhole cdwhole ctwhole), slwhole⟩)
    (cwhole : PySem.W.codeIn K cdwhole "is_whole" = true)
    (kwhole : PySem.W.keepIn K (.ref fwhole) = true)
    (amoment : PySem.W.nsIn K mainGlobals "is_moment" = some (some (.ref fmoment)))
    (lmoment : K.lookup fmoment = some ⟨ocmoment, odmoment, .func (PySem.W.fnOf "is_moment" "is_moment" (defArgs sMoment) (defBody sMoment) (defScope sMoment) .none kVmoment dcmoment pmmoment anmoment cdmoment ctmoment), slmoment⟩)
    (cmoment : PySem.W.codeIn K cdmoment "is_moment" = true)
    (kmoment : PySem.W.keepIn K (.ref fmoment) = true)
    (aname : PySem.W.nsIn K mainGlobals "is_name" = some (some (.ref fname)))
    (lname : K.lookup fname = some ⟨ocname, odname, .func (PySem.W.fnOf "is_name" "is_name" (defArgs sName) (defBody sName) (defScope sName) .none kVname dcname pmname anname cdname ctname), slname⟩)
    (cname : PySem.W.codeIn K cdname "is_name" = true)
    (kname : PySem.W.keepIn K (.ref fname) = true)
    (acheck : PySem.W.nsIn K mainGlobals "check_form" = some (some (.ref fcheck)))
    (lcheck : K.lookup fcheck = some ⟨occheck, odcheck, .func (PySem.W.fnOf "check_form" "check_form" (defArgs sCheck) (defBody sCheck) (defScope sCheck) .none kVcheck dccheck pmcheck ancheck cdcheck ctcheck), slcheck⟩)
    (ccheck : PySem.W.codeIn K cdcheck "check_form" = true)
    (kcheck : PySem.W.keepIn K (.ref fcheck) = true)
    (aword : PySem.W.nsIn K mainGlobals "word_of" = some (some (.ref fword)))
    (lword : K.lookup fword = some ⟨ocword, odword, .func (PySem.W.fnOf "word_of" "word_of" (defArgs sWordOf) (defBody sWordOf) (defScope sWordOf) .none kVword dcword pmword anword cdword ctword), slword⟩)
    (cword : PySem.W.codeIn K cdword "word_of" = true)
    (kword : PySem.W.keepIn K (.ref fword) = true)
    (ainit : PySem.W.findIn K (.ref C) "__init__" = some (some (.ref finit)))
    (iinit : PySem.W.isFn K (.ref finit) = true)
    (linit : K.lookup finit = some ⟨ocinit, odinit, .func (PySem.W.fnOf "__init__" "Saying.__init__" (defArgs sInit) (defBody sInit) (defScope sInit) .none kVinit dcinit pminit aninit cdinit ctinit), slinit⟩)
    (cinit : PySem.W.codeIn K cdinit "Saying.__init__" = true)
    (kinit : PySem.W.keepIn K (.ref finit) = true)
    (aeq : PySem.W.findIn K (.ref C) "__eq__" = some (some (.ref feq)))
    (ieq : PySem.W.isFn K (.ref feq) = true)
    (leq : K.lookup feq = some ⟨oceq, odeq, .func (PySem.W.fnOf "__eq__" "Saying.__eq__" (defArgs sEq) (defBody sEq) (defScope sEq) .none kVeq dceq pmeq aneq cdeq cteq), sleq⟩)
    (ceq : PySem.W.codeIn K cdeq "Saying.__eq__" = true)
    (keq : PySem.W.keepIn K (.ref feq) = true)
    (aahead : PySem.W.findIn K (.ref C) "is_ahead" = some (some (.ref fahead)))
    (iahead : PySem.W.isFn K (.ref fahead) = true)
    (lahead : K.lookup fahead = some ⟨ocahead, odahead, .func (PySem.W.fnOf "is_ahead" "Saying.is_ahead" (defArgs sAhead) (defBody sAhead) (defScope sAhead) .none kVahead dcahead pmahead anahead cdahead ctahead), slahead⟩)
    (cahead : PySem.W.codeIn K cdahead "Saying.is_ahead" = true)
    (kahead : PySem.W.keepIn K (.ref fahead) = true)
    (astr : PySem.W.findIn K (.ref C) "__str__" = some (some (.ref fstr)))
    (istr : PySem.W.isFn K (.ref fstr) = true)
    (lstr : K.lookup fstr = some ⟨ocstr, odstr, .func (PySem.W.fnOf "__str__" "Saying.__str__" (defArgs sStr) (defBody sStr) (defScope sStr) .none kVstr dcstr pmstr anstr cdstr ctstr), slstr⟩)
    (cstr : PySem.W.codeIn K cdstr "Saying.__str__" = true)
    (kstr : PySem.W.keepIn K (.ref fstr) = true)
    (apoint : PySem.W.findIn K (.ref C) "point" = some (some (.ref pP)))
    (gpoint : PySem.W.specialIn K (.ref pP) "__get__" = some (some (.builtin "property.__get__")))
    (tpoint : PySem.W.takesIn K (.ref pP) = some true)
    (rpoint : PySem.W.recIn K pP "property" = some (.ref fpoint :: restP))
    (lpoint : K.lookup fpoint = some ⟨ocpoint, odpoint, .func (PySem.W.fnOf "point" "Saying.point" (defArgs sPoint) (defBody sPoint) (defScope sPoint) .none kVpoint dcpoint pmpoint anpoint cdpoint ctpoint), slpoint⟩)
    (cpoint : PySem.W.codeIn K cdpoint "Saying.point" = true)
    (kpoint : PySem.W.keepIn K (.ref fpoint) = true)
    (pg : PySem.W.plainGet K C Str.empty = true)
    (hd : PySem.W.hasDictIn K C = true)
    (po : PySem.W.plainOver K C = true)
    (sa : PySem.W.findIn K (.ref C) "__setattr__" = some (some (.builtin "object.__setattr__")))
    (mk : PySem.W.makesIn K C = true)
    (kc : PySem.W.keepIn K (.ref C) = true)
    (n_tool : PySem.W.findIn K (.ref C) "tool" = some none)
    (n_moment : PySem.W.findIn K (.ref C) "moment" = some none)
    (n_is_sound : PySem.W.findIn K (.ref C) "is_sound" = some none)
    (nne : PySem.W.findIn K (.ref C) "__ne__" = some (some (.builtin "object.__ne__")))
    (tha : PySem.W.findIn K (.ref C) "__class__" = some (some (.builtin "object.__class__")))
    (thn : PySem.W.specialIn K (.builtin "object.__class__") "__get__" = some (some (.builtin "getset_descriptor.__get__")))
    (tht : PySem.W.takesIn K (.builtin "object.__class__") = some true)
    (thm : PySem.W.mroIn K C (.type "object") = some true)
    (hcls : PySem.W.isClsIn K C = true)
    (htyp : PySem.W.typeIn K (.ref C) = some (.type "type"))
    (gG : PySem.W.nsIn K mainGlobals "GREATEST" = some (some (.int 1000000000000000000000000000000 tG)))
    (gL : PySem.W.nsIn K mainGlobals "LONGEST_NAME" = some (some (.int 8 tL)))
    (gA : PySem.W.nsIn K mainGlobals "LETTERS" = some (some (.str letters tA)))
    (gD : PySem.W.nsIn K mainGlobals "DIGITS" = some (some (.str digits tD)))
    (gN : PySem.W.nsIn K mainGlobals "NO_NAMES" = some (some (.ref aN)))
    (lN : K.lookup aN = some ⟨.type "tuple", odN, .seq itsN nN, slN⟩)
    (vN : itsN.toList.map strOf? = noNames.map some)
    (b_isinstance : PySem.W.nsIn K mainGlobals "isinstance" = some none)
    (b_int : PySem.W.nsIn K mainGlobals "int" = some none)
    (b_bool : PySem.W.nsIn K mainGlobals "bool" = some none)
    (b_str : PySem.W.nsIn K mainGlobals "str" = some none)
    (b_len : PySem.W.nsIn K mainGlobals "len" = some none)
    (b_all : PySem.W.nsIn K mainGlobals "all" = some none)
    (b_range : PySem.W.nsIn K mainGlobals "range" = some none)
    (b_repr : PySem.W.nsIn K mainGlobals "repr" = some none)
    (b_list : PySem.W.nsIn K mainGlobals "list" = some none)
    (b_abs : PySem.W.nsIn K mainGlobals "abs" = some none)
    : ∃ fd : FuncData, (∀ (s : Shared) (v : Value), BindsTo s fd ⟨[v], []⟩ [("_law_script", v)]) ∧ ∀ base : Heap, K.In base → base.Ns mainGlobals mg → FnG l.prog w K mg base CX0 6 fa fd ["_law_script"] (spLaw K) := by
  have e := hfa.symm.trans (PySem.W.mg_of X G alaw)
  cases e
  have g1 := fun {n : Str} {v : Value} (e : PySem.W.nsIn K mainGlobals n = some (some v)) => PySem.W.mg_of X G e
  have g0 := fun {n : Str} (e : PySem.W.nsIn K mainGlobals n = some none) => PySem.W.mg_none_of X G e
  have T : Say K mg C := ⟨⟨pg, hd, po, sa⟩, n_tool, n_moment, n_is_sound, g1 aC, tha, thn, tht, thm, kit_self, fun T hT => by
    simp only [List.mem_cons, List.not_mem_nil, or_false] at hT
    rcases hT with h | h | h | h | h | h <;> subst h
    · exact ⟨kit_no hcls htyp (by decide +kernel), notFirst_ty (by decide +kernel)⟩
    · exact ⟨kit_no hcls htyp (by decide +kernel), notFirst_ty (by decide +kernel)⟩
    · exact ⟨kit_no hcls htyp (by decide +kernel), notFirst_ty (by decide +kernel)⟩
    · exact ⟨kit_no hcls htyp (by decide +kernel), notFirst_ty (by decide +kernel)⟩
    · exact ⟨kit_no hcls htyp (by decide +kernel), notFirst_ty (by decide +kernel)⟩
    · exact ⟨kit_no hcls htyp (by decide +kernel), notFirst_ty (by decide +kernel)⟩⟩
  have hv := vals_strs vN
  have W : Words K mg := ⟨⟨_, g1 gG⟩, ⟨_, g1 gL⟩, ⟨_, g1 gA⟩, ⟨_, g1 gD⟩, ⟨aN, g1 gN, fun H => .inr ⟨_, itsN, nN, lN, rfl, rfl, by
    have := hv.length
    rw [List.length_map] at this
    rw [← Array.length_toList, ← this]
    decide, hv⟩⟩, g0 b_isinstance, g0 b_int, g0 b_bool, g0 b_str, g0 b_len, g0 b_all⟩
  have F_pen := fun_mk (st := sPen) lpen cpen kpen
  have F_draw := fun_mk (st := sDraw) ldraw cdraw kdraw
  have F_pick := fun_mk (st := sPick) lpick cpick kpick
  have F_drawn := fun_mk (st := sDrawn) ldrawn cdrawn kdrawn
  have F_law := fun_mk (st := sLaw) llaw claw klaw
  have F_whole := fun_mk (st := sWhole) lwhole cwhole kwhole
  have F_moment := fun_mk (st := sMoment) lmoment cmoment kmoment
  have F_name := fun_mk (st := sName) lname cname kname
  have F_check := fun_mk (st := sCheck) lcheck ccheck kcheck
  have F_word := fun_mk (st := sWordOf) lword cword kword
  have F_init := fun_mk (st := sInit) linit cinit kinit
  have F_eq := fun_mk (st := sEq) leq ceq keq
  have F_ahead := fun_mk (st := sAhead) lahead cahead kahead
  have F_str := fun_mk (st := sStr) lstr cstr kstr
  have F_point := fun_mk (st := sPoint) lpoint cpoint kpoint
  have b_pen_ := F_pen.binds (ps := ["_law_script"]) fun _ _ _ _ _ _ us hl => match us, hl with | [_], _ => rfl
  have b_draw_ := F_draw.binds (ps := ["_law_pen_here", "_law_many"]) fun _ _ _ _ _ _ us hl => match us, hl with | [_, _], _ => rfl
  have b_pick_ := F_pick.binds (ps := ["_law_pen_here", "_law_some"]) fun _ _ _ _ _ _ us hl => match us, hl with | [_, _], _ => rfl
  have b_drawn_ := F_drawn.binds (ps := ["_law_pen_here"]) fun _ _ _ _ _ _ us hl => match us, hl with | [_], _ => rfl
  have b_whole_ := F_whole.binds (ps := ["value"]) fun _ _ _ _ _ _ us hl => match us, hl with | [_], _ => rfl
  have b_moment_ := F_moment.binds (ps := ["value"]) fun _ _ _ _ _ _ us hl => match us, hl with | [_], _ => rfl
  have b_name_ := F_name.binds (ps := ["value"]) fun _ _ _ _ _ _ us hl => match us, hl with | [_], _ => rfl
  have b_check_ := F_check.binds (ps := ["value", "form"]) fun _ _ _ _ _ _ us hl => match us, hl with | [_, _], _ => rfl
  have b_word_ := F_word.binds (ps := ["value"]) fun _ _ _ _ _ _ us hl => match us, hl with | [_], _ => rfl
  have b_init_ := F_init.binds (ps := ["self", "tool", "moment", "is_sound"]) fun _ _ _ _ _ _ us hl => match us, hl with | [_, _, _, _], _ => rfl
  have b_eq_ := F_eq.binds (ps := ["self", "other"]) fun _ _ _ _ _ _ us hl => match us, hl with | [_, _], _ => rfl
  have b_ahead_ := F_ahead.binds (ps := ["self", "other"]) fun _ _ _ _ _ _ us hl => match us, hl with | [_, _], _ => rfl
  have b_str_ := F_str.binds (ps := ["self"]) fun _ _ _ _ _ _ us hl => match us, hl with | [_], _ => rfl
  have b_point_ := F_point.binds (ps := ["self"]) fun _ _ _ _ _ _ us hl => match us, hl with | [_], _ => rfl
  refine ⟨PySem.W.fnOf "law" "law" (defArgs sLaw) (defBody sLaw) (defScope sLaw) .none kVlaw dclaw pmlaw anlaw cdlaw ctlaw, fun s v => ?_, fun base _ _ => ?_⟩
  rotate_left
  · have GD := ok_draw (P := l.prog) (w := w) (base := base) F_draw (g0 b_len) (g0 b_int) (g0 b_abs)
    have GPk := ok_pick (P := l.prog) (w := w) (base := base) F_pick (g0 b_len) F_draw b_draw_ (g1 adraw) GD
    have GDr := ok_drawn (P := l.prog) (w := w) (base := base) F_drawn F_draw b_draw_ (g1 adraw) GD F_pick b_pick_ (g1 apick) GPk
    have GPen := ok_pen (P := l.prog) (w := w) (base := base) F_pen (g0 b_list)
    have GM := ok_moment (P := l.prog) (w := w) (base := base) F_moment W F_whole b_whole_ (g1 awhole)
    have GN := ok_name (P := l.prog) (w := w) (base := base) F_name W
    have GC := ok_check (P := l.prog) (w := w) (base := base) F_check W F_moment b_moment_ (g1 amoment) GM F_name b_name_ (g1 aname) GN
    have GI := ok_init (P := l.prog) (w := w) (base := base) F_init T F_check b_check_ (g1 acheck) GC
    have GP := ok_point (P := l.prog) (w := w) (base := base) F_point T
    have hp : PropOf K C "point" pP fpoint := ⟨apoint, gpoint, tpoint, ⟨_, rpoint⟩⟩
    have GE := ok_eq (P := l.prog) (w := w) (base := base) F_eq W T hp b_point_ GP
    have GA := ok_ahead (P := l.prog) (w := w) (base := base) F_ahead T hp b_point_ GP
    have GS := ok_str (P := l.prog) (w := w) (base := base) F_str W T F_word b_word_ (g1 aword)
    exact ok_law F_law ⟨W, T, g0 b_range, g0 b_repr, g0 b_list⟩ F_pen b_pen_ (g1 apen) GPen F_draw b_draw_ (g1 adraw) GD F_drawn b_drawn_ (g1 adrawn) GDr ⟨mk, ainit, iinit, kc⟩ b_init_ GI ⟨aahead, iahead, kahead⟩ b_ahead_ (kb_other fun s u w => .of_eq rfl) GA
      aeq ieq b_eq_ GE nne astr istr b_str_ GS hp b_point_ GP
  · exact .of_eq rfl
theorem walk {l : PySem.W.OpenLaw} {q : Program} {loose : List Str} {XP : (Str → Option Value) → Heap → Prop} {YP : World → Heap → Prop} {d : DefRec} {K : Params → PySem.W.Frag} (hn : l.most = some 63) (hdf : d.params.defaults = [])
    (hY : ∀ (w : World) (h : Heap), YP w h → (K w.params).In h)
    (F : ∀ (w : World) (mg : Str → Option Value) (fa : Addr) (h : Heap), (K w.params).In h → h.Ns mainGlobals mg → mg d.name = some (.ref fa) →
      ∃ fd : FuncData, (∀ (s : Shared) (u : Value), BindsTo s fd ⟨[u], []⟩ [("_law_script", u)]) ∧ ∀ base : Heap, (K w.params).In base → base.Ns mainGlobals mg → FnG l.prog w (K w.params) mg base CX0 6 fa fd ["_law_script"] (spLaw (K w.params))) :
    PySem.W.WalkO q loose XP YP l.row.toRowW d [] (fun f vs => PySem.call f vs) :=
  walk_ofG (n := 63) (k := 6) (x := "_law_script") (CX := fun _ => CX0) (sp := fun w => spLaw (K w.params)) hn (by decide) hdf ⟨rfl, by decide, by decide⟩ hY F (fun _ _ a ns hl _ _ hS => ⟨a, ns, rfl, hS, fun _ => rfl⟩) fun _ _ _ _ _ z => z
end K02

open PySem PySem.W PyProof.Rows in
set_option maxRecDepth 100000 in
set_option maxHeartbeats 0 in
theorem PySem.Challenge.cw_soundtill_k02_sayings_in_order_holds : PySem.Challenge.rw_soundtill_k02_sayings_in_order.Holds := by
  w_on; o_law; k_head; (case hw => w_witness2)
  k_fill
  refine K02.walk (l := PySem.Challenge.rw_soundtill_k02_sayings_in_order) rfl rfl (fun w h Y => PySem.W.kIn_of Y) ?F
  case F =>
    intro w mg fa h KX G hmg
    refine' K02.all_mk KX G hmg ?aC ?apen ?lpen ?cpen ?kpen ?adraw ?ldraw ?cdraw ?kdraw ?apick ?lpick ?cpick ?kpick ?adrawn ?ldrawn ?cdrawn ?kdrawn ?alaw ?llaw ?claw ?klaw ?awhole ?lwhole ?cwhole ?kwhole ?amoment ?lmoment ?cmoment ?kmoment ?aname ?lname ?cname ?kname ?acheck ?lcheck ?ccheck ?kcheck ?aword ?lword ?cword ?kword ?ainit ?iinit ?linit ?cinit ?kinit ?aeq ?ieq ?leq ?ceq ?keq ?aahead ?iahead ?lahead ?cahead ?kahead ?astr ?istr ?lstr ?cstr ?kstr ?apoint ?gpoint ?tpoint ?rpoint ?lpoint ?cpoint ?kpoint ?pg ?hd ?po ?sa ?mk ?kc ?n_tool ?n_moment ?n_is_sound ?nne ?tha ?thn ?tht ?thm ?hcls ?htyp ?gG ?gL ?gA ?gD ?gN ?lN ?vN ?b_isinstance ?b_int ?b_bool ?b_str ?b_len ?b_all ?b_range ?b_repr ?b_list ?b_abs
    (case aC => k_is)
    (case apen => k_is)
    (case lpen => k_is)
    (case cpen => k_is)
    (case kpen => k_is)
    (case adraw => k_is)
    (case ldraw => k_is)
    (case cdraw => k_is)
    (case kdraw => k_is)
    (case apick => k_is)
    (case lpick => k_is)
    (case cpick => k_is)
    (case kpick => k_is)
    (case adrawn => k_is)
    (case ldrawn => k_is)
    (case cdrawn => k_is)
    (case kdrawn => k_is)
    (case alaw => k_is)
    (case llaw => k_is)
    (case claw => k_is)
    (case klaw => k_is)
    (case awhole => k_is)
    (case lwhole => k_is)
    (case cwhole => k_is)
    (case kwhole => k_is)
    (case amoment => k_is)
    (case lmoment => k_is)
    (case cmoment => k_is)
    (case kmoment => k_is)
    (case aname => k_is)
    (case lname => k_is)
    (case cname => k_is)
    (case kname => k_is)
    (case acheck => k_is)
    (case lcheck => k_is)
    (case ccheck => k_is)
    (case kcheck => k_is)
    (case aword => k_is)
    (case lword => k_is)
    (case cword => k_is)
    (case kword => k_is)
    (case ainit => k_is)
    (case iinit => k_is)
    (case linit => k_is)
    (case cinit => k_is)
    (case kinit => k_is)
    (case aeq => k_is)
    (case ieq => k_is)
    (case leq => k_is)
    (case ceq => k_is)
    (case keq => k_is)
    (case aahead => k_is)
    (case iahead => k_is)
    (case lahead => k_is)
    (case cahead => k_is)
    (case kahead => k_is)
    (case astr => k_is)
    (case istr => k_is)
    (case lstr => k_is)
    (case cstr => k_is)
    (case kstr => k_is)
    (case apoint => k_is)
    (case gpoint => k_is)
    (case tpoint => k_is)
    (case rpoint => k_is)
    (case lpoint => k_is)
    (case cpoint => k_is)
    (case kpoint => k_is)
    (case pg => k_is)
    (case hd => k_is)
    (case po => k_is)
    (case sa => k_is)
    (case mk => k_is)
    (case kc => k_is)
    (case n_tool => k_is)
    (case n_moment => k_is)
    (case n_is_sound => k_is)
    (case nne => k_is)
    (case tha => k_is)
    (case thn => k_is)
    (case tht => k_is)
    (case thm => k_is)
    (case hcls => k_is)
    (case htyp => k_is)
    (case gG => k_is)
    (case gL => k_is)
    (case gA => k_is)
    (case gD => k_is)
    (case gN => k_is)
    (case lN => k_is)
    (case vN => rfl)
    (case b_isinstance => k_is)
    (case b_int => k_is)
    (case b_bool => k_is)
    (case b_str => k_is)
    (case b_len => k_is)
    (case b_all => k_is)
    (case b_range => k_is)
    (case b_repr => k_is)
    (case b_list => k_is)
    (case b_abs => k_is)
