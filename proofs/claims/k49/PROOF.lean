import PyProof.Rows.All
import Wide.All
import OpenK.AllK
import Wide.FinOn
import HandS.ForMost
import HandS.OwnEq
import HandS.IsInst
import HandS.Wide
import HandS.EndBits
import HandS.Property
import KE.LtData
import HandS.NamedTupSort
import HandS.Exc
import HandS.ExcInit
import HandS.ExcIs
import HandS.ExcField
import HandS.TryOnly
import HandS.Lambda
import HandS.ClsMeth
import HandS.MakeKwOnly
import KE.KOpsOwn
import HandS.WordsExc
import HandS.WordsDict
import HandS.Codes
import HandS.Walk
import HandS.SetFor
import HandS.Strs
import HandS.Defaults
import HandS.Small
import HandS.LawCells
import OpenK.KMeth
import KE.DataMinMax
import HandS.Star
import HandS.DictComp
import HandS.More
import HandS.Set
import PyProof.Rows.SortShellAny
import PyProof.Rows.StrMeet
import HandS.Comp
import PyProof.ListNew
import PyProof.Conv_bool
import OpenK.KOps
import HandS.Text
import PyProof.Rows.StrPins3
import HandS.DictTup
import HandS.Iter
import HandS.TupLen
import HandS.Call
import KE.KCallOwn
import HandS.List
import HandS.EndTab
import PyProof.Rows.StrSplitJoin
import PyProof.Rows.StrItems
import PyProof.ReprRoads
import HandS.Words
import PyProof.StrLawsRepr
import PyProof.StrLawsTight
import PyProof.StrLawsChain
import PyProof.Rows.StrSplitAre
import PyProof.NeKinds
import PyProof.EqAt
import PySem.Challenge.RW_soundtill_k49_turn_sayings_told
set_option Elab.async false
set_option linter.all false
set_option maxRecDepth 100000
set_option maxHeartbeats 8000000
/-! So: rules of our own over the hand layer. Runs whose guards are known (for repr), repr of data, == and != by an own __eq__ with both answers, < of data, a method's call with keywords. -/
namespace So
open PySem PySem.Spec PyProof.Rows L2

/-! ### repr of data -/
mutual
theorem dp_noDict {K : PySem.W.Frag} {H : Hp} : ∀ (d : PyData) (v : V), Dp K H v d → d.hasDict = false
  | .none, _, _ => rfl
  | .bool _, _, _ => rfl
  | .int _, _, _ => rfl
  | .str _, _, _ => rfl
  | .list ds, _, h => by
    cases h with
    | lst _ ha => simpa [PyData.hasDict] using dp_noDictAll ds _ ha
  | .tuple ds, _, h => by
    cases h with
    | tup _ ha => simpa [PyData.hasDict] using dp_noDictAll ds _ ha
  | .dict _, _, h => by cases h
theorem dp_noDictAll {K : PySem.W.Frag} {H : Hp} : ∀ (ds : List PyData) (vs : List V), DpAll K H vs ds → PyData.hasDictAll ds = false
  | [], _, _ => rfl
  | d :: ds, _, h => by
    cases h with
    | cons h1 h2 => simp [PyData.hasDictAll, dp_noDict d _ h1, dp_noDictAll ds _ h2]
end

/-- repr(x): what it asks -/
def rRepr (K : PySem.W.Frag) : List V → Hp → VK → Prop := fun xs H Q => ∃ v d, xs = [v] ∧ Dp K H v d ∧ d.showable = true ∧ d.depth ≤ 60 ∧ d.shown.length ≤ sizeLine ∧ Q (.str d.shown) H
section
variable {X : Cx}
theorem call_reprD (hg : X.A.guards = some []) (hu : X.A.units + 64 < cLine) : CallR X (.builtin "repr") (rRepr X.K) := by
  intro pins s σ H xs us Q I r h
  obtain ⟨v, d, rfl, hd, hs, hdep, hz, q⟩ := h
  obtain ⟨u, rfl, rv⟩ := vals1 r
  obtain ⟨as, rd⟩ := Dp.reads I d v u hd rv
  have nd : d.hasDict = false := dp_noDict d v hd
  cases v with
  | ref a =>
    cases rv
    refine repr_of_reads' rd hs (fun z => by rw [nd] at z; cases z) hg (by omega) (fun _ _ e => e) (fun h' t tk k => ?_) hz
    exact ⟨.str d.shown, H, I.kept k, ⟨t, rfl⟩, q⟩
  | non =>
    cases hd
    cases rv
    exact PySem.P.repr_of_none ⟨.str _, H, I.tok _, ⟨_, rfl⟩, q⟩
  | bl b =>
    cases hd
    cases rv
    refine PySem.P.repr_of_bool ⟨.str (PyData.shown (.bool b)), H, I.tok _, ⟨s.toks, ?_⟩, q⟩
    cases b <;> rfl
  | int i =>
    cases hd
    obtain ⟨t, rfl⟩ := rv
    exact PySem.P.repr_of_int (by simpa [PyData.showable] using hs) ⟨.str _, H, I.tok _, ⟨_, rfl⟩, q⟩
  | str x =>
    cases hd
    obtain ⟨t, rfl⟩ := rv
    exact PySem.P.repr_of_str ⟨.str _, H, I.tok _, ⟨_, rfl⟩, q⟩ hz
  | byt b => cases hd
  | flt b => cases hd
  | ty n => cases hd

/-! ### < of data -/
def rLtD (K : PySem.W.Frag) : R2 := fun x y H Q => ∃ d e, Dp K H x d ∧ Dp K H y e ∧ PySem.W.alike d e = true ∧ d ≠ .none ∧ d.depth ≤ 60 ∧ Q (.bl (PySem.W.dataLt d e)) H
theorem op_ltD (hu : X.A.units + 64 < cLine) : OpR X (compareOp .Lt) (rLtD X.K) := by
  intro pins s σ H x y v u Q I rx ry h
  obtain ⟨d, e, hd, he, al, nn, dep, q⟩ := h
  obtain ⟨as, r1⟩ := Dp.reads I d x v hd rx
  obtain ⟨bs, r2⟩ := Dp.reads I e y u he ry
  have hm : min d.depth e.depth ≤ d.depth := Nat.min_le_left _ _
  exact PySem.W.rcLt_alike d e X.A s v u as bs r1 r2 al nn (by omega) _ _ _ _ ⟨.bl _, H, I, rfl, q⟩
end
end So

namespace So
open PySem PySem.Spec PyProof.Rows L2

/-! ### == and != by an own __eq__, both answers -/
/-- x is an instance of C, y of a type that is no class below C; the own __eq__ answers b -/
def rOwn (C : Addr) (K : PySem.W.Frag) (sp : Sp) (E : XK) (g : Bool → Bool) : R2 := fun x y H Q => ∃ a dx fs t, x = .ref a ∧ H a = some (.ins C dx fs) ∧ TyX K H y t ∧ PySem.W.notFirst K C t = true ∧
  sp [.ref a, y] H (fun v H' => ∃ b, v = .bl b ∧ Q (.bl (g b)) H') E
section
variable {X : Cx} {CX : CXT} {k : Nat} {C f : Addr} {fd : FuncData} {ps : List Str} {sp : Sp} {E : XK}
/-- what is wanted of a comparison's answer -/
def BlP (X : Cx) (pins : List (Addr × Obj)) (σ : L2.St) (g : Bool → Bool) (Q : VK) (v : Value) (s' : Shared) : Prop := ∃ b H', v = .bool b ∧ Inv X pins σ H' s' ∧ Q (.bl (g b)) H'
theorem run_eq {pins : List (Addr × Obj)} {s : Shared} {σ : L2.St} {H : Hp} {a dx : Addr} {fs : List (Str × V)} {y : V} {u : Value} {Q : VK} {g : Bool → Bool} {A : Around} (F : FnOk X.prog X.w X.K X.mg X.base CX k f fd ps sp) (hb : Binds X.K fd ps [])
    (hx : Passes CX X E) (hr : Room k A) (hf : A.frames = X.A.frames) (I : Inv X pins σ H s) (ry : RelV y u) (h : sp [.ref a, y] H (fun v H' => ∃ b, v = .bl b ∧ Q (.bl (g b)) H') E) :
    wpAny (model X.prog X.w) A (call (.ref f) [.ref a, u]) (fun v s' => BlP X pins σ g Q v s') X.xe s := by
  have e0 : Env0 X.prog X.w X.K X.mg X.base A X.stack s H := by
    have e := I.env0
    exact ⟨hf.trans e.frames, e.mod, e.bs, e.bsz, e.funs, e.frf, e.hok, e.bare⟩
  have hl : ([Value.ref a, u] ++ ([] : List Value)).length = ps.length := (F.len _ _ _ _ h : [V.ref a, y].length = ps.length)
  refine wpAny_call (codeAny_mono (F.run A X.stack s H ⟨[.ref a, u], []⟩ ([.ref a, u] ++ []) [.ref a, y] _ E hr e0 (hb s [.ref a, u] I.kIn hl) (.cons rfl (.cons ry .nil)) h) fun r s' hq => ?_)
  cases r with
  | error e => exact hx pins σ H s e s' I hq
  | ok fl =>
    cases fl with
    | ret w =>
      obtain ⟨z, H', I', rz, b, ez, q⟩ := I.after hq
      subst ez
      cases rz
      exact ⟨b, H', rfl, I', q⟩
    | next => exact False.elim hq
    | brk => exact False.elim hq
    | cont => exact False.elim hq

theorem op_eqOwn (F : FnOk X.prog X.w X.K X.mg X.base CX k f fd ps sp) (hs : PySem.W.findIn X.K (.ref C) "__eq__" = some (some (.ref f))) (hf : PySem.W.isFn X.K (.ref f) = true) (hb : Binds X.K fd ps []) (hx : Passes CX X E) (hr : Room k X.A) :
    OpR X (compareOp .Eq) (rOwn C X.K sp E id) := by
  intro pins s σ H x y v u Q I rx ry h
  obtain ⟨a, dx, fs, t, rfl, ha, ty, nf, q⟩ := h
  cases rx
  obtain ⟨mA, J, _⟩ := ins_get I.hok ha
  obtain ⟨od, J, _⟩ := J.look
  obtain ⟨P, Z, p, _⟩ := kit_of I ry ty
  obtain ⟨m, hF⟩ := I.fr
  show wpAny _ _ (richCompare .Eq (.ref a) u) _ _ s
  refine PySem.W.cmp_K (op := .Eq) (tb := t) hr.units0 hF I.ok.mod.kin J (Z.ty _ _ I.kIn p) nf hs hf ?_
  refine wpAny_mono (run_eq (dx := dx) (fs := fs) F hb hx hr rfl I ry q) (fun w s' z => ?_) fun _ _ z => z
  obtain ⟨b, H', rfl, I', q'⟩ := z
  exact ⟨.bl b, H', I', rfl, q'⟩

/-- != where the class has an own __eq__ and object's __ne__ -/
theorem op_neOwn (F : FnOk X.prog X.w X.K X.mg X.base CX k f fd ps sp) (hs : PySem.W.findIn X.K (.ref C) "__eq__" = some (some (.ref f))) (hf : PySem.W.isFn X.K (.ref f) = true) (hb : Binds X.K fd ps []) (hx : Passes CX X E) (hr : Room (k + 1) X.A)
    (hn : PySem.W.findIn X.K (.ref C) "__ne__" = some (some (.builtin "object.__ne__"))) (hm : PySem.W.mroIn X.K C (.type "object") = some true) : OpR X (compareOp .NotEq) (rOwn C X.K sp E not) := by
  intro pins s σ H x y v u Q I rx ry h
  obtain ⟨a, dx, fs, t, rfl, ha, ty, nf, q⟩ := h
  cases rx
  obtain ⟨mA, J, _⟩ := ins_get I.hok ha
  obtain ⟨od, J, _⟩ := J.look
  obtain ⟨P, Z, p, _⟩ := kit_of I ry ty
  have KI := I.kIn
  have hb' := Z.ty (model X.prog X.w) _ I.kIn p
  have hu : X.A.units < cLine := hr.units0
  show wpAny _ _ (richCompare .NotEq (.ref a) u) _ _ s
  have one : wpAny (model X.prog X.w) X.A (tryCompare (.ref a) "__ne__" u) (fun r s' => ∃ v, r = some v ∧ EP X pins σ Q v s') X.xe s := by
    unfold tryCompare
    refine wpAny_bind (NtL.csib (J.type.andThen (PySem.W.looks_findIn KI hn)) (PySem.F.cmp_object.ne.bind _) (wpAny_call (codeAny_call_builtin PySem.F.cmp_object.ne.plain PySem.F.cmpEntry_ne (PySem.W.check_slot PySem.F.cmpKind_ne PySem.F.cmpSplit_ne (J.type.andThen (PySem.W.looks_mroIn KI hm)) (PySem.F.cmpArgs_ne _ _) ?_))))
    unfold Builtin.«object.__ne__»
    refine wpAny_bind (wpAny_of_eq (a := ((Value.ref a : Value), [u])) (by first | rfl | (simp only [slotArgs]; rfl)) ?_)
    refine wpAny_bind (wpAny_cRoomFor (by show X.A.units + 1 < cLine; have := hr.units; omega) ?_)
    refine wpAny_bind (PySem.W.ifBound_K KI J hs hf (wpAny_mono (run_eq (dx := dx) (fs := fs) F hb hx hr.in1 rfl I ry q) (fun w s' z => ?_) fun _ _ z => z))
    obtain ⟨b, H', rfl, I', q'⟩ := z
    refine wpAny_bind (wpAny_truthy_bool ?_)
    refine wpAny_pure ?_
    exact wpAny_pure ⟨_, rfl, .bl (!b), H', I', rfl, q'⟩
  unfold richCompare
  simp only [oneThing_ref]
  refine wpAny_holding (wpAny_bind (wpAny_cRoomFor hu ?_))
  refine wpAny_bind (J.type.here (wpAny_bind (hb'.here ?_)))
  have fin : wpAny (model X.prog X.w) X.A (tryCompare (.ref a) "__ne__" u) (fun r s' => ∃ v, r = some v ∧ EP X pins σ Q v s') X.xe s := one
  split
  · rename_i z
    have e : PySem.W.subIn X.K t (.ref C) = some false := by
      rcases Bool.or_eq_true_iff.mp nf with e | e
      · rw [beq_iff_eq.mp e] at z; simp at z
      · exact beq_iff_eq.mp e
    refine wpAny_bind ((PySem.W.looks_subIn KI e).here ?_)
    simp only [Bool.false_eq_true, if_false]
    exact wpAny_bind (wpAny_mono fin (fun r s' z => by obtain ⟨v, rfl, hq⟩ := z; exact wpAny_pure hq) fun _ _ e => e)
  · refine wpAny_bind (wpAny_pure ?_)
    simp only [Bool.false_eq_true, if_false]
    exact wpAny_bind (wpAny_mono fin (fun r s' z => by obtain ⟨v, rfl, hq⟩ := z; exact wpAny_pure hq) fun _ _ e => e)
end
end So

namespace So
open PySem PySem.Spec PyProof.Rows L2

/-! ### runs in which no repr is under way -/
/-- as FnOk, where no repr is under way at the call -/
structure FnG (P : Program) (w : World) (K : PySem.W.Frag) (mg : Str → Option Value) (base : Heap) (CX : CXT) (k : Nat) (f : Addr) (fd : FuncData) (ps : List Str) (sp : Sp) : Prop where
  lenG : ∀ (vs : List V) (H : Hp) (Q : VK) (E : XK), sp vs H Q E → vs.length = ps.length
  runG : ∀ (A : Around) (outer : List Env) (s : Shared) (H : Hp) (args : Args) (us : List Value) (vs : List V) (Q : VK) (E : XK), A.guards = some [] → Room k A → Env0 P w K mg base A outer s H →
    BindsTo s fd args (ps.zip us) → Vals vs us → sp vs H Q E → codeAny (model P w) A (.call (.ref f) args) (CR CX outer P w H s Q E) s
section
variable {P : Program} {w : World} {K : PySem.W.Frag} {mg : Str → Option Value} {base : Heap} {CX : CXT} {sp : Sp} {fd : FuncData} {ps N : List Str} {k : Nat} {f : Addr}
theorem FnG.ofOk (F : FnOk P w K mg base CX k f fd ps sp) : FnG P w K mg base CX k f fd ps sp :=
  ⟨F.len, fun A outer s H args us vs Q E _ => F.run A outer s H args us vs Q E⟩
/-- a def by its body, as the layer's rule, the guards told -/
theorem fnG_of {x qual : Str} {st : Stmt} (F : Fun K x qual st f fd) (S : FnScope N ps (defScope st)) (len : ∀ vs H Q E, sp vs H Q E → vs.length = ps.length)
    (hbody : ∀ (cdv : Value) (A : Around) (outer : List Env) (s : Shared) (H : Hp) (vs : List V) (Q : VK) (E : XK), A.guards = some [] → Room k (A.deeper (envOfC qual (defScope st) s.heap.objs.size f cdv)) → sp vs H Q E →
      ∃ t, PSs (cxOf CX P w K mg base N qual (defScope st) f cdv A outer s H E).nox (defBody st) t ∧ t { nx := fun _ H' => Q .non H', rt := Q } (start N vs) H) : FnG P w K mg base CX (k + 1) f fd ps sp := by
  obtain ⟨oc, od, kV, doc, pm, an, cdv, ct, osl, rfl, lk, hcd⟩ := F.ex
  constructor
  · exact len
  intro A outer s H args us vs Q E hg hr e0 hb r hsp
  have old : ∀ b o, base.get? b = some o → s.heap.get? b = some o := fun b o e => (e0.bs b o e).1
  have KX := e0.mod.kin.keeps old
  have lim := e0.mod.nolimit.keeps old
  refine codeAny_call_function hr.depth (KX _ _ lk) rfl S.co S.gen rfl (PySem.W.codeRec_of KX hcd) (hb _ _ _ _ ?_)
  refine wpAny_newFunctionEnv_cells S.kind (fun y hy => ?_) fun env he s1 x => ?_
  · rcases S.par y.1 (List.of_mem_zip (show (y.1, y.2) ∈ ps.zip us from hy)).1 with q | q
    · exact Or.inl q
    · exact Or.inr (And.intro q (PySem.W.cellsFrom_some _ _ _ (Or.inl q)))
  subst he
  refine And.intro (lim.keeps x.toInCall.keep) (codeAny_func ?_)
  obtain ⟨t, ht, hq⟩ := hbody cdv A outer s H vs Q E hg (hr.deeper _) hsp
  refine wpAny_mono (ht.nox.run [] s1 (start N vs) H _ (inv_start S hr.hd e0 (len _ _ _ _ hsp) r x) hq) (fun fl s' hs => ?_) fun _ _ hs => hs
  match fl, hs with
  | .ret u, ⟨v, σ', H', J, rv, q⟩ => exact ⟨v, H', J.os, J.bare, J.base, J.hok, rv, q⟩
  | .next, ⟨σ', H', J, q⟩ => exact ⟨V.non, H', J.os, J.bare, J.base, J.hok, rfl, q⟩
  | .brk, ⟨_, _, _, q⟩ => exact q.elim
  | .cont, ⟨_, _, _, q⟩ => exact q.elim
end

/-! ### calls -/
section
variable {X : Cx} {CX : CXT} {k : Nat} {f C : Addr} {fd : FuncData} {ps ks : List Str} {sp : Sp} {E : XK} {x m : Str} {p pos apos : Pos} {e o : Expr} {es : List Expr} {kws : List Keyword} {ta : TE} {t tk : TA} {dvs : List V} {ds : List Value}
theorem run_fnG {pins : List (Addr × Obj)} {σ : L2.St} {H : Hp} {s : Shared} {Q : VK} {us : List Value} {vs : List V} (F : FnG X.prog X.w X.K X.mg X.base CX k f fd ps sp) (hg : X.A.guards = some []) (hr : Room k X.A) (hb : Binds X.K fd ps ds) (hd : Vals dvs ds)
    (hx : Passes CX X E) (I : Inv X pins σ H s) (r : Vals vs us) (h : sp (vs ++ dvs) H Q E) : wpAny (model X.prog X.w) X.A (call (.ref f) us) (EP X pins σ Q) X.xe s := by
  have r2 := r.append hd
  have hl : (us ++ ds).length = ps.length := r2.length.symm.trans (F.lenG _ _ _ _ h)
  refine wpAny_call (codeAny_mono (F.runG X.A X.stack s H ⟨us, []⟩ (us ++ ds) (vs ++ dvs) Q E hg hr I.env0 (hb s us I.kIn hl) r2 h) fun r s' hq => ?_)
  match r, hq with
  | .error e, hq => exact hx pins σ H s e s' I hq
  | .ok (.ret u), hq => exact I.after hq
  | .ok .next, hq => exact hq.elim
  | .ok .brk, hq => exact hq.elim
  | .ok .cont, hq => exact hq.elim
/-- f(e, ..), f by FnG -/
theorem pe_callG (F : FnG X.prog X.w X.K X.mg X.base CX k f fd ps sp) (hg : X.A.guards = some []) (hr : Room k X.A) (hgl : Gl X x) (hm : X.mg x = some (.ref f)) (hk : PySem.W.keepIn X.K (.ref f) = true) (hb : Binds X.K fd ps ds) (hd : Vals dvs ds) (hx : Passes CX X E)
    (ha : PA X (e :: es) t) (hdb : (x == ("__debug__" : Str)) = false := by decide) (he : starEach (e :: es) X.env = (false, eval e X.env) :: starEach es X.env := by rfl) (hpl : (backTo pos (starEach es X.env)).any (·.1) = false := by rfl) :
    PE X (.Call (.Name x p) (e :: es) [] pos) (tCall sp dvs E t) := by
  constructor
  intro pins s σ H Q I h
  refine wpAny_Call_Name_kw (ld_glob I hgl hm (PySem.W.callWith_K (h₀ := X.base) I.ok.mod.kin hk (thn (ha.run pos pins s σ H _ I h) fun us s1 q => ?_) he hpl) hdb)
  obtain ⟨vs, H1, I1, r, q⟩ := q
  exact ⟨I1.kIn, run_fnG F hg hr hb hd hx I1 r q⟩
/-- o.m(k = v, ..): keywords alone -/
theorem pe_methK {g : List Value → List Value → List Value} {gV : List V → List V → List V} {pl : Sem Bool} (he : PE X o ta) (c : Cls X.K C) (hm : Meth X.K C m f) (F : FnOk X.prog X.w X.K X.mg X.base CX k f fd ps sp) (hr : Room k X.A) (hb : KBinds X.K fd ps ks g gV)
    (hx : Passes CX X E) (hkw : PK X kws tk) (hall : (backToKw pos (keywordEach kws X.env)).all (·.1.isSome) = true := by rfl) (hks : (backToKw pos (keywordEach kws X.env)).filterMap (·.1) = ks := by rfl)
    (hpl : ((backTo pos (starEach [] X.env)).any (·.1) || (backToKw pos (keywordEach kws X.env)).any (·.1.isNone)) = false := by rfl)
    (ht : eval (.Call (.Attribute o m apos) [] kws pos) X.env = (do
      let ov ← eval o X.env
      standAt apos.atName
      let fx ← holding [ov] (getMethod ov m pl)
      callWith pos fx.1 fx.2 (backTo pos (starEach [] X.env)) (backToKw pos (keywordEach kws X.env))) := by rfl) :
    PE X (.Call (.Attribute o m apos) [] kws pos) (fun σ H Q => ta σ H fun x H1 => ∃ a dx fs, x = .ref a ∧ H1 a = some (.ins C dx fs) ∧ fs.lookup m = none ∧ tk σ H1 fun zs H2 => sp (gV [x] zs) H2 Q E) := by
  constructor
  intro pins s σ H Q I h
  refine PySem.W.methodCall_KW (pl := pl) (thn (he.run pins s σ H _ I h) fun u s1 z => ?_) ht
  obtain ⟨x, H1, I1, rx, a, dx, fs, ex, ea, l, q⟩ := z
  subst ex
  cases rx
  refine getmeth_ok I1 ea c hm l ?_
  refine PySem.W.callWith_KW0 (first := [.ref a]) (h₀ := X.base) I.ok.mod.kin hm.kp hall (thn (hkw.run pos pins s1 σ H1 _ I1 q) fun ws s2 z => ?_) hpl
  obtain ⟨zs, H2, I2, rz, q2⟩ := z
  refine ⟨I2.kIn, ?_⟩
  rw [hks]
  exact run_fnk (us := [.ref a]) (vs := [.ref a]) F hr hb hx I2 (.cons rfl .nil) rz q2
end

/-! ### the end of a law -/
theorem law_callG {P : Program} {w : World} {K : PySem.W.Frag} {mg mb : Str → Option Value} {CX : CXT} {k : Nat} {fa a : Addr} {fd : FuncData} {x : Str} {sp : Sp} {s₁ : Shared} {vs : List Value} {ns : List Int}
    (KX : K.In s₁.heap) (hns : s₁.heap.Ns mainGlobals mg) (hb : s₁.heap.Ns builtinsNs mb) (hbb : ∀ x : Str, x ≠ "__name__" → mb x = bootBuiltins x) (hlim : s₁.heap.NoLimit) (hg : s₁.gens = #[])
    (ha : s₁.heap.get? a = some { cls := .type "list", data := .seq vs.toArray }) (hi : IntsAre vs ns) (hl : ns.length ≤ sizeLine) (hr : Room k callerA)
    (F : ∀ base : Heap, K.In base → base.Ns mainGlobals mg → FnG P w K mg base CX k fa fd [x] sp) (hbind : ∀ (s : Shared) (u : Value), BindsTo s fd ⟨[u], []⟩ [(x, u)])
    (hsp : ∀ H : Hp, Only H → SqL K H a (ns.map V.int) → sp [.ref a] H (fun v _ => v = .bl true) fun _ _ _ => False)
    (hCX : ∀ H e s', CX [] H s₁ (fun _ _ _ => False) e s' → False) :
    codeAny (model P w) callerA (.call (.ref fa) ⟨[.ref a], []⟩) (fun r s' => r = .ok (.ret (.bool true)) ∧ OldK s₁.heap s'.heap ∧ s'.os = s₁.os ∧ AllBare s'.gens) s₁ := by
  -- the call itself, for a heap in which the script alone may be tracked
  have go : ∀ H : Hp, Only H → SqL K H a (ns.map V.int) → HOk P w H s₁.heap → (∀ b u, H b = some u → b = a ∧ K.lookup a = none) →
      codeAny (model P w) callerA (.call (.ref fa) ⟨[.ref a], []⟩) (fun r s' => r = .ok (.ret (.bool true)) ∧ OldK s₁.heap s'.heap ∧ s'.os = s₁.os ∧ AllBare s'.gens) s₁ := by
    intro H hO hS hok hA
    have free : ∀ b : Addr, (b ≠ a ∨ K.lookup a ≠ none) → H b = none := by
      intro b z
      cases q : H b with
      | none => rfl
      | some u => exact (z.elim (fun z => z (hA b u q).1) fun z => z (hA b u q).2).elim
    have notSeq : ∀ {b : Addr} {m : Str → Option Value}, s₁.heap.Ns b m → b ≠ a := by
      rintro b m ⟨o, es, ep, e, d, _⟩ rfl
      rw [ha] at e
      cases e
      cases d
    have inH : ∀ {b : Addr} {m : Str → Option Value}, s₁.heap.Ns b m → (hidT s₁.heap H).Ns b m := by
      intro b m n
      have nb := free b (Or.inl (notSeq n))
      obtain ⟨o, es, ep, e, r⟩ := n
      exact ⟨o, es, ep, hidT_get e nb, r⟩
    have kin : K.In (hidT s₁.heap H) := by
      intro b o e
      refine hidT_get (KX b o e) ?_
      by_cases hb : b = a
      · exact free b (Or.inr (by rw [← hb, e]; exact fun z => nomatch z))
      · exact free b (Or.inl hb)
    have lim2 : (hidT s₁.heap H).NoLimit := by
      obtain ⟨mc, h1, h2⟩ := hlim
      exact ⟨mc, inH h1, h2⟩
    have e0 : Env0 P w K mg (hidT s₁.heap H) callerA [] s₁ H := by
      refine ⟨rfl, ⟨kin, inH hns, ⟨mb, inH hb, hbb⟩, lim2⟩, fun b o e => of_hidT e, Nat.le_of_eq (hidT_size _ _), True.intro, ?_, hok, .of_eq hg⟩
      intro b hb
      cases hb
    refine codeAny_mono ((F _ kin (inH hns)).runG callerA [] s₁ H ⟨[.ref a], []⟩ [.ref a] [.ref a] _ _ rfl hr e0 (hbind s₁ (.ref a)) (.cons rfl .nil) (hsp H hO hS)) fun r s' h => ?_
    match r, h with
    | .error e, h => exact (hCX H e s' h).elim
    | .ok .next, h => exact h.elim
    | .ok .brk, h => exact h.elim
    | .ok .cont, h => exact h.elim
    | .ok (.ret u), ⟨v, H', os, bare, un, hok', rv, q⟩ =>
      have q2 : v = .bl true := q
      subst q2
      cases rv
      refine ⟨rfl, OldK.of_keep (fun b o e => ?_), os, bare⟩
      rcases hO b with z | ⟨ob, xs, z⟩
      · exact un.keep b o e z (fun z => nomatch z) (fun z => nomatch z)
      · have z1 := (hok b _ z).1
        have z2 := (hok' b _ (un.frzs b ob _ z)).1
        rw [z1] at e
        rw [z2, e]
  have rv := vals_ints hi
  have hlen : (ns.map V.int).length ≤ sizeLine := by rw [List.length_map]; exact hl
  cases hk : K.lookup a with
  | some o =>
    have e := KX a o hk
    rw [ha] at e
    cases e
    exact go (fun _ => none) (fun _ => Or.inl rfl) (Or.inr ⟨_, vs.toArray, _, hk, rfl, rfl, rfl, by rw [List.size_toArray, hi.length]; exact hl, by simpa using rv⟩) (fun b u z => nomatch z) fun b u z => nomatch z
  | none =>
    have at_ : ∀ b u, (if b = a then some (HO.frz { cls := .type "list", data := .seq vs.toArray } (.lst (ns.map V.int))) else none) = some u → b = a ∧ u = .frz { cls := .type "list", data := .seq vs.toArray } (.lst (ns.map V.int)) := by
      intro b u z
      split at z
      · rename_i hb
        exact ⟨hb, (Option.some.inj z).symm⟩
      · cases z
    refine go (fun b => if b = a then some (.frz { cls := .type "list", data := .seq vs.toArray } (.lst (ns.map V.int))) else none) (fun b => ?_) (Or.inl (Or.inr ⟨_, if_pos rfl⟩)) (fun b u z => ?_) fun b u z => ⟨(at_ b u z).1, hk⟩
    · by_cases hb : b = a
      · exact Or.inr ⟨_, _, if_pos hb⟩
      · exact Or.inl (if_neg hb)
    · obtain ⟨rfl, rfl⟩ := at_ b u z
      exact ⟨ha, hlen, vs, _, rv, ha⟩

theorem walk_ofG {l : PySem.W.OpenLaw} {n k : Nat} {q : Program} {loose : List Str} {XP : (Str → Option Value) → Heap → Prop} {YP : World → Heap → Prop} {d : DefRec} {K : Params → PySem.W.Frag} {CX : World → CXT} {sp : World → Sp} {x : Str}
    (hn : l.most = some n) (hn2 : n ≤ sizeLine) (hdf : d.params.defaults = []) (hr : Room k callerA) (hY : ∀ (w : World) (h : Heap), YP w h → (K w.params).In h)
    (F : ∀ (w : World) (mg : Str → Option Value) (fa : Addr) (h : Heap), (K w.params).In h → h.Ns mainGlobals mg → mg d.name = some (.ref fa) →
      ∃ fd : FuncData, (∀ (s : Shared) (u : Value), BindsTo s fd ⟨[u], []⟩ [(x, u)]) ∧ ∀ base : Heap, (K w.params).In base → base.Ns mainGlobals mg → FnG l.prog w (K w.params) mg base (CX w) k fa fd [x] (sp w))
    (hsp : ∀ (w : World) (H : Hp) (a : Addr) (ns : List Int), ns.length ≤ n → (∀ z ∈ ns, Builtin.Int.intBits z ≤ 1048576) → Only H → SqL (K w.params) H a (ns.map V.int) → sp w [.ref a] H (fun v _ => v = .bl true) fun _ _ _ => False)
    (hCX : ∀ (w : World) (H : Hp) (s : Shared) (e : Value) (s' : Shared), CX w [] H s (fun _ _ _ => False) e s' → False) :
    PySem.W.WalkO q loose XP YP l.row.toRowW d [] (fun f vs => PySem.call f vs) := by
  apply Att.attach_callB hn hdf
  intro w s₀ s₁ mg mb fa o pm cd doc a vs ns G Y _ _ _ hmg hobj hints hlen hbits hg
  obtain ⟨fd, hb, hF⟩ := F w mg fa _ (hY w _ Y) G.T.g hmg
  exact law_callG (hY w _ Y) G.T.g G.T.b G.T.builtins G.T.nolimit hg hobj hints (Nat.le_trans hlen hn2) hr hF hb (fun H hO hS => hsp w H a ns hlen hbits hO hS) fun H e s' => hCX w H s₁ e s'
end So

namespace So
open PySem PySem.Spec PyProof.Rows L2
section
variable {K : PySem.W.Frag} {C : Addr}
theorem kit_self : PySem.W.kitOne K (.ref C) (.ref C) = some true := by
  unfold PySem.W.kitOne
  rw [if_pos]
  simp
/-- no built-in type stands below an own class -/
theorem sub_ty {T : String} (h : (fastBuiltinMro T).map (fun l => l.all fun v => match v with | .type _ => true | _ => false) = some true) : PySem.W.subIn K (.type T) (.ref C) = some false := by
  show (fastBuiltinMro T).map (·.contains (.ref C)) = some false
  cases e : fastBuiltinMro T with
  | none => rw [e] at h; cases h
  | some l =>
    rw [e] at h
    have h2 : (l.all fun v => match v with | .type _ => true | _ => false) = true := Option.some.inj h
    show some (l.contains (.ref C)) = some false
    congr 1
    cases c : l.contains (.ref C) with
    | false => rfl
    | true =>
      have m : (Value.ref C) ∈ l := by simpa using c
      have := List.all_eq_true.mp h2 _ m
      cases this
theorem notFirst_ty {T : String} (h : (fastBuiltinMro T).map (fun l => l.all fun v => match v with | .type _ => true | _ => false) = some true) : PySem.W.notFirst K C (.type T) = true := by
  unfold PySem.W.notFirst
  rw [sub_ty h]
  simp
theorem kit_no {T : String} (hc : PySem.W.isClsIn K C = true) (ht : PySem.W.typeIn K (.ref C) = some (.type "type")) (h : (fastBuiltinMro T).map (fun l => l.all fun v => match v with | .type _ => true | _ => false) = some true) : PySem.W.kitOne K (.type T) (.ref C) = some false := by
  unfold PySem.W.kitOne PySem.W.kitCls
  unfold PySem.W.isClsIn at hc
  have hb : ((PySem.W.clsIn K C).isSome && PySem.W.typeIn K (.ref C) == some (.type "type")) = true := by
    rw [hc, ht]
    simp
  have sb := sub_ty (K := K) (C := C) h
  simp [hb, sb]
end
end So

/-! So, on: exceptions that are kept as values. -/
namespace So
open PySem PySem.Spec PyProof.Rows L2
/-- an exception object of the class cls, its dict at d, that stands at a and is nobody's news -/
def Xo (cls : Value) (d : Option Addr) (a : Addr) : HO := .ext fun h => ∃ (oe : Obj) (vs : Array Value), h.get? a = some oe ∧ Zc cls d oe ∧ oe.data = .fields vs
theorem xo_ok {P : Program} {w : World} {H : Hp} {h : Heap} {a : Addr} {cls : Value} {d : Option Addr} {oe : Obj} {vs : Array Value} (e : h.get? a = some oe) (z : Zc cls d oe) (f : oe.data = .fields vs) : ObjOk P w H h a (Xo cls d a) := by
  refine ⟨⟨oe, vs, e, z, f⟩, ⟨oe, e⟩, ?_⟩
  rintro h1 h2 ⟨o, v, q, r⟩ k
  exact ⟨o, v, k o q, r⟩
theorem xo_at {P : Program} {w : World} {H : Hp} {h : Heap} {a : Addr} {cls : Value} {d : Option Addr} (hok : HOk P w H h) (e : H a = some (Xo cls d a)) : ∃ (oe : Obj) (vs : Array Value), h.get? a = some oe ∧ Zc cls d oe ∧ oe.data = .fields vs := by
  have x : ObjOk P w H h a (.ext fun h => ∃ (oe : Obj) (vs : Array Value), h.get? a = some oe ∧ Zc cls d oe ∧ oe.data = .fields vs) := hok a _ e
  exact x.1
section
variable {X : Cx} {pins : List (Addr × Obj)} {σ : L2.St} {H : Hp} {s sI : Shared} {a : Addr} {cls : Value} {d : Option Addr} {oe : Obj} {vs : Array Value}
/-- an exception that has landed is tracked from now on -/
theorem track (J : Inv X pins σ H sI) (hex : X.ex = []) (hI : sI.heap.get? a = none) (I : Inv X pins σ H s) (he : s.heap.get? a = some oe) (hz : Zc cls d oe) (hd : oe.data = .fields vs) (na : H a = none) (nL : a ≠ X.env.locals) :
    Inv X pins σ (upd H a (Xo cls d a)) s := by
  have h0 : ∀ b o, X.s_0.heap.get? b = some o → b ≠ a := by
    rintro b o e rfl
    obtain ⟨o', e'⟩ := J.base.there b o e (by rw [hex]; exact fun z => nomatch z)
    rw [hI] at e'
    cases e'
  have hs : ∀ {b : Addr} {u : HO}, H b = some u → (upd H a (Xo cls d a)) b = some u := fun e => (upd_ne (ne_of_none e na)).trans e
  refine ⟨I.ok, I.os, I.bare, ⟨I.base.keep, I.base.slot, fun b o e n hx => (upd_ne (h0 b o e)).trans (I.base.free b o e n hx), I.base.there, fun b xs q => hs (I.base.tups b xs q), fun b o u q => hs (I.base.frzs b o u q), fun b ps q => ?_⟩,
    I.loc, I.cell, (upd_ne nL.symm).trans I.free, fun x c e => ?_, fun p hp => ?_, fun b u e => ?_, I.len⟩
  · obtain ⟨m, q'⟩ := I.base.tbls b ps q
    exact ⟨m, hs q'⟩
  · refine (upd_ne ?_).trans (I.freeC x c e)
    rintro rfl
    obtain ⟨v, o, ho, hc⟩ := I.cell x c e
    rw [he] at ho
    cases ho
    rw [hd] at hc
    cases hc
  · obtain ⟨p1, p2, p3, p4, p5⟩ := I.pin p hp
    refine ⟨p1, (upd_ne ?_).trans p2, p3, p4, p5⟩
    intro z
    have := (J.pin p hp).1
    rw [z, hI] at this
    cases this
  · by_cases hb : b = a
    · subst hb
      rw [upd_same] at e
      cases e
      exact xo_ok he hz hd
    · rw [upd_ne hb] at e
      exact (I.hok b u e).stay (fun _ _ _ q => q) (fun c q => hs q) fun c xs q => hs q
end

/-! ### try: body, except x as n: suite, the exception kept as a value -/
/-- what such a clause wishes of an exception of the body -/
def wKeep (K : PySem.W.Frag) (c : Value) (i : Nat) (ts : TS) (Wout : WX) (D : Ends) : WX := fun cls d σ H =>
  ∃ b, PySem.W.exmOne K cls c = some b ∧ (b = true → ∀ a, H a = none → ts { nx := fun σ' H' => D.nx (σ'.set i none) H', rt := D.rt, bk := fun σ' H' => D.bk (σ'.set i none) H', ct := fun σ' H' => D.ct (σ'.set i none) H' } (σ.set i (some (.ref a))) (upd H a (Xo cls d a))) ∧
    (b = false → Wout cls d σ H)
section
variable {X : Cx} {x n : Str} {c : Value} {i : Nat} {body suite : List Stmt} {b₀ : Stmt} {np pos pos' : Pos} {tb : WX → TS} {ts : TS} {Wout : WX}
theorem ps_try_keep (hs : X.stack = X.env :: X.outer) (hf : X.env.frame = some X.env.locals) (hex : X.ex = []) (hN : X.N.Nodup) (hi : X.N[i]? = some n) (hln : X.env.kindOf n = some .local) (hc : Names X x c) (tk : Takes X Wout)
    (hb : ∀ (W : WX) (pn : List (Addr × Obj)) (xe : Value → Shared → Prop), Takes (X.tr pn xe) W → PassesOwn (model X.prog X.w) X.A X.env xe → PSs (X.tr pn xe) body (tb W))
    (hsu : ∀ (a : Addr) (pn : List (Addr × Obj)), PSs (X.suite a pn) (b₀ :: suite) ts) :
    PS X (.Try body [.ExceptHandler (some (.Name x np)) (some n) (b₀ :: suite) pos'] [] [] pos) (fun D σ H => tb (wKeep X.K c i ts Wout D) D σ H) := by
  constructor
  intro pins s σ H D I h
  have ok := I.ok
  have hfr : X.A.frames = some (X.env :: X.outer) := ok.frames.trans (congrArg some hs)
  refine wpAny_Try_except (wpAny_mono ((hb (wKeep X.K c i ts Wout D) (X.pn ++ pins) (fun e s₁ => wpAny (model X.prog X.w) X.A (noteFrame e X.env) (fun _ s₂ => wpAny (model X.prog X.w) X.A (setFlight e none) (fun _ s₃ =>
    wpAny (model X.prog X.w) X.A (handleBy e X.env [.ExceptHandler (some (.Name x np)) (some n) (b₀ :: suite) pos']) (SP X pins D) X.xe s₃) X.xe s₂) X.xe s₁) (fun u s' xx => ?_) PassesOwn.looking).run [] s σ H D (I.toTry _) h) (fun f s1 hsp => ?_) fun e s1 he => he)
  · obtain ⟨a, B, sI, pins', σ', H', cls, d, rfl, J', nb, up, sky, na, os, ag, b, hb1, hyes, hno⟩ := xx
    have J : Inv X pins σ' H' sI := J'.ofTry ok
    have sky' : Sky B (X.env :: X.outer) a (Zc cls d) X.env.locals s'.heap := hs ▸ sky
    refine Sky.land Zc.steady hfr hf sky' fun h3 fl3 up3 => ?_
    have J3 : Inv X pins σ' H' { s' with heap := h3 } := J.landed nb fl3.1 (up.trans up3) os ag
    obtain ⟨oe3, vs3, he3, hz3, hd3⟩ := fl3.there
    have nfr : a ∉ frs (X.env :: X.outer) := fun hm => by
      obtain ⟨_, o', e', hnf⟩ := fl3.2.2.1.mem hm
      rw [he3] at e'
      cases e'
      exact hnf _ hd3
    have nL : a ≠ X.env.locals := fun z => nfr (by
      refine List.mem_filterMap.mpr ⟨X.env, List.mem_cons_self, ?_⟩
      rw [hf, z])
    have hBa : B.get? a = none := fl3.2.1
    have hIa : sI.heap.get? a = none := by
      cases e : sI.heap.get? a with
      | none => rfl
      | some o =>
        have := nb a o e (by rw [hs]; exact nfr)
        rw [hBa] at this
        cases this
    refine wpAny_handleBy_cons (codeAny_handlers_test ?_) (by intro q; cases q)
    have LT : PySem.W.Looks (model X.prog X.w) h3 (typeOf (.ref a)) cls := by
      intro A Q E s k q
      refine wpAny_typeOf_ref (k _ _ he3) ?_
      rw [hz3.1]
      exact q
    have LM := PySem.W.exm_one (M := model X.prog X.w) (J3.kIn) LT hb1
    have S0 : ∀ {h4 : Heap}, Inv X pins σ' H' { s' with heap := h4 } → ∀ {o : Obj} {v : Array Value}, h4.get? a = some o → Zc cls d o → o.data = .fields v → Inv (X.suite a (X.pn ++ pins)) [] σ' (upd H' a (Xo cls d a)) { s' with heap := h4 } := by
      intro h4 J4 o v e z dt
      have T := track J hex hIa J4 e z dt na nL
      exact ⟨T.ok.suite _ _, T.os, T.bare, T.base, T.loc, T.cell, T.free, T.freeC, fun p hp => T.pin p (by rwa [List.append_nil] at hp), T.hok, T.len⟩
    have S3 := S0 J3 he3 hz3 hd3
    have test : ∀ {Q : Value → Shared → Prop} {E : Value → Shared → Prop}, Q c { s' with heap := h3 } → wpAny (model X.prog X.w) (X.A.mark (some (.ref a))) (eval (.Name x np) X.env) Q E { s' with heap := h3 } := by
      intro Q E q
      rcases hc with ⟨hg, hdbg, hm | ⟨hm, hv, hnn⟩⟩
      · exact ld_glob (X := X.suite a (X.pn ++ pins)) S3 hg hm q hdbg
      · exact ld_blt (X := X.suite a (X.pn ++ pins)) S3 hg hm hv q hnn hdbg
    refine test (LM.here ?_)
    cases b with
    | true =>
      refine codeAny_handlers_suite_as (HandSPX.lands_againZ fl3 fun h4 fl4 up4 => ?_)
      have J4 : Inv X pins σ' H' { s' with heap := h4 } := J.landed nb fl4.1 ((up.trans up3).trans up4) os ag
      obtain ⟨oe4, vs4, he4, hz4, hd4⟩ := fl4.there
      have S4 := S0 J4 he4 hz4 hd4
      refine store_ok (X := X.suite a (X.pn ++ pins)) (v := .ref a) S4 hN hi (.inl hln) rfl (fun s5 S5 => ?_) (.inr hln)
      refine wpAny_mono ((hsu a (X.pn ++ pins)).run [] s5 _ _ _ S5 (hyes rfl a na)) (fun f s6 hsp => ?_) (fun _ _ z => z.elim)
      have out : ∀ {σ6 : L2.St} {H6 : Hp}, Inv (X.suite a (X.pn ++ pins)) [] σ6 H6 s6 → Inv X pins σ6 H6 s6 := fun S6 =>
        ⟨ok, S6.os, S6.bare, S6.base, S6.loc, S6.cell, S6.free, S6.freeC, fun p hp => S6.pin p (List.mem_append_left _ hp), S6.hok, S6.len⟩
      match f, hsp with
      | .next, ⟨σ6, H6, S6, q6⟩ => exact gone_ok (out S6) hN hi hln fun s7 J7 => ⟨_, _, J7, q6⟩
      | .brk, ⟨σ6, H6, S6, q6⟩ => exact gone_ok (out S6) hN hi hln fun s7 J7 => ⟨_, _, J7, q6⟩
      | .cont, ⟨σ6, H6, S6, q6⟩ => exact gone_ok (out S6) hN hi hln fun s7 J7 => ⟨_, _, J7, q6⟩
      | .ret u, ⟨v6, σ6, H6, S6, r6, q6⟩ => exact gone_ok (out S6) hN hi hln fun s7 J7 => ⟨_, _, _, J7, r6, q6⟩
    | false =>
      refine wpAny_handleBy_nil ?_
      obtain ⟨_, _, _, oe, vs, T, _, _, he, _, hd, h1, _⟩ := id fl3
      unfold PySem.passOn
      refine wpAny_bind (wpAny_field he hd h1 ?_)
      have nn : ¬ ((Value.ref T == Value.none) = true) := by simp
      rw [if_neg nn]
      have fin : wpAny (model X.prog X.w) X.A (setFlight (.ref a) X.env.frame) (fun _ s4 => wpAny (model X.prog X.w) X.A (throw (.ref a) : Sem Flow) (SP X pins D) X.xe s4) X.xe { s' with heap := h3 } := by
        rw [hf]
        refine HandSPX.setFlight_upZ fl3 fun h4 hh4 up4 => wpAny_throw (tk _ _ ⟨a, B, sI, pins, σ', H', cls, d, rfl, J, nb, (up.trans up3).trans up4, ?_, na, os, ag, hno rfl⟩)
        exact Or.inr (Or.inr (hs ▸ hh4))
      first
        | exact wpAny_bind (wpAny_pure (wpAny_bind fin))
        | exact wpAny_bind fin
  · match f, hsp with
    | .next, ⟨σ', H', J', q⟩ => exact wpAny_execs_nil ⟨σ', H', J'.ofTry ok, q⟩
    | .brk, ⟨σ', H', J', q⟩ => exact ⟨σ', H', J'.ofTry ok, q⟩
    | .cont, ⟨σ', H', J', q⟩ => exact ⟨σ', H', J'.ofTry ok, q⟩
    | .ret u, ⟨v, σ', H', J', r, q⟩ => exact ⟨v, σ', H', J'.ofTry ok, r, q⟩
end
end So

namespace So
open PySem PySem.Spec PyProof.Rows L2
/-- what an error class of the program's own says of its instances -/
structure Err (K : PySem.W.Frag) (C : Addr) : Prop where
  ga : PySem.W.findIn K (.ref C) "__getattribute__" = some (some (.builtin "BaseException.__getattribute__"))
  gg : PySem.W.findIn K (.ref C) "__getattr__" = some none
  exC : PySem.W.subIn K (.ref C) (.type "BaseException") = some true
  hdC : PySem.W.hasDictIn K C = true
  ca : PySem.W.findIn K (.ref C) "__class__" = some (some (.builtin "object.__class__"))
  cn : PySem.W.specialIn K (.builtin "object.__class__") "__get__" = some (some (.builtin "getset_descriptor.__get__"))
  ct : PySem.W.takesIn K (.builtin "object.__class__") = some true
  cm : PySem.W.mroIn K C (.type "object") = some true
section
variable {X : Cx}
/-- e.n, e an exception that is kept -/
theorem pe_xo {C : Addr} {e : Expr} {te : TE} {pos : Pos} {n : Str} (T : Err X.K C) (hno : PySem.W.findIn X.K (.ref C) n = some none) (he : PE X e te) (hb : attributeBase e n X.env (eval e X.env) = eval e X.env := by rfl) :
    PE X (.Attribute e n pos) (fun σ H Q => te σ H fun x H1 => ∃ (a dd : Addr) (fs : List (Str × V)) (v : V), x = .ref a ∧ H1 a = some (Xo (.ref C) (some dd) a) ∧ H1 dd = some (.xd fs) ∧ fs.lookup n = some v ∧ Q v H1) := by
  constructor
  intro pins s σ H Q I h
  refine attr_of hb (thn (he.run pins s σ H _ I h) fun u s1 hh => ?_)
  obtain ⟨x, H1, I1, rx, a, dd, fs, v, rfl, ha, ea, l, q⟩ := hh
  cases rx
  obtain ⟨oe, vs, hg, hz, hd⟩ := xo_at I1.hok ha
  obtain ⟨mA, hns, hr⟩ := (show ObjOk X.prog X.w H1 s1.heap dd (.xd fs) from I1.hok dd _ ea)
  obtain ⟨od, ho, hl⟩ := lookIn_ns hns
  have hrn := hr n
  rw [l] at hrn
  obtain ⟨u, hu, ru⟩ := RelO.some_of hrn
  have nc : PySem.W.notCls oe = true := by
    unfold PySem.W.notCls
    rw [hd]
  have J : PySem.W.InstAt s1.heap a oe C (some od) := by
    refine ⟨hg, hz.1, nc, ?_⟩
    rw [hz.2]
    exact ho
  have fo := PySem.W.findObj_own (K := X.K) (C := C) (od := od) (name := n) (v := u) T.hdC hno rfl (by rw [hl, hu])
  exact HandSPX.exc_get I1.kIn J T.ga T.gg T.exC fo (handed_of ru) ⟨v, H1, I1.tok _, ru, q⟩
end
/-! ### isinstance of a kept exception -/
section
open PySem.W PySem.Calls
variable {prog : Program} {w : World} {A : Around} {E : Value → Shared → Prop} {K : Frag} {x D : Addr} {ox : Obj} {od : Option Obj}
theorem err_class {Q : Option Value → Shared → Prop} (T : Err K D) (hp : Heap) (g : Array GenState) (dr : Drawn) (t : Nat) (os : OsState) (X : K.In hp) (I : InstAt hp x ox D od)
    (h : Q (some (.ref D)) ⟨hp, g, dr, t + 1, os⟩) : wpAny (model prog w) A (getAttr? (.ref x) "__class__") Q E ⟨hp, g, dr, t, os⟩ := by
  have isc : (clsIn K D).isSome = true := by
    obtain ⟨cd, hc, _⟩ := any_some T.hdC
    rw [hc]
    rfl
  have hf : findObj K D od "__class__" = some (.bind (.builtin "getset_descriptor.__get__") (.builtin "object.__class__")) := by
    cases od with
    | none => exact findObj_dataN isc T.ca T.cn T.ct
    | some o => exact findObj_data isc T.ca T.cn T.ct
  have k0 := I.type (M := model prog w)
  have k1 := looks_findIn (M := model prog w) X T.ga
  have k2 := looks_findIn (M := model prog w) X T.gg
  have k3 := looks_find (M := model prog w) X I hf
  have below : Looks (model prog w) hp (isInstance (.ref x) (.type "BaseException")) true := k0.andThen (looks_subIn X T.exC)
  have ne : (Value.builtin "BaseException.__getattribute__" == Value.builtin "object.__getattribute__") = false := by decide +kernel
  have both : (onTheHeap (Value.ref D) && Value.builtin "BaseException.__getattribute__" == Value.builtin "object.__getattribute__") = false := by
    rw [ne]
    exact Bool.and_false _
  have own : onTheHeap (Value.ref D) = true := rfl
  have noheap : (false && onTheHeap (Value.builtin "BaseException.__getattribute__")) = false := rfl
  unfold getAttr? getAttrBy? getAttrBy
  apply wpAny_bind
  apply wpAny_mkText
  apply wpAny_bind
  apply wpAny_attempt
  apply wpAny_holding
  apply wpAny_bind
  apply k0.at
  apply wpAny_bind
  apply k1.at
  show wpAny _ _ (ite ((onTheHeap (Value.ref D) && Value.builtin "BaseException.__getattribute__" == Value.builtin "object.__getattribute__") = true) _ _) _ _ _
  rw [both, if_neg (by decide)]
  unfold getAttrByItsOwn hookBefore
  apply wpAny_bind
  rw [if_pos own]
  apply k2.at
  apply wpAny_bind
  apply wpAny_attempt
  apply wpAny_holding
  unfold callGetattribute
  rw [noheap, if_neg (by decide)]
  unfold boundAndCalled
  rw [F.excAttr_ValueError.ga.bind (.ref x)]
  apply wpAny_bind
  apply wpAny_pure
  show wpAny _ _ (call (.builtin "BaseException.__getattribute__") [.ref x, .str "__class__" t]) _ _ _
  apply wpAny_call
  refine codeAny_call_builtin F.excAttr_ValueError.ga.plain F.entry_bexc_ga (@check_slot (model prog w) _ _ ⟨hp, g, dr, t + 1, os⟩ "BaseException.__getattribute__" "BaseException" "__getattribute__" (.ref x) [.str "__class__" t] [] _ (by decide +kernel) (by decide +kernel) below (F.args_bexc_ga (.ref x) (.str "__class__" t)) ?_)
  unfold Builtin.«object.__getattribute__»
  apply wpAny_bind
  refine wpAny_of_eq (a := ((Value.ref x : Value), [Value.str "__class__" t])) (by first | rfl | (simp only [slotArgs]; rfl)) ?_
  apply wpAny_bind
  apply wpAny_pure
  apply wpAny_bind
  apply k0.at
  apply wpAny_bind
  apply k3.at
  show wpAny _ _ (holding [Value.builtin "object.__class__"] (call (.builtin "getset_descriptor.__get__") [.builtin "object.__class__", .ref x, .ref D]) >>= ret) _ _ _
  apply wpAny_bind
  apply wpAny_holding
  apply wpAny_call
  refine class_get (s := ⟨hp, g, dr, t + 1, os⟩) (ox := ox) (od := od) X I T.cm (wpAny_pure ?_)
  show wpAny _ _ (handedOut (.ref D)) _ _ _
  rw [handedOut_of (v := .ref D) rfl]
  first
    | exact wpAny_pure (wpAny_pure h)
    | exact wpAny_pure h
    | exact wpAny_pure (wpAny_bind (wpAny_pure (wpAny_pure h)))
theorem kitx_err (T : Err K D) : KitX K (.ref x) (.ref D) (fun h => ∃ ox od, InstAt h x ox D od) where
  ty := fun _ _ _ ⟨_, _, I⟩ => I.type
  it := fun _ _ X _ => by
    obtain ⟨cd, hc, _⟩ := any_some T.hdC
    unfold clsIn at hc
    split at hc
    · rename_i ho
      intro A' Q' E' s' k q
      unfold isType loadHead
      exact wpAny_bind (wpAny_loadPart (k _ _ (X _ _ ho)) (wpAny_pure q))
    · cases hc
  ne := fun h tp dd its n sl X htp => by
    cases q : (Value.ref D == Value.ref tp) with
    | false => rfl
    | true =>
      have e : D = tp := Value.ref.inj (beq_iff_eq.mp q)
      subst e
      obtain ⟨cd, hc, _⟩ := any_some T.hdC
      unfold clsIn at hc
      split at hc
      · rename_i ho
        have z := (X _ _ ho).symm.trans htp
        cases z
      · cases hc
  ca := fun {prog w A E Q s} X I k => by
    obtain ⟨ox, od, I⟩ := I
    obtain ⟨hp, g, dr, t, os⟩ := s
    exact err_class T hp g dr t os X I k
end
section
variable {X : Cx}
/-- isinstance(e, c), e a kept exception, c one class -/
theorem call_isXo : CallR X (.builtin "isinstance") (fun xs H Q => ∃ (a D dd : Addr) (fs : List (Str × V)) (c : V) (u : Value) (b : Bool), xs = [.ref a, c] ∧ H a = some (Xo (.ref D) (some dd) a) ∧ H dd = some (.xd fs) ∧ Err X.K D ∧ ClsV c u ∧ PySem.W.kitOne X.K (.ref D) u = some b ∧ Q (.bl b) H) := by
  intro pins s σ H xs us Q I r h
  obtain ⟨a, D, dd, fs, c, u, b, rfl, ha, hd, T, cv, e, q⟩ := h
  obtain ⟨u1, u2, rfl, r1, r2⟩ := vals2 r
  cases r1
  have e2 := cv.eq r2
  subst e2
  obtain ⟨oe, vs, hg, hz, hdat⟩ := xo_at I.hok ha
  obtain ⟨mA, hns, _⟩ := (show ObjOk X.prog X.w H s.heap dd (.xd fs) from I.hok dd _ hd)
  obtain ⟨od, ho, _⟩ := lookIn_ns hns
  have nc : PySem.W.notCls oe = true := by
    unfold PySem.W.notCls
    rw [hdat]
  have J : PySem.W.InstAt s.heap a oe D (some od) := by
    refine ⟨hg, hz.1, nc, ?_⟩
    rw [hz.2]
    exact ho
  exact PySem.W.kia_one (kitx_err T) I.kIn ⟨oe, some od, J⟩ e (fun z => nomatch z) fun tk => ⟨.bl b, H, I.tok tk, rfl, q⟩
end
end So

namespace So
open PySem PySem.Spec PyProof.Rows L2
/-- C.m is a static method: its record at p, its def at g -/
structure Sta (K : PySem.W.Frag) (C : Addr) (mc : Value) (m : Str) (p g : Addr) : Prop where
  rd : PySem.W.readsIn K C mc = true
  ga : PySem.W.specialIn K (.ref C) "__getattribute__" = some (some (.builtin "type.__getattribute__"))
  at_ : PySem.W.findCls K (.ref C) mc m = some (.get (.builtin "staticmethod.__get__") (.ref p) .none (.ref C))
  rc : ∃ rest, PySem.W.recIn K p "staticmethod" = some (.ref g :: rest)
  kp : PySem.W.keepIn K (.ref g) = true
section
variable {X : Cx} {CX : CXT} {k : Nat} {C f p0 : Addr} {mc : Value} {fd : FuncData} {ps ks : List Str} {sp : Sp} {E : XK} {m : Str} {pos apos : Pos} {e o : Expr} {es : List Expr} {kws : List Keyword} {ta : TE} {t tk : TA}
theorem getsta_ok {pins : List (Addr × Obj)} {σ : L2.St} {H : Hp} {s : Shared} {pl : Sem Bool} {A : Around} {E' : Value → Shared → Prop} {Q : Value × List Value → Shared → Prop} (I : Inv X pins σ H s) (S : Sta X.K C mc m p0 f) (h : ∀ s', Inv X pins σ H s' → Q (.ref f, []) s') :
    wpAny (model X.prog X.w) A (getMethod (.ref C) m pl) Q E' s := by
  obtain ⟨rest, hp⟩ := S.rc
  refine PySem.W.method_cls I.kIn S.ga (PySem.W.cls_bind I.kIn S.rd S.at_ (wpAny_call (PySem.W.sm_get (s := { s with toks := s.toks + 1 }) I.kIn hp (PySem.W.handed_on rfl ?_))))
  exact h _ (I.tok _)
/-- C.m(e, ..), m static -/
theorem pe_sta {pl : Sem Bool} (he : PE X o ta) (S : Sta X.K C mc m p0 f) (F : FnOk X.prog X.w X.K X.mg X.base CX k f fd ps sp) (hr : Room k X.A) (hb : Binds X.K fd ps []) (hx : Passes CX X E) (ha : PA X (e :: es) t)
    (hst : starEach (e :: es) X.env = (false, eval e X.env) :: starEach es X.env := by rfl) (hpl : (backTo pos (starEach es X.env)).any (·.1) = false := by rfl)
    (ht : eval (.Call (.Attribute o m apos) (e :: es) [] pos) X.env = (do
      let ov ← eval o X.env
      standAt apos.atName
      let fx ← holding [ov] (getMethod ov m pl)
      callWith pos fx.1 fx.2 (backTo pos (starEach (e :: es) X.env)) (backToKw pos (keywordEach [] X.env))) := by rfl) :
    PE X (.Call (.Attribute o m apos) (e :: es) [] pos) (fun σ H Q => ta σ H fun x H1 => x = .ref C ∧ t σ H1 fun vs H2 => sp vs H2 Q E) := by
  constructor
  intro pins s σ H Q I h
  refine PySem.W.methodCall_KW (pl := pl) (thn (he.run pins s σ H _ I h) fun u s1 z => ?_) ht
  obtain ⟨x, H1, I1, rx, rfl, q⟩ := z
  cases rx
  refine getsta_ok I1 S fun s2 I2 => PySem.W.callWith_K (first := []) (h₀ := X.base) I2.ok.mod.kin S.kp (thn (ha.run pos pins s2 σ H1 _ I2 q) fun us s3 z => ?_) hst hpl
  obtain ⟨vs, H2, I3, r, q2⟩ := z
  refine ⟨I3.kIn, ?_⟩
  have q3 : sp (vs ++ []) H2 Q E := by
    rw [List.append_nil]
    exact q2
  exact run_fn F hr hb .nil hx I3 r q3
/-- C.m(k = v, ..), m static, keywords alone -/
theorem pe_staK {g : List Value → List Value → List Value} {gV : List V → List V → List V} {pl : Sem Bool} (he : PE X o ta) (S : Sta X.K C mc m p0 f) (F : FnOk X.prog X.w X.K X.mg X.base CX k f fd ps sp) (hr : Room k X.A) (hb : KBinds X.K fd ps ks g gV) (hx : Passes CX X E)
    (hkw : PK X kws tk) (hall : (backToKw pos (keywordEach kws X.env)).all (·.1.isSome) = true := by rfl) (hks : (backToKw pos (keywordEach kws X.env)).filterMap (·.1) = ks := by rfl)
    (hpl : ((backTo pos (starEach [] X.env)).any (·.1) || (backToKw pos (keywordEach kws X.env)).any (·.1.isNone)) = false := by rfl)
    (ht : eval (.Call (.Attribute o m apos) [] kws pos) X.env = (do
      let ov ← eval o X.env
      standAt apos.atName
      let fx ← holding [ov] (getMethod ov m pl)
      callWith pos fx.1 fx.2 (backTo pos (starEach [] X.env)) (backToKw pos (keywordEach kws X.env))) := by rfl) :
    PE X (.Call (.Attribute o m apos) [] kws pos) (fun σ H Q => ta σ H fun x H1 => x = .ref C ∧ tk σ H1 fun zs H2 => sp (gV [] zs) H2 Q E) := by
  constructor
  intro pins s σ H Q I h
  refine PySem.W.methodCall_KW (pl := pl) (thn (he.run pins s σ H _ I h) fun u s1 z => ?_) ht
  obtain ⟨x, H1, I1, rx, rfl, q⟩ := z
  cases rx
  refine getsta_ok I1 S fun s2 I2 => PySem.W.callWith_KW0 (first := []) (h₀ := X.base) I2.ok.mod.kin S.kp hall (thn (hkw.run pos pins s2 σ H1 _ I2 q) fun ws s3 z => ?_) hpl
  obtain ⟨zs, H2, I3, rz, q2⟩ := z
  refine ⟨I3.kIn, ?_⟩
  rw [hks]
  exact run_fnk (us := []) (vs := []) F hr hb hx I3 .nil rz q2
/-- ~o by an own __invert__ -/
theorem un_invOwn (F : FnOk X.prog X.w X.K X.mg X.base CX k f fd ps sp) (hs : PySem.W.findIn X.K (.ref C) "__invert__" = some (some (.ref f))) (hf : PySem.W.isFn X.K (.ref f) = true) (hb : Binds X.K fd ps []) (hx : Passes CX X E) (hr : Room k X.A) :
    UnR X (unaryOp .Invert) (fun x H Q => ∃ a dx fs, x = .ref a ∧ H a = some (.ins C dx fs) ∧ sp [.ref a] H Q E) := by
  intro pins s σ H x v Q I rx h
  obtain ⟨a, dx, fs, rfl, ha, q⟩ := h
  cases rx
  obtain ⟨mA, J, _⟩ := ins_get I.hok ha
  obtain ⟨od, J, _⟩ := J.look
  obtain ⟨m, hF⟩ := I.fr
  refine PySem.W.ksp_inv hF I.ok.mod.kin J hs hf ?_
  exact run_fn (us := [.ref a]) (vs := [.ref a]) F hr hb .nil hx I (.cons rfl .nil) q
end
end So

namespace So
open PySem PySem.Spec PyProof.Rows L2
/-! ### own errors with one field -/
/-- the __init__ of such an error: the field is what was passed -/
def spOneE (C : Addr) (n : Str) : Sp := fun vs H Q _ => ∃ (a : Addr) (v : V), vs = [.ref a, v] ∧ H a = some (exo a C none) ∧ ∀ dx, H dx = none → dx ≠ a → Q .non (upd (upd H dx (exd dx [(n, v)])) a (exo a C (some dx)))
/-- what the top says of such an error: its class at C, named x, its field n, its __init__ at f -/
structure OneE (K : PySem.W.Frag) (mg : Str → Option Value) (x n : Str) (C f : Addr) (fd : FuncData) : Prop where
  T : OexC K C
  iC : PySem.W.findIn K (.ref C) "__init__" = some (some (.ref f))
  tI : PySem.W.typeIn K (.ref f) = some (.type "function")
  mgC : mg x = some (.ref C)
  no : PySem.W.findIn K (.ref C) n = some none
  err : Err K C
  hb : Binds K fd ["self", n] []
/-- behind C(v) -/
theorem mkOne {C : Addr} {n : Str} {vs : List V} {v : V} {H1 : Hp} {Q : XK} (e : vs = [v]) (h : ∀ d H', Same H1 H' → H1 d = none → H' d = some (.xd [(n, v)]) → Q (.ref C) (some d) H') :
    vs.length ≤ 1000 ∧ ∀ a, H1 a = none → spOneE C n (.ref a :: (vs ++ [])) (upd H1 a (exo a C none))
      (fun v H2 => v = .non ∧ ∃ (d : Addr) (fs : List (Str × V)), H2 a = some (exo a C (some d)) ∧ H2 d = some (exd d fs) ∧ H1 d = none ∧ Q (.ref C) (some d) (upd (del H2 a) d (.xd fs))) (fun _ _ _ => False) := by
  subst e
  refine ⟨by show 1 ≤ 1000; decide, fun a ha => ⟨a, v, rfl, upd_same, fun dx hdx ne => ⟨rfl, dx, [(n, v)], upd_same, ?_, ?_, h dx _ (fun b o hb => ?_) ?_ upd_same⟩⟩⟩
  · rw [upd_ne ne, upd_same]
  · rw [upd_ne ne] at hdx
    exact hdx
  · rw [upd_ne ne] at hdx
    have hba : b ≠ a := ne_of_none hb ha
    have hbd : b ≠ dx := ne_of_none hb hdx
    rw [upd_ne hbd, del_ne hba, upd_ne hba, upd_ne hbd, upd_ne hba]
    exact hb
  · rw [upd_ne ne] at hdx
    exact hdx
section
variable {X : Cx} {x n : Str} {C f : Addr} {fd : FuncData} {ta : TA} {e : Expr} {p pos pos2 : Pos}
theorem pmk_one (O : OneE X.K X.mg x n C f fd) (F : FnOk X.prog X.w X.K X.mg X.base CX0 1 f fd ["self", n] (spOneE C n)) (hr : Room 2 X.A) (hg : Gl X x) (ha : PA X [e] ta)
    (hdb : (x == ("__debug__" : Str)) = false := by decide) (he : starEach [e] X.env = (false, eval e X.env) :: starEach [] X.env := by rfl) (hpl : (backTo pos (starEach [] X.env)).any (·.1) = false := by rfl) :
    PMk X (.Call (.Name x p) [e] [] pos) (tMkO C (spOneE C n) [] ta) :=
  pmk_oex O.T O.iC O.tI F hr O.hb .nil (fun _ _ _ _ _ _ _ h => h.elim) hg O.mgC ha hdb he hpl
/-- raise C(e) -/
theorem ps_raiseOne {W : WX} (O : OneE X.K X.mg x n C f fd) (F : FnOk X.prog X.w X.K X.mg X.base CX0 1 f fd ["self", n] (spOneE C n)) (hc : X.calm = true) (hr : Room 2 X.A) (tk : Takes X W) (hg : Gl X x) (ha : PA X [e] ta)
    (hdb : (x == ("__debug__" : Str)) = false := by decide) (he : starEach [e] X.env = (false, eval e X.env) :: starEach [] X.env := by rfl) (hpl : (backTo pos (starEach [] X.env)).any (·.1) = false := by rfl) :
    PS X (.Raise (some (.Call (.Name x p) [e] [] pos)) none pos2) (fun _ σ H => tMkO C (spOneE C n) [] ta σ H fun cls d H' => W cls d σ H') := ps_raise hc tk (pmk_one O F hr hg ha hdb he hpl)
end

/-! ### repr of data, of a tuple of a text and an empty dict -/
section
variable {X : Cx}
theorem call_reprT (hg : X.A.guards = some []) (hu : X.A.units + 64 < cLine) : CallR X (.builtin "repr") (fun xs H Q => ∃ (r a : Addr) (w : Str), xs = [.ref r] ∧ SqT X.K H r [.str w, .ref a] ∧ H a = some (.dK []) ∧ (PyData.tuple [.str w, .dict []]).shown.length ≤ sizeLine ∧ Q (.str (PyData.tuple [.str w, .dict []]).shown) H) := by
  intro pins s σ H xs us Q I r h
  obtain ⟨rr, a, w, rfl, ht, ha, hz, q⟩ := h
  obtain ⟨u, rfl, rv⟩ := vals1 r
  cases rv
  obtain ⟨its, rw', ⟨o, ho, hc, n, hd⟩, _⟩ := I.tuple ht
  obtain ⟨hz2, hsm, vs, hk, hD⟩ : ([] : List (Key × V)).length ≤ sizeLine ∧ (a == sysModules) = false ∧ ∃ vs, KV [] vs ∧ s.heap.DictOf (mixKind X.prog X.w) a vs := I.hok a _ ha
  obtain ⟨u1, u2, rfl, r1, r2⟩ := vals2 rw'
  obtain ⟨t1, rfl⟩ := r1
  cases r2
  obtain ⟨o2, es, ep, e1, e2, e3, _, e5, _⟩ := hD
  cases hk
  have es0 : es.toList = [] := by
    cases h : es.toList with
    | nil => rfl
    | cons y ys =>
      rw [h] at e5
      cases e5
  have rdD : Reads s.heap (.ref a) (.dict []) (a :: [] ++ []) := Reads.dict (kvs := []) e1 e2.1 e3 (by rw [es0]; exact ReadsAll.nil) (by rw [es0]; exact ReadsAll.nil)
  have rd : Reads s.heap (.ref rr) (.tuple [.str w, .dict []]) ([] ++ ((a :: [] ++ []) ++ [])) := Reads.tuple ho hc hd (ReadsAll.cons (Reads.str w t1) (ReadsAll.cons rdD ReadsAll.nil))
  refine repr_of_reads' rd rfl (fun _ z => ?_) hg (by show X.A.units + (2 + 1) < cLine; omega) (fun _ _ e => e) (fun h' t tk k => ?_) hz
  · have : sysModules = a := by simpa using z
    rw [this] at hsm
    simp at hsm
  · exact ⟨.str _, H, I.kept k, ⟨t, rfl⟩, q⟩
theorem CallR.or {b : Value} {r r' : List V → Hp → VK → Prop} (h : CallR X b r) (h' : CallR X b r') : CallR X b (fun xs H Q => r xs H Q ∨ r' xs H Q) := by
  intro pins s σ H xs us Q I rv q
  exact q.elim (h pins s σ H xs us Q I rv) (h' pins s σ H xs us Q I rv)
end
end So

namespace K49
open PySem PySem.Spec PyProof.Rows L2 So
/-! ### the text -/
def topS (i : Nat) : Stmt := PySem.Challenge.pw_soundtill_k49_turn_sayings_told.main.body.getD i (.Pass ⟨0, 0, 0, 0⟩)
abbrev sPen : Stmt := topS 40
abbrev sDraw : Stmt := topS 41
abbrev sPick : Stmt := topS 42
theorem scPen : FnScope ["_law_script"] ["_law_script"] (defScope sPen) := ⟨rfl, rfl, rfl, by decide +kernel, rfl, by decide +kernel, by decide +kernel⟩
theorem scDraw : FnScope ["_law_pen_here", "_law_many", "_law_digit", "_law_at", "_law_cell", "_law_great", "_law_mixed"] ["_law_pen_here", "_law_many"] (defScope sDraw) := ⟨rfl, rfl, rfl, by decide +kernel, rfl, by decide +kernel, by decide +kernel⟩
theorem scPick : FnScope ["_law_pen_here", "_law_some"] ["_law_pen_here", "_law_some"] (defScope sPick) := ⟨rfl, rfl, rfl, by decide +kernel, rfl, by decide +kernel, by decide +kernel⟩

/-! ### the pen -/
/-- the pen at p: the cells at l, how many were begun, what is left of a great one -/
structure Pen (H : Hp) (p l : Addr) (ns : List Int) (n : Nat) (g : Int) : Prop where
  pen : H p = some (.lst [.ref l, .int n, .int g])
  cells : H l = some (.lst (ns.map V.int))
  left : 0 ≤ g
/-- all that was tracked beside p is as it was -/
def Off (p : Addr) (H H' : Hp) : Prop := ∀ b o, b ≠ p → H b = some o → H' b = some o
theorem Off.refl {p : Addr} {H : Hp} : Off p H H := fun _ _ _ e => e
theorem Off.trans {p : Addr} {H H1 H2 : Hp} (a : Off p H H1) (b : Off p H1 H2) : Off p H H2 := fun c o n e => b c o n (a c o n e)
theorem Off.upd {p : Addr} {H H1 : Hp} {o : HO} (a : Off p H H1) : Off p H (upd H1 p o) := fun c u n e => by
  rw [upd_ne n]
  exact a c u n e
theorem Off.new {p q : Addr} {H H1 : Hp} {o : HO} (a : Off p H H1) (h : H1 q = none) : Off p H (L2.upd H1 q o) := fun c u n e => by
  have e1 := a c u n e
  rw [upd_ne (ne_of_none e1 h)]
  exact e1
theorem dp_ints {K : PySem.W.Frag} {H : Hp} : ∀ ns : List Int, DpAll K H (ns.map V.int) (ns.map PyData.int)
  | [] => .nil
  | n :: r => .cons (.int n) (dp_ints r)
theorem depth_ints : ∀ ns : List Int, PyData.depthAll (ns.map PyData.int) ≤ 1
  | [] => by simp [PyData.depthAll]
  | n :: r => by
    have h := depth_ints r
    simp only [List.map_cons, PyData.depthAll, PyData.depth]
    omega
theorem shaped_ints (ns : List Int) : SeqAt.shaped (.list (ns.map PyData.int)) = true := by
  unfold SeqAt.shaped
  rw [Bool.and_eq_true]
  have hd := depth_ints ns
  refine ⟨?_, decide_eq_true ?_⟩
  · show PyData.canLay0 _ = true
    simp only [PyData.canLay0]
    induction ns with
    | nil => rfl
    | cons a r ih => simpa [PyData.canLayAll0, PyData.canLay0] using ih (depth_ints r)
  · simp only [PyData.depth]
    omega
theorem Pen.apart {H : Hp} {p l : Addr} {ns : List Int} {n : Nat} {g : Int} (h : Pen H p l ns n g) : l ≠ p := by
  refine ne_of h.cells h.pen (fun z => ?_)
  injection z with z
  cases ns with
  | nil => cases z
  | cons a r => cases z
theorem eqv_nil (ds : List PyData) : PyData.eqv (.list ds) (.list []) = ds.isEmpty := by
  cases ds <;> simp [PyData.eqv, PyData.eqvAll]
section
variable {P : Program} {w : World} {K : PySem.W.Frag} {mg : Str → Option Value} {base : Heap}
def spDraw : Sp := fun vs H Q _ => ∃ (p l : Addr) (ns : List Int) (n : Nat) (g many : Int), vs = [.ref p, .int many] ∧ Pen H p l ns n g ∧ n < 1000000 ∧ 0 < many ∧ many.natAbs < 2 ^ 200 ∧
  ∀ (d : Int) (n' : Nat) (g' : Int) (H' : Hp), 0 ≤ d → d < many → n' ≤ n + 1 → Off p H H' → Pen H' p l ns n' g' → Q (.int d) H'
theorem ok_draw {f : Addr} {fd : FuncData} (F : Fun K "_law_draw" "_law_draw" sDraw f fd) (ml : mg "len" = none) (mi : mg "int" = none) (ma : mg "abs" = none) : FnOk P w K mg base CX0 1 f fd ["_law_pen_here", "_law_many"] spDraw := by
  refine F.ok scDraw (fun vs H Q E h => ?_) (fun cdv A outer s H vs Q E hr h => ?_)
  · obtain ⟨p, l, ns, n, g, many, rfl, _⟩ := h
    rfl
  · obtain ⟨p, l, ns, n, g, many, rfl, hp, hn, hm, hm2, q⟩ := h
    refine ⟨_, pss_cons (ps_if (pt_cmpR op_gt (pe_ix ix_list (pv 0) pe_int (fun _ _ => rfl)) pe_int (nomark _))
        (pss_cons (ps_set (i := 2) scDraw.nd rfl (.inl rfl) (pe_op op_mod (pe_callTy call_int1 (by rfl) mi (by decide +kernel) (pa_cons (pe_ix ix_list (pv 0) pe_int (fun _ _ => rfl)) pa_nil)) (pv 1)))
        (pss_cons (ps_asg (pe_op op_fdivW (pe_callTy call_int1 (by rfl) mi (by decide +kernel) (pa_cons (pe_ix ix_list (pv 0) pe_int (fun _ _ => rfl)) pa_nil)) (pv 1)) (pg_sub (pv 0) pe_int set_list))
        (pss_one (ps_ret (pv 2))))) pss_nil)
      (pss_cons (ps_set (i := 3) scDraw.nd rfl (.inl rfl) (pe_ix ix_list (pv 0) pe_int (fun _ _ => rfl)))
      (pss_cons (ps_asg (pe_op op_add (pv 3) pe_int) (pg_sub (pv 0) pe_int set_list))
      (pss_cons (ps_set (i := 4) scDraw.nd rfl (.inl rfl) (pe_op op_add (pe_op op_mul pe_int (pv 3)) pe_int))
      (C8.pss_cut (ps_if (pt_cmpR (op_neD (by have := hr.units; exact this)) (pe_ix ix_list (pv 0) pe_int (fun _ _ => rfl)) (pe_lst pa_nil) (nomark _))
        (pss_one (ps_set (i := 4) scDraw.nd rfl (.inl rfl) (pe_ix ix_list (pe_ix ix_list (pv 0) pe_int (fun _ _ => rfl)) (pe_op op_mod (pe_callTy call_int1 (by rfl) mi (by decide +kernel) (pa_cons (pv 3) pa_nil)) (pe_callB call_len_seq (by rfl) ml PySem.boot_len (pa_cons (pe_ix ix_list (pv 0) pe_int (fun _ _ => rfl)) pa_nil))) (fun _ _ => rfl)))) pss_nil)
      (pss_cons (ps_if (PW.pt (pw_and (pt_cmpR op_lt (pv 3) (pe_callB call_len_seq (by rfl) ml PySem.boot_len (pa_cons (pe_ix ix_list (pv 0) pe_int (fun _ _ => rfl)) pa_nil)) (nomark _))
            (pw_and1 (pt_cmpR op_ge (pe_callB call_abs (by rfl) ma (by decide +kernel) (pa_cons (pv 4) pa_nil)) (pe_op op_pow pe_int pe_int) (nomark _)))))
        (pss_cons (ps_set (i := 5) scDraw.nd rfl (.inl rfl) (pe_op op_add (pe_op op_mul pe_int (pe_op op_sub (pe_callB call_abs (by rfl) ma (by decide +kernel) (pa_cons (pv 4) pa_nil)) (pe_op op_pow pe_int pe_int)))
            (pe_callTy call_int1 (by rfl) mi (by decide +kernel) (pa_cons (pe_cmpR op_lt (pv 4) pe_int (nomark _)) pa_nil))))
        (pss_cons (ps_asg (pe_op op_fdivW (pe_callTy call_int1 (by rfl) mi (by decide +kernel) (pa_cons (pv 5) pa_nil)) (pv 1)) (pg_sub (pv 0) pe_int set_list))
        (pss_one (ps_ret (pe_op op_mod (pe_callTy call_int1 (by rfl) mi (by decide +kernel) (pa_cons (pv 5) pa_nil)) (pv 1)))))) pss_nil)
      (pss_cons (ps_set (i := 6) scDraw.nd rfl (.inl rfl) (pe_op op_mod (pe_callTy call_int1 (by rfl) mi (by decide +kernel) (pa_cons
          (pe_op op_pow (pe_op op_add (pe_op op_add (pe_op op_mod (pe_callTy call_int1 (by rfl) mi (by decide +kernel) (pa_cons (pv 4) pa_nil)) pe_int) (pe_op op_mul pe_int (pv 3))) pe_int) pe_int) pa_nil)) pe_int))
      (pss_cons (ps_set (i := 6) scDraw.nd rfl (.inl rfl) (pe_op op_mod (pe_callTy call_int1 (by rfl) mi (by decide +kernel) (pa_cons
          (pe_op op_pow (pe_op op_add (pe_op op_add (pe_op op_mul (pv 6) (pe_op op_add (pe_op op_mul pe_int (pv 3)) pe_int)) (pe_op op_mul (pe_op op_mul pe_int (pv 3)) (pv 3))) pe_int) pe_int) pa_nil)) pe_int))
      (pss_one (ps_ret (pe_op op_mod (pe_callTy call_int1 (by rfl) mi (by decide +kernel) (pa_cons (pe_op op_fdiv (pv 6) pe_int) pa_nil)) (pv 1))))))))))), ?_⟩
    have hP : SqL K H p [.ref l, .int n, .int g] := SqL.of hp.pen
    refine ⟨_, rfl, p, _, 2, _, rfl, rfl, hP, atI_nat (j := 2) rfl, _, _, rfl, rfl, _, rfl, ite2 (fun e => ?_) (fun e => ?_)⟩
    · refine ⟨_, rfl, p, _, 2, _, rfl, rfl, hP, atI_nat (j := 2) rfl, .inl ⟨_, rfl, _, rfl, _, _, rfl, rfl, hm, ?_⟩⟩
      refine ⟨_, rfl, p, _, 2, _, rfl, rfl, hP, atI_nat (j := 2) rfl, .inl ⟨_, rfl, _, rfl, _, _, rfl, rfl, wide_div hm hm2 (by decide) (by decide), _, rfl, p, _, 2, 2, rfl, rfl, hp.pen, rfl, ?_⟩⟩
      refine ⟨_, rfl, q _ n (g / many) _ (Int.emod_nonneg _ (Int.ne_of_gt hm)) (Int.emod_lt_of_pos _ hm) (by omega) Off.refl.upd ⟨upd_same, (upd_ne hp.apart).trans hp.cells, Int.ediv_nonneg hp.left (Int.le_of_lt hm)⟩⟩
    · refine ⟨_, rfl, p, _, 1, _, rfl, rfl, hP, atI_nat (j := 1) rfl, ?_⟩
      refine ⟨_, rfl, _, _, rfl, rfl, _, rfl, p, _, 1, 1, rfl, rfl, hp.pen, rfl, ?_⟩
      have hP1 : (upd H p (.lst [.ref l, .int (n + 1), .int g])) p = some (.lst [.ref l, .int (n + 1), .int g]) := upd_same
      have hL1 : (upd H p (.lst [.ref l, .int (n + 1), .int g])) l = some (.lst (ns.map V.int)) := (upd_ne hp.apart).trans hp.cells
      have hO1 : Off p H (upd H p (.lst [.ref l, .int (n + 1), .int g])) := Off.refl.upd
      refine ⟨_, rfl, _, _, rfl, rfl, .inl ⟨by decide, by decide⟩, _, _, rfl, rfl, ?_⟩
      refine ⟨fun σ' H2 => ∃ c : Int, σ' = [some (.ref p), some (.int many), none, some (.int n), some (.int c), none, none] ∧ H2 p = some (.lst [.ref l, .int (n + 1), .int g]) ∧ H2 l = some (.lst (ns.map V.int)) ∧ Off p H H2, ?_, ?_⟩
      · refine ⟨_, rfl, p, _, 0, _, rfl, rfl, SqL.of hP1, atI_nat (j := 0) rfl, Nat.zero_le _, fun z hz => ?_⟩
        have hP2 := (upd_ne (o := .lst []) (ne_of_none hP1 hz)).trans hP1
        have hL2 := (upd_ne (o := .lst []) (ne_of_none hL1 hz)).trans hL1
        refine ⟨.list (ns.map PyData.int), .list [], .lst (SqL.of hL2) (dp_ints ns), .lst (SqL.of upd_same) .nil, shaped_ints ns, by decide, _, rfl, ite2 (fun e1 => ?_) (fun e1 => ?_)⟩
        · rw [eqv_nil] at e1
          have hlen : 0 < ns.length := by
            cases ns with
            | nil => cases e1
            | cons a r => exact Nat.succ_pos _
          have hlt : n % ns.length < ns.length := Nat.mod_lt _ hlen
          refine ⟨_, rfl, p, _, 0, _, rfl, rfl, SqL.of hP2, atI_nat (j := 0) rfl, _, rfl, .inl ⟨_, rfl, _, rfl, p, _, 0, _, rfl, rfl, SqL.of hP2, atI_nat (j := 0) rfl, l, _, rfl, .inl (SqL.of hL2), _, _, rfl, rfl, (by rw [List.length_map]; omega), l, _, _, .int ns[n % ns.length], rfl, rfl, SqL.of hL2, ?_, ?_⟩⟩
          · have e2 : ((n : Int) % (((ns.map V.int).length : Nat) : Int)) = ((n % ns.length : Nat) : Int) := by
              rw [List.length_map]
              exact (Int.natCast_emod n ns.length).symm
            rw [e2]
            refine atI_nat ?_
            rw [List.getElem?_map, List.getElem?_eq_getElem hlt]
            rfl
          · exact ⟨_, rfl, hP2, hL2, hO1.new hz⟩
        · exact ⟨_, rfl, hP2, hL2, hO1.new hz⟩
      · rintro σ' H2 ⟨c, rfl, hP2, hL2, hO2⟩
        have hmix : ∀ t : Int, 0 ≤ t % many ∧ t % many < many := fun t => ⟨Int.emod_nonneg _ (Int.ne_of_gt hm), Int.emod_lt_of_pos _ hm⟩
        have bm : ∀ Y : Int, 0 ≤ Y % 2147483629 ∧ Y % 2147483629 < 2147483629 := fun Y => ⟨Int.emod_nonneg _ (by decide), Int.emod_lt_of_pos _ (by decide)⟩
        have bd : ∀ Y : Int, -(2 ^ 64) < Y % 2147483629 ∧ Y % 2147483629 < 2 ^ 64 := fun Y => by
          have := bm Y
          omega
        have key : ∀ Y : Int, ((Y % 2147483629) * (2 * (n : Int) + 129) + 54424 * (n : Int) * (n : Int) + 17).natAbs < 2 ^ 64 := by
          intro Y
          have b2 := bm Y
          revert b2
          generalize Y % 2147483629 = m1
          intro b2
          have b3 : 0 ≤ m1 * (2 * (n : Int) + 129) ∧ m1 * (2 * (n : Int) + 129) ≤ 2147483629 * 2000129 := ⟨Int.mul_nonneg b2.1 (by omega), Int.mul_le_mul (by omega) (by omega) (by omega) (by decide)⟩
          have b4 : 0 ≤ 54424 * (n : Int) * (n : Int) ∧ 54424 * (n : Int) * (n : Int) ≤ (54424 * 1000000) * 1000000 := ⟨Int.mul_nonneg (by omega) (by omega), Int.mul_le_mul (by omega) (by omega) (by omega) (by decide)⟩
          omega
        refine ⟨_, rfl, _, rfl, p, _, 0, _, rfl, rfl, SqL.of hP2, atI_nat (j := 0) rfl, l, _, rfl, .inl (SqL.of hL2), _, _, rfl, rfl, _, rfl, ite2 (fun e1 => ⟨_, rfl, _, rfl, _, _, rfl, rfl, ⟨by decide, by decide, by decide⟩, _, _, rfl, rfl, _, rfl, ite2 (fun e2 => ?great) (fun e2 => ?late)⟩) (fun e1 => ?small)⟩
        case great =>
          have e3 : (10 : Int) ^ (18 : Int).toNat ≤ (if c < 0 then -c else c) := of_decide_eq_true e2
          refine ⟨_, rfl, _, rfl, _, _, rfl, rfl, ⟨by decide, by decide, by decide⟩, _, _, rfl, rfl, _, _, rfl, rfl, .inl ⟨by decide, by decide⟩, _, rfl, _, _, rfl, rfl, .inr ⟨_, rfl, _, _, rfl, rfl, ?_⟩⟩
          have hG : ∀ k : Bool, 0 ≤ 2 * ((if c < 0 then -c else c) - (10 : Int) ^ (18 : Int).toNat) + (if k = true then (1 : Int) else 0) := by
            intro k
            have : (0 : Int) ≤ (if k = true then (1 : Int) else 0) := by cases k <;> decide
            omega
          have hG1 := hG (decide (c < 0))
          refine ⟨_, rfl, .inl ⟨_, rfl, _, rfl, _, _, rfl, rfl, wide_div hm hm2 (by decide) (by decide), _, rfl, p, _, 2, 2, rfl, rfl, hP2, rfl, ?_⟩⟩
          exact ⟨_, rfl, .inl ⟨_, rfl, _, rfl, _, _, rfl, rfl, hm, q _ (n + 1) _ _ (hmix _).1 (hmix _).2 (Nat.le_refl _) hO2.upd ⟨upd_same, (upd_ne (Pen.apart ⟨hP2, hL2, hp.left⟩)).trans hL2, Int.ediv_nonneg hG1 (Int.le_of_lt hm)⟩⟩⟩
        all_goals
          have b1 : 0 ≤ c % 2147483563 ∧ c % 2147483563 < 2147483563 := ⟨Int.emod_nonneg _ (by decide), Int.emod_lt_of_pos _ (by decide)⟩
          refine ⟨_, rfl, .inl ⟨_, rfl, _, _, rfl, rfl, (by decide : (0 : Int) < 2147483563), _, rfl, _, _, rfl, rfl, .inl ⟨by decide, by decide⟩, _, _, rfl, rfl, _, _, rfl, rfl, _, _, rfl, rfl, ⟨by decide, by decide, ?_⟩, .inl ⟨_, rfl, _, _, rfl, rfl, (by decide : (0 : Int) < 2147483629), ?_⟩⟩⟩
          · omega
          refine ⟨_, rfl, _, rfl, _, _, rfl, rfl, .inl ⟨by decide, by decide⟩, _, _, rfl, rfl, _, _, rfl, rfl, .inl (bd _), _, rfl, _, _, rfl, rfl, .inl ⟨by decide, by decide⟩, _, rfl, _, _, rfl, rfl, .inr ⟨?_, ?_⟩, _, _, rfl, rfl, _, _, rfl, rfl, _, _, rfl, rfl, ⟨by decide, by decide, key _⟩, .inl ⟨_, rfl, _, _, rfl, rfl, (by decide : (0 : Int) < 2147483587), ?_⟩⟩
          · omega
          · omega
          exact ⟨_, rfl, _, _, rfl, rfl, ⟨by decide, by decide⟩, .inl ⟨_, rfl, _, rfl, _, _, rfl, rfl, hm, q _ (n + 1) g H2 (hmix _).1 (hmix _).2 (Nat.le_refl _) hO2 ⟨hP2, hL2, hp.left⟩⟩⟩


/-- one of a list's things, one of a text's signs -/
def spPick (K : PySem.W.Frag) : Sp := fun vs H Q _ => ∃ (p l : Addr) (ns : List Int) (n : Nat) (g : Int) (y : V), vs = [.ref p, y] ∧ Pen H p l ns n g ∧ n < 1000000 ∧
  ((∃ (q : Addr) (xs : List V), y = .ref q ∧ q ≠ p ∧ H q = some (.lst xs) ∧ 0 < xs.length ∧ xs.length ≤ 1000 ∧
    ∀ (v : V) (n' : Nat) (g' : Int) (H' : Hp), v ∈ xs → n' ≤ n + 1 → Off p H H' → Pen H' p l ns n' g' → Q v H') ∨
   (∃ z : Str, y = .str z ∧ 0 < z.length ∧ z.length ≤ 1000 ∧
    ∀ (c : Nat) (n' : Nat) (g' : Int) (H' : Hp), c ∈ z.cps.toList → n' ≤ n + 1 → Off p H H' → Pen H' p l ns n' g' → Q (.str (⟨#[c]⟩)) H'))
theorem ok_pick {f fD : Addr} {fd fdD : FuncData} (F : Fun K "_law_pick" "_law_pick" sPick f fd) (ml : mg "len" = none) (FD : Fun K "_law_draw" "_law_draw" sDraw fD fdD) (bD : Binds K fdD ["_law_pen_here", "_law_many"] []) (gD : mg "_law_draw" = some (.ref fD))
    (GD : FnOk P w K mg base CX0 1 fD fdD ["_law_pen_here", "_law_many"] spDraw) : FnOk P w K mg base CX0 2 f fd ["_law_pen_here", "_law_some"] (spPick K) := by
  refine F.ok scPick (fun vs H Q E h => ?_) (fun cdv A outer s H vs Q E hr h => ?_)
  · obtain ⟨p, l, ns, n, g, y, rfl, _⟩ := h
    rfl
  · obtain ⟨p, l, ns, n, g, y, rfl, hp, hn, k⟩ := h
    refine ⟨_, pss_one (ps_ret (pe_ix (ix_list.or ix_str) (pv 1) (pe_call GD hr (by rfl) gD FD.kp bD .nil pass0 (pa_cons (pv 0) (pa_cons (pe_callB (So.CallR.or call_len_seq call_len_str) (by rfl) ml PySem.boot_len (pa_cons (pv 1) pa_nil)) pa_nil))) (fun _ _ => rfl))), ?_⟩
    rcases k with ⟨q, xs, rfl, hne, hq, h0, h1, k⟩ | ⟨z, rfl, h0, h1, k⟩
    · refine ⟨_, rfl, _, rfl, _, rfl, .inl ⟨q, _, rfl, .inl (SqL.of hq), p, l, ns, n, g, _, rfl, hp, hn, by omega, ?_, ?_⟩⟩
      · have : ((xs.length : Nat) : Int).natAbs = xs.length := Int.natAbs_natCast _
        rw [this]
        exact Nat.lt_of_le_of_lt h1 (by decide)
      · intro d n' g' H' d0 d1 hn' off pen
        obtain ⟨j, rfl⟩ : ∃ j : Nat, d = j := ⟨d.toNat, by omega⟩
        have hlt : j < xs.length := by omega
        exact .inl ⟨q, xs, j, xs[j], rfl, rfl, SqL.of (off q _ hne hq), atI_nat (List.getElem?_eq_getElem hlt), k _ n' g' H' (List.getElem_mem hlt) hn' off pen⟩
    · refine ⟨_, rfl, _, rfl, _, rfl, .inr ⟨z, rfl, Nat.le_trans h1 (by decide), p, l, ns, n, g, _, rfl, hp, hn, by omega, ?_, ?_⟩⟩
      · have : ((z.length : Nat) : Int).natAbs = z.length := Int.natAbs_natCast _
        rw [this]
        exact Nat.lt_of_le_of_lt h1 (by decide)
      · intro d n' g' H' d0 d1 hn' off pen
        obtain ⟨j, rfl⟩ : ∃ j : Nat, d = j := ⟨d.toNat, by omega⟩
        have hz : z.length = z.cps.toList.length := Array.length_toList.symm
        have hlt : j < z.cps.toList.length := by omega
        exact .inr ⟨z, j, z.cps.toList[j], rfl, rfl, Nat.le_trans h1 (by decide), atI_nat (List.getElem?_eq_getElem hlt), k _ n' g' H' (List.getElem_mem hlt) hn' off pen⟩
theorem Pen.new {H : Hp} {p l q : Addr} {ns : List Int} {n : Nat} {g : Int} {o : HO} (h : Pen H p l ns n g) (hq : H q = none) : Pen (upd H q o) p l ns n g :=
  ⟨(upd_ne (ne_of_none h.pen hq)).trans h.pen, (upd_ne (ne_of_none h.cells hq)).trans h.cells, h.left⟩
end
end K49

namespace K49
open PySem PySem.Spec PyProof.Rows L2 So
abbrev sWhole : Stmt := topS 17
abbrev sMoment : Stmt := topS 18
abbrev sName : Stmt := topS 19
abbrev sCheck : Stmt := topS 20
theorem scWhole : FnScope ["value"] ["value"] (defScope sWhole) := ⟨rfl, rfl, rfl, by decide +kernel, rfl, by decide +kernel, by decide +kernel⟩
theorem scMoment : FnScope ["value"] ["value"] (defScope sMoment) := ⟨rfl, rfl, rfl, by decide +kernel, rfl, by decide +kernel, by decide +kernel⟩
theorem scName : FnScope ["value", "sign"] ["value"] (defScope sName) := ⟨rfl, rfl, rfl, by decide +kernel, rfl, by decide +kernel, by decide +kernel⟩
theorem scCheck : FnScope ["value", "form"] ["value", "form"] (defScope sCheck) := ⟨rfl, rfl, rfl, by decide +kernel, rfl, by decide +kernel, by decide +kernel⟩
/-! ### what a name is -/
def letters : Str := "abcdefghijklmnopqrstuvwxyz"
def digits : Str := "0123456789"
def noNames : List Str := ["begun", "setby", "found", "trusted", "passed", "failed", "agreed", "differed", "served", "backed", "sound", "unsound", "sure", "never", "open", "none", "record", "lot", "menu", "wanted"]
def isAln (c : Nat) : Bool := decide (c ∈ (letters ++ digits).cps.toList)
def isName (z : Str) : Bool := decide (1 ≤ z.length) && decide (z.length ≤ 8) && !(noNames.contains z) && decide (z.cps.toList.headD 0 ∈ letters.cps.toList) && z.cps.toList.all isAln
/-- the module's names that the words of the package read -/
structure Words (K : PySem.W.Frag) (mg : Str → Option Value) : Prop where
  greatest : ∃ t, mg "GREATEST" = some (.int 1000000000000000000000000000000 t)
  longest : ∃ t, mg "LONGEST_NAME" = some (.int 8 t)
  letters : ∃ t, mg "LETTERS" = some (.str letters t)
  digits : ∃ t, mg "DIGITS" = some (.str digits t)
  noNames : ∃ a, mg "NO_NAMES" = some (.ref a) ∧ ∀ H : Hp, SqT K H a (noNames.map V.str)
  isi : mg "isinstance" = none
  int : mg "int" = none
  bool : mg "bool" = none
  str : mg "str" = none
  len : mg "len" = none
  all : mg "all" = none
section
variable {P : Program} {w : World} {K : PySem.W.Frag} {mg : Str → Option Value} {base : Heap}
theorem kit_int_int : PySem.W.kitOne K (.type "int") (.type "int") = some true := kit_ty (by decide +kernel)
theorem kit_int_bool : PySem.W.kitOne K (.type "int") (.type "bool") = some false := kit_ty (by decide +kernel)
theorem kit_str_str : PySem.W.kitOne K (.type "str") (.type "str") = some true := kit_ty (by decide +kernel)
theorem kit_bool_bool : PySem.W.kitOne K (.type "bool") (.type "bool") = some true := kit_ty (by decide +kernel)

/-- the values that the law draws: what each is, by its type's name -/
inductive Gv (H : Hp) : V → String → Prop where
  | non : Gv H .non "NoneType"
  | bl (b : Bool) : Gv H (.bl b) "bool"
  | int (i : Int) : Gv H (.int i) "int"
  | str (z : Str) (h : z.length ≤ 2000) : Gv H (.str z) "str"
  | lst {a : Addr} {xs : List V} (e : H a = some (.lst xs)) : Gv H (.ref a) "list"
  | tup {a : Addr} {xs : List V} (e : H a = some (.tup xs)) : Gv H (.ref a) "tuple"
  | dK {a : Addr} {kvs : List (Key × V)} (e : H a = some (.dK kvs)) : Gv H (.ref a) "dict"
theorem Gv.ty {H : Hp} {v : V} {T : String} (h : Gv H v T) : TyX K H v (.type T) := by
  cases h with
  | non => exact .base .non
  | bl b => exact .base (.bl b)
  | int i => exact .base (.int i)
  | str z h => exact .base (.str z)
  | lst e => exact .base (.lst e)
  | tup e => exact .base (.tup e)
  | dK e => exact .base (.dK e)
theorem Gv.same {H H' : Hp} {v : V} {T : String} (h : Gv H v T) (s : Same H H') : Gv H' v T := by
  cases h with
  | non => exact .non
  | bl b => exact .bl b
  | int i => exact .int i
  | str z h => exact .str z h
  | lst e => exact .lst (s _ _ e)
  | tup e => exact .tup (s _ _ e)
  | dK e => exact .dK (s _ _ e)
theorem Gv.off {H H' : Hp} {v : V} {T : String} {p : Addr} (h : Gv H v T) (n : v ≠ .ref p) (s : Off p H H') : Gv H' v T := by
  cases h with
  | non => exact .non
  | bl b => exact .bl b
  | int i => exact .int i
  | str z h => exact .str z h
  | lst e => exact .lst (s _ _ (fun z => n (by rw [z])) e)
  | tup e => exact .tup (s _ _ (fun z => n (by rw [z])) e)
  | dK e => exact .dK (s _ _ (fun z => n (by rw [z])) e)
def gInt : V → Bool
  | .int _ => true
  | _ => false
def gMom : V → Bool
  | .int i => decide (0 ≤ i ∧ i ≤ 1000000000000000000000000000000)
  | _ => false
def gNam : V → Bool
  | .str z => isName z
  | _ => false
def gTru : V → Bool
  | .bl _ => true
  | _ => false
/-- what isinstance says of such a value and a built-in type -/
theorem Gv.kit {H : Hp} {v : V} {T : String} (h : Gv H v T) (c : String) (hc : c = "int" ∨ c = "bool" ∨ c = "str") : PySem.W.kitOne K (.type T) (.type c) = some (decide (T = c ∨ (T = "bool" ∧ c = "int"))) := by
  rcases hc with rfl | rfl | rfl <;> cases h <;> exact kit_ty (by decide +kernel)
/-- is_whole -/
def spWhole : Sp := fun vs H Q _ => ∃ (v : V) (T : String), vs = [v] ∧ Gv H v T ∧ Q (.bl (gInt v)) H
theorem ok_whole {f : Addr} {fd : FuncData} (F : Fun K "is_whole" "is_whole" sWhole f fd) (W : Words K mg) : FnOk P w K mg base CX0 1 f fd ["value"] spWhole := by
  refine F.ok scWhole (fun vs H Q E h => ?_) (fun cdv A outer s H vs Q E hr h => ?_)
  · obtain ⟨v, T, rfl, _⟩ := h
    rfl
  · obtain ⟨v, T, rfl, hv, q⟩ := h
    refine ⟨_, pss_one (ps_ret (pe_and (pe_callB call_isi (by rfl) W.isi (by decide +kernel) (pa_cons (pv 0) (pa_cons (pe_bltn (v := .ty "int") (by rfl) W.int (by decide +kernel) rfl) pa_nil)))
      (pe_one (pe_not (pe_callB call_isi (by rfl) W.isi (by decide +kernel) (pa_cons (pv 0) (pa_cons (pe_bltn (v := .ty "bool") (by rfl) W.bool (by decide +kernel) rfl) pa_nil))))))), ?_⟩
    refine ⟨_, rfl, _, _, _, _, _, rfl, .ty "int", hv.ty, hv.kit "int" (.inl rfl), _, rfl, ?_⟩
    cases hv with
    | int i =>
      refine iteT ?_
      exact ⟨_, rfl, _, _, _, _, false, rfl, .ty "bool", .base (.int i), kit_int_bool, _, rfl, q⟩
    | bl b =>
      refine iteT ?_
      exact ⟨_, rfl, _, _, _, _, true, rfl, .ty "bool", .base (.bl b), kit_bool_bool, _, rfl, q⟩
    | non => exact iteF q
    | str z h => exact iteF q
    | lst e => exact iteF q
    | tup e => exact iteF q
    | dK e => exact iteF q
/-- is_moment -/
def spMoment : Sp := fun vs H Q _ => ∃ (v : V) (T : String), vs = [v] ∧ Gv H v T ∧ Q (.bl (gMom v)) H
theorem ok_moment {f fW : Addr} {fd fdW : FuncData} (F : Fun K "is_moment" "is_moment" sMoment f fd) (W : Words K mg) (FW : Fun K "is_whole" "is_whole" sWhole fW fdW) (bW : Binds K fdW ["value"] []) (gW : mg "is_whole" = some (.ref fW)) :
    FnOk P w K mg base CX0 2 f fd ["value"] spMoment := by
  have GW : FnOk P w K mg base CX0 1 fW fdW ["value"] spWhole := ok_whole FW W
  refine F.ok scMoment (fun vs H Q E h => ?_) (fun cdv A outer s H vs Q E hr h => ?_)
  · obtain ⟨v, T, rfl, _⟩ := h
    rfl
  · obtain ⟨v, T, rfl, hv, q⟩ := h
    obtain ⟨tG, hG⟩ := W.greatest
    refine ⟨_, pss_one (ps_ret (pe_and (pe_call GW hr (by rfl) gW FW.kp bW .nil pass0 (pa_cons (pv 0) pa_nil)) (pe_one (pe_chain op_le op_le pe_int (pv 0) (pe_glob (v := .int 1000000000000000000000000000000) rfl hG ⟨_, rfl⟩))))), ?_⟩
    refine ⟨_, rfl, v, T, rfl, hv, gInt v, rfl, ?_⟩
    cases hv with
    | int i =>
      refine iteT ?_
      refine ⟨_, rfl, _, _, rfl, rfl, _, rfl, ite2 (fun e => ?_) (fun e => ?_)⟩
      · have e' : 0 ≤ i := of_decide_eq_true e
        refine ⟨_, _, rfl, rfl, ?_⟩
        have : gMom (.int i) = decide (i ≤ 1000000000000000000000000000000) := by simp [gMom, e']
        rw [this] at q
        exact q
      · have e' : ¬ 0 ≤ i := fun z => e (decide_eq_true z)
        have : gMom (.int i) = false := by simp [gMom, e']
        rw [this] at q
        exact q
    | bl b => exact iteF q
    | non => exact iteF q
    | str z h => exact iteF q
    | lst e => exact iteF q
    | tup e => exact iteF q
    | dK e => exact iteF q

theorem inV_strs (z : Str) : ∀ l : List Str, inV (.str z) (l.map V.str) = l.contains z
  | [] => rfl
  | x :: r => by
    have h := inV_strs z r
    have e : eqV (.str x) (.str z) = (z == x) := Bool.beq_comm (a := x) (b := z)
    show (eqV (.str x) (.str z) || inV (.str z) (r.map V.str)) = _
    rw [h, e, List.contains_cons]
theorem flat_strs (l : List Str) : (l.map V.str).all flatV = true := by
  rw [List.all_map]
  exact List.all_eq_true.mpr fun _ _ => rfl
theorem Same.over {H H1 : Hp} {D : Addr} {o : HO} (s : Same H H1) (h : H D = none) : Same H (upd H1 D o) := fun b u e => by
  rw [upd_ne (ne_of_none e h)]
  exact s b u e
/-- is_name -/
def spName : Sp := fun vs H Q _ => ∃ (v : V) (T : String), vs = [v] ∧ Gv H v T ∧ ∀ H', Same H H' → Q (.bl (gNam v)) H'
theorem ok_name {f : Addr} {fd : FuncData} (F : Fun K "is_name" "is_name" sName f fd) (W : Words K mg) : FnOk P w K mg base CX0 1 f fd ["value"] spName := by
  refine F.ok scName (fun vs H Q E h => ?_) (fun cdv A outer s H vs Q E hr h => ?_)
  · obtain ⟨v, T, rfl, _⟩ := h
    rfl
  · obtain ⟨v, T, rfl, hv, q⟩ := h
    obtain ⟨tL, hL⟩ := W.longest
    obtain ⟨tA, hA⟩ := W.letters
    obtain ⟨tD, hD⟩ := W.digits
    obtain ⟨aN, gN, hN⟩ := W.noNames
    have gA : ∀ {X : Cx}, X.mg = mg → True := fun _ => trivial
    refine ⟨_, pss_cons (ps_if (PW.pt (pw_or (pt_not (pt_val (pe_callB call_isi (by rfl) W.isi (by decide +kernel) (pa_cons (pv 0) (pa_cons (pe_bltn (v := .ty "str") (by rfl) W.str (by decide +kernel) rfl) pa_nil)))))
        (pw_or (pt_not (pt_chain op_le op_le pe_int (pe_callB call_len_str (by rfl) W.len PySem.boot_len (pa_cons (pv 0) pa_nil)) (pe_glob (v := .int 8) rfl hL ⟨_, rfl⟩)))
          (pw_or1 (pt_cmpR op_in_seq (pv 0) (pe_glob (v := .ref aN) rfl gN rfl) (by rfl))))))
        (pss_one (ps_ret pe_bl)) pss_nil)
      (pss_one (ps_ret (pe_and (pe_cmpR op_in_sign (pe_ix ix_str (pv 0) pe_int (fun _ _ => rfl)) (pe_glob (v := .str letters) rfl hA ⟨_, rfl⟩) (by rfl))
        (pe_one (pe_callB (cr_all rfl) (by rfl) W.all (by decide +kernel) (pa_cons (pe_lc (own := [("sign", 1)]) (g := gName 1) (tt := tYes) rfl scName.nd (pi_str (pv 0)) (blkOk_by (N := ["value", "sign"]) (sc := defScope sName) (by decide +kernel))
          (fun _ _ _ _ _ => pg_name (i := 1) scName.nd rfl (Or.inl rfl)) (fun _ _ _ _ _ => pts_nil)
          (fun _ _ _ _ _ => pe_cmpR op_in_sign (pv 1) (pe_op op_add_str (pe_glob (v := .str letters) rfl hA ⟨_, rfl⟩) (pe_glob (v := .str digits) rfl hD ⟨_, rfl⟩)) (by rfl))) pa_nil)))))), ?_⟩
    refine ⟨_, rfl, _, _, _, _, _, rfl, .ty "str", hv.ty, hv.kit "str" (.inr (.inr rfl)), _, rfl, ?_⟩
    cases hv with
    | non => exact iteT (q H (Same.refl H))
    | bl b => exact iteT (q H (Same.refl H))
    | int i => exact iteT (q H (Same.refl H))
    | lst e => exact iteT (q H (Same.refl H))
    | tup e => exact iteT (q H (Same.refl H))
    | dK e => exact iteT (q H (Same.refl H))
    | str z hz => ?_
    have q : ∀ H', Same H H' → Q (.bl (isName z)) H' := q
    have hzl : z.length ≤ sizeLine := Nat.le_trans hz (by decide)
    refine iteF ?_
    have no : isName z = false → Q (.bl false) H := fun e => by
      have := q H (Same.refl H)
      rw [e] at this
      exact this
    refine ⟨_, rfl, _, rfl, hzl, _, _, rfl, rfl, _, rfl, ite2 (fun c1 => ?_) (fun c1 => ⟨_, rfl, iteT (no ?_)⟩)⟩
    case refine_2 =>
      have c1' : ¬ (1 : Int) ≤ ((z.length : Nat) : Int) := fun e => c1 (decide_eq_true e)
      unfold isName
      rw [show decide (1 ≤ z.length) = false from decide_eq_false (by omega)]
      rfl
    have c1' : (1 : Int) ≤ ((z.length : Nat) : Int) := of_decide_eq_true c1
    refine ⟨_, _, rfl, rfl, _, rfl, ?_⟩
    by_cases c2 : ((z.length : Nat) : Int) ≤ 8
    case neg =>
      rw [decide_eq_false c2]
      refine iteT (no ?_)
      unfold isName
      rw [show decide (z.length ≤ 8) = false from decide_eq_false (by omega), Bool.and_false]
      rfl
    rw [decide_eq_true c2]
    refine iteF ⟨_, rfl, aN, _, rfl, .inr (hN H), rfl, flat_strs _, ?_⟩
    refine ⟨_, rfl, ?_⟩
    rw [show inV (.str z) (noNames.map V.str) = noNames.contains z from inV_strs z noNames]
    cases c3 : noNames.contains z with
    | true =>
      refine iteT (no ?_)
      unfold isName
      rw [c3, Bool.not_true, Bool.and_false]
      rfl
    | false =>
      refine iteF ?_
      have hz0 : 0 < z.cps.toList.length := by
        have : z.length = z.cps.toList.length := Array.length_toList.symm
        omega
      obtain ⟨c0, cr, hc⟩ : ∃ c0 cr, z.cps.toList = c0 :: cr := by
        cases e : z.cps.toList with
        | nil => rw [e] at hz0; cases hz0
        | cons a r => exact ⟨a, r, rfl⟩
      have e1 : decide (1 ≤ z.length) = true := decide_eq_true (by omega)
      have e2 : decide (z.length ≤ 8) = true := decide_eq_true (by omega)
      have e3 : isName z = (decide (c0 ∈ letters.cps.toList) && z.cps.toList.all isAln) := by
        unfold isName
        rw [e1, e2, c3, hc]
        rfl
      refine ⟨_, rfl, _, _, c0, rfl, rfl, hzl, ?_, _, _, rfl, rfl, _, rfl, ite2 (fun c4 => ?_) (fun c4 => ?_)⟩
      · rw [hc]
        exact atI_nat (j := 0) rfl
      · refine ⟨_, rfl, _, rfl, fun D hD => lc_it walk_str (fun i H' => H' D = some (.lst ((z.cps.toList.take i).map fun c => V.bl (isAln c))) ∧ Same H H') ⟨?_, ?_⟩ (fun _ _ _ _ => trivial) ?_ ?_⟩
        · exact upd_same
        · exact Same.over (Same.refl H) hD
        · rintro i x H1 H2 hi ⟨h1, s1⟩ ⟨rfl, c, hc1, rfl⟩
          have hc2 : z.cps.toList[i]? = some c := by
            rw [Array.getElem?_toList]
            exact hc1
          refine ⟨rfl, _, rfl, _, _, rfl, rfl, by decide, c, _, rfl, rfl, _, h1, ?_, ?_, Same.over s1 hD⟩
          · rw [List.length_map, List.length_take]
            have : z.cps.toList.length = z.length := Array.length_toList
            exact Nat.lt_of_le_of_lt (Nat.le_trans (Nat.min_le_right _ _) (by omega)) (by decide : 2000 < sizeLine)
          · rw [upd_same, List.take_add_one, hc2, List.map_append]
            rfl
        · rintro H1 ⟨h1, s1⟩
          refine ⟨D, z.cps.toList.map isAln, rfl, SqL.of ?_, ?_⟩
          · rw [h1, List.take_of_length_le (by rw [Array.length_toList]; exact Nat.le_refl _), List.map_map]
            rfl
          · have := q H1 s1
            rw [e3, show decide (c0 ∈ letters.cps.toList) = true from c4, Bool.true_and] at this
            rw [List.all_map]
            exact this
      · refine no ?_
        rw [e3]
        have : decide (c0 ∈ letters.cps.toList) = false := by
          cases h : decide (c0 ∈ letters.cps.toList) with
          | true => exact absurd h c4
          | false => rfl
        rw [this]
        rfl
end
end K49

namespace K49
open PySem PySem.Spec PyProof.Rows L2 So
abbrev sEN : Stmt := inClass (topS 3) 0
abbrev sEM : Stmt := inClass (topS 4) 0
abbrev sES : Stmt := inClass (topS 5) 0
abbrev sET : Stmt := inClass (topS 7) 0
abbrev sEL : Stmt := inClass (topS 8) 0
theorem scET : FnScope ["self", "tool"] ["self", "tool"] (defScope sET) := ⟨rfl, rfl, rfl, by decide +kernel, rfl, by decide +kernel, by decide +kernel⟩
theorem scEL : FnScope ["self", "value"] ["self", "value"] (defScope sEL) := ⟨rfl, rfl, rfl, by decide +kernel, rfl, by decide +kernel, by decide +kernel⟩
theorem scEN : FnScope ["self", "name"] ["self", "name"] (defScope sEN) := ⟨rfl, rfl, rfl, by decide +kernel, rfl, by decide +kernel, by decide +kernel⟩
theorem scEM : FnScope ["self", "moment"] ["self", "moment"] (defScope sEM) := ⟨rfl, rfl, rfl, by decide +kernel, rfl, by decide +kernel, by decide +kernel⟩
theorem scES : FnScope ["self", "value"] ["self", "value"] (defScope sES) := ⟨rfl, rfl, rfl, by decide +kernel, rfl, by decide +kernel, by decide +kernel⟩
section
variable {P : Program} {w : World} {K : PySem.W.Frag} {mg : Str → Option Value} {base : Heap}
theorem ok_eN {C f : Addr} {fd : FuncData} (F : Fun K "__init__" "BadName.__init__" sEN f fd) (O : OneE K mg "BadName" "name" C f fd) : FnOk P w K mg base CX0 1 f fd ["self", "name"] (spOneE C "name") := by
  refine F.ok scEN (fun vs H Q E h => ?_) (fun cdv A outer s H vs Q E hr h => ?_)
  · obtain ⟨a, v, rfl, _⟩ := h
    rfl
  · obtain ⟨a, v, rfl, ha, q⟩ := h
    exact ⟨_, pss_one (ps_ost (pv 0) (pv 1)), _, rfl, _, rfl, a, C, rfl, O.T, O.no, .inl ⟨ha, fun dx h n => q dx h n⟩⟩
theorem ok_eM {C f : Addr} {fd : FuncData} (F : Fun K "__init__" "BadMoment.__init__" sEM f fd) (O : OneE K mg "BadMoment" "moment" C f fd) : FnOk P w K mg base CX0 1 f fd ["self", "moment"] (spOneE C "moment") := by
  refine F.ok scEM (fun vs H Q E h => ?_) (fun cdv A outer s H vs Q E hr h => ?_)
  · obtain ⟨a, v, rfl, _⟩ := h
    rfl
  · obtain ⟨a, v, rfl, ha, q⟩ := h
    exact ⟨_, pss_one (ps_ost (pv 0) (pv 1)), _, rfl, _, rfl, a, C, rfl, O.T, O.no, .inl ⟨ha, fun dx h n => q dx h n⟩⟩
theorem ok_eS {C f : Addr} {fd : FuncData} (F : Fun K "__init__" "BadSaying.__init__" sES f fd) (O : OneE K mg "BadSaying" "value" C f fd) : FnOk P w K mg base CX0 1 f fd ["self", "value"] (spOneE C "value") := by
  refine F.ok scES (fun vs H Q E h => ?_) (fun cdv A outer s H vs Q E hr h => ?_)
  · obtain ⟨a, v, rfl, _⟩ := h
    rfl
  · obtain ⟨a, v, rfl, ha, q⟩ := h
    exact ⟨_, pss_one (ps_ost (pv 0) (pv 1)), _, rfl, _, rfl, a, C, rfl, O.T, O.no, .inl ⟨ha, fun dx h n => q dx h n⟩⟩
theorem ok_eT {C f : Addr} {fd : FuncData} (F : Fun K "__init__" "NoTool.__init__" sET f fd) (O : OneE K mg "NoTool" "tool" C f fd) : FnOk P w K mg base CX0 1 f fd ["self", "tool"] (spOneE C "tool") := by
  refine F.ok scET (fun vs H Q E h => ?_) (fun cdv A outer s H vs Q E hr h => ?_)
  · obtain ⟨a, v, rfl, _⟩ := h
    rfl
  · obtain ⟨a, v, rfl, ha, q⟩ := h
    exact ⟨_, pss_one (ps_ost (pv 0) (pv 1)), _, rfl, _, rfl, a, C, rfl, O.T, O.no, .inl ⟨ha, fun dx h n => q dx h n⟩⟩
theorem ok_eL {C f : Addr} {fd : FuncData} (F : Fun K "__init__" "NoLife.__init__" sEL f fd) (O : OneE K mg "NoLife" "value" C f fd) : FnOk P w K mg base CX0 1 f fd ["self", "value"] (spOneE C "value") := by
  refine F.ok scEL (fun vs H Q E h => ?_) (fun cdv A outer s H vs Q E hr h => ?_)
  · obtain ⟨a, v, rfl, _⟩ := h
    rfl
  · obtain ⟨a, v, rfl, ha, q⟩ := h
    exact ⟨_, pss_one (ps_ost (pv 0) (pv 1)), _, rfl, _, rfl, a, C, rfl, O.T, O.no, .inl ⟨ha, fun dx h n => q dx h n⟩⟩
/-- the errors -/
structure Errs (K : PySem.W.Frag) (mg : Str → Option Value) (CN CM CS CT' CL : Addr) : Prop where
  n : ∃ (f : Addr) (fd : FuncData), OneE K mg "BadName" "name" CN f fd ∧ Fun K "__init__" "BadName.__init__" sEN f fd
  m : ∃ (f : Addr) (fd : FuncData), OneE K mg "BadMoment" "moment" CM f fd ∧ Fun K "__init__" "BadMoment.__init__" sEM f fd
  s : ∃ (f : Addr) (fd : FuncData), OneE K mg "BadSaying" "value" CS f fd ∧ Fun K "__init__" "BadSaying.__init__" sES f fd
  t : ∃ (f : Addr) (fd : FuncData), OneE K mg "NoTool" "tool" CT' f fd ∧ Fun K "__init__" "NoTool.__init__" sET f fd
  l : ∃ (f : Addr) (fd : FuncData), OneE K mg "NoLife" "value" CL f fd ∧ Fun K "__init__" "NoLife.__init__" sEL f fd
def gBeg : V → Bool
  | .int i => decide (1 ≤ i ∧ i ≤ 1000000000000000000000000000000)
  | _ => false
/-- the forms: whether a value has it, the class and the field of the error where not -/
def Form (CN CM CS : Addr) (form : Str) (v : V) (ok : Bool) (C : Addr) (fl : Str) : Prop :=
  (form = "name" ∧ ok = gNam v ∧ C = CN ∧ fl = "name") ∨ (form = "moment" ∧ ok = gMom v ∧ C = CM ∧ fl = "moment") ∨ (form = "beginning" ∧ ok = gBeg v ∧ C = CM ∧ fl = "moment") ∨ (form = "truth" ∧ ok = gTru v ∧ C = CS ∧ fl = "value")
theorem notS {a b : Str} (h : a ≠ b) : ¬ (decide (V.str a = V.str b) = true) := fun e => h (V.str.inj (of_decide_eq_true e))
def spCheck (CN CM CS : Addr) : Sp := fun vs H Q E => ∃ (v : V) (T : String) (form : Str) (ok : Bool) (C : Addr) (fl : Str), vs = [v, .str form] ∧ Gv H v T ∧ Form CN CM CS form v ok C fl ∧
  (ok = true → ∀ H', Same H H' → Q .non H') ∧ (ok = false → ∀ d H', Same H H' → H' d = some (.xd [(fl, v)]) → E (.ref C) (some d) H')
theorem ok_check {CN CM CS CT' CL f fM fN : Addr} {fd fdM fdN : FuncData} (F : Fun K "check_form" "check_form" sCheck f fd) (W : Words K mg) (R : Errs K mg CN CM CS CT' CL) (FM : Fun K "is_moment" "is_moment" sMoment fM fdM) (bM : Binds K fdM ["value"] []) (gM : mg "is_moment" = some (.ref fM))
    (GM : FnOk P w K mg base CX0 2 fM fdM ["value"] spMoment) (FN : Fun K "is_name" "is_name" sName fN fdN) (bN : Binds K fdN ["value"] []) (gN : mg "is_name" = some (.ref fN)) (GN : FnOk P w K mg base CX0 1 fN fdN ["value"] spName) :
    FnOk P w K mg base (L2.CX P w) 3 f fd ["value", "form"] (spCheck CN CM CS) := by
  obtain ⟨f1, fd1, O1, F1⟩ := R.n
  obtain ⟨f2, fd2, O2, F2⟩ := R.m
  obtain ⟨f3, fd3, O3, F3⟩ := R.s
  have G1 : FnOk P w K mg base CX0 1 f1 fd1 ["self", "name"] (spOneE CN "name") := ok_eN F1 O1
  have G2 : FnOk P w K mg base CX0 1 f2 fd2 ["self", "moment"] (spOneE CM "moment") := ok_eM F2 O2
  have G3 : FnOk P w K mg base CX0 1 f3 fd3 ["self", "value"] (spOneE CS "value") := ok_eS F3 O3
  refine F.okX scCheck (fun vs H Q E h => ?_) (fun cdv A outer s H vs Q E hr h => ?_)
  · obtain ⟨v, T, form, ok, C, fl, rfl, _⟩ := h
    rfl
  · obtain ⟨v, T, form, ok, C, fl, rfl, hv, hf, qy, qn⟩ := h
    have hr1 : Room 1 _ := hr.mono (by decide)
    refine ⟨_, pss_cons (ps_if (PW.pt (pw_and (pt_cmpR op_eq (pv 1) pe_str (nomark _)) (pw_and1 (pt_not (pt_val (pe_call GN hr1 (by rfl) gN FN.kp bN .nil pass0 (pa_cons (pv 0) pa_nil))))))) (pss_one (ps_raiseOne O1 G1 rfl hr (takes_of rfl rfl rfl rfl) (by rfl) (pa_cons (pv 0) pa_nil))) pss_nil)
      (pss_cons (ps_if (PW.pt (pw_and (pt_cmpR op_eq (pv 1) pe_str (nomark _)) (pw_and1 (pt_not (pt_val (pe_call GM hr (by rfl) gM FM.kp bM .nil pass0 (pa_cons (pv 0) pa_nil))))))) (pss_one (ps_raiseOne O2 G2 rfl hr (takes_of rfl rfl rfl rfl) (by rfl) (pa_cons (pv 0) pa_nil))) pss_nil)
      (pss_cons (ps_if (PW.pt (pw_and (pt_cmpR op_eq (pv 1) pe_str (nomark _)) (pw_and1 (pt_not (PW.pt (pw_and (pt_val (pe_call GM hr (by rfl) gM FM.kp bM .nil pass0 (pa_cons (pv 0) pa_nil))) (pw_and1 (pt_cmpR op_gt (pv 0) pe_int (nomark _))))))))) (pss_one (ps_raiseOne O2 G2 rfl hr (takes_of rfl rfl rfl rfl) (by rfl) (pa_cons (pv 0) pa_nil))) pss_nil)
      (pss_one (ps_if (PW.pt (pw_and (pt_cmpR op_eq (pv 1) pe_str (nomark _)) (pw_and1 (pt_not (pt_val (pe_callB call_isi (by rfl) W.isi (by decide +kernel) (pa_cons (pv 0) (pa_cons (pe_bltn (v := .ty "bool") (by rfl) W.bool (by decide +kernel) rfl) pa_nil))))))))
        (pss_one (ps_raiseOne O3 G3 rfl hr (takes_of rfl rfl rfl rfl) (by rfl) (pa_cons (pv 0) pa_nil))) pss_nil)))), ?_⟩
    rcases hf with ⟨rfl, rfl, rfl, rfl⟩ | ⟨rfl, rfl, rfl, rfl⟩ | ⟨rfl, rfl, rfl, rfl⟩ | ⟨rfl, rfl, rfl, rfl⟩
    · refine ⟨_, rfl, rfl, _, rfl, ite2 (fun _ => ?_) (fun e => absurd (decide_eq_true rfl) e)⟩
      refine ⟨_, rfl, v, T, rfl, hv, fun H1 s1 => ⟨_, rfl, ?_⟩⟩
      cases hg : gNam v with
      | true =>
        refine iteF ?_
        refine ⟨_, rfl, rfl, _, rfl, ite2 (fun e => absurd e (notS (by decide +kernel))) (fun _ => ?_)⟩
        refine ⟨_, rfl, rfl, _, rfl, ite2 (fun e => absurd e (notS (by decide +kernel))) (fun _ => ?_)⟩
        refine ⟨_, rfl, rfl, _, rfl, ite2 (fun e => absurd e (notS (by decide +kernel))) (fun _ => ?_)⟩
        exact qy hg H1 s1
      | false =>
        refine iteT ?_
        exact ⟨_, rfl, mkOne rfl fun d H' s2 _ e => qn hg d H' (s1.trans s2) e⟩
    · refine ⟨_, rfl, rfl, _, rfl, ite2 (fun e => absurd e (notS (by decide +kernel))) (fun _ => ?_)⟩
      refine ⟨_, rfl, rfl, _, rfl, ite2 (fun _ => ?_) (fun e => absurd (decide_eq_true rfl) e)⟩
      refine ⟨_, rfl, v, T, rfl, hv, _, rfl, ?_⟩
      cases hg : gMom v with
      | true =>
        refine iteF ?_
        refine ⟨_, rfl, rfl, _, rfl, ite2 (fun e => absurd e (notS (by decide +kernel))) (fun _ => ?_)⟩
        refine ⟨_, rfl, rfl, _, rfl, ite2 (fun e => absurd e (notS (by decide +kernel))) (fun _ => ?_)⟩
        exact qy hg H (Same.refl H)
      | false =>
        refine iteT ?_
        exact ⟨_, rfl, mkOne rfl fun d H' s2 _ e => qn hg d H' s2 e⟩
    · refine ⟨_, rfl, rfl, _, rfl, ite2 (fun e => absurd e (notS (by decide +kernel))) (fun _ => ?_)⟩
      refine ⟨_, rfl, rfl, _, rfl, ite2 (fun e => absurd e (notS (by decide +kernel))) (fun _ => ?_)⟩
      refine ⟨_, rfl, rfl, _, rfl, ite2 (fun _ => ?_) (fun e => absurd (decide_eq_true rfl) e)⟩
      refine ⟨_, rfl, v, T, rfl, hv, _, rfl, ?_⟩
      have no : gBeg v = false → tMkO C (spOneE C "moment") [] (tCons (tVar 0) tNil) [some v, some (.str "beginning")] H fun cls d H' => E cls d H' := fun e =>
        ⟨_, rfl, mkOne rfl fun d H' s2 _ e2 => qn e d H' s2 e2⟩
      cases hg : gMom v with
      | true =>
        refine iteT ?_
        obtain ⟨i, rfl⟩ : ∃ i, v = .int i := by
          cases v with
          | int i => exact ⟨i, rfl⟩
          | _ => cases hg
        have hi : 0 ≤ i ∧ i ≤ 1000000000000000000000000000000 := of_decide_eq_true hg
        refine ⟨_, rfl, _, _, rfl, rfl, _, rfl, ?_⟩
        by_cases z : 0 < i
        · rw [show decide (i > 0) = true from decide_eq_true z]
          refine iteF ?_
          refine ⟨_, rfl, rfl, _, rfl, ite2 (fun e => absurd e (notS (by decide +kernel))) (fun _ => ?_)⟩
          exact qy (decide_eq_true ⟨by omega, hi.2⟩) H (Same.refl H)
        · rw [show decide (i > 0) = false from decide_eq_false z]
          refine iteT ?_
          exact no (decide_eq_false (by omega))
      | false =>
        refine iteF (iteT (no ?_))
        cases v with
        | int i =>
          have : ¬ (0 ≤ i ∧ i ≤ 1000000000000000000000000000000) := of_decide_eq_false hg
          exact decide_eq_false (by omega)
        | _ => rfl
    · refine ⟨_, rfl, rfl, _, rfl, ite2 (fun e => absurd e (notS (by decide +kernel))) (fun _ => ?_)⟩
      refine ⟨_, rfl, rfl, _, rfl, ite2 (fun e => absurd e (notS (by decide +kernel))) (fun _ => ?_)⟩
      refine ⟨_, rfl, rfl, _, rfl, ite2 (fun e => absurd e (notS (by decide +kernel))) (fun _ => ?_)⟩
      refine ⟨_, rfl, rfl, _, rfl, ite2 (fun _ => ?_) (fun e => absurd (decide_eq_true rfl) e)⟩
      refine ⟨_, rfl, _, _, _, _, _, rfl, .ty "bool", hv.ty, hv.kit "bool" (.inr (.inl rfl)), _, rfl, ?_⟩
      have no : gTru v = false → tMkO C (spOneE C "value") [] (tCons (tVar 0) tNil) [some v, some (.str "truth")] H fun cls d H' => E cls d H' := fun e =>
        ⟨_, rfl, mkOne rfl fun d H' s2 _ e2 => qn e d H' s2 e2⟩
      cases hv with
      | bl b => exact iteF (qy rfl H (Same.refl H))
      | non => exact iteT (no rfl)
      | int i => exact iteT (no rfl)
      | str z h => exact iteT (no rfl)
      | lst e => exact iteT (no rfl)
      | tup e => exact iteT (no rfl)
      | dK e => exact iteT (no rfl)
end
end K49

/-! set(xs) of a list or a tuple of ints, so that sorted can walk it. -/
namespace So
open PySem PySem.Spec PyProof.Rows L2
/-- a set just made -/
abbrev bareSet (w : World) : Obj := { cls := .type "set", dict := none, data := .set #[] 0 (.fresh 0 0 (!w.params.followText "set-order")) }
section
variable {P : Program} {w : World} {A : Around} {E : Value → Shared → Prop} {s : Shared}
/-- what set(..) hands back -/
abbrev GotSet (w : World) (ns : List Int) (s : Shared) (h' : Heap) (c : Nat) : Prop :=
  SetR w h' s.heap.objs.size (fun j => decide (j ∈ ns)) c ∧ c ≤ ns.length ∧ ∀ b o, s.heap.get? b = some o → h'.get? b = some o
theorem set_of_list {l : Addr} {its : Array Value} (ns : List Int) {Q : Value → Shared → Prop} (hh : A.handled = none) (hl : s.heap.IsList l its) (hit : IntsAre its.toList ns) (hb : ns.length + 1 < scanBound)
    (q : ∀ h' tk c, GotSet w ns s h' c → Q (.ref s.heap.objs.size) { s with heap := h', toks := tk }) : wpAny (model P w) A (call (.type "set") [.ref l]) Q E s := by
  have sz : its.size = ns.length := by
    have e := hit.length
    rwa [Array.length_toList] at e
  obtain ⟨c, tl, mro⟩ := F.called_set.mro
  have mde := F.called_set.made
  have sbt := F.called_set.sub
  refine wpAny_call (codeAny_of_tree ?_)
  show wpAny _ _ (callAny (.type "set") _) _ _ _
  refine wpAny_pure ⟨Code.quiet_builtin _ (by decide +kernel), codeAny_builtin F.entry_type_call ?_⟩
  rw [Around.under_plain (weight_type_call_type "set" [.ref l] []) rfl]
  have k1 := F.called_set.notType
  have k2 := F.called_set.canCreate
  have k3 := F.typeCall_set_1 (.ref l)
  repeat (any_goals (first | assumption | wp_step))
  refine codeAny_mono (code_set_led1 (.ref l) (E := E) (Q₁ := fun ob s1 => ob = .ref s.heap.objs.size ∧ s1 = { s with heap := s.heap.push (bareSet w) }) ⟨rfl, rfl⟩) fun r s1 hr => ?_
  match r, hr with
  | .error e, hr => exact hr
  | .ok .next, hr => exact hr.elim
  | .ok .brk, hr => exact hr.elim
  | .ok .cont, hr => exact hr.elim
  | .ok (.ret ob), hr =>
    obtain ⟨rfl, rfl⟩ := hr
    generalize hH : s.heap.push (bareSet w) = g0
    have at0 : g0.get? s.heap.objs.size = some (bareSet w) := by rw [← hH]; exact Heap.get?_push_size _ rfl
    have up0 : ∀ b o, s.heap.get? b = some o → g0.get? b = some o := fun b o e => by rw [← hH]; exact Heap.get?_push_of_some _ e
    have z0 : g0.objs.size = s.heap.objs.size + 1 := by rw [← hH]; exact Heap.size_push ..
    have tS : Shared.TypeIs { s with heap := g0 } (.ref s.heap.objs.size) "set" := ⟨_, at0, rfl⟩
    have i1 := F.called_set.init.lookup
    have i2 := F.called_set.init.bind (.ref s.heap.objs.size)
    repeat (any_goals (first | assumption | wp_step))
    refine codeAny_mono (codeAny_call_builtin (R := wants (fun r s2 => r = .none ∧ ∃ h' tk c, s2 = { s with heap := h', toks := tk } ∧ GotSet w ns s h' c) E) F.called_set.init.plain F.entry_set_init (check_set_init_1 tS ?_)) fun r2 s2 hr2 => ?_
    · obtain ⟨ob, ho, hc, nl, hd⟩ := hl
      obtain ⟨cc, dd, da, sl⟩ := ob
      simp only at hc hd
      subst hc
      subst hd
      have ho1 := up0 _ _ ho
      have n1 := F.sub_list_set
      have n2 := F.sub_list_frozenset
      have n3 : (Value.type "list" == Value.type "dict") = false := by decide
      have il : g0.IsList l its := ⟨_, ho1, rfl, nl, rfl⟩
      unfold Builtin.«set.__init__» noKeywords Builtin.Frozenset.updateFrom
      generalize hit' : pyIter = pI
      wp_walk
      subst hit'
      refine wpAny_pyIter_list il (wpAny_bind (wpAny_runValue ?_))
      have ll : l < s.heap.objs.size := Heap.lt_size ho
      have nI : l ≠ g0.objs.size := by
        rw [z0]
        exact Nat.ne_of_lt (Nat.lt_succ_of_lt ll)
      have nS : s.heap.objs.size ∉ [g0.objs.size, l] := by
        intro z
        rcases List.mem_cons.mp z with z | z
        · rw [z0] at z
          exact Nat.ne_of_lt (Nat.lt_succ_self _) z
        · exact Nat.ne_of_gt ll (List.mem_singleton.mp z)
      have vals : ∀ (i : Nat) (v : Value), its[i]? = some v → ∃ k t, ns[i]? = some k ∧ v = .int k t := fun i v hv => by
        have hi : i < ns.length := by rw [← sz]; exact (Array.getElem?_eq_some_iff.mp hv).1
        obtain ⟨t, e⟩ := hit.int_at i v (by rw [Array.getElem?_toList]; exact hv)
        exact ⟨ns[i], t, List.getElem?_eq_getElem hi, by rw [e, List.getD_eq_getElem?_getD, List.getElem?_eq_getElem hi]; rfl⟩
      refine set_update_ints ((Walks.list (by simp [hh]) _ l nI its).toS) s.heap.objs.size nS ns sz hb vals (its.size - 0) 0 _ (by omega) (Nat.zero_le _) ⟨⟨_, Heap.get?_push_size _ rfl, rfl, rfl⟩, il.push _⟩
        ⟨0, Nat.le_refl 0, setR_new_at (Heap.get?_push_of_some _ at0)⟩ fun s' c' hm hc' hS' => ?_
      obtain ⟨h', g2, d', tk', os'⟩ := s'
      have eg : g2 = s.gens := hm.gens
      have ed : d' = s.drawn := hm.drawn
      have eo : os' = s.os := hm.os
      subst eg ed eo
      rw [sz] at hc'
      refine wpAny_pure (wpAny_pure ⟨rfl, h', tk', c', rfl, hS', hc', fun b o e => ?_⟩)
      have hb0 : b < s.heap.objs.size := Heap.lt_size e
      refine hm.heap b o (fun z => ?_) (Heap.get?_push_of_some _ (up0 _ _ e))
      rcases List.mem_cons.mp z with z | z
      · exact Nat.ne_of_lt hb0 z
      · rw [List.mem_singleton.mp z, z0] at hb0
        exact Nat.lt_irrefl _ (Nat.lt_of_succ_lt hb0)
    · match r2, hr2 with
      | .error e, hr2 => exact hr2
      | .ok .next, hr2 => exact hr2.elim
      | .ok .brk, hr2 => exact hr2.elim
      | .ok .cont, hr2 => exact hr2.elim
      | .ok (.ret r), hr2 =>
        obtain ⟨rfl, h', tk, c', rfl, g⟩ := hr2
        repeat (any_goals (first | assumption | wp_step))
        exact q _ _ _ g
end
/-- set(xs): ints, fewer than 64 -/
def rSetI (K : PySem.W.Frag) (w : World) : List V → Hp → VK → Prop := fun xs H Q => ∃ (l : Addr) (ns : List Int), xs = [.ref l] ∧ (SqL K H l (ns.map V.int) ∨ SqT K H l (ns.map V.int)) ∧ ns.length < 64 ∧
  ∀ p c, H p = none → c ≤ ns.length → Q (.ref p) (upd H p (SetO w p (fun k => decide (k ∈ ns)) c))
section
variable {X : Cx}
theorem cr_setI (hc : X.calm = true) : CallR X (.type "set") (rSetI X.K X.w) := by
  intro pins s σ H xs us Q I r h
  obtain ⟨l, ns, rfl, hs, hl, q⟩ := h
  rw [Vals.ref1 r]
  have fin : ∀ (h' : Heap) (tk c : Nat), GotSet X.w ns s h' c → EP X pins σ Q (.ref s.heap.objs.size) { s with heap := h', toks := tk } := fun h' tk c ⟨g1, g2, g3⟩ =>
    ⟨.ref s.heap.objs.size, _, I.laid (t' := tk) g3 (Nat.le_refl _) (setO_new g1), rfl, q _ c (I.hok.fresh (Nat.le_refl _)) g2⟩
  have hb : ns.length + 1 < scanBound := by
    unfold scanBound
    omega
  rcases hs with hs | hs
  · obtain ⟨its, rv, pl, _⟩ := I.list hs
    exact set_of_list ns (I.ok.hd hc) pl.isList (by simpa using ints_of_vals rv) hb fin
  · obtain ⟨its, rv, pl, _⟩ := I.tuple hs
    exact call_set_tupI ns (I.ok.hd hc) pl (by simpa using ints_of_vals rv) hb fun h' tk c g1 g2 g3 => fin h' tk c ⟨g1, g2, g3⟩
/-- sorted(set(xs)) -/
theorem pairwise_ext : ∀ {xs ys : List Int}, xs.Pairwise (· < ·) → ys.Pairwise (· < ·) → (∀ k, k ∈ xs ↔ k ∈ ys) → xs = ys
  | [], [], _, _, _ => rfl
  | [], y :: ys, _, _, h => absurd ((h y).mpr List.mem_cons_self) (by simp)
  | x :: xs, [], _, _, h => absurd ((h x).mp List.mem_cons_self) (by simp)
  | x :: xs, y :: ys, hx, hy, h => by
    rw [List.pairwise_cons] at hx hy
    have e : x = y := by
      rcases List.mem_cons.mp ((h x).mp List.mem_cons_self) with e | e
      · exact e
      · rcases List.mem_cons.mp ((h y).mpr List.mem_cons_self) with e2 | e2
        · exact e2.symm
        · have a := hy.1 x e
          have b := hx.1 y e2
          omega
    subst e
    congr 1
    refine pairwise_ext hx.2 hy.2 fun k => ⟨fun hk => ?_, fun hk => ?_⟩
    · rcases List.mem_cons.mp ((h k).mp (List.mem_cons_of_mem _ hk)) with e | e
      · subst e
        exact absurd (hx.1 _ hk) (by omega)
      · exact e
    · rcases List.mem_cons.mp ((h k).mpr (List.mem_cons_of_mem _ hk)) with e | e
      · subst e
        exact absurd (hy.1 _ hk) (by omega)
      · exact e
end
end So

namespace So
open PySem PySem.Spec PyProof.Rows L2 PySem.HandSPX
section
variable {M : Model} {A : Around} {E : Value → Shared → Prop} {h : Heap} {g : Array GenState} {d : Drawn} {t : Nat} {os : OsState}
variable {nm q : Str} {C N : Addr} {bs bm bmB : List Value} {hdct : Bool} {sn : List Str} {sub : List Value} {ab : Bool} {col : Option Bool} {dd : Option Addr} {k0 k1 k2 k3 k5 : Option Value} {B newId initId : String}
theorem kw_check (F : ExcBaseFacts B newId initId bmB) (hT : ∀ X : String, bm.contains (.type X) = bmB.contains (.type X)) {kws : List (Str × Value)} {Q : Unit → Shared → Prop}
    (hC : h.get? C = some (excClassObj nm q C N bs bm hdct sn sub ab col dd k0 k1 k2 k3 k5 newId)) (hq : Q () ⟨h, g, d, t, os⟩) :
    wpAny M A (checkBuiltinCall newId ⟨[.ref C], kws⟩) Q E ⟨h, g, d, t, os⟩ := by
  have inB : (Value.ref C :: bm).contains (.type B) = true := by
    rw [List.contains_cons, hT, F.hasB, Bool.or_true]
  have stars := F.noStar
  simp only [checkBuiltinCall, F.newKind, F.newSplit, F.newRow]
  repeat (first
    | refine wpAny_loadPart_at hC ?_
    | (refine wpAny_isSubtype_exc hC ?_
       rw [inB])
    | refine wpAny_staticBase_exc hC ?_
    | refine wpAny_madeBy_exc hC ?_
    | simp only [bne_self_eq_false, Bool.false_eq_true, if_false]
    | wp_step)
  exact hq
end
section
variable {prog : Program} {w : World} {A : Around} {E : Value → Shared → Prop} {R : Result → Shared → Prop} {h : Heap} {g : Array GenState} {d : Drawn} {t : Nat} {os : OsState}
variable {nm q : Str} {C N : Addr} {bs bm bmB : List Value} {hdct : Bool} {sn : List Str} {sub : List Value} {ab : Bool} {col : Option Bool} {dd : Option Addr} {k0 k1 k2 k3 k5 : Option Value} {B newId initId : String}
theorem kw_new (F : ExcBaseFacts B newId initId bmB) (hT : ∀ X : String, bm.contains (.type X) = bmB.contains (.type X)) {kws : List (Str × Value)}
    (hC : h.get? C = some (excClassObj nm q C N bs bm hdct sn sub ab col dd k0 k1 k2 k3 k5 newId))
    (hq : R (.ok (.ret (.ref (h.objs.size + 1)))) ⟨(h.push (PySem.W.kdv_tup [])).push (excO C h.objs.size), g, d, t, os⟩) :
    codeAny (model prog w) A (.builtin newId ⟨[.ref C], kws⟩) R ⟨h, g, d, t, os⟩ := by
  have ends := F.ends
  have inB : (Value.ref C :: bm).contains (.type B) = true := by
    rw [List.contains_cons, hT, F.hasB, Bool.or_true]
  have noA : (Value.ref C :: bm).contains (.type "AttributeError") = false := by
    rw [List.contains_cons, hT, F.noAttr]
    rfl
  have noN : (Value.ref C :: bm).contains (.type "NameError") = false := by
    rw [List.contains_cons, hT, F.noName]
    rfl
  refine codeAny_builtinAt F.entry ?_
  unfold Builtin.«BaseException.__new__»
  refine PySem.wpAt_bind ?_
  show PySem.wpAt _ _ _ (stack >>= _) _ _ _
  refine PySem.wpAt_bind (PySem.wpAt_stack fun p below => ?_)
  refine PySem.wpAt_of_wpAny ?_
  wp_walk
  refine PySem.wpAt_of_wpAny ?_
  rw [F.owner]
  repeat (first
    | with_reducible refine wpAny_madeHere_exc F.canon hC ?_
    | with_reducible refine wpAny_loadPart_at hC ?_
    | (with_reducible refine wpAny_isSubtype_exc hC ?_
       first
         | rw [inB]
         | rw [noA]
         | rw [noN])
    | wp_step)
  show R _ _
  rw [Heap.size_push]
  exact hq
theorem kw_type (F : ExcBaseFacts B newId initId bmB) (hT : ∀ X : String, bm.contains (.type X) = bmB.contains (.type X)) {kws : List (Str × Value)} {fI : Addr} {Q : Fin → Shared → Prop}
    (hC : h.get? C = some (excClassObj nm q C N bs bm hdct sn sub ab col dd k0 k1 k2 k3 k5 newId))
    (hi : PySem.W.Looks (model prog w) h (typeLookup (.ref C) "__init__") (some (.ref fI))) (hb : ∀ self, PySem.W.Looks (model prog w) h (bindSpecial (.ref fI) self) (.ref fI, [self]))
    (hq : codeAny (model prog w) A (.call (.ref fI) ⟨[.ref (h.objs.size + 1)], kws⟩)
      (fun r s' => match r with | .ok (.ret v) => v = .none ∧ Q (.done (.ret (.ref (h.objs.size + 1)))) s' | .ok _ => False | .error e => E e s')
      ⟨(h.push (PySem.W.kdv_tup [])).push (excO C h.objs.size), g, d, t, os⟩) :
    wpAny (model prog w) A (Builtin.«type.__call__» ⟨[.ref C], kws⟩) Q E ⟨h, g, d, t, os⟩ := by
  repeat (first
    | with_reducible refine wpAny_loadPart_at hC ?_
    | with_reducible refine wpAny_madeBy_exc hC ?_
    | wp_step)
  refine codeAny_call_builtin_code (Code.quiet_builtin _ F.quiet) ?_
  refine kw_check F hT hC ?_
  refine kw_new F hT hC ?_
  show wpAny _ _ _ _ _ _
  have keep : ∀ b o, h.get? b = some o → ((h.push (PySem.W.kdv_tup [])).push (excO C h.objs.size)).get? b = some o := by
    intro b o e
    exact Heap.get?_push_of_some _ (Heap.get?_push_of_some _ e)
  have hC' := keep _ _ hC
  have here : ((h.push (PySem.W.kdv_tup [])).push (excO C h.objs.size)).get? (h.objs.size + 1) = some (excO C h.objs.size) := by
    heap_get
  have self : (Value.ref C :: bm).contains (.ref C) = true := by simp
  have look := hi.keeps keep
  have bind := (hb (.ref (h.objs.size + 1))).keeps keep
  unfold isInstance
  repeat (first
    | with_reducible refine wpAny_loadPart_at here ?_
    | (with_reducible refine wpAny_isSubtype_exc hC' ?_
       rw [self])
    | wp_step)
  show wpAny _ _ (typeLookup (.ref C) _) _ _ _
  refine look.at ?_
  refine wpAny_holding (wpAny_bind (bind.at ?_))
  refine wpAny_bind (wpAny_call (codeAny_mono hq fun r s' z => ?_))
  match r, z with
  | .error e, z => exact z
  | .ok .next, z => exact z.elim
  | .ok .brk, z => exact z.elim
  | .ok .cont, z => exact z.elim
  | .ok (.ret v), z =>
    obtain ⟨e, z⟩ := z
    subst e
    first
      | exact wpAny_pure (wpAny_pure z)
      | (wp_walk
         exact z)
theorem kw_checkT {kws : List (Str × Value)} {Q : Unit → Shared → Prop} (hC : h.get? C = some (excClassObj nm q C N bs bm hdct sn sub ab col dd k0 k1 k2 k3 k5 newId)) (hq : Q () ⟨h, g, d, t, os⟩) :
    wpAny (model prog w) A (checkBuiltinCall "type.__call__" ⟨[.ref C], kws⟩) Q (fun e s' => E e s') ⟨h, g, d, t, os⟩ := by
  have f3 := tc_sub
  have ty : (⟨h, g, d, t, os⟩ : Shared).TypeIs (.ref C) "type" := ⟨_, hC, rfl⟩
  simp only [checkBuiltinCall, tc_kind, tc_split]
  repeat (any_goals (first
    | assumption
    | with_reducible refine wpAny_loadPart_at hC ?_
    | with_reducible refine wpAny_onRaise ?_
    | with_reducible refine wpAny_map ?_
    | wp_step))
theorem kw_call (F : ExcBaseFacts B newId initId bmB) (hT : ∀ X : String, bm.contains (.type X) = bmB.contains (.type X)) {kws : List (Str × Value)} {fI : Addr}
    (hC : h.get? C = some (excClassObj nm q C N bs bm hdct sn sub ab col dd k0 k1 k2 k3 k5 newId))
    (hi : PySem.W.Looks (model prog w) h (typeLookup (.ref C) "__init__") (some (.ref fI))) (hb : ∀ self, PySem.W.Looks (model prog w) h (bindSpecial (.ref fI) self) (.ref fI, [self]))
    (hq : codeAny (model prog w) (A.under (.builtin "type.__call__" ⟨[.ref C], kws⟩)) (.call (.ref fI) ⟨[.ref (h.objs.size + 1)], kws⟩) (PySem.W.InitBack (h.objs.size + 1) R)
      ⟨(h.push (PySem.W.kdv_tup [])).push (excO C h.objs.size), g, d, t, os⟩) :
    codeAny (model prog w) A (.call (.ref C) ⟨[], kws⟩) R ⟨h, g, d, t, os⟩ := by
  have lk := tc_lookup
  have bd := tc_bind (.ref C)
  have ty : (⟨h, g, d, t, os⟩ : Shared).TypeIs (.ref C) "type" := ⟨_, hC, rfl⟩
  refine codeAny_of_tree ?_
  show wpAny _ _ (callAny (.ref C) _) _ _ _
  repeat (any_goals (first
    | assumption
    | with_reducible refine wpAny_loadPart_at hC ?_
    | wp_step))
  refine ⟨rfl, ?_⟩
  refine codeAny_call_builtin_at (Code.quiet_builtin _ (by decide +kernel)) entry_typeCall ?_
  refine kw_checkT hC ?_
  refine kw_type F hT hC hi hb ?_
  refine codeAny_mono hq fun r s' z => ?_
  match r, z with
  | .error e, z => exact z
  | .ok (.ret v), z => exact z
  | .ok .next, z => exact z
  | .ok .brk, z => exact z
  | .ok .cont, z => exact z
end
end So

namespace So
open PySem PySem.Spec PyProof.Rows L2
/-- C(k = v, ..), C's own __init__ keeping sp -/
def tMkK (C : Addr) (n : Nat) (sp : Sp) (gV : List V → List V → List V) (tk : TA) : L2.St → Hp → XK → Prop := fun σ H Q => tk σ H fun zs H1 => zs.length = n ∧ ∀ a, H1 a = none → sp (gV [.ref a] zs) (upd H1 a (exo a C none))
  (fun v H2 => v = .non ∧ ∃ (d : Addr) (fs : List (Str × V)), H2 a = some (exo a C (some d)) ∧ H2 d = some (exd d fs) ∧ H1 d = none ∧ Q (.ref C) (some d) (upd (del H2 a) d (.xd fs))) (fun _ _ _ => False)
section
variable {X : Cx} {CX : CXT} {x : Str} {C fI : Addr} {k : Nat} {fd : FuncData} {ps ks : List Str} {sp : Sp} {g : List Value → List Value → List Value} {gV : List V → List V → List V} {kws : List Keyword} {tk : TA} {p pos : Pos}
theorem pmk_oexK (T : OexC X.K C) (iC : PySem.W.findIn X.K (.ref C) "__init__" = some (some (.ref fI))) (tI : PySem.W.typeIn X.K (.ref fI) = some (.type "function")) (F1 : FnOk X.prog X.w X.K X.mg X.base CX k fI fd ps sp) (hr : Room (k + 1) X.A) (hb : KBn X.K fd ps 1 ks g gV)
    (hx : Passes CX X (fun _ _ _ => False)) (hg : Gl X x) (hm : X.mg x = some (.ref C)) (hkw : PK X kws tk)
    (hall : (backToKw pos (keywordEach kws X.env)).all (·.1.isSome) = true := by rfl) (hks : (backToKw pos (keywordEach kws X.env)).filterMap (·.1) = ks := by rfl) (hdb : (x == ("__debug__" : Str)) = false := by decide)
    (hpl : ((backTo pos (starEach [] X.env)).any (·.1) || (backToKw pos (keywordEach kws X.env)).any (·.1.isNone)) = false := by rfl) :
    PMk X (.Call (.Name x p) [] kws pos) (tMkK C ks.length sp gV tk) := by
  intro pins s σ H Q I h
  obtain ⟨nm, q, N, bs, bm, sn, sub, ab, col, dd, k0, k1, k2, k3, k5, hC, hbm⟩ := T.cls
  refine wpAny_Call_Name_kw (ld_glob I hg hm ?_ hdb)
  refine PySem.W.callWith_KW0 (h₀ := X.base) I.ok.mod.kin T.kC hall ?_ hpl
  refine thn (hkw.run pos pins s σ H _ I h) fun ws s1 z => ?_
  obtain ⟨zs, H1, I1, rz, hz, q1⟩ := z
  refine ⟨I1.kIn, ?_⟩
  rw [hks]
  show wpAny _ _ (call (.ref C) [] (ks.zip ws)) _ _ _
  obtain ⟨hp, g', dr, tk', os⟩ := s1
  have big : hp.objs.size ≤ hp.objs.size + 1 := Nat.le_succ _
  have fresh : H1 (hp.objs.size + 1) = none := I1.hok.fresh big
  have hq := q1 _ fresh
  have keep : ∀ b o, hp.get? b = some o → ((hp.push (PySem.W.kdv_tup [])).push (PySem.HandSPX.excO C hp.objs.size)).get? b = some o := by
    intro b o e
    exact Heap.get?_push_of_some _ (Heap.get?_push_of_some _ e)
  have here : ((hp.push (PySem.W.kdv_tup [])).push (PySem.HandSPX.excO C hp.objs.size)).get? (hp.objs.size + 1) = some (PySem.HandSPX.excO C hp.objs.size) := by
    heap_get
  have I2 : Inv X pins σ (upd H1 (hp.objs.size + 1) (exo (hp.objs.size + 1) C none)) ⟨(hp.push (PySem.W.kdv_tup [])).push (PySem.HandSPX.excO C hp.objs.size), g', dr, tk', os⟩ :=
    I1.laid (t' := tk') (o := exo (hp.objs.size + 1) C none) keep big (exo_ok here)
  have r1 : Vals [V.ref (hp.objs.size + 1)] [Value.ref (hp.objs.size + 1)] := .cons rfl .nil
  refine wpAny_call (kw_call F.excBase_ValueError (fun Y => PySem.HandSPX.refsVE_contains Y bm hbm) (I1.kIn _ _ hC) (PySem.W.looks_findIn I1.kIn iC) (fun self => PySem.W.bind_fn I1.kIn self tI)
    (codeAny_mono (F1.run _ X.stack _ _ ⟨[.ref (hp.objs.size + 1)], ks.zip ws⟩ (g [.ref (hp.objs.size + 1)] ws) _ _ (fun _ _ _ => False) (hr.make C [] (ks.zip ws)) (I2.env0.make C [] (ks.zip ws))
      (hb.to _ [.ref (hp.objs.size + 1)] ws I2.kIn rfl (rz.length.symm.trans hz)) (hb.rel r1 rz) hq) fun r s' hq' => ?_))
  match r, hq' with
  | .error er, hq' => exact hx pins σ _ _ er s' I2 hq'
  | .ok .next, hq' => exact hq'.elim
  | .ok .brk, hq' => exact hq'.elim
  | .ok .cont, hq' => exact hq'.elim
  | .ok (.ret u), hq' =>
    obtain ⟨v, H2, os2, bare2, un2, hok2, rv, ev, d, fs, ea, ed, hd1, q2⟩ := hq'
    subst ev
    obtain ⟨h2, g2, d2, t2, os'⟩ := s'
    exact ⟨rv, mk_end (raises_own T.exC T.tyC) I1 big keep un2 hok2 os2 bare2 ea ed hd1 q2⟩
/-- an exception that is made and kept, not raised -/
theorem pe_ofMk {e : Expr} {t : L2.St → Hp → XK → Prop} (hex : X.ex = []) (h : PMk X e t) : PE X e (fun σ H Q => t σ H fun cls d H' => ∀ a, H' a = none → Q (.ref a) (upd H' a (Xo cls d a))) := by
  refine ⟨fun pins s σ H Q I w => ?_⟩
  refine thn (h pins s σ H _ I w) fun u s' z => ?_
  obtain ⟨a, oe, fv, sI, H', cls, d, rfl, J, k, na, he, hz, hd, h1, nH, ho, hb, _, q⟩ := z
  have K := J.kept (t' := s'.toks) (h' := s'.heap) k
  have I' : Inv X pins σ H' s' := ⟨K.ok, ho.trans J.os, hb, K.base, K.loc, K.cell, K.free, K.freeC, K.pin, K.hok, K.len⟩
  have nL : a ≠ X.env.locals := fun z => by
    obtain ⟨m, hn, _⟩ := J.loc
    obtain ⟨o, es, ep, e, _⟩ := hn
    rw [← z, na] at e
    cases e
  exact ⟨.ref a, _, track J hex na I' he hz hd nH nL, rfl, q a nH⟩
end
end So

namespace So
open PySem PySem.Spec PyProof.Rows L2
theorem overS {H H1 : Hp} {D : Addr} {o : HO} (s : Same H H1) (h : H1 D = none) : Same H (upd H1 D o) := fun b u e => (upd_ne (ne_of_none (s b u e) h)).trans (s b u e)
/-! ### errors with two fields -/
def spTwoE (C : Addr) (n1 n2 : Str) : Sp := fun vs H Q _ => ∃ (a : Addr) (v1 v2 : V), vs = [.ref a, v1, v2] ∧ H a = some (exo a C none) ∧ ∀ dx, H dx = none → dx ≠ a → Q .non (upd (upd (upd H dx (exd dx [(n1, v1)])) a (exo a C (some dx))) dx (exd dx [(n2, v2), (n1, v1)]))
section
variable {P : Program} {w : World} {K : PySem.W.Frag} {mg : Str → Option Value} {base : Heap}
theorem ok_one {n qual : Str} {st : Stmt} {C f : Addr} {fd : FuncData} (F : Fun K "__init__" qual st f fd) (T : OexC K C) (no : PySem.W.findIn K (.ref C) n = some none) (S : FnScope ["self", n] ["self", n] (defScope st))
    (hb : ∃ p1 p2 p3 p4, defBody st = [.Assign [.Attribute (.Name "self" p1) n p2] (.Name n p3) p4]) (h1 : (n == ("__debug__" : Str)) = false) (h2 : (n == ("__classdict__" : Str)) = false) :
    FnOk P w K mg base CX0 1 f fd ["self", n] (spOneE C n) := by
  obtain ⟨p1, p2, p3, p4, hb⟩ := hb
  refine F.ok S (fun vs H Q E h => ?_) (fun cdv A outer s H vs Q E hr h => ?_)
  · obtain ⟨a, v, rfl, _⟩ := h
    rfl
  · obtain ⟨a, v, rfl, ha, q⟩ := h
    rw [hb]
    have vs0 : Vis (defScope st) "self" := vis_par S (by simp)
    have vs1 : Vis (defScope st) n := vis_par S (by simp)
    exact ⟨_, pss_one (ps_ost (pe_var (i := 0) rfl vs0) (pe_var (i := 1) rfl vs1 h1 h2)), _, rfl, _, rfl, a, C, rfl, T, no, .inl ⟨ha, fun dx h n => q dx h n⟩⟩
theorem ok_two {n1 n2 qual : Str} {st : Stmt} {C f : Addr} {fd : FuncData} (F : Fun K "__init__" qual st f fd) (T : OexC K C) (no1 : PySem.W.findIn K (.ref C) n1 = some none) (no2 : PySem.W.findIn K (.ref C) n2 = some none) (S : FnScope ["self", n1, n2] ["self", n1, n2] (defScope st))
    (hb : ∃ p1 p2 p3 p4 q1 q2 q3 q4, defBody st = [.Assign [.Attribute (.Name "self" p1) n1 p2] (.Name n1 p3) p4, .Assign [.Attribute (.Name "self" q1) n2 q2] (.Name n2 q3) q4]) (h1 : (n1 == ("__debug__" : Str)) = false) (h2 : (n1 == ("__classdict__" : Str)) = false)
    (h3 : (n2 == ("__debug__" : Str)) = false) (h4 : (n2 == ("__classdict__" : Str)) = false) : FnOk P w K mg base CX0 1 f fd ["self", n1, n2] (spTwoE C n1 n2) := by
  obtain ⟨p1, p2, p3, p4, q1, q2, q3, q4, hb⟩ := hb
  refine F.ok S (fun vs H Q E h => ?_) (fun cdv A outer s H vs Q E hr h => ?_)
  · obtain ⟨a, v1, v2, rfl, _⟩ := h
    rfl
  · obtain ⟨a, v1, v2, rfl, ha, q⟩ := h
    rw [hb]
    have vs0 : Vis (defScope st) "self" := vis_par S (by simp)
    have vs1 : Vis (defScope st) n1 := vis_par S (by simp)
    have vs2 : Vis (defScope st) n2 := vis_par S (by simp)
    refine ⟨_, pss_cons (ps_ost (pe_var (i := 0) rfl vs0) (pe_var (i := 1) rfl vs1 h1 h2)) (pss_one (ps_ost (pe_var (i := 0) rfl vs0) (pe_var (i := 2) rfl vs2 h3 h4))), ?_⟩
    refine ⟨_, rfl, _, rfl, a, C, rfl, T, no1, .inl ⟨ha, fun dx hd ne => ?_⟩⟩
    refine ⟨_, rfl, _, rfl, a, C, rfl, T, no2, .inr ⟨dx, [(n1, v1)], upd_same, ?_, by show 1 ≤ 900; decide, q dx hd ne⟩⟩
    rw [upd_ne ne, upd_same]
end
/-- behind C(v1, v2) -/
theorem mkTwo {C : Addr} {n1 n2 : Str} {v1 v2 : V} {H1 : Hp} {Q : XK} (h : ∀ d H', Same H1 H' → H1 d = none → H' d = some (.xd [(n2, v2), (n1, v1)]) → Q (.ref C) (some d) H') :
    ∀ a, H1 a = none → spTwoE C n1 n2 [.ref a, v1, v2] (upd H1 a (exo a C none))
      (fun v H2 => v = .non ∧ ∃ (d : Addr) (fs : List (Str × V)), H2 a = some (exo a C (some d)) ∧ H2 d = some (exd d fs) ∧ H1 d = none ∧ Q (.ref C) (some d) (upd (del H2 a) d (.xd fs))) (fun _ _ _ => False) := by
  refine fun a ha => ⟨a, v1, v2, rfl, upd_same, fun dx hdx ne => ?_⟩
  have hd : H1 dx = none := by
    rw [upd_ne ne] at hdx
    exact hdx
  refine ⟨rfl, dx, [(n2, v2), (n1, v1)], ?_, upd_same, hd, h dx _ (fun b o hb => ?_) hd upd_same⟩
  · rw [upd_ne ne.symm, upd_same]
  · have hba : b ≠ a := ne_of_none hb ha
    have hbd : b ≠ dx := ne_of_none hb hd
    rw [upd_ne hbd, del_ne hba, upd_ne hbd, upd_ne hba, upd_ne hbd, upd_ne hba]
    exact hb
/-- a kept error with its fields -/
def ErAt (H : Hp) (a C : Addr) (fs : List (Str × V)) : Prop := ∃ d, H a = some (Xo (.ref C) (some d) a) ∧ H d = some (.xd fs)
theorem ErAt.same {H H' : Hp} {a C : Addr} {fs : List (Str × V)} (h : ErAt H a C fs) (s : Same H H') : ErAt H' a C fs := h.elim fun d e => ⟨d, s _ _ e.1, s _ _ e.2⟩
/-- what is wished behind an error that is made and kept -/
theorem keepOne {C : Addr} {fs : List (Str × V)} {H1 : Hp} {Q : VK} (h : ∀ a H', Same H1 H' → ErAt H' a C fs → Q (.ref a) H') :
    ∀ d H', Same H1 H' → H1 d = none → H' d = some (.xd fs) → ∀ a, H' a = none → Q (.ref a) (upd H' a (Xo (.ref C) (some d) a)) := by
  intro d H' s _ e a na
  exact h a _ (overS s na) ⟨d, upd_same, (upd_ne (ne_of_none e na)).trans e⟩
section
variable {X : Cx}
/-- e.n of a kept error of any class -/
theorem pe_xoA {e : Expr} {te : TE} {pos : Pos} {n : Str} (he : PE X e te) (hb : attributeBase e n X.env (eval e X.env) = eval e X.env := by rfl) :
    PE X (.Attribute e n pos) (fun σ H Q => te σ H fun x H1 => ∃ (a C : Addr) (fs : List (Str × V)) (v : V), x = .ref a ∧ ErAt H1 a C fs ∧ Err X.K C ∧ PySem.W.findIn X.K (.ref C) n = some none ∧ fs.lookup n = some v ∧ Q v H1) := by
  constructor
  intro pins s σ H Q I h
  refine attr_of hb (thn (he.run pins s σ H _ I h) fun u s1 hh => ?_)
  obtain ⟨x, H1, I1, rx, a, C, fs, v, rfl, ⟨dd, ha, ea⟩, T, hno, l, q⟩ := hh
  cases rx
  obtain ⟨oe, vs, hg, hz, hd⟩ := xo_at I1.hok ha
  obtain ⟨mA, hns, hr⟩ := (show ObjOk X.prog X.w H1 s1.heap dd (.xd fs) from I1.hok dd _ ea)
  obtain ⟨od, ho, hl⟩ := lookIn_ns hns
  have hrn := hr n
  rw [l] at hrn
  obtain ⟨u, hu, ru⟩ := RelO.some_of hrn
  have nc : PySem.W.notCls oe = true := by
    unfold PySem.W.notCls
    rw [hd]
  have J : PySem.W.InstAt s1.heap a oe C (some od) := by
    refine ⟨hg, hz.1, nc, ?_⟩
    rw [hz.2]
    exact ho
  have fo := PySem.W.findObj_own (K := X.K) (C := C) (od := od) (name := n) (v := u) T.hdC hno rfl (by rw [hl, hu])
  exact HandSPX.exc_get I1.kIn J T.ga T.gg T.exC fo (handed_of ru) ⟨v, H1, I1.tok _, ru, q⟩
/-- isinstance of a kept error that has no dict -/
theorem call_isX0 : CallR X (.builtin "isinstance") (fun xs H Q => ∃ (a D : Addr) (c : V) (u : Value) (b : Bool), xs = [.ref a, c] ∧ H a = some (Xo (.ref D) none a) ∧ Err X.K D ∧ ClsV c u ∧ PySem.W.kitOne X.K (.ref D) u = some b ∧ Q (.bl b) H) := by
  intro pins s σ H xs us Q I r h
  obtain ⟨a, D, c, u, b, rfl, ha, T, cv, e, q⟩ := h
  obtain ⟨u1, u2, rfl, r1, r2⟩ := vals2 r
  cases r1
  have e2 := cv.eq r2
  subst e2
  obtain ⟨oe, vs, hg, hz, hdat⟩ := xo_at I.hok ha
  have nc : PySem.W.notCls oe = true := by
    unfold PySem.W.notCls
    rw [hdat]
  have J : PySem.W.InstAt s.heap a oe D none := by
    refine ⟨hg, hz.1, nc, ?_⟩
    rw [hz.2]
    trivial
  exact PySem.W.kia_one (kitx_err T) I.kIn ⟨oe, none, J⟩ e (fun z => nomatch z) fun tk => ⟨.bl b, H, I.tok tk, rfl, q⟩
/-- C(), C an own error class without own __init__ -/
theorem pmk_own0 {C : Addr} {bmB : List Value} {B newId initId : String} {x : Str} {p pos : Pos} (F : ExcBaseFacts B newId initId bmB) (q : PySem.W.excIn X.K C bmB newId = true) (gC : X.mg x = some (.ref C))
    (kC : PySem.W.keepIn X.K (.ref C) = true) (r : Raises X (.ref C)) (hg : Gl X x) (hdb : (x == ("__debug__" : Str)) = false := by decide) :
    PMk X (.Call (.Name x p) [] [] pos) (fun _ H Q => Q (.ref C) none H) := by
  intro pins s σ H Q I h
  refine wpAny_Call_Name_kw (ld_glob I hg gC ?_ hdb)
  refine PySem.W.callWith_K0 I.kIn kC ?_
  show wpAny _ _ (call (.ref C) []) _ _ _
  obtain ⟨bm, N, nm, qn, bs, hdct, sn, sub, ab, col, dd, k0, k1, k2, k3, k5, mN, hC, hN, hni, T⟩ := exc_obj I.kIn q
  refine wpAny_call_exc_subT F T hC hN hni (fun h' e hm => ?_) (by decide)
  exact mk_of I hm r h (I.hok.gone hm.new)
end
end So

/-! own errors made and kept: what is asked in one step -/
namespace So
open PySem PySem.Spec PyProof.Rows L2
section
variable {X : Cx}
theorem pe_weak {e : Expr} {t t' : TE} (h : PE X e t) (k : ∀ σ H Q, t' σ H Q → t σ H Q) : PE X e t' := ⟨fun pins s σ H Q I w => h.run pins s σ H Q I (k σ H Q w)⟩
theorem ps_weak {st : Stmt} {t t' : TS} (h : PS X st t) (k : ∀ D σ H, t' D σ H → t D σ H) : PS X st t' := ⟨fun pins s σ H D I w => h.run pins s σ H D I (k D σ H w)⟩
/-- what the top says of an error with two fields -/
structure TwoE (K : PySem.W.Frag) (mg : Str → Option Value) (x n1 n2 : Str) (C f : Addr) (fd : FuncData) : Prop where
  T : OexC K C
  iC : PySem.W.findIn K (.ref C) "__init__" = some (some (.ref f))
  tI : PySem.W.typeIn K (.ref f) = some (.type "function")
  mgC : mg x = some (.ref C)
  no1 : PySem.W.findIn K (.ref C) n1 = some none
  no2 : PySem.W.findIn K (.ref C) n2 = some none
  err : Err K C
  hb : Binds K fd ["self", n1, n2] []
def k2 {α : Type} : List α → List α → List α
  | [u], [z] => [u, z]
  | _, _ => []
def k3 {α : Type} : List α → List α → List α
  | [u], [y, z] => [u, z, y]
  | _, _ => []
theorem k2_rel {vs : List V} {us : List Value} {zs : List V} {ws : List Value} (a : Vals vs us) (b : Vals zs ws) : Vals (k2 vs zs) (k2 us ws) := by
  cases a with
  | nil => exact .nil
  | cons a1 a2 =>
    cases a2 with
    | cons _ _ => exact .nil
    | nil =>
      cases b with
      | nil => exact .nil
      | cons b1 b2 =>
        cases b2 with
        | nil => exact .cons a1 (.cons b1 .nil)
        | cons _ _ => exact .nil
theorem k3_rel {vs : List V} {us : List Value} {zs : List V} {ws : List Value} (a : Vals vs us) (b : Vals zs ws) : Vals (k3 vs zs) (k3 us ws) := by
  cases a with
  | nil => exact .nil
  | cons a1 a2 =>
    cases a2 with
    | cons _ _ => exact .nil
    | nil =>
      cases b with
      | nil => exact .nil
      | cons b1 b2 =>
        cases b2 with
        | nil => exact .nil
        | cons b3 b4 =>
          cases b4 with
          | nil => exact .cons a1 (.cons b3 (.cons b1 .nil))
          | cons _ _ => exact .nil
theorem kbn2 {K : PySem.W.Frag} {fd : FuncData} {n : Str} (h : ∀ (s : Shared) (u z : Value), BindsTo s fd ⟨[u], [(n, z)]⟩ [("self", u), (n, z)]) : KBn K fd ["self", n] 1 [n] k2 k2 :=
  ⟨fun s us ws _ h1 h2 => match us, ws, h1, h2 with | [u], [z], _, _ => h s u z, k2_rel⟩
theorem kbn3 {K : PySem.W.Frag} {fd : FuncData} {n1 n2 : Str} (h : ∀ (s : Shared) (u y z : Value), BindsTo s fd ⟨[u], [(n2, y), (n1, z)]⟩ [("self", u), (n1, z), (n2, y)]) : KBn K fd ["self", n1, n2] 1 [n2, n1] k3 k3 :=
  ⟨fun s us ws _ h1 h2 => match us, ws, h1, h2 with | [u], [y, z], _, _ => h s u y z, k3_rel⟩
variable {x n n1 n2 : Str} {C f : Addr} {fd : FuncData} {e e2 : Expr} {p pos kp kp2 : Pos} {i j : Nat}
theorem pe_new1 (hex : X.ex = []) (O : OneE X.K X.mg x n C f fd) (F : FnOk X.prog X.w X.K X.mg X.base CX0 1 f fd ["self", n] (spOneE C n)) (hr : Room 2 X.A) (hg : Gl X x) (ha : PA X [e] (tCons (tVar i) tNil))
    (hdb : (x == ("__debug__" : Str)) = false := by decide) (hst : starEach [e] X.env = (false, eval e X.env) :: starEach [] X.env := by rfl) (hpl : (backTo pos (starEach [] X.env)).any (·.1) = false := by rfl) :
    PE X (.Call (.Name x p) [e] [] pos) (fun σ H Q => ∃ v, σ[i]? = some (some v) ∧ ∀ a H', Same H H' → ErAt H' a C [(n, v)] → Q (.ref a) H') :=
  pe_weak (pe_ofMk hex (pmk_one O F hr hg ha hdb hst hpl)) fun _ _ Q0 ⟨v, q, h⟩ => ⟨v, q, mkOne (C := C) (n := n) (v := v) (vs := [v]) (Q := fun cls d H' => ∀ a, H' a = none → Q0 (.ref a) (upd H' a (Xo cls d a))) rfl (keepOne h)⟩
theorem pe_new1K (hex : X.ex = []) (O : OneE X.K X.mg x n C f fd) (F : FnOk X.prog X.w X.K X.mg X.base CX0 1 f fd ["self", n] (spOneE C n)) (kb : KBn X.K fd ["self", n] 1 [n] k2 k2) (hr : Room 2 X.A) (hg : Gl X x) (he : PE X e (tVar i))
    (hall : (backToKw pos (keywordEach [⟨some n, e, kp⟩] X.env)).all (·.1.isSome) = true := by rfl) (hks : (backToKw pos (keywordEach [⟨some n, e, kp⟩] X.env)).filterMap (·.1) = [n] := by rfl) (hdb : (x == ("__debug__" : Str)) = false := by decide)
    (hpl : ((backTo pos (starEach [] X.env)).any (·.1) || (backToKw pos (keywordEach [⟨some n, e, kp⟩] X.env)).any (·.1.isNone)) = false := by rfl) :
    PE X (.Call (.Name x p) [] [⟨some n, e, kp⟩] pos) (fun σ H Q => ∃ v, σ[i]? = some (some v) ∧ ∀ a H', Same H H' → ErAt H' a C [(n, v)] → Q (.ref a) H') :=
  pe_weak (pe_ofMk hex (pmk_oexK O.T O.iC O.tI F hr kb (fun _ _ _ _ _ _ _ h => h.elim) hg O.mgC (pk_cons he pk_nil) hall hks hdb hpl)) fun _ _ Q0 ⟨v, q, h⟩ => ⟨v, q, rfl, (mkOne (C := C) (n := n) (v := v) (vs := [v]) (Q := fun cls d H' => ∀ a, H' a = none → Q0 (.ref a) (upd H' a (Xo cls d a))) rfl (keepOne h)).2⟩
theorem pe_new2 (hex : X.ex = []) (O : TwoE X.K X.mg x n1 n2 C f fd) (F : FnOk X.prog X.w X.K X.mg X.base CX0 1 f fd ["self", n1, n2] (spTwoE C n1 n2)) (hr : Room 2 X.A) (hg : Gl X x) (ha : PA X [e, e2] (tCons (tVar i) (tCons (tVar j) tNil)))
    (hdb : (x == ("__debug__" : Str)) = false := by decide) (hst : starEach [e, e2] X.env = (false, eval e X.env) :: starEach [e2] X.env := by rfl) (hpl : (backTo pos (starEach [e2] X.env)).any (·.1) = false := by rfl) :
    PE X (.Call (.Name x p) [e, e2] [] pos) (fun σ H Q => ∃ v, σ[i]? = some (some v) ∧ ∃ u, σ[j]? = some (some u) ∧ ∀ a H', Same H H' → ErAt H' a C [(n2, u), (n1, v)] → Q (.ref a) H') :=
  pe_weak (pe_ofMk hex (pmk_oex O.T O.iC O.tI F hr O.hb .nil (fun _ _ _ _ _ _ _ h => h.elim) hg O.mgC ha hdb hst hpl)) fun _ _ Q0 ⟨v, q, u, q2, h⟩ => ⟨v, q, u, q2, by show 2 ≤ 1000; decide, mkTwo (C := C) (n1 := n1) (n2 := n2) (v1 := v) (v2 := u) (Q := fun cls d H' => ∀ a, H' a = none → Q0 (.ref a) (upd H' a (Xo cls d a))) (keepOne h)⟩
theorem pe_new2K (hex : X.ex = []) (O : TwoE X.K X.mg x n1 n2 C f fd) (F : FnOk X.prog X.w X.K X.mg X.base CX0 1 f fd ["self", n1, n2] (spTwoE C n1 n2)) (kb : KBn X.K fd ["self", n1, n2] 1 [n2, n1] k3 k3) (hr : Room 2 X.A) (hg : Gl X x) (he : PE X e (tVar i)) (he2 : PE X e2 (tVar j))
    (hall : (backToKw pos (keywordEach [⟨some n2, e2, kp2⟩, ⟨some n1, e, kp⟩] X.env)).all (·.1.isSome) = true := by rfl) (hks : (backToKw pos (keywordEach [⟨some n2, e2, kp2⟩, ⟨some n1, e, kp⟩] X.env)).filterMap (·.1) = [n2, n1] := by rfl) (hdb : (x == ("__debug__" : Str)) = false := by decide)
    (hpl : ((backTo pos (starEach [] X.env)).any (·.1) || (backToKw pos (keywordEach [⟨some n2, e2, kp2⟩, ⟨some n1, e, kp⟩] X.env)).any (·.1.isNone)) = false := by rfl) :
    PE X (.Call (.Name x p) [] [⟨some n2, e2, kp2⟩, ⟨some n1, e, kp⟩] pos) (fun σ H Q => ∃ u, σ[j]? = some (some u) ∧ ∃ v, σ[i]? = some (some v) ∧ ∀ a H', Same H H' → ErAt H' a C [(n2, u), (n1, v)] → Q (.ref a) H') :=
  pe_weak (pe_ofMk hex (pmk_oexK O.T O.iC O.tI F hr kb (fun _ _ _ _ _ _ _ h => h.elim) hg O.mgC (pk_cons he2 (pk_cons he pk_nil)) hall hks hdb hpl)) fun _ _ Q0 ⟨u, q, v, q2, h⟩ => ⟨u, q, v, q2, rfl, mkTwo (C := C) (n1 := n1) (n2 := n2) (v1 := v) (v2 := u) (Q := fun cls d H' => ∀ a, H' a = none → Q0 (.ref a) (upd H' a (Xo cls d a))) (keepOne h)⟩
theorem pe_new0 (hex : X.ex = []) {bmB : List Value} {B newId initId : String} (F : ExcBaseFacts B newId initId bmB) (q : PySem.W.excIn X.K C bmB newId = true) (gC : X.mg x = some (.ref C)) (kC : PySem.W.keepIn X.K (.ref C) = true) (r : Raises X (.ref C)) (hg : Gl X x)
    (hdb : (x == ("__debug__" : Str)) = false := by decide) :
    PE X (.Call (.Name x p) [] [] pos) (fun _ H Q => ∀ a H', Same H H' → H' a = some (Xo (.ref C) none a) → Q (.ref a) H') :=
  pe_weak (pe_ofMk hex (pmk_own0 F q gC kC r hg hdb)) fun _ H _ h => fun a ha => h a _ (overS (Same.refl H) ha) upd_same
end
end So

/-! own `in` and `not in`; min(xs, default=d); a walk over what is a list or a tuple -/
namespace So
open PySem PySem.Spec PyProof.Rows L2
section
variable {X : Cx} {CX : CXT} {k : Nat} {C f : Addr} {fd : FuncData} {ps : List Str} {sp : Sp} {E : XK}
/-- what x in o asks, o of an own class with __contains__; g: the answer as it is, or turned about -/
def rInO (C : Addr) (sp : Sp) (E : XK) (g : Bool → Bool) : R2 := fun x y H Q => ∃ a dx fs, y = .ref a ∧ H a = some (.ins C dx fs) ∧ sp [.ref a, x] H (fun v H' => ∃ b, v = .bl b ∧ Q (.bl (g b)) H') E
theorem op_inO (F : FnOk X.prog X.w X.K X.mg X.base CX k f fd ps sp) (hs : PySem.W.findIn X.K (.ref C) "__contains__" = some (some (.ref f))) (hf : PySem.W.isFn X.K (.ref f) = true) (hb : Binds X.K fd ps []) (hx : Passes CX X E) (hr : Room k X.A) :
    OpR X (compareOp .In) (rInO C sp E id) := by
  intro pins s σ H x y v u Q I rx ry h
  obtain ⟨a, dx, fs, rfl, ha, q⟩ := h
  cases ry
  obtain ⟨mA, J, _⟩ := ins_get I.hok ha
  obtain ⟨od, J, _⟩ := J.look
  obtain ⟨m, hF⟩ := I.fr
  refine PySem.W.in_K hF I.ok.mod.kin J hs hf (wpAny_mono (run_eq (dx := dx) (fs := fs) F hb hx hr rfl I rx q) (fun w s' z => ?_) fun _ _ z => z)
  obtain ⟨b, H', rfl, I', q'⟩ := z
  exact wpAny_truthy_bool ⟨.bl b, H', I', rfl, q'⟩
theorem op_notInO (F : FnOk X.prog X.w X.K X.mg X.base CX k f fd ps sp) (hs : PySem.W.findIn X.K (.ref C) "__contains__" = some (some (.ref f))) (hf : PySem.W.isFn X.K (.ref f) = true) (hb : Binds X.K fd ps []) (hx : Passes CX X E) (hr : Room k X.A) :
    OpR X (compareOp .NotIn) (rInO C sp E not) := by
  intro pins s σ H x y v u Q I rx ry h
  obtain ⟨a, dx, fs, rfl, ha, q⟩ := h
  cases ry
  obtain ⟨mA, J, _⟩ := ins_get I.hok ha
  obtain ⟨od, J, _⟩ := J.look
  obtain ⟨m, hF⟩ := I.fr
  refine PySem.W.notIn_K hF I.ok.mod.kin J hs hf (wpAny_mono (run_eq (dx := dx) (fs := fs) F hb hx hr rfl I rx q) (fun w s' z => ?_) fun _ _ z => z)
  obtain ⟨b, H', rfl, I', q'⟩ := z
  exact wpAny_truthy_bool ⟨.bl (!b), H', I', rfl, q'⟩
/-- a walk by one of two roads -/
theorem pi_or {tg e : Expr} {w1 w2 : TI} (h1 : PI X tg e w1) (h2 : PI X tg e w2) : PI X tg e (fun σ H R => w1 σ H R ∨ w2 σ H R) := by
  refine ⟨fun pins s σ H R I h => ?_⟩
  rcases h with h | h
  · exact h1.run pins s σ H R I h
  · exact h2.run pins s σ H R I h
end
end So
namespace So
open PySem PySem.Spec PyProof.Rows L2
theorem foldl_min : ∀ (ns : List Int) (n : Int), (ns.foldl min n ∈ n :: ns) ∧ (∀ z ∈ n :: ns, ns.foldl min n ≤ z)
  | [], n => ⟨List.mem_cons_self, fun z hz => by rw [List.mem_singleton.mp hz]; exact Int.le_refl _⟩
  | k :: r, n => by
    obtain ⟨h1, h2⟩ := foldl_min r (min n k)
    have e : min n k ≤ n ∧ min n k ≤ k ∧ (min n k = n ∨ min n k = k) := by omega
    refine ⟨?_, fun z hz => ?_⟩
    · rw [List.foldl_cons]
      rcases List.mem_cons.mp h1 with h | h
      · rw [h]
        rcases e.2.2 with q | q <;> rw [q] <;> simp
      · exact List.mem_cons_of_mem _ (List.mem_cons_of_mem _ h)
    · rw [List.foldl_cons]
      have h0 := h2 (min n k) List.mem_cons_self
      rcases List.mem_cons.mp hz with h | h
      · rw [h]
        omega
      · rcases List.mem_cons.mp h with h | h
        · rw [h]
          omega
        · exact h2 z (List.mem_cons_of_mem _ h)
theorem alike_ints (ns : List Int) : PySem.W.AlikeAll (ns.map PyData.int) := by
  refine ⟨fun x hx y hy => ?_, fun x hx => ?_⟩
  · obtain ⟨i, _, rfl⟩ := List.mem_map.mp hx
    obtain ⟨j, _, rfl⟩ := List.mem_map.mp hy
    rfl
  · obtain ⟨i, _, rfl⟩ := List.mem_map.mp hx
    intro h
    cases h
theorem depth_ints0 : ∀ ns : List Int, PyData.depthAll (ns.map PyData.int) = 0
  | [] => rfl
  | n :: r => by simp [PyData.depthAll, PyData.depth, depth_ints0 r]
section
variable {X : Cx}
theorem dpi {K : PySem.W.Frag} {H : Hp} : ∀ ns : List Int, DpAll K H (ns.map V.int) (ns.map PyData.int)
  | [] => .nil
  | n :: r => .cons (.int n) (dpi r)
/-- min(xs, default=d): ints -/
theorem pe_minDef {e d : Expr} {p pos kp : Pos} {ta td : TA} (hc : X.calm = true) (hu : X.A.units + 64 < cLine) (hg : Gl X "min") (hm : X.mg "min" = none) (ha : PA X [e] ta) (hk : PK X [⟨some "default", d, kp⟩] td)
    (he : backTo pos (starEach [e] X.env) = (false, eval e X.env) :: backTo pos (starEach [] X.env) := by rfl) (hpl : (backTo pos (starEach [e] X.env)).any (·.1) = false := by rfl)
    (hall : (backToKw pos (keywordEach [⟨some "default", d, kp⟩] X.env)).all (·.1.isSome) = true := by rfl) (hkw : (backToKw pos (keywordEach [⟨some "default", d, kp⟩] X.env)).any (·.1.isNone) = false := by rfl)
    (hks : (backToKw pos (keywordEach [⟨some "default", d, kp⟩] X.env)).filterMap (·.1) = [("default" : Str)] := by rfl) :
    PE X (.Call (.Name "min" p) [e] [⟨some "default", d, kp⟩] pos) (fun σ H Q => ta σ H fun xs H1 => td σ H1 fun ys H2 => ∃ l ns y, xs = [.ref l] ∧ ys = [y] ∧ SqL X.K H2 l (ns.map V.int) ∧ (ns = [] → Q y H2) ∧ (∀ m, m ∈ ns → (∀ z ∈ ns, m ≤ z) → Q (.int m) H2)) := by
  refine ⟨fun pins s σ H Q I h => ?_⟩
  refine wpAny_Call_Name_kw (ld_blt I hg hm (show bootBuiltins "min" = some (.builtin "min") by decide +kernel) (PyProof.Rows.callWith_kw (thn (ha.run pos pins s σ H _ I h) fun us s1 ⟨xs, H1, I1, r1, q1⟩ => ?_) he hpl hall hkw))
  refine thn (hk.run pos pins s1 σ H1 _ I1 q1) fun ws s2 ⟨ys, H2, I2, r2, l, ns, y, ex, ey, hs, q0, q1⟩ => ?_
  subst ex ey
  rw [Vals.ref1 r1, hks]
  obtain ⟨u, rfl, ru⟩ := vals1 r2
  obtain ⟨its, rv, hl, _⟩ := I2.list hs
  have hd : DpAll X.K H2 (ns.map V.int) (ns.map PyData.int) := dpi ns
  obtain ⟨as, rd⟩ := Dp.readsAll I2 (ns.map PyData.int) (ns.map V.int) its hd rv
  refine PySem.W.min_list_default (I2.ok.hd hc) hl.isList (by simpa using rd) (alike_ints ns) (by rw [depth_ints0]; omega) (fun e0 h' tk k => ?_) (fun z zs i v h' tk bs e0 hv rz k => ?_)
  · exact ⟨y, H2, I2.kept k, ru, q0 (List.map_eq_nil_iff.mp e0)⟩
  · obtain ⟨n, r, rfl⟩ : ∃ n r, ns = n :: r := by
      cases ns with
      | nil => cases e0
      | cons n r => exact ⟨n, r, rfl⟩
    rw [List.map_cons] at e0
    injection e0 with e1 e2
    subst e1 e2
    rw [PySem.W.minD_ints] at rz
    cases rz with
    | int _ t =>
      obtain ⟨m1, m2⟩ := foldl_min r n
      exact ⟨.int _, H2, I2.kept k, ⟨t, rfl⟩, q1 _ m1 m2⟩
end
end So

namespace K49
open PySem PySem.Spec PyProof.Rows L2 So
abbrev sWith : Stmt := topS 37
abbrev sLInit : Stmt := inClass (topS 38) 0
theorem scWith : FnScope ["tool", "moments", "moment", "later"] ["tool", "moments"] (defScope sWith) := ⟨rfl, rfl, rfl, by decide +kernel, rfl, by decide +kernel, by decide +kernel⟩
theorem scLInit : FnScope ["self", "begun", "tool"] ["self", "begun"] (defScope sLInit) := ⟨rfl, rfl, rfl, by decide +kernel, rfl, by decide +kernel, by decide +kernel⟩
theorem passNo {X : Cx} {P : Program} {w : World} : Passes (L2.CX P w) X (fun _ _ _ => False) := fun _ _ _ _ _ _ _ h => by
  obtain ⟨_, _, _, _, _, _, _, _, _, _, _, _, hE⟩ := h
  exact hE.elim
theorem same_upd0 {H : Hp} {p : Addr} {o : HO} (h : H p = none) : Same H (upd H p o) := Same.over (Same.refl H) h
/-- what more the module's names say, to lives -/
structure WordsL (mg : Str → Option Value) : Prop where
  sorted : mg "sorted" = none
  set : mg "set" = none
  max : mg "max" = none
  min : mg "min" = none
  tuple : mg "tuple" = none
section
variable {P : Program} {w : World} {K : PySem.W.Frag} {mg : Str → Option Value} {base : Heap}
/-- with_first, of a name and of beginnings -/
def spWith (K : PySem.W.Frag) : Sp := fun vs H Q _ => ∃ (z : Str) (l : Addr) (ns : List Int), vs = [.str z, .ref l] ∧ isName z = true ∧ z.length ≤ 2000 ∧ (SqL K H l (ns.map V.int) ∨ SqT K H l (ns.map V.int)) ∧ ns.length < 64 ∧ (∀ n ∈ ns, gBeg (.int n) = true) ∧
  ∀ (t : Addr) (later : List Int) (H' : Hp), Same H H' → later.Pairwise (· < ·) → (∀ k, k ∈ later ↔ k ∈ ns) → H' t = some (.tup ((0 :: later).map V.int)) → Q (.ref t) H'
theorem sq_same {l : Addr} {xs : List V} {H H' : Hp} (h : SqL K H l xs ∨ SqT K H l xs) (s : Same H H') : SqL K H' l xs ∨ SqT K H' l xs := by
  rcases h with h | h
  · exact .inl (h.ext s)
  · exact .inr (h.ext s)
theorem ok_with {CN CM CS f fC : Addr} {fd fdC : FuncData} (F : Fun K "with_first" "with_first" sWith f fd) (L : WordsL mg) (FC : Fun K "check_form" "check_form" sCheck fC fdC) (bC : Binds K fdC ["value", "form"] []) (gC : mg "check_form" = some (.ref fC))
    (GC : FnOk P w K mg base (L2.CX P w) 3 fC fdC ["value", "form"] (spCheck CN CM CS)) : FnOk P w K mg base CX0 4 f fd ["tool", "moments"] (spWith K) := by
  refine F.ok scWith (fun vs H Q E h => ?_) (fun cdv A outer s H vs Q E hr h => ?_)
  · obtain ⟨z, l, ns, rfl, _⟩ := h
    rfl
  · obtain ⟨z, l, ns, rfl, hz, hzl, hl, h64, hb, q⟩ := h
    refine ⟨_, pss_cons (ps_expr (pe_call GC hr (by rfl) gC FC.kp bC .nil passNo (pa_cons (pv 0) (pa_cons pe_str pa_nil))))
      (pss_cons (ps_for PassesOwn.never rfl (pi_or (pi_list (pv 1)) (pi_tup (pv 1))) (pg_name (i := 2) scWith.nd rfl (Or.inl rfl)) (pss_one (ps_expr (pe_call GC hr (by rfl) gC FC.kp bC .nil passNo (pa_cons (pv 2) (pa_cons pe_str pa_nil))))))
      (pss_cons (ps_set (i := 3) scWith.nd rfl (.inl rfl) (pe_callB (cr_sortedSet rfl) (by rfl) L.sorted (by decide +kernel) (pa_cons (pe_callTy (cr_setI rfl) (by rfl) L.set (by decide +kernel) (pa_cons (pv 1) pa_nil)) pa_nil)))
      (pss_one (ps_ret (pe_tup (pa_cons pe_int (StX.pa_star (pv 3) pa_nil))))))), ?_⟩
    refine ⟨_, rfl, _, "str", _, _, _, _, rfl, .str z hzl, .inl ⟨rfl, rfl, rfl, rfl⟩, fun _ H1 s1 => ?_, fun g _ _ _ _ => by rw [show gNam (.str z) = true from hz] at g; cases g⟩
    obtain ⟨J, wJ, go⟩ : ∃ J, Walk J (ns.map V.int).length (fun H' => Same H H') (YAt (ns.map V.int)) ∧ ∀ R : It → Hp → Prop, R J H1 → (iList K (tVar 1) [some (.str z), some (.ref l), none, none] H1 R ∨ iTup K (tVar 1) [some (.str z), some (.ref l), none, none] H1 R) := by
      rcases hl with hl | hl
      · exact ⟨_, walk_list.mono (fun _ s => hl.ext s) (fun _ _ _ _ _ _ y => y), fun R r => .inl ⟨_, rfl, l, rfl, ⟨_, hl.ext s1⟩, r⟩⟩
      · exact ⟨_, walk_tup.mono (fun _ s => hl.ext s) (fun _ _ _ _ _ _ y => y), fun R r => .inr ⟨_, rfl, l, rfl, ⟨_, hl.ext s1⟩, r⟩⟩
    refine go _ (for_it wJ (fun i σ H' => (∃ v2, σ = [some (.str z), some (.ref l), v2, none]) ∧ Same H H') ⟨⟨_, rfl⟩, s1⟩ (fun _ _ _ _ y => y.2) ?_ ?_)
    · rintro i x σ H2 H3 hi ⟨⟨v2, rfl⟩, s2⟩ ⟨rfl, hx⟩
      obtain ⟨n, hn, rfl⟩ : ∃ n, n ∈ ns ∧ x = .int n := by
        have := List.mem_of_getElem? hx
        obtain ⟨n, h1, h2⟩ := List.mem_map.mp this
        exact ⟨n, h1, h2.symm⟩
      refine ⟨_, rfl, _, "int", _, _, _, _, rfl, .int n, .inr (.inr (.inl ⟨rfl, rfl, rfl, rfl⟩)), fun _ H4 s4 => ⟨⟨_, rfl⟩, s2.trans s4⟩, fun g _ _ _ _ => by rw [hb n hn] at g; cases g⟩
    · rintro σ H2 ⟨⟨v2, rfl⟩, s2⟩
      refine ⟨_, rfl, l, ns, rfl, sq_same hl s2, h64, fun p c hp hc => ⟨p, _, c, rfl, upd_same, Nat.lt_of_le_of_lt hc h64, fun later p2 hw hm hlen hp2 => ?_⟩⟩
      refine ⟨_, rfl, p2, later.map V.int, rfl, .inr (SqL.of upd_same), ?_⟩
      refine ⟨?_, fun t ht => q t later _ (((s2.trans (same_upd0 hp)).trans (same_upd0 hp2)).trans (same_upd0 ht)) hw (fun k => (hm k).trans ⟨of_decide_eq_true, decide_eq_true⟩) ?_⟩
      · rw [List.append_nil, List.length_cons, List.length_map, hlen]
        have : c < 64 := Nat.lt_of_le_of_lt hc h64
        have := sizeLine_eq
        omega
      · rw [upd_same, List.append_nil]
        rfl

/-! ### the lives -/
/-- at a stand the lives in which a tool has the beginnings F -/
def LvAt (C : Addr) (H : Hp) (a : Addr) (F : Str → Option (List Int)) : Prop := ∃ (dx d : Addr) (kvs : List (Key × V)), H a = some (.ins C dx [("_begun", .ref d)]) ∧ H d = some (.dK kvs) ∧
  (∀ z, F z = none → valV kvs (.inr z) = none) ∧ ∀ z ns, F z = some ns → ∃ t, valV kvs (.inr z) = some (.ref t) ∧ H t = some (.tup (ns.map V.int))
theorem LvAt.same {C : Addr} {H H' : Hp} {a : Addr} {F : Str → Option (List Int)} (h : LvAt C H a F) (s : Same H H') : LvAt C H' a F := by
  obtain ⟨dx, d, kvs, h1, h2, h3, h4⟩ := h
  refine ⟨dx, d, kvs, s _ _ h1, s _ _ h2, h3, fun z ns e => ?_⟩
  obtain ⟨t, e1, e2⟩ := h4 z ns e
  exact ⟨t, e1, s _ _ e2⟩
theorem LvAt.off {C p : Addr} {H H' : Hp} {a : Addr} {F : Str → Option (List Int)} {vs : List V} (h : LvAt C H a F) (s : Off p H H') (hp : H p = some (.lst vs)) : LvAt C H' a F := by
  obtain ⟨dx, d, kvs, h1, h2, h3, h4⟩ := h
  refine ⟨dx, d, kvs, s _ _ (ne_of h1 hp (fun z => nomatch z)) h1, s _ _ (ne_of h2 hp (fun z => nomatch z)) h2, h3, fun z ns e => ?_⟩
  obtain ⟨t, e1, e2⟩ := h4 z ns e
  exact ⟨t, e1, s _ _ (ne_of e2 hp (fun z => nomatch z)) e2⟩
/-- a dict of beginnings: what Lives is made of -/
def BgAt (K : PySem.W.Frag) (H : Hp) (d : Addr) (F : Str → Option (List Int)) : Prop := ∃ (kvs : List (Key × V)) (ks : List Str), H d = some (.dK kvs) ∧ kvs.map (·.1) = ks.map Sum.inr ∧ ks.length < 64 ∧ (∀ z, z ∈ ks ↔ (F z).isSome = true) ∧
  (∀ z ∈ ks, isName z = true ∧ z.length ≤ 2000) ∧ ∀ z ns, F z = some ns → ∃ l, valV kvs (.inr z) = some (.ref l) ∧ (SqL K H l (ns.map V.int) ∨ SqT K H l (ns.map V.int)) ∧ ns.length < 64 ∧ (∀ n ∈ ns, gBeg (.int n) = true) ∧ ns.Pairwise (· < ·)
theorem BgAt.same {d : Addr} {H H' : Hp} {F : Str → Option (List Int)} (h : BgAt K H d F) (s : Same H H') : BgAt K H' d F := by
  obtain ⟨kvs, ks, h1, h2, h3, h4, h5, h6⟩ := h
  refine ⟨kvs, ks, s _ _ h1, h2, h3, h4, h5, fun z ns e => ?_⟩
  obtain ⟨l, e1, e2, e3⟩ := h6 z ns e
  exact ⟨l, e1, sq_same e2 s, e3⟩
/-- what the top says of the class Lives, at C -/
structure Lvs (K : PySem.W.Frag) (mg : Str → Option Value) (C : Addr) : Prop where
  cl : Cls K C
  nB : NoAttr K C "_begun"
  mgC : mg "Lives" = some (.ref C)
  no : ∀ T, T ∈ ["tuple", "str", "NoneType", "int", "bool", "list", "dict"] → PySem.W.kitOne K (.type T) (.ref C) = some false ∧ PySem.W.notFirst K C (.type T) = true
theorem dc_it {J : It} {n : Nat} {G : Hp → Prop} {Y : Nat → Hp → V → Hp → Prop} (w : Walk J n G Y) {g : TG} {tt : TT} {tk tv : TE} {vs : List Nat} {σ : L2.St} {H1 : Hp} {D : Addr} {Qd : Hp → Prop} (Pv : Nat → Hp → Prop) (h0 : Pv 0 (upd H1 D (.dK []))) (hG : ∀ i H, i ≤ n → Pv i H → G H)
    (hs : ∀ i x H H', i < n → Pv i H → Y i H x H' → g x (wipe σ vs) H' fun σ2 H2 => wipe σ2 vs = wipe σ vs ∧ tt σ2 H2 fun b H3 =>
      if b = true then tk σ2 H3 fun y H4 => tv σ2 H4 fun z H5 => ∃ kvs k, y = kV k ∧ H5 D = some (.dK kvs) ∧ kvs.length < sizeLine ∧ Pv (i + 1) (upd H5 D (.dK (putK kvs k z))) else Pv (i + 1) H3) (hd : ∀ H, Pv n H → Qd H) :
    ∃ W : Nat → Nat → Hp → Prop, (∃ m, W 0 m (upd H1 D (.dK []))) ∧ ∀ i m H, W i m H →
      (J.stop i H ∧ Qd H) ∨ (J.go i H ∧ ∃ Nx : Hp → Prop, (∀ H', Nx H' → ∃ m', m' < m ∧ W (i + 1) m' H') ∧ ∀ x H', J.yld i H x H' → g x (wipe σ vs) H' fun σ2 H2 => wipe σ2 vs = wipe σ vs ∧ tt σ2 H2 fun b H3 =>
        if b = true then tk σ2 H3 fun y H4 => tv σ2 H4 fun z H5 => ∃ kvs k, y = kV k ∧ H5 D = some (.dK kvs) ∧ kvs.length < sizeLine ∧ Nx (upd H5 D (.dK (putK kvs k z))) else Nx H3) := by
  refine ⟨fun i m H => m = n - i ∧ i ≤ n ∧ Pv i H, ⟨n, by simp, Nat.zero_le _, h0⟩, ?_⟩
  rintro i m H ⟨rfl, hi, p⟩
  have q := hG i H hi p
  by_cases hlt : i < n
  · exact .inr ⟨w.goes i H hlt q, Pv (i + 1), fun H' p' => ⟨n - (i + 1), by omega, rfl, hlt, p'⟩, fun x H' y => hs i x H H' hlt p (w.yields i H x H' hlt q y)⟩
  · have e : i = n := by omega
    subst e
    exact .inl ⟨w.stops H q, hd H p⟩
/-- Lives.__init__ of such a dict -/
def spLInit (K : PySem.W.Frag) (C : Addr) : Sp := fun vs H Q _ => ∃ (x dx d : Addr) (F : Str → Option (List Int)), vs = [.ref x, .ref d] ∧ H x = some (.ins C dx []) ∧ BgAt K H d F ∧ ∀ H', Off x H H' → LvAt C H' x (fun z => (F z).map (0 :: ·)) → Q .non H'
theorem ok_linit {f C fW : Addr} {fd fdW : FuncData} (F : Fun K "__init__" "Lives.__init__" sLInit f fd) (T : Lvs K mg C) (L : WordsL mg) (FW : Fun K "with_first" "with_first" sWith fW fdW) (bW : Binds K fdW ["tool", "moments"] []) (gW : mg "with_first" = some (.ref fW))
    (GW : FnOk P w K mg base CX0 4 fW fdW ["tool", "moments"] (spWith K)) : FnOk P w K mg base CX0 5 f fd ["self", "begun"] (spLInit K C) := by
  refine F.ok scLInit (fun vs H Q E h => ?_) (fun cdv A outer s H vs Q E hr h => ?_)
  · obtain ⟨x, dx, d, F, rfl, _⟩ := h
    rfl
  · obtain ⟨x, dx, d, Fn, rfl, hx, hb, q⟩ := h
    obtain ⟨kvs, ks, hd, hk, h64, hF, hnm, hv⟩ := id hb
    refine ⟨_, pss_one (ps_fld (pv 0) (pe_dc (own := [("tool", 2)]) (g := gName 2) (tt := tYes) rfl scLInit.nd (pi_list (pe_callB (call_sortedD rfl) (by rfl) L.sorted (by decide +kernel) (pa_cons (pv 1) pa_nil))) (blkOk_by (N := ["self", "begun", "tool"]) (sc := defScope sLInit) (by decide +kernel))
        (fun _ _ _ _ _ => pg_name (i := 2) scLInit.nd rfl (Or.inl rfl)) (fun _ _ _ _ _ => pts_nil) (fun _ _ _ _ _ => pv 2)
        (fun _ _ _ _ _ => pe_call GW hr (by rfl) gW FW.kp bW .nil pass0 (pa_cons (pv 2) (pa_cons (pe_dget (hu_of hr) (pv 1) (pv 2) (fun _ _ => rfl)) pa_nil)))) rfl), ?_⟩
    refine ⟨_, rfl, d, kvs, ks, rfl, .inl hd, hk, h64, fun ys p hp hsrt hpn => ⟨p, rfl, ⟨_, SqL.of upd_same⟩, fun D hD => ?_⟩⟩
    have sp : Same H (upd H p (.lst (ys.map V.str))) := same_upd0 hpn
    have hylen : ys.length = ks.length := hp.length_eq
    refine dc_it walk_list (fun i H' => Same (upd H p (.lst (ys.map V.str))) H' ∧ ∃ kvs' : List (Key × V), H' D = some (.dK kvs') ∧ kvs'.length ≤ i ∧ (∀ z, z ∉ ys.take i → valV kvs' (.inr z) = none) ∧
      ∀ z ns, z ∈ ys.take i → Fn z = some ns → ∃ t, valV kvs' (.inr z) = some (.ref t) ∧ H' t = some (.tup ((0 :: ns).map V.int))) ⟨same_upd0 hD, [], upd_same, Nat.le_refl _, fun _ _ => rfl, fun z ns hz => by simp at hz⟩ (fun _ _ _ y => SqL.of (y.1 _ _ upd_same)) ?_ ?_
    · rintro i v H2 H3 hi ⟨s2, kvs', hD2, hl2, n2, y2⟩ ⟨rfl, hv2⟩
      obtain ⟨z, hz, rfl⟩ : ∃ z, ys[i]? = some z ∧ v = .str z := by
        rw [List.getElem?_map] at hv2
        cases e : ys[i]? with
        | none => rw [e] at hv2; cases hv2
        | some z => rw [e] at hv2; exact ⟨z, rfl, (Option.some.inj hv2).symm⟩
      have hzk : z ∈ ks := hp.mem_iff.mp (List.mem_of_getElem? hz)
      obtain ⟨hn1, hn2⟩ := hnm z hzk
      obtain ⟨ns, hns⟩ := Option.isSome_iff_exists.mp ((hF z).mp hzk)
      obtain ⟨l, hl1, hl3, hl4, hl5, hl6⟩ := hv z ns hns
      have sA := sp.trans s2
      have hi' : i < ks.length := by rw [List.length_map, hylen] at hi; exact hi
      refine ⟨rfl, _, rfl, _, rfl, _, rfl, _, rfl, d, _, rfl, .inl ⟨kvs, .inr z, .inl (sA _ _ hd), rfl, hl1.symm⟩, ?_⟩
      refine ⟨z, l, ns, rfl, hn1, hn2, sq_same hl3 sA, hl4, hl5, fun t later H4 s4 hw hm ht => ⟨kvs', .inr z, rfl, s4 _ _ hD2, Nat.lt_of_le_of_lt hl2 (by have := sizeLine_eq; omega), ?_⟩⟩
      have el : later = ns := pairwise_ext hw hl6 hm
      subst el
      have nD : D ≠ t := fun z => by rw [← z, s4 _ _ hD2] at ht; cases ht
      refine ⟨fun b o e => ?_, _, upd_same, Nat.le_trans (length_putK _ _ _) (by omega), fun w hw2 => ?_, fun w ws hw2 hws => ?_⟩
      · rw [upd_ne (ne_of_none e hD)]
        exact s4 _ _ (s2 _ _ e)
      · rw [List.take_add_one, hz] at hw2
        simp only [Option.toList, List.mem_append, List.mem_singleton, not_or] at hw2
        rw [valV_put, if_neg (fun y => hw2.2 (Sum.inr.inj y))]
        exact n2 w hw2.1
      · rw [valV_put]
        by_cases ewz : w = z
        · subst ewz
          rw [hns] at hws
          cases hws
          exact ⟨t, if_pos rfl, (upd_ne (Ne.symm nD)).trans ht⟩
        · rw [List.take_add_one, hz] at hw2
          simp only [Option.toList, List.mem_append, List.mem_singleton] at hw2
          obtain ⟨t2, e1, e2⟩ := y2 w ws (hw2.resolve_right ewz) hws
          exact ⟨t2, (if_neg (fun y => ewz (Sum.inr.inj y))).trans e1, (upd_ne (fun y => by rw [y, hD2] at e2; cases e2)).trans (s4 _ _ e2)⟩
    · rintro H2 ⟨s2, kvs', hD2, hl2, n2, y2⟩
      have sA := sp.trans s2
      refine ⟨_, rfl, x, C, dx, [], rfl, sA _ _ hx, T.cl, T.nB, (by show 0 < 1000; decide), ?_⟩
      have nDx : D ≠ x := fun z => by rw [z, sA _ _ hx] at hD2; cases hD2
      have et : ys.take (ys.map V.str).length = ys := by rw [List.length_map]; exact List.take_length
      rw [et] at n2 y2
      refine q _ (fun b o n e => (upd_ne n).trans (sA _ _ e)) ⟨dx, D, kvs', upd_same, (upd_ne nDx).trans hD2, fun z hz => n2 z fun hzy => ?_, fun z ns hz => ?_⟩
      · have := (hF z).mp (hp.mem_iff.mp hzy)
        have hz : (Fn z).map (0 :: ·) = none := hz
        cases e : Fn z with
        | none => rw [e] at this; cases this
        | some a => rw [e] at hz; cases hz
      · have hz : (Fn z).map (0 :: ·) = some ns := hz
        cases e : Fn z with
        | none => rw [e] at hz; cases hz
        | some a =>
          rw [e] at hz
          cases hz
          have hzy : z ∈ ys := hp.mem_iff.mpr ((hF z).mpr (by rw [e]; rfl))
          obtain ⟨t, e1, e2⟩ := y2 z a hzy e
          exact ⟨t, e1, (upd_ne (fun y => by rw [y, sA _ _ hx] at e2; cases e2)).trans e2⟩
end
end K49

namespace K49
open PySem PySem.Spec PyProof.Rows L2 So
abbrev sBeg : Stmt := inClass (topS 38) 3
abbrev sLife : Stmt := inClass (topS 38) 4
abbrev sLast : Stmt := inClass (topS 38) 5
abbrev sCont : Stmt := inClass (topS 38) 6
theorem scBeg : FnScope ["self", "tool"] ["self", "tool"] (defScope sBeg) := ⟨rfl, rfl, rfl, by decide +kernel, rfl, by decide +kernel, by decide +kernel⟩
theorem scLife : FnScope ["self", "tool", "moment", "beginnings", "beginning"] ["self", "tool", "moment"] (defScope sLife) := ⟨rfl, rfl, rfl, by decide +kernel, rfl, by decide +kernel, by decide +kernel⟩
theorem scLast : FnScope ["self", "life", "tool", "beginning", "later"] ["self", "life"] (defScope sLast) := ⟨rfl, rfl, rfl, by decide +kernel, rfl, by decide +kernel, by decide +kernel⟩
theorem scCont : FnScope ["self", "life", "tool", "beginning"] ["self", "life"] (defScope sCont) := ⟨rfl, rfl, rfl, by decide +kernel, rfl, by decide +kernel, by decide +kernel⟩
/-- the beginnings by what is given for a tool -/
def fB (F : Str → Option (List Int)) : V → Option (List Int)
  | .str z => F z
  | _ => none
/-- the beginnings as they are told -/
def FOk (F : Str → Option (List Int)) : Prop := ∀ z ns, F z = some ns → ∃ l : List Int, ns = 0 :: l ∧ l.length < 64 ∧ (∀ n ∈ l, gBeg (.int n) = true) ∧ l.Pairwise (· < ·)
/-- what is given for a life: a pair of two values, or no pair -/
def LyAt (H : Hp) (y : V) (o : Option (V × V)) : Prop :=
  (o = none ∧ ∃ T, Gv H y T ∧ (T = "tuple" → ∃ p xs, y = .ref p ∧ H p = some (.tup xs) ∧ xs.length ≠ 2)) ∨ ∃ (u x : V) (p : Addr) (T1 T2 : String), o = some (u, x) ∧ y = .ref p ∧ H p = some (.tup [u, x]) ∧ Gv H u T1 ∧ Gv H x T2
theorem LyAt.same {H H' : Hp} {y : V} {o : Option (V × V)} (h : LyAt H y o) (s : Same H H') : LyAt H' y o := by
  rcases h with ⟨e, T, h1, h2⟩ | ⟨u, x, p, T1, T2, e, e1, h1, h2, h3⟩
  · refine .inl ⟨e, T, h1.same s, fun z => ?_⟩
    obtain ⟨p, xs, a, b, c⟩ := h2 z
    exact ⟨p, xs, a, s _ _ b, c⟩
  · exact .inr ⟨u, x, p, T1, T2, e, e1, s _ _ h1, h2.same s, h3.same s⟩
def inF (F : Str → Option (List Int)) : Option (V × V) → Bool
  | some (u, .int i) => match fB F u with
    | some ns => decide (i ∈ ns)
    | none => false
  | _ => false
theorem inV_ints (i : Int) : ∀ l : List Int, inV (.int i) (l.map V.int) = decide (i ∈ l)
  | [] => rfl
  | x :: r => by
    have h := inV_ints i r
    show (eqV (.int x) (.int i) || inV (.int i) (r.map V.int)) = _
    rw [h, show eqV (.int x) (.int i) = decide (i = x) by show (x == i) = _; rw [Bool.beq_eq_decide_eq]; exact decide_eq_decide.mpr ⟨Eq.symm, Eq.symm⟩, ← Bool.decide_or]
    exact decide_eq_decide.mpr List.mem_cons.symm
theorem flat_ints (l : List Int) : (l.map V.int).all flatV = true := by
  rw [List.all_map]
  exact List.all_eq_true.mpr fun _ _ => rfl
section
variable {P : Program} {w : World} {K : PySem.W.Frag} {mg : Str → Option Value} {base : Heap}
theorem Gv.kitT {H : Hp} {v : V} {T : String} (h : Gv H v T) : PySem.W.kitOne K (.type T) (.type "tuple") = some (decide (T = "tuple")) := by
  cases h <;> exact kit_ty (by decide +kernel)
def spBeg (C CT' : Addr) : Sp := fun vs H Q E => ∃ (a : Addr) (v : V) (T : String) (F : Str → Option (List Int)), vs = [.ref a, v] ∧ LvAt C H a F ∧ Gv H v T ∧
  (∀ ns, fB F v = some ns → ∀ t, H t = some (.tup (ns.map V.int)) → Q (.ref t) H) ∧ (fB F v = none → ∀ d H', Same H H' → H' d = some (.xd [("tool", v)]) → E (.ref CT') (some d) H')
theorem ok_beg {CN CM CS CT' CL C f : Addr} {fd : FuncData} (F : Fun K "beginnings" "Lives.beginnings" sBeg f fd) (T : Lvs K mg C) (W : Words K mg) (R : Errs K mg CN CM CS CT' CL) : FnOk P w K mg base (L2.CX P w) 3 f fd ["self", "tool"] (spBeg C CT') := by
  obtain ⟨f4, fd4, O4, F4⟩ := R.t
  have G4 : FnOk P w K mg base CX0 1 f4 fd4 ["self", "tool"] (spOneE CT' "tool") := ok_eT F4 O4
  refine F.okX scBeg (fun vs H Q E h => ?_) (fun cdv A outer s H vs Q E hr h => ?_)
  · obtain ⟨a, v, T, F, rfl, _⟩ := h
    rfl
  · obtain ⟨a, v, T', F, rfl, hL, hv, qy, qn⟩ := h
    obtain ⟨dx, d, kvs, h1, h2, h3, h4⟩ := id hL
    refine ⟨_, pss_cons (ps_if (PW.pt (pw_or (pt_not (pt_val (pe_callB call_isi (by rfl) W.isi (by decide +kernel) (pa_cons (pv 1) (pa_cons (pe_bltn (v := .ty "str") (by rfl) W.str (by decide +kernel) rfl) pa_nil)))))
        (pw_or1 (pt_cmp (pc_dnotin (hu_of hr) (pv 1) (pe_fld (pv 0) rfl)))))) (pss_one (ps_raiseOne O4 G4 rfl hr (takes_of rfl rfl rfl rfl) (by rfl) (pa_cons (pv 1) pa_nil))) pss_nil)
      (pss_one (ps_ret (pe_dget (hu_of hr) (pe_fld (pv 0) rfl) (pv 1) (fun _ _ => rfl)))), ?_⟩
    refine ⟨_, rfl, _, _, _, _, _, rfl, .ty "str", hv.ty, hv.kit "str" (.inr (.inr rfl)), _, rfl, ?_⟩
    have no : fB F v = none → tMkO CT' (spOneE CT' "tool") [] (tCons (tVar 1) tNil) [some (.ref a), some v] H fun cls d H' => E cls d H' := fun e => ⟨_, rfl, mkOne rfl fun d H' s2 _ e2 => qn e d H' s2 e2⟩
    cases hv with
    | non => exact iteT (no rfl)
    | bl b => exact iteT (no rfl)
    | int i => exact iteT (no rfl)
    | lst e => exact iteT (no rfl)
    | tup e => exact iteT (no rfl)
    | dK e => exact iteT (no rfl)
    | str z hz =>
      refine iteF ?_
      refine ⟨_, rfl, _, rfl, a, C, dx, _, _, rfl, h1, T.cl, T.nB, rfl, d, _, rfl, DGet.k (k := .inr z) h2, ?_⟩
      cases e : F z with
      | none =>
        rw [h3 z e]
        exact ⟨_, rfl, iteT (no e)⟩
      | some ns =>
        obtain ⟨t, e1, e2⟩ := h4 z ns e
        rw [e1]
        refine ⟨_, rfl, iteF ?_⟩
        exact ⟨_, rfl, a, C, dx, _, _, rfl, h1, T.cl, T.nB, rfl, _, rfl, d, _, rfl, .inl ⟨kvs, .inr z, .inl h2, rfl, e1.symm⟩, qy ns e t e2⟩
/-- life in lives -/
def spCont (C : Addr) : Sp := fun vs H Q _ => ∃ (a : Addr) (y : V) (o : Option (V × V)) (F : Str → Option (List Int)), vs = [.ref a, y] ∧ LvAt C H a F ∧ LyAt H y o ∧ Q (.bl (inF F o)) H
theorem ok_cont {C f fW : Addr} {fd fdW : FuncData} (F : Fun K "__contains__" "Lives.__contains__" sCont f fd) (T : Lvs K mg C) (W : Words K mg) (L : WordsL mg) (FW : Fun K "is_whole" "is_whole" sWhole fW fdW) (bW : Binds K fdW ["value"] []) (gW : mg "is_whole" = some (.ref fW)) :
    FnOk P w K mg base CX0 2 f fd ["self", "life"] (spCont C) := by
  have GW : FnOk P w K mg base CX0 1 fW fdW ["value"] spWhole := ok_whole FW W
  refine F.ok scCont (fun vs H Q E h => ?_) (fun cdv A outer s H vs Q E hr h => ?_)
  · obtain ⟨a, y, o, F, rfl, _⟩ := h
    rfl
  · obtain ⟨a, y, o, F, rfl, hL, hy, q⟩ := h
    obtain ⟨dx, d, kvs, h1, h2, h3, h4⟩ := id hL
    refine ⟨_, pss_cons (ps_if (PW.pt (pw_or (pt_not (pt_val (pe_callB call_isi (by rfl) W.isi (by decide +kernel) (pa_cons (pv 1) (pa_cons (pe_bltn (v := .ty "tuple") (by rfl) L.tuple (by decide +kernel) rfl) pa_nil)))))
        (pw_or1 (pt_cmpR op_ne (pe_callB call_len_seq (by rfl) W.len PySem.boot_len (pa_cons (pv 1) pa_nil)) pe_int (nomark _))))) (pss_one (ps_ret pe_bl)) pss_nil)
      (pss_cons (ps_asg (pv 1) (pg_tup rfl (pgs_cons (pg_name (i := 2) scCont.nd rfl (Or.inl rfl)) (pgs_cons (pg_name (i := 3) scCont.nd rfl (Or.inl rfl)) pgs_nil))))
      (pss_cons (ps_if (PW.pt (pw_or (pt_not (pt_val (pe_callB call_isi (by rfl) W.isi (by decide +kernel) (pa_cons (pv 2) (pa_cons (pe_bltn (v := .ty "str") (by rfl) W.str (by decide +kernel) rfl) pa_nil)))))
        (pw_or1 (pt_cmp (pc_dnotin (hu_of hr) (pv 2) (pe_fld (pv 0) rfl)))))) (pss_one (ps_ret pe_bl)) pss_nil)
      (pss_one (ps_ret (pe_and (pe_call GW hr (by rfl) gW FW.kp bW .nil pass0 (pa_cons (pv 3) pa_nil)) (pe_one (pe_cmpR op_in_seq (pv 3) (pe_dget (hu_of hr) (pe_fld (pv 0) rfl) (pv 2) (fun _ _ => rfl)) (by rfl)))))))), ?_⟩
    rcases hy with ⟨rfl, T', hv, ht⟩ | ⟨u, x, p, T1, T2, rfl, rfl, hp, hu, hx⟩
    · have q : Q (.bl false) H := q
      refine ⟨_, rfl, _, _, _, _, _, rfl, .ty "tuple", hv.ty, hv.kitT, _, rfl, ?_⟩
      by_cases e : T' = "tuple"
      · rw [decide_eq_true e]
        obtain ⟨p, xs, rfl, hp, hn⟩ := ht e
        refine iteF ⟨_, rfl, p, xs, rfl, .inr (SqT.of hp), rfl, _, rfl, ite2 (fun e2 => ?_) (fun e2 => ?_)⟩
        · exact q
        · refine absurd ?_ e2
          rw [decide_eq_false (fun z => hn (by have := V.int.inj z; omega))]
          rfl
      · rw [decide_eq_false e]
        exact iteT q
    · refine ⟨_, rfl, _, _, _, _, _, rfl, .ty "tuple", .base (.tup hp), (Gv.tup hp).kitT, _, rfl, iteF ?_⟩
      refine ⟨_, rfl, p, _, rfl, .inr (SqT.of hp), rfl, _, rfl, ite2 (fun e => by cases e) (fun _ => ?_)⟩
      refine ⟨_, rfl, p, _, rfl, SqT.of hp, rfl, u, _, rfl, x, _, rfl, rfl, ?_⟩
      refine ⟨_, rfl, _, _, _, _, _, rfl, .ty "str", hu.ty, hu.kit "str" (.inr (.inr rfl)), _, rfl, ?_⟩
      have no : fB F u = none → Q (.bl false) H := fun e => by
        have : inF F (some (u, x)) = false := by
          cases x <;> simp [inF, e]
        rw [this] at q
        exact q
      cases hu with
      | non => exact iteT (no rfl)
      | bl b => exact iteT (no rfl)
      | int i => exact iteT (no rfl)
      | lst e => exact iteT (no rfl)
      | tup e => exact iteT (no rfl)
      | dK e => exact iteT (no rfl)
      | str z hz =>
        refine iteF ?_
        refine ⟨_, rfl, _, rfl, a, C, dx, _, _, rfl, h1, T.cl, T.nB, rfl, d, _, rfl, DGet.k (k := .inr z) h2, ?_⟩
        cases e : F z with
        | none =>
          rw [h3 z e]
          exact ⟨_, rfl, iteT (no e)⟩
        | some ns =>
          obtain ⟨t, e1, e2⟩ := h4 z ns e
          rw [e1]
          refine ⟨_, rfl, iteF ?_⟩
          refine ⟨_, rfl, x, T2, rfl, hx, _, rfl, ?_⟩
          have no2 : gInt x = false → Q (.bl false) H := fun g => by
            have : inF F (some (.str z, x)) = false := by
              cases x <;> first | rfl | cases g
            rw [this] at q
            exact q
          cases hx with
          | non => exact iteF (no2 rfl)
          | bl b => exact iteF (no2 rfl)
          | str z h => exact iteF (no2 rfl)
          | lst e => exact iteF (no2 rfl)
          | tup e => exact iteF (no2 rfl)
          | dK e => exact iteF (no2 rfl)
          | int i =>
            refine iteT ?_
            refine ⟨_, rfl, _, rfl, a, C, dx, _, _, rfl, h1, T.cl, T.nB, rfl, _, rfl, d, _, rfl, .inl ⟨kvs, .inr z, .inl h2, rfl, e1.symm⟩, t, _, rfl, .inr (SqT.of e2), rfl, flat_ints _, ?_⟩
            have : inF F (some (.str z, .int i)) = inV (.int i) (ns.map V.int) := by
              rw [inV_ints]
              show (match F z with | some ns => decide (i ∈ ns) | none => false) = _
              rw [e]
            rw [this] at q
            exact q
/-- what was told of such a value; what is raised keeps it -/
def spLast (C CL : Addr) : Sp := fun vs H Q E => ∃ (a : Addr) (y : V) (o : Option (V × V)) (F : Str → Option (List Int)), vs = [.ref a, y] ∧ LvAt C H a F ∧ FOk F ∧ LyAt H y o ∧
  (∀ u i ns r, o = some (u, .int i) → fB F u = some ns → i ∈ ns → (((∀ n ∈ ns, n ≤ i) ∧ r = 1000000000000000000000000000000) ∨ ∃ m ∈ ns, i < m ∧ (∀ n ∈ ns, i < n → m ≤ n) ∧ r = m - 1) → ∀ H', Same H H' → Q (.int r) H') ∧
  (inF F o = false → ∀ d H', Same H H' → H' d = some (.xd [("value", y)]) → E (.ref CL) (some d) H')
theorem inF_inv {F : Str → Option (List Int)} {o : Option (V × V)} (h : inF F o = true) : ∃ u i ns, o = some (u, .int i) ∧ fB F u = some ns ∧ i ∈ ns := by
  match o, h with
  | some (u, .int i), h =>
    have h : (match fB F u with | some ns => decide (i ∈ ns) | none => false) = true := h
    cases e : fB F u with
    | none => rw [e] at h; cases h
    | some ns =>
      rw [e] at h
      exact ⟨u, i, ns, rfl, e, of_decide_eq_true h⟩
theorem ok_last {CN CM CS CT' CL C f fC : Addr} {fd fdC : FuncData} (F : Fun K "last_of" "Lives.last_of" sLast f fd) (T : Lvs K mg C) (W : Words K mg) (L : WordsL mg) (R : Errs K mg CN CM CS CT' CL) (bC : Binds K fdC ["self", "life"] [])
    (GC : FnOk P w K mg base CX0 2 fC fdC ["self", "life"] (spCont C)) (sC : PySem.W.findIn K (.ref C) "__contains__" = some (some (.ref fC))) (iC : PySem.W.isFn K (.ref fC) = true) : FnOk P w K mg base (L2.CX P w) 3 f fd ["self", "life"] (spLast C CL) := by
  obtain ⟨f5, fd5, O5, F5⟩ := R.l
  have G5 : FnOk P w K mg base CX0 1 f5 fd5 ["self", "value"] (spOneE CL "value") := ok_eL F5 O5
  refine F.okX scLast (fun vs H Q E h => ?_) (fun cdv A outer s H vs Q E hr h => ?_)
  · obtain ⟨a, y, o, F, rfl, _⟩ := h
    rfl
  · obtain ⟨a, y, o, F, rfl, hL, hO, hy, qy, qn⟩ := h
    obtain ⟨dx, d, kvs, h1, h2, h3, h4⟩ := id hL
    obtain ⟨tG, hG⟩ := W.greatest
    refine ⟨_, pss_cons (ps_if (pt_cmpR (op_notInO GC sC iC bC pass0 hr) (pv 1) (pv 0) (by rfl)) (pss_one (ps_raiseOne O5 G5 rfl hr (takes_of rfl rfl rfl rfl) (by rfl) (pa_cons (pv 1) pa_nil))) pss_nil)
      (pss_cons (ps_asg (pv 1) (pg_tup rfl (pgs_cons (pg_name (i := 2) scLast.nd rfl (Or.inl rfl)) (pgs_cons (pg_name (i := 3) scLast.nd rfl (Or.inr rfl)) pgs_nil))))
      (pss_one (ps_ret (pe_op op_sub (pe_minDef rfl hr.units (by rfl) L.min (pa_cons (pe_lc (own := [("later", 4)]) (g := gName 4) rfl scLast.nd (pi_tup (pe_dget (hu_of hr) (pe_fld (pv 0) rfl) (pv 2) (fun _ _ => rfl))) (blkOk_by (N := ["self", "life", "tool", "beginning", "later"]) (sc := defScope sLast) (by decide +kernel))
          (fun _ _ _ _ _ => pg_name (i := 4) scLast.nd rfl (Or.inl rfl)) (fun _ _ _ _ _ => pts_one (pt_cmpR op_gt (pv 4) (pv 3) (nomark _)))
          (fun _ _ _ _ _ => pv 4)) pa_nil) (pk_cons (pe_op op_add (pe_glob (v := .int 1000000000000000000000000000000) rfl hG ⟨_, rfl⟩) pe_int) pk_nil)) pe_int)))), ?_⟩
    refine ⟨_, rfl, _, rfl, a, dx, _, rfl, h1, a, y, o, F, rfl, hL, hy, _, rfl, _, rfl, ite2 (fun e => ?_) (fun e => ?_)⟩
    · have e : inF F o = false := by
        cases h : inF F o with
        | true => rw [h] at e; cases e
        | false => rfl
      exact ⟨_, rfl, mkOne rfl fun d H' s2 _ e2 => qn e d H' s2 e2⟩
    · have e : inF F o = true := by
        cases h : inF F o with
        | true => rfl
        | false => rw [h] at e; exact absurd rfl e
      obtain ⟨u, i, ns, rfl, eu, hi⟩ := inF_inv e
      obtain ⟨p, T1, T2, rfl, hp⟩ : ∃ p, ∃ T1 T2 : String, y = .ref p ∧ H p = some (.tup [u, .int i]) := by
        rcases hy with ⟨z, _⟩ | ⟨_, _, p, T1, T2, e1, e2, e3, _⟩
        · cases z
        · cases e1
          exact ⟨p, T1, T2, e2, e3⟩
      obtain ⟨z, rfl⟩ : ∃ z, u = .str z := by
        cases u with
        | str z => exact ⟨z, rfl⟩
        | _ => cases eu
      have eu : F z = some ns := eu
      obtain ⟨t, e1, e2⟩ := h4 z ns eu
      refine ⟨_, rfl, p, _, rfl, SqT.of hp, rfl, _, _, rfl, _, _, rfl, rfl, ?_⟩
      refine ⟨_, rfl, a, C, dx, _, _, rfl, h1, T.cl, T.nB, rfl, _, rfl, d, _, rfl, .inl ⟨kvs, .inr z, .inl h2, rfl, e1.symm⟩, t, rfl, ⟨_, SqT.of e2⟩, fun D hD => ?_⟩
      obtain ⟨l, rfl, hl64, hlb, hlp⟩ := hO z ns eu
      have hlen : ∀ k, ((((0 :: l).take k).filter fun n => decide (i < n)).map V.int).length < sizeLine := fun k => by
        rw [List.length_map]
        have h1 := List.length_filter_le (fun n => decide (i < n)) ((0 :: l).take k)
        have h2 : ((0 :: l).take k).length ≤ (0 :: l).length := List.length_take_le' _ _
        have h3 : (0 :: l).length = l.length + 1 := rfl
        have := sizeLine_eq
        omega
      refine lc_it walk_tup (fun k H' => Same H H' ∧ H' D = some (.lst ((((0 :: l).take k).filter fun n => decide (i < n)).map V.int))) ⟨Same.over (Same.refl H) hD, upd_same⟩ (fun _ _ _ y => SqT.of (y.1 _ _ e2)) ?_ ?_
      · rintro k x H1 H2 hk ⟨s1, hDk⟩ ⟨rfl, hx⟩
        obtain ⟨n, hn, rfl⟩ : ∃ n, (0 :: l)[k]? = some n ∧ x = .int n := by
          rw [List.getElem?_map] at hx
          cases e : (0 :: l)[k]? with
          | none => rw [e] at hx; cases hx
          | some n => rw [e] at hx; exact ⟨n, rfl, (Option.some.inj hx).symm⟩
        refine ⟨rfl, _, rfl, _, rfl, _, _, rfl, rfl, _, rfl, ?_⟩
        have et : (0 :: l).take (k + 1) = (0 :: l).take k ++ [n] := by rw [List.take_add_one, hn]; rfl
        rw [et, List.filter_append]
        by_cases c : i < n
        · rw [decide_eq_true c]
          refine iteT ⟨_, rfl, _, hDk, hlen k, Same.over s1 hD, ?_⟩
          rw [upd_same, List.map_append]
          simp [c]
        · rw [decide_eq_false c]
          refine iteF ⟨s1, ?_⟩
          rw [hDk]
          simp [c]
      · rintro H1 ⟨s1, hDk⟩
        rw [List.length_map, List.take_length] at hDk
        refine ⟨_, _, rfl, rfl, D, _, _, rfl, rfl, SqL.of hDk, fun e0 => ?_, fun m hm1 hm2 => ?_⟩
        · refine ⟨_, _, rfl, rfl, qy _ i _ _ rfl eu hi (.inl ⟨fun n hn => ?_, rfl⟩) H1 s1⟩
          have := List.filter_eq_nil_iff.mp e0 n hn
          have : ¬ i < n := fun z => this (decide_eq_true z)
          omega
        · refine ⟨_, _, rfl, rfl, qy _ i _ _ rfl eu hi (.inr ⟨m, (List.mem_filter.mp hm1).1, of_decide_eq_true (List.mem_filter.mp hm1).2, fun n hn hin => hm2 n (List.mem_filter.mpr ⟨hn, decide_eq_true hin⟩), rfl⟩) H1 s1⟩
/-- what was told of such a tool and moment; what is raised keeps them -/
def spLife (C CM CT' : Addr) : Sp := fun vs H Q E => ∃ (a : Addr) (v m : V) (T1 T2 : String) (F : Str → Option (List Int)), vs = [.ref a, v, m] ∧ LvAt C H a F ∧ FOk F ∧ Gv H v T1 ∧ Gv H m T2 ∧
  (∀ i ns b, fB F v = some ns → m = .int i → gMom m = true → b ∈ ns → b ≤ i → (∀ n ∈ ns, n ≤ i → n ≤ b) → ∀ t H', Same H H' → H' t = some (.tup [v, .int b]) → Q (.ref t) H') ∧
  (fB F v = none → ∀ d H', Same H H' → H' d = some (.xd [("tool", v)]) → E (.ref CT') (some d) H') ∧
  (∀ ns, fB F v = some ns → gMom m = false → ∀ d H', Same H H' → H' d = some (.xd [("moment", m)]) → E (.ref CM) (some d) H')
theorem ok_life {CN CM CS CT' C f fB' fC : Addr} {fd fdB fdC : FuncData} (F : Fun K "life_of" "Lives.life_of" sLife f fd) (L : WordsL mg) (mB : Meth K C "beginnings" fB') (T : Lvs K mg C) (bB : Binds K fdB ["self", "tool"] []) (GB : FnOk P w K mg base (L2.CX P w) 3 fB' fdB ["self", "tool"] (spBeg C CT'))
    (FC : Fun K "check_form" "check_form" sCheck fC fdC) (bC : Binds K fdC ["value", "form"] []) (gC : mg "check_form" = some (.ref fC)) (GC : FnOk P w K mg base (L2.CX P w) 3 fC fdC ["value", "form"] (spCheck CN CM CS)) :
    FnOk P w K mg base (L2.CX P w) 4 f fd ["self", "tool", "moment"] (spLife C CM CT') := by
  refine F.okX scLife (fun vs H Q E h => ?_) (fun cdv A outer s H vs Q E hr h => ?_)
  · obtain ⟨a, v, m, T1, T2, F, rfl, _⟩ := h
    rfl
  · obtain ⟨a, v, m, T1, T2, F, rfl, hL, hO, hv, hm, qy, q1, q2⟩ := h
    refine ⟨_, pss_cons (ps_set (i := 3) scLife.nd rfl (.inl rfl) (pe_meth (pv 0) T.cl mB GB hr bB .nil (passes_call (takes_of rfl rfl rfl rfl) (fun _ _ _ _ h => h)) (pa_cons (pv 1) pa_nil)))
      (pss_cons (ps_expr (pe_call GC hr (by rfl) gC FC.kp bC .nil (passes_call (takes_of rfl rfl rfl rfl) (fun _ _ _ _ h => h)) (pa_cons (pv 2) (pa_cons pe_str pa_nil))))
      (pss_one (ps_ret (pe_tup (pa_cons (pv 1) (pa_cons (pe_callB (cr_max rfl) (by rfl) L.max (by decide +kernel) (pa_cons (pe_lc (own := [("beginning", 4)]) (g := gName 4) rfl scLife.nd (pi_tup (pv 3)) (blkOk_by (N := ["self", "tool", "moment", "beginnings", "beginning"]) (sc := defScope sLife) (by decide +kernel))
          (fun _ _ _ _ _ => pg_name (i := 4) scLife.nd rfl (Or.inl rfl)) (fun _ _ _ _ _ => pts_one (pt_cmpR op_le (pv 4) (pv 2) (nomark _)))
          (fun _ _ _ _ _ => pv 4)) pa_nil)) pa_nil)))))), ?_⟩
    obtain ⟨dx, d, kvs, h1, h2, h3, h4⟩ := id hL
    refine ⟨_, rfl, a, dx, _, rfl, h1, rfl, _, rfl, a, v, T1, F, rfl, hL, hv, fun ns e t ht => ?_, fun e d H' s1 h => q1 e d H' s1 h⟩
    refine ⟨_, rfl, m, T2, _, _, _, _, rfl, hm, .inr (.inl ⟨rfl, rfl, rfl, rfl⟩), fun hg H1 s1 => ?_, fun hg d H' s1 h => q2 ns e hg d H' s1 h⟩
    obtain ⟨i, rfl⟩ : ∃ i, m = .int i := by
      cases m with
      | int i => exact ⟨i, rfl⟩
      | _ => cases hg
    obtain ⟨z, rfl⟩ : ∃ z, v = .str z := by
      cases v with
      | str z => exact ⟨z, rfl⟩
      | _ => cases e
    obtain ⟨l, rfl, hl64, hlb, hlp⟩ := hO z ns e
    have hi0 : 0 ≤ i := (of_decide_eq_true hg).1
    have ht1 := s1 _ _ ht
    have hlen : ∀ k, ((((0 :: l).take k).filter fun n => decide (n ≤ i)).map V.int).length < sizeLine := fun k => by
      rw [List.length_map]
      have h1 := List.length_filter_le (fun n => decide (n ≤ i)) ((0 :: l).take k)
      have h2 : ((0 :: l).take k).length ≤ (0 :: l).length := List.length_take_le' _ _
      have h3 : (0 :: l).length = l.length + 1 := rfl
      have := sizeLine_eq
      omega
    refine ⟨_, rfl, _, rfl, t, rfl, ⟨_, SqT.of ht1⟩, fun D hD => ?_⟩
    refine lc_it walk_tup (fun k H' => Same H1 H' ∧ H' D = some (.lst ((((0 :: l).take k).filter fun n => decide (n ≤ i)).map V.int))) ⟨Same.over (Same.refl H1) hD, upd_same⟩ (fun _ _ _ y => SqT.of (y.1 _ _ ht1)) ?_ ?_
    · rintro k x H2 H3 hk ⟨s2, hDk⟩ ⟨rfl, hx⟩
      obtain ⟨n, hn, rfl⟩ : ∃ n, (0 :: l)[k]? = some n ∧ x = .int n := by
        rw [List.getElem?_map] at hx
        cases e : (0 :: l)[k]? with
        | none => rw [e] at hx; cases hx
        | some n => rw [e] at hx; exact ⟨n, rfl, (Option.some.inj hx).symm⟩
      refine ⟨rfl, _, rfl, _, rfl, _, _, rfl, rfl, _, rfl, ?_⟩
      have et : (0 :: l).take (k + 1) = (0 :: l).take k ++ [n] := by rw [List.take_add_one, hn]; rfl
      rw [et, List.filter_append]
      by_cases c : n ≤ i
      · rw [decide_eq_true c]
        refine iteT ⟨_, rfl, _, hDk, hlen k, Same.over s2 hD, ?_⟩
        rw [upd_same, List.map_append]
        simp [c]
      · rw [decide_eq_false c]
        refine iteF ⟨s2, ?_⟩
        rw [hDk]
        simp [c]
    · rintro H2 ⟨s2, hDk⟩
      rw [List.length_map, List.take_length] at hDk
      refine ⟨D, _, rfl, SqL.of hDk, ?_, fun b hb1 hb2 => ⟨by show 2 ≤ sizeLine; decide, fun t' ht' => ?_⟩⟩
      · exact List.length_pos_of_mem (List.mem_filter.mpr ⟨List.mem_cons_self, decide_eq_true hi0⟩)
      · exact qy i _ b e rfl hg (List.mem_filter.mp hb1).1 (of_decide_eq_true (List.mem_filter.mp hb1).2) (fun n hn hni => hb2 n (List.mem_filter.mpr ⟨hn, decide_eq_true hni⟩)) t' _ ((s1.trans s2).trans (same_upd0 ht')) upd_same
end
end K49

/-! sorted(set(list)), the list's members texts, or ints -/
namespace So
open PySem PySem.Spec PyProof.Rows L2
/-- keys of one kind, and what they are as values -/
structure KyT (P : Program) (w : World) (α : Type) [DecidableEq α] where
  knd : PySem.KeyKind P w α
  mkv : α → Tok → Value
  key : Value → α
  hk : ∀ k t, key (mkv k t) = k
  his : ∀ k t, knd.is k (mkv k t) = true
  iff : ∀ k k0 t, knd.is k (mkv k0 t) = true ↔ k0 = k
  hsc : ∀ k t, (mkv k t).scannable = true
def kyStr (P : Program) (w : World) : KyT P w Str where
  knd := PySem.strKind P w
  mkv := Value.str
  key := fun v => match v with | .str x _ => x | _ => Str.empty
  hk := fun _ _ => rfl
  his := fun k t => strKind_is P w k t
  iff := fun k k0 t => by
    show ((k0 == k) = true) ↔ k0 = k
    exact beq_iff_eq
  hsc := fun _ _ => rfl
section
variable {P : Program} {w : World} {α : Type} [DecidableEq α] (T : KyT P w α)
def GoodG (e : Int × Value) : Prop := ∃ k tk, e.2 = T.mkv k tk ∧ e.1 = T.knd.hash k
def keyG (e : Int × Value) : α := T.key e.2
/-- the set at a: S its members, n their number; its table rises and can be walked -/
def SetG (h : Heap) (a : Addr) (S : α → Bool) (n : Nat) : Prop :=
  ∃ o es ep t, h.get? a = some o ∧ o.ExactSet ∧ o.data = .set es ep t ∧ (∀ e ∈ es.toList, GoodG T e) ∧ (es.toList.map (keyG T)).Nodup ∧ (∀ k, S k = true ↔ k ∈ es.toList.map (keyG T)) ∧
    es.size < scanBound ∧ t.fits es.size = true ∧ es.size = n ∧ Ris t.place.toList ∧ (w.params.followText "set-order" = true ∨ t.led = true)
end
section
variable {P : Program} {w : World} {α : Type} [DecidableEq α] {T : KyT P w α} {h h' : Heap} {a : Addr} {S : α → Bool} {n : Nat}
theorem SetG.at (R : SetG T h a S n) (k : ∀ o, h.get? a = some o → h'.get? a = some o) : SetG T h' a S n := by
  obtain ⟨o, es, ep, t, ho, r⟩ := R
  exact ⟨o, es, ep, t, k o ho, r⟩
theorem SetG.congr {S' : α → Bool} (R : SetG T h a S n) (e : ∀ k, S' k = S k) : SetG T h a S' n := by
  have q : S' = S := funext e
  rw [q]; exact R
theorem goodG_elems {l : List (Int × Value)} (g : ∀ e ∈ l, GoodG T e) : ElemsOf T.knd l := fun e he => by
  obtain ⟨k, tk, h1, h2⟩ := g e he
  exact ⟨⟨k, by rw [h1]; exact T.his k tk, h2⟩, by rw [h1]; exact T.hsc k tk⟩
theorem goodG_is {e : Int × Value} (g : GoodG T e) (k : α) : T.knd.is k e.2 = true ↔ keyG T e = k := by
  obtain ⟨k0, tk, h1, _⟩ := g
  unfold keyG
  rw [h1, T.hk]
  exact T.iff k k0 tk
theorem goodG_mem {l : List (Int × Value)} (g : ∀ e ∈ l, GoodG T e) (k : α) : k ∈ l.map (keyG T) ↔ ∃ e ∈ l, T.knd.is k e.2 = true := by
  rw [List.mem_map]
  constructor
  · rintro ⟨e, he, q⟩
    exact ⟨e, he, (goodG_is (g e he) k).2 q⟩
  · rintro ⟨e, he, q⟩
    exact ⟨e, he, (goodG_is (g e he) k).1 q⟩
theorem setG_fresh {h : Heap} : SetG T (h.push { cls := .type "set", dict := none, data := .set #[] 0 (.fresh 0 0 (!w.params.followText "set-order")) }) h.objs.size (fun _ => false) 0 :=
  ⟨_, #[], 0, _, Heap.get?_push_size _ rfl, ⟨rfl, rfl, rfl⟩, rfl, (fun e he => by simp at he), (by simp), (fun k => by simp), (by decide), (by rfl), rfl, List.Pairwise.nil, by
    show _ ∨ (!w.params.followText "set-order") = true
    cases w.params.followText "set-order"
    · exact .inr rfl
    · exact .inl rfl⟩
end
section
variable {P : Program} {w : World} {α : Type} [DecidableEq α] {T : KyT P w α} {A : Around} {E : Value → Shared → Prop} {s : Shared} {a : Addr} {S : α → Bool} {n : Nat}
theorem setG_add_tail {g : Bool → Sem Unit} (hg : ∀ (b : Bool) (s₁ : Shared) (Q' : Unit → Shared → Prop), Q' () s₁ → wpAny (model P w) A (g b) Q' E s₁)
    {o : Obj} {es : Array (Int × Value)} {ep : Nat} {t : SetTable} (ho : s.heap.get? a = some o) (hex : o.ExactSet) (hd : o.data = .set es ep t)
    {es1 : Array (Int × Value)} {t2 : SetTable} {S' : α → Bool} (g1 : ∀ e ∈ es1.toList, GoodG T e) (nd1 : (es1.toList.map (keyG T)).Nodup) (m1 : ∀ k, S' k = true ↔ k ∈ es1.toList.map (keyG T))
    (hb1 : es1.size < scanBound) (hf2 : t2.fits es1.size = true) (hr : Ris t2.place.toList) (hl : w.params.followText "set-order" = true ∨ t2.led = true) {wasDummy : Bool} {R : Option Bool → Shared → Prop}
    (hR : ∀ h', Heap.SameBut a s.heap h' → SetG T h' a S' es1.size → R (some true) { s with heap := h' }) :
    wpAny (model P w) A (do
        storeSet a es1 t2
        if (!wasDummy && t2.tooFull) = true then do
            g (relayAll t2 es1 (SetTable.grown es1.size)).2.2
            storeSet a (relayAll t2 es1 (SetTable.grown es1.size)).1 (relayAll t2 es1 (SetTable.grown es1.size)).2.1
            pure (some true)
          else pure (some true)) R E s := by
  refine wpAny_bind (wpAny_storeSet_of ho hd ?_ (fits_of_scanBound hb1))
  have ho1 := store_at (es' := es1) (t' := t2) ho hd
  have sb1 := Heap.SameBut.update s.heap a (Obj.putSet es1 t2)
  split
  · have pm := relayAll_perm t2 es1 (SetTable.grown es1.size)
    have hf3 := relayAll_fits t2 es1 (SetTable.grown es1.size)
    have hr3 := relayAll_ris t2 es1 (SetTable.grown es1.size)
    have hl3 := relayAll_led t2 es1 (SetTable.grown es1.size)
    generalize relayAll t2 es1 (SetTable.grown es1.size) = Z at pm hf3 hr3 hl3 ⊢
    obtain ⟨es2, t3, gave⟩ := Z
    dsimp only at pm hf3 hr3 hl3 ⊢
    have hsz : es2.size = es1.size := by rw [← Array.length_toList, pm.length_eq, Array.length_toList]
    have hb2 : es2.size < scanBound := by rw [hsz]; exact hb1
    refine wpAny_bind (hg _ _ _ ?_)
    refine wpAny_bind (wpAny_storeSet_of ho1 rfl ?_ (fits_of_scanBound hb2))
    have ho2 := store_at (es' := es2) (t' := t3) ho1 rfl
    refine wpAny_pure (hR _ (sb1.trans (Heap.SameBut.update _ a _)) ?_)
    exact ⟨_, es2, _, t3, ho2, hex, rfl, fun e he => g1 e (pm.mem_iff.mp he), (pm.map (keyG T)).nodup_iff.mpr nd1, fun k => (m1 k).trans (pm.map (keyG T)).mem_iff.symm, hb2, hf3, hsz, hr3,
      hl.imp id fun z => by rw [hl3]; exact z⟩
  · exact wpAny_pure (hR _ sb1 ⟨_, es1, _, t2, ho1, hex, rfl, g1, nd1, m1, hb1, hf2, rfl, hr, hl⟩)

theorem setG_add_hashed {k : α} {tk : Tok} {Q : Bool → Shared → Prop} (R : SetG T s.heap a S n) (room : n + 1 < scanBound)
    (hQ : ∀ h', Heap.SameBut a s.heap h' → SetG T h' a (fun j => S j || decide (j = k)) (if S k = true then n else n + 1) → Q (!S k) { s with heap := h' }) :
    wpAny (model P w) A (setAddHashed a (T.mkv k tk) (T.knd.hash k)) Q E s := by
  obtain ⟨o, es, ep, t, ho, hex, hd, g, nd, hm, hb, hf, hn, hr, hl⟩ := R
  have hkey : T.knd.is k (T.mkv k tk) = true := T.his k tk
  have hsc : (T.mkv k tk).scannable = true := T.hsc k tk
  have hel : ElemsOf T.knd es.toList := goodG_elems g
  unfold setAddHashed setAddHashedIn
  refine wpAny_holding (wpAny_bind (wpAny_setState_of ho hd hf ?_))
  dsimp only
  rw [byScan_of hsc hb hel]
  simp only [↓reduceIte]
  unfold setAddByScan
  refine wpAny_bind ?_
  refine wpAny_bind (wpAny_rule ?_)
  refine wpAny_bind (wpAny_setScan_of hkey ho hd hf hel ?_)
  cases hfi : List.findIdx? (fun e => T.knd.is k e.2) es.toList with
  | some j =>
    dsimp only
    obtain ⟨hj, pj, _⟩ := List.findIdx?_eq_some_iff_getElem.mp hfi
    have hSk : S k = true := (hm k).2 ((goodG_mem g k).2 ⟨es.toList[j], List.getElem_mem hj, pj⟩)
    refine wpAny_pure (wpAny_pure ?_)
    have q := hQ s.heap (Heap.SameBut.refl a s.heap) ⟨o, es, ep, t, ho, hex, hd, g, nd, fun i => by
      rw [Bool.or_eq_true, decide_eq_true_eq, ← hm i]
      exact ⟨fun z => z.elim id (fun e => e ▸ hSk), .inl⟩, hb, hf, by rw [if_pos hSk]; exact hn, hr, hl⟩
    rw [hSk] at q
    exact q
  | none =>
    dsimp only
    have hnk : k ∉ es.toList.map (keyG T) := fun z => by
      obtain ⟨e, he, q⟩ := (goodG_mem g k).1 z
      have c := List.findIdx?_eq_none_iff.mp hfi e he
      rw [q] at c
      cases c
    have hSk : S k = false := by
      cases q : S k with
      | false => rfl
      | true => exact absurd ((hm k).1 q) hnk
    have hgw : ∀ (b : Bool) {s₁ : Shared} {Q' : Unit → Shared → Prop}, Q' () s₁ → wpAny (model P w) A (match b with | true => rule "set.scan.the-table-gave-way" | false => pure ()) Q' E s₁ :=
      fun b s₁ Q' q => by cases b <;> first | exact wpAny_pure q | exact wpAny_rule q
    have pm := layNew_perm t es (T.knd.hash k) (T.mkv k tk)
    have hf1 := layNew_fits t es (T.knd.hash k) (T.mkv k tk)
    have hr1 := layNew_ris t es (T.knd.hash k) (T.mkv k tk) hr
    have hl1 := layNew_led t es (T.knd.hash k) (T.mkv k tk)
    generalize layNew t es (T.knd.hash k) (T.mkv k tk) = Z at pm hf1 hr1 hl1 ⊢
    obtain ⟨es1, t1, wasDummy, gave⟩ := Z
    dsimp only at pm hf1 hr1 hl1 ⊢
    rw [Array.toList_push] at pm
    have pc : es1.toList.Perm ((T.knd.hash k, T.mkv k tk) :: es.toList) := pm.trans (List.perm_append_singleton _ _)
    have pk : (es1.toList.map (keyG T)).Perm (k :: es.toList.map (keyG T)) := by
      have q := pc.map (keyG T)
      rw [List.map_cons] at q
      have e : keyG T (T.knd.hash k, T.mkv k tk) = k := T.hk k tk
      rw [e] at q
      exact q
    have g1 : ∀ e ∈ es1.toList, GoodG T e := fun e he => by
      rcases List.mem_cons.mp (pc.mem_iff.mp he) with z | z
      · rw [z]; exact ⟨k, tk, rfl, rfl⟩
      · exact g e z
    have nd1 : (es1.toList.map (keyG T)).Nodup := pk.nodup_iff.mpr (List.nodup_cons.mpr ⟨hnk, nd⟩)
    have m1 : ∀ i, (S i || decide (i = k)) = true ↔ i ∈ es1.toList.map (keyG T) := fun i => by
      rw [Bool.or_eq_true, decide_eq_true_eq, hm i, pk.mem_iff, List.mem_cons]
      exact Or.comm
    have hsz : es1.size = n + 1 := by rw [← Array.length_toList, pc.length_eq, List.length_cons, Array.length_toList, hn]
    have hb1 : es1.size < scanBound := by rw [hsz]; exact room
    have hled : w.params.followText "set-order" = true ∨ t1.led = true := hl.imp id fun z => by rw [hl1]; exact z
    have fin : ∀ h', Heap.SameBut a s.heap h' → SetG T h' a (fun j => S j || decide (j = k)) es1.size → Q true { s with heap := h' } := fun h' sb r => by
      have q := hQ h' sb
      rw [hSk] at q
      rw [hsz] at r
      exact q r
    refine wpAny_bind (hgw _ ?_)
    split
    · refine wpAny_bind ?_
      rw [hashByValue_scannable 8 hsc]
      refine wpAny_pure ?_
      refine setG_add_tail ?_ ho hex hd g1 nd1 m1 hb1 ?_ ?_ ?_ ?_
      · intro b s₁ Q' q; cases b <;> first | exact wpAny_pure q | exact wpAny_rule q
      · first | (split <;> first | exact hf1 | exact SetTable.fits_plain_off hf1) | exact hf1
      · first | (split <;> exact hr1) | exact hr1
      · first | (split <;> exact hled) | exact hled
      · intro h' sb r; dsimp only; exact wpAny_pure (fin h' sb r)
    · refine wpAny_bind (wpAny_pure ?_)
      simp only [↓reduceIte]
      refine setG_add_tail ?_ ho hex hd g1 nd1 m1 hb1 hf1 hr1 hled ?_
      · intro b s₁ Q' q; cases b <;> first | exact wpAny_pure q | exact wpAny_rule q
      · intro h' sb r; dsimp only; exact wpAny_pure (fin h' sb r)
end
end So

namespace So
open PySem PySem.Spec PyProof.Rows L2
section
variable {P : Program} {w : World} {α : Type} [DecidableEq α] {T : KyT P w α} {A : Around} {E : Value → Shared → Prop} {s : Shared}
theorem code_set_led1 (a : Value) {Q₁ : Value → Shared → Prop}
    (h : Q₁ (.ref s.heap.objs.size) { s with heap := s.heap.push { cls := .type "set", dict := none, data := .set #[] 0 (.fresh 0 0 (!w.params.followText "set-order")) } }) :
    codeAny (model P w) A (.call (.builtin "set.__new__") ⟨[.type "set", a], []⟩) (wants Q₁ E) s := by
  refine codeAny_of_tree ?_
  show wpAny _ A.in1 (do checkBuiltinCall "set.__new__" ⟨[.type "set", a], []⟩; again (.builtin "set.__new__" ⟨[.type "set", a], []⟩)) _ _ s
  refine wpAny_bind (wpAny_of_eq (F.newCall_set_1 a) (wpAny_pure ⟨plainId_quiet F.plain_set_new _, codeAny_builtin F.entry_set_new ?_⟩))
  rw [Around.under_plainId F.plain_set_new _]
  unfold Builtin.«set.__new__» Builtin.Frozenset.newClass
  have hsub := sub_set_self
  obtain ⟨hp, g, d, tk, os⟩ := s
  dsimp only
  wp_walk
  refine wpAny_askSetting (wpAny_pure ?_)
  dsimp only
  simp only [newObj]
  refine wpAny_bind (wpAny_alloc (wpAny_pure ?_))
  exact wpAny_pure h
end
section
variable {prog : Program} {w : World} {α : Type} [DecidableEq α] {T : KyT prog w α} {A : Around} {R : Result → Shared → Prop} {I : Addr} {fp wr : List Addr} {G : Array GenState → Array GenState → Prop} {n : Nat} {P : Nat → Value → Prop} {St : Nat → Shared → Prop}
theorem loopG (W : WalksS prog w A.in1 I fp wr G n P St) (S : Addr) (hSf : S ∉ fp) (xs : List α) (hsz : xs.length = n) (hn1 : n + 1 < scanBound)
    (hval : ∀ i v, P i v → ∃ k t, xs[i]? = some k ∧ v = T.mkv k t) :
    ∀ (k i : Nat) (s : Shared), n - i = k → i ≤ n → St i s →
      (∃ m, m ≤ i ∧ SetG T s.heap S (fun k' => decide (k' ∈ xs.take i)) m) →
      (∀ s', Moved (S :: wr) G s s' → (∃ m, m ≤ n ∧ SetG T s'.heap S (fun k' => decide (k' ∈ xs)) m) → R (.ok (.ret .none)) s') →
      codeAny (model prog w) A (.builtin "set.update.loop" ⟨[.ref S, .ref I], []⟩) R s := by
  have hSw : S ∉ wr := fun h => hSf (W.sub _ h)
  have hsub : ∀ b ∈ wr, b ∈ S :: wr := fun b hb => List.mem_cons_of_mem _ hb
  intro k
  induction k with
  | zero =>
    intro i s hk hi hst hS hR
    have hin : i = n := by omega
    subst hin
    refine codeAny_builtin PyProof.Rows.F.entry_set_update_loop ?_
    rw [Around.under_plainId PyProof.Rows.F.plain_set_update_loop _]
    show wpAny _ A.in1 (pyNext (.ref I) >>= _) _ _ s
    refine wpAny_bind (W.done s _ _ hst fun s' hm => ?_)
    show wpAny _ A.in1 (ret Value.none) _ _ s'
    refine wpAny_pure (hR s' (hm.mono hsub) ?_)
    obtain ⟨m, hm1, R1⟩ := hS
    rw [← hsz, List.take_length] at R1
    exact ⟨m, hm1, R1.at fun o ho => hm.heap S _ hSw ho⟩
  | succ k ih =>
    intro i s hk hi hst hS hR
    have hlt : i < n := by omega
    refine codeAny_builtin PyProof.Rows.F.entry_set_update_loop ?_
    rw [Around.under_plainId PyProof.Rows.F.plain_set_update_loop _]
    show wpAny _ A.in1 (pyNext (.ref I) >>= _) _ _ s
    refine wpAny_bind (W.item i s _ _ hlt hst fun v s' hP hst' hm => ?_)
    obtain ⟨x, t, hx, rfl⟩ := hval i v hP
    obtain ⟨m, hm1, R1⟩ := hS
    have R2 : SetG T s'.heap S (fun k' => decide (k' ∈ xs.take i)) m := R1.at fun o ho => hm.heap S _ hSw ho
    show wpAny _ A.in1 (holding [T.mkv x t] (setAdd S (T.mkv x t)) >>= _) _ _ s'
    refine wpAny_bind (wpAny_holding ?_)
    unfold setAdd
    refine wpAny_holding ?_
    refine wpAny_bind (T.knd.pyHash (k := x) (T.his x t) ?_)
    refine setG_add_hashed (s := { s' with toks := s'.toks + 1 }) R2 (by omega) fun h' hsb R3 => ?_
    have et : xs.take (i + 1) = xs.take i ++ [x] := by rw [List.take_add_one, hx]; rfl
    have R4 : ∃ m', m' ≤ i + 1 ∧ SetG T h' S (fun k' => decide (k' ∈ xs.take (i + 1))) m' := by
      refine ⟨_, ?_, R3.congr fun k' => ?_⟩
      · split <;> omega
      · rw [et, Bool.eq_iff_iff, Bool.or_eq_true, decide_eq_true_eq, decide_eq_true_eq, decide_eq_true_eq, List.mem_append, List.mem_singleton]
    refine wpAny_pure ⟨plainId_quiet PyProof.Rows.F.plain_set_update_loop _, ih (i + 1) _ (by omega) hlt (W.frame _ s' _ _ hst' (Nat.le_succ _) fun b hb o e => ?_) R4 fun s'' hm'' hS'' => ?_⟩
    · rw [hsb.2 b (fun h : b = S => hSf (by rw [← h]; exact hb))]; exact e
    · refine hR s'' (Moved.trans W.gtrans ((hm.mono hsub).then_heap (Nat.le_succ _) fun b o hb e => ?_) hm'') hS''
      rw [hsb.2 b (fun h : b = S => hb (by rw [h]; exact List.mem_cons_self))]; exact e
end
section
variable {prog : Program} {w : World} {α : Type} [DecidableEq α] {T : KyT prog w α} {A : Around} {E : Value → Shared → Prop} {s : Shared}
set_option maxHeartbeats 8000000 in
theorem call_set_listG {l : Addr} {items : Array Value} {xs : List α} {Q : Value → Shared → Prop}
    (hh : A.handled = none) (hl : s.heap.IsList l items) (hsz : xs.length = items.size) (hval : ∀ (i : Nat) (v : Value), items[i]? = some v → ∃ k t, xs[i]? = some k ∧ v = T.mkv k t) (hn1 : xs.length + 1 < scanBound)
    (h : ∀ (h' : Heap) (tk m : Nat), m ≤ xs.length → SetG T h' s.heap.objs.size (fun k' => decide (k' ∈ xs)) m →
      (∀ b o, b < s.heap.objs.size → s.heap.get? b = some o → h'.get? b = some o) → Q (.ref s.heap.objs.size) { s with heap := h', toks := tk }) :
    wpAny (model prog w) A (call (.type "set") [.ref l]) Q E s := by
  obtain ⟨c, tl, hmro⟩ := PySem.F.called_set.mro
  have hmade := PySem.F.called_set.made
  have hsub := PySem.F.called_set.sub
  refine wpAny_call (codeAny_of_tree ?_)
  show wpAny _ _ (callAny (.type "set") _) _ _ _
  refine wpAny_pure ⟨Code.quiet_builtin _ (by decide +kernel), codeAny_builtin PySem.F.entry_type_call ?_⟩
  rw [Around.under_plain (weight_type_call_type "set" [.ref l] []) rfl]
  have h1 := PySem.F.called_set.notType
  have h2 := PySem.F.called_set.canCreate
  have hct := PySem.F.typeCall_set_1 (.ref l)
  repeat (any_goals (first | assumption | wp_step))

  refine codeAny_mono (code_set_led1 (.ref l) (E := E) (Q₁ := fun obj s₁ => obj = .ref s.heap.objs.size ∧ s₁ = { s with heap := s.heap.push { cls := .type "set", dict := none, data := .set #[] 0 (.fresh 0 0 (!w.params.followText "set-order")) } }) ⟨rfl, rfl⟩) fun r s₁ hr => ?_
  cases r with
  | error e => exact hr
  | ok fl =>
    cases fl with
    | ret obj =>
      obtain ⟨rfl, rfl⟩ := hr
      have R0 := setG_fresh (T := T) (h := s.heap)
      generalize (!w.params.followText "set-order") = led at R0 ⊢
      have hS : (s.heap.push { cls := .type "set", dict := none, data := .set #[] 0 (.fresh 0 0 led) }).get? s.heap.objs.size = some { cls := .type "set", dict := none, data := .set #[] 0 (.fresh 0 0 led) } := Heap.get?_push_size _ rfl
      have hT : Shared.TypeIs { s with heap := s.heap.push { cls := .type "set", dict := none, data := .set #[] 0 (.fresh 0 0 led) } } (.ref s.heap.objs.size) "set" := ⟨_, hS, rfl⟩
      have hli := PySem.F.called_set.init.lookup
      have hbi := PySem.F.called_set.init.bind (.ref s.heap.objs.size)
      repeat (any_goals (first | assumption | wp_step))

      refine codeAny_mono (codeAny_call_builtin (R := wants (fun r s₂ => r = .none ∧ ∃ h' tk m, s₂ = { s with heap := h', toks := tk } ∧ m ≤ xs.length ∧
          SetG T h' s.heap.objs.size (fun k' => decide (k' ∈ xs)) m ∧
          (∀ b o, b < s.heap.objs.size → s.heap.get? b = some o → h'.get? b = some o)) E) PySem.F.called_set.init.plain PySem.F.entry_set_init (check_set_init_1 hT ?_)) fun r₂ s₂ hr₂ => ?_
      · obtain ⟨ol, hol, hcl, nl, hdl⟩ := hl
        obtain ⟨ocls, odict, odata, oslots⟩ := ol
        simp only at hcl hdl
        subst hcl; subst hdl
        have hol' : (s.heap.push { cls := .type "set", dict := none, data := .set #[] 0 (.fresh 0 0 led) }).get? l = some { cls := .type "list", dict := odict, data := .seq items nl, slots := oslots } := Heap.get?_push_of_some _ hol
        have hsls := PySem.F.sub_list_set
        have hslf := PySem.F.sub_list_frozenset
        have hne : (Value.type "list" == Value.type "dict") = false := by decide
        have hl1 : (s.heap.push { cls := .type "set", dict := none, data := .set #[] 0 (.fresh 0 0 led) }).IsList l items := ⟨_, hol', rfl, nl, rfl⟩
        unfold Builtin.«set.__init__» noKeywords Builtin.Frozenset.updateFrom
        generalize hPI : pyIter = PI
        wp_walk
        subst hPI

        refine wpAny_pyIter_list hl1 ?_
        refine wpAny_bind (wpAny_runValue ?_)
        have hlS : l < s.heap.objs.size := Heap.lt_size hol
        have hh3 : A.in1.in1.in1.handled = none := by simp [hh]
        have hneI : l ≠ (s.heap.push { cls := .type "set", dict := none, data := .set #[] 0 (.fresh 0 0 led) }).objs.size := by
          rw [Heap.size_push]; exact Nat.ne_of_lt (Nat.lt_succ_of_lt hlS)
        have hSf : s.heap.objs.size ∉ [(s.heap.push { cls := .type "set", dict := none, data := .set #[] 0 (.fresh 0 0 led) }).objs.size, l] := by
          rw [Heap.size_push]; simp only [List.mem_cons, List.mem_singleton, List.not_mem_nil, or_false, not_or]
          exact ⟨Nat.ne_of_lt (Nat.lt_succ_self _), Nat.ne_of_gt hlS⟩
        refine loopG (T := T) ((Walks.list hh3 _ l hneI items).toS) s.heap.objs.size
          hSf xs hsz (by rw [← hsz]; exact hn1) hval (items.size - 0) 0 _ (by omega) (Nat.zero_le _)
          ⟨⟨_, Heap.get?_push_size _ rfl, rfl, rfl⟩, (hl1.push _)⟩ ?hS0 ?hR
        case hS0 =>
          exact ⟨0, Nat.le_refl _, (R0.at fun o ho => Heap.get?_push_of_some _ ho).congr fun k => by simp⟩
        case hR =>
          intro s' hm hS'
          obtain ⟨h', g', d', tk', os'⟩ := s'
          have eg : g' = s.gens := hm.gens
          have ed : d' = s.drawn := hm.drawn
          have eo : os' = s.os := hm.os
          subst eg; subst ed; subst eo
          show wpAny _ _ _ _ _ _
          refine wpAny_pure ?_
          show wpAny _ _ (ret Value.none) _ _ _
          obtain ⟨m, hm1, R1⟩ := hS'
          refine wpAny_pure ⟨rfl, h', tk', m, rfl, by rw [hsz]; exact hm1, R1, fun b o hb e => ?_⟩
          have hb1 : b ≠ s.heap.objs.size := Nat.ne_of_lt hb
          have hb2 : b ≠ (s.heap.push { cls := .type "set", dict := none, data := .set #[] 0 (.fresh 0 0 led) }).objs.size := by
            rw [Heap.size_push]; exact Nat.ne_of_lt (Nat.lt_succ_of_lt hb)
          exact hm.heap b o (by simp only [List.mem_cons, List.mem_singleton, List.not_mem_nil, or_false, not_or]; exact ⟨hb1, hb2⟩) (Heap.get?_push_of_some _ (Heap.get?_push_of_some _ e))

      · cases r₂ with
        | error e => exact hr₂
        | ok fl₂ =>
          cases fl₂ with
          | ret r =>
            obtain ⟨rfl, h', tk, m, rfl, hm1, hS', hk'⟩ := hr₂
            repeat (any_goals (first | assumption | wp_step))
            exact h _ _ _ hm1 hS' hk'
          | _ => exact hr₂.elim
    | _ => exact hr.elim
end
end So

namespace So
open PySem PySem.Spec PyProof.Rows L2
/-! ### there is one ascending list of the same texts -/
theorem risingS_pair : ∀ {l : List Str} {p : Str}, risingS p l = true → (p :: l).Pairwise (fun a b => a.cps.toList ≤ b.cps.toList)
  | [], p, _ => List.pairwise_singleton _ _
  | x :: r, p, h => by
    have h : (!ltCps x.cps.toList p.cps.toList && risingS x r) = true := h
    rw [Bool.and_eq_true, Bool.not_eq_true', ltCps_eq, decide_eq_false_iff_not] at h
    have ih := risingS_pair h.2
    have h1 : p.cps.toList ≤ x.cps.toList := List.not_lt.mp h.1
    refine List.pairwise_cons.mpr ⟨fun y hy => ?_, ih⟩
    rcases List.mem_cons.mp hy with e | e
    · rw [e]; exact h1
    · exact List.le_trans h1 ((List.pairwise_cons.mp ih).1 y e)
theorem sortedS_pair {l : List Str} (h : sortedS l = true) : l.Pairwise (fun a b => a.cps.toList ≤ b.cps.toList) := by
  cases l with
  | nil => exact List.Pairwise.nil
  | cons x r => exact risingS_pair h
theorem str_of_cps {a b : Str} (h : a.cps.toList = b.cps.toList) : a = b := by
  cases a
  cases b
  simp only [Str.mk.injEq]
  exact Array.toList_inj.mp h
theorem sortedS_one {a b : List Str} (ha : sortedS a = true) (hb : sortedS b = true) (na : a.Nodup) (nb : b.Nodup) (h : ∀ k, k ∈ a ↔ k ∈ b) : a = b := by
  have p : a.Perm b := (List.perm_ext_iff_of_nodup na nb).mpr h
  exact p.eq_of_pairwise (le := fun a b : Str => a.cps.toList ≤ b.cps.toList) (fun x y _ _ h1 h2 => str_of_cps (List.le_antisymm h1 h2)) (sortedS_pair ha) (sortedS_pair hb)
theorem ints_one {a b : List Int} (ha : a.Pairwise (· < ·)) (hb : b.Pairwise (· < ·)) (h : ∀ k, k ∈ a ↔ k ∈ b) : a = b := by
  have nd : ∀ {l : List Int}, l.Pairwise (· < ·) → l.Nodup := fun h => h.imp fun h e => by omega
  have p : a.Perm b := (List.perm_ext_iff_of_nodup (nd ha) (nd hb)).mpr h
  exact p.eq_of_pairwise (le := fun a b : Int => a < b) (fun x y _ _ h1 h2 => by omega) ha hb
section
variable {P : Program} {w : World} {A : Around} {E : Value → Shared → Prop} {s : Shared} {a : Addr}
theorem strs_of (P : Program) (w : World) : ∀ (l : List Value), (∀ v ∈ l, ∃ k tk, v = Value.str k tk) → StrsAre l (l.map (kyStr P w).key)
  | [], _ => .nil
  | v :: l, h => by
    obtain ⟨k, tk, rfl⟩ := h v List.mem_cons_self
    exact .cons k tk (strs_of P w l fun u hu => h u (List.mem_cons_of_mem _ hu))
theorem list_sort_treeSt {a : Addr} {vs : List Value} {ss : List Str} {n : Nat} {Q : Fin → Shared → Prop} (ho : s.heap.get? a = some (seqObj "list" vs.toArray n))
    (hS : StrsAre vs ss) (hL : vs.length ≤ sizeLine)
    (h : ∀ (out : Array Value) (ss' : List Str), StrsAre out.toList ss' → ss'.Perm ss → sortedS ss' = true → Q (.done (.ret .none)) { s with heap := sortedHeap s.heap a vs out }) :
    wpAny (model P w) A (Builtin.«list.sort» ⟨[.ref a], []⟩) Q E s := by
  refine list_sort_treeKAny strKind_oneLt ho hS.keysOf (fun v₁ v₂ rest e => keyKind_strs (by rw [← e]; exact hS)) hL fun st' hp hs => ?_
  obtain ⟨ss', h1, h2, h3⟩ := sorted_out_str hS hp hs
  exact h _ ss' h1 h2 h3
theorem sorted_setS {S : Str → Bool} {n : Nat} {Q : Value → Shared → Prop} (R : SetG (kyStr P w) s.heap a S n) (hh : A.handled = none)
    (hQ : ∀ s' p (out : Array Value) (c : Nat) (ns : List Str), (∀ b o, s.heap.get? b = some o → s'.heap.get? b = some o) → s'.gens = s.gens → s'.os = s.os → s.heap.objs.size ≤ p →
      s'.heap.get? p = some (seqObj "list" out c) → StrsAre out.toList ns → sortedS ns = true → ns.Nodup → (∀ k, k ∈ ns ↔ S k = true) → ns.length = n → Q (.ref p) s') :
    wpAny (model P w) A (call (.builtin "sorted") [.ref a]) Q E s := by
  obtain ⟨o, es, ep, t, ho, hex, hd, g, nd, hm, hb, hf, hn, hr, hl⟩ := R
  refine Calls.call_function_entry kind_sorted plain_sorted entry_sorted (args_sorted1 _) ?_
  unfold Builtin.«sorted»
  refine wpAny_bind (m := checkCount "sorted" 1 1 _) (wpAny_pure ?_)
  refine wpAny_bind (collect_set (A := A.in1) hh ⟨o, ho, hex.1, hd⟩ hf hb hr hl fun s1 vs k1 hz g1 o1 pm => ?_)
  have hvl : vs.length = n := by rw [pm.length_eq, List.length_map, Array.length_toList]; exact hn
  have hvz : vs.length ≤ sizeLine := by rw [hvl, ← hn]; exact fits_of_scanBound hb
  have hI : StrsAre vs (vs.map (kyStr P w).key) := strs_of P w vs fun v hv => by
    obtain ⟨e, he, q⟩ := List.mem_map.mp (pm.mem_iff.mp hv)
    obtain ⟨k, tk, h1, _⟩ := g e he
    exact ⟨k, tk, by rw [← q]; exact h1⟩
  have pk : (vs.map (kyStr P w).key).Perm (es.toList.map (keyG (kyStr P w))) := by
    have q := pm.map (kyStr P w).key
    rw [List.map_map] at q
    exact q
  refine wpAny_bind (wpAny_newList ?_ hvz)
  have hoL : (s1.heap.push (seqObj "list" vs.toArray 0)).get? s1.heap.objs.size = some (seqObj "list" vs.toArray 0) := Heap.get?_push_size _ rfl
  refine wpAny_bind (wpAny_holding (wpAny_call_entry slot_list_sort ⟨_, hoL, rfl⟩ entry_list_sort (list_sort_treeSt hoL hI hvz fun out ns' a1 a2 a3 => ⟨_, rfl, ?_⟩) (args_list_sort _)))
  obtain ⟨c, hc⟩ := sortedHeap_at (vs := vs) (out := out) hoL
  have pn : ns'.Perm (es.toList.map (keyG (kyStr P w))) := a2.trans pk
  refine wpAny_pure ⟨_, rfl, hQ _ s1.heap.objs.size out c ns' (fun b u e => ?_) g1 o1 hz hc a1 a3 (pn.nodup_iff.mpr nd) (fun k => by rw [pn.mem_iff, ← hm k]) ?_⟩
  · have q := k1 b u e
    have hlt := Heap.lt_size q
    show (sortedHeap (s1.heap.push (seqObj "list" vs.toArray 0)) s1.heap.objs.size vs out).get? b = some u
    rw [sortedHeap_old (Nat.ne_of_lt hlt) (by rw [size_push']; exact Nat.lt_succ_of_lt hlt)]
    exact Heap.get?_push_of_some _ q
  · rw [pn.length_eq, List.length_map, Array.length_toList]; exact hn
end
/-! ### the calls -/
section
variable {X : Cx}
/-- the set of texts at a -/
def SetS (P : Program) (w : World) (a : Addr) (S : Str → Bool) (n : Nat) : HO := .ext fun h => SetG (kyStr P w) h a S n
theorem setS_new {w : World} {P P' : Program} {H : Hp} {h : Heap} {a : Addr} {S : Str → Bool} {n : Nat} (R : SetG (kyStr P' w) h a S n) : ObjOk P w H h a (SetS P' w a S n) := by
  have ⟨o, _, _, _, ho, _⟩ := R
  exact ⟨R, ⟨o, ho⟩, fun h1 h2 p k => SetG.at p k⟩
theorem setS_get {pins : List (Addr × Obj)} {σ : L2.St} {H : Hp} {s : Shared} {a : Addr} {S : Str → Bool} {n : Nat} (I : Inv X pins σ H s) (ha : H a = some (SetS X.prog X.w a S n)) : SetG (kyStr X.prog X.w) s.heap a S n := (I.hok a _ ha).1
/-- set(list of texts) -/
def rSetS (K : PySem.W.Frag) (P : Program) (w : World) : List V → Hp → VK → Prop := fun xs H Q => ∃ (l : Addr) (ks : List Str), xs = [.ref l] ∧ SqL K H l (ks.map V.str) ∧ ks.length < 1000 ∧
  ∀ (p : Addr) (n : Nat), H p = none → n ≤ ks.length → Q (.ref p) (upd H p (SetS P w p (fun k => decide (k ∈ ks)) n))
theorem vals_at : ∀ {xs : List Str} {us : List Value}, Vals (xs.map V.str) us → ∀ (i : Nat) (v : Value), us[i]? = some v → ∃ k t, xs[i]? = some k ∧ v = Value.str k t
  | [], us, r, i, v, h => by
    cases r
    simp at h
  | x :: xs, us, r, i, v, h => by
    cases r with
    | cons r1 r =>
      obtain ⟨t, rfl⟩ := r1
      cases i with
      | zero =>
        simp at h
        exact ⟨x, t, rfl, h.symm⟩
      | succ i => exact vals_at r i v (by simpa using h)
theorem cr_setS (hc : X.calm = true) : CallR X (.type "set") (rSetS X.K X.prog X.w) := by
  intro pins s σ H xs us Q I r h
  obtain ⟨l, ks, rfl, hs, h1000, q⟩ := h
  obtain ⟨its, rv, hl, _⟩ := I.list hs
  rw [Vals.ref1 r]
  have hlen := rv.length
  rw [List.length_map] at hlen
  refine call_set_listG (T := kyStr X.prog X.w) (xs := ks) (I.ok.hd hc) hl.isList (by simpa using hlen) (fun i v hv => vals_at rv i v (by simpa using hv)) (by unfold scanBound; omega) fun h' tk m hm R k => ?_
  exact ⟨.ref _, upd H s.heap.objs.size (SetS X.prog X.w s.heap.objs.size (fun k => decide (k ∈ ks)) m), I.laid (t' := tk) (fun b u e => k b u (Heap.lt_size e) e) (Nat.le_refl _) (setS_new R), rfl, q _ _ (I.hok.fresh (Nat.le_refl _)) hm⟩
/-- sorted(set of texts) -/
def rSortSS (P : Program) (w : World) : List V → Hp → VK → Prop := fun xs H Q => ∃ (a : Addr) (S : Str → Bool) (n : Nat), xs = [.ref a] ∧ H a = some (SetS P w a S n) ∧ n < 1000 ∧
  ∀ (ns : List Str) (p : Addr), sortedS ns = true → ns.Nodup → (∀ k, k ∈ ns ↔ S k = true) → ns.length = n → H p = none → Q (.ref p) (upd H p (.lst (ns.map V.str)))
theorem cr_sortSS (hc : X.calm = true) : CallR X (.builtin "sorted") (rSortSS X.prog X.w) := by
  intro pins s σ H vs us Q I r h
  obtain ⟨a, S, n, rfl, ha, h64, q⟩ := h
  have R := setS_get I ha
  rw [Vals.ref1 r]
  refine sorted_setS R (I.ok.hd hc) fun s' p out c ns k g o hp hg hi hs hnd hm hl => ?_
  have hlen : (ns.map V.str).length ≤ sizeLine := by rw [List.length_map, hl, sizeLine_eq]; omega
  have hn : H p = none := I.hok.fresh hp
  have J : Inv X pins σ (upd H p (.lst (ns.map V.str))) { s with heap := s'.heap, gens := s'.gens, drawn := s'.drawn, toks := s'.toks } :=
    I.call (ch := []) (Un.laid k hp hn) (I.hok.laid k hp ⟨hlen, out.toList, c, vals_of_strs hi, hg⟩) (by rw [g]; exact I.bare) (fun _ z => nomatch z)
  have e : s' = { s with heap := s'.heap, gens := s'.gens, drawn := s'.drawn, toks := s'.toks } := by
    cases s'
    cases s
    cases o
    rfl
  rw [e]
  exact ⟨.ref p, _, J, rfl, q ns p hs hnd hm hl hn⟩
/-! ### ints -/
def kyInt (P : Program) (w : World) : KyT P w Int where
  knd := PySem.intKind P w
  mkv := Value.int
  key := fun v => match v with | .int k _ => k | _ => 0
  hk := fun _ _ => rfl
  his := fun k t => intKind_is P w k t
  iff := fun k k0 t => by
    show ((k0 == k) = true) ↔ k0 = k
    exact beq_iff_eq
  hsc := fun _ _ => rfl
theorem setR_of {P : Program} {w : World} {h : Heap} {a : Addr} {S : Int → Bool} {n : Nat} (R : SetG (kyInt P w) h a S n) : SetR w h a S n := by
  obtain ⟨o, es, ep, t, ho, hex, hd, g, nd, hm, r⟩ := R
  exact ⟨o, es, ep, t, ho, hex, hd, g, nd, hm, r⟩
/-- set(list of ints) -/
def rSetI2 (K : PySem.W.Frag) (w : World) : List V → Hp → VK → Prop := fun xs H Q => ∃ (l : Addr) (ks : List Int), xs = [.ref l] ∧ SqL K H l (ks.map V.int) ∧ ks.length < 1000 ∧
  ∀ (p : Addr) (n : Nat), H p = none → n ≤ ks.length → Q (.ref p) (upd H p (SetO w p (fun k => decide (k ∈ ks)) n))
theorem vals_atI2 : ∀ {xs : List Int} {us : List Value}, Vals (xs.map V.int) us → ∀ (i : Nat) (v : Value), us[i]? = some v → ∃ k t, xs[i]? = some k ∧ v = Value.int k t
  | [], us, r, i, v, h => by
    cases r
    simp at h
  | x :: xs, us, r, i, v, h => by
    cases r with
    | cons r1 r =>
      obtain ⟨t, rfl⟩ := r1
      cases i with
      | zero =>
        simp at h
        exact ⟨x, t, rfl, h.symm⟩
      | succ i => exact vals_atI2 r i v (by simpa using h)
theorem cr_setI2 (hc : X.calm = true) : CallR X (.type "set") (rSetI2 X.K X.w) := by
  intro pins s σ H xs us Q I r h
  obtain ⟨l, ks, rfl, hs, h1000, q⟩ := h
  obtain ⟨its, rv, hl, _⟩ := I.list hs
  rw [Vals.ref1 r]
  have hlen := rv.length
  rw [List.length_map] at hlen
  refine call_set_listG (T := kyInt X.prog X.w) (xs := ks) (I.ok.hd hc) hl.isList (by simpa using hlen) (fun i v hv => vals_atI2 rv i v (by simpa using hv)) (by unfold scanBound; omega) fun h' tk m hm R k => ?_
  exact ⟨.ref _, upd H s.heap.objs.size (SetO X.w s.heap.objs.size (fun k => decide (k ∈ ks)) m), I.laid (t' := tk) (fun b u e => k b u (Heap.lt_size e) e) (Nat.le_refl _) (setO_new (setR_of R)), rfl, q _ _ (I.hok.fresh (Nat.le_refl _)) hm⟩
end
end So

/-! a comprehension of two fors: the outer walk, the inner walk -/
namespace So
open PySem PySem.Spec PyProof.Rows L2
/-- what the inner for of a comprehension asks; Nx: what holds behind it -/
def Inn (J : It) (g : TG) (tt : TT) (te : TE) (vs : List Nat) (σ : L2.St) (D : Addr) (H0 : Hp) (Nx : Hp → Prop) : Prop :=
  ∃ W1 : Nat → Nat → Hp → Prop, (∃ m, W1 0 m H0) ∧ ∀ j k H, W1 j k H → (J.stop j H ∧ Nx H) ∨ (J.go j H ∧ ∃ N1 : Hp → Prop, (∀ H', N1 H' → ∃ k', k' < k ∧ W1 (j + 1) k' H') ∧ ∀ x H', J.yld j H x H' → g x (wipe σ vs) H' fun σ3 H5 => wipe σ3 vs = wipe σ vs ∧ tt σ3 H5 fun b H6 =>
    if b = true then te σ3 H6 fun y H7 => ∃ acc, H7 D = some (.lst acc) ∧ acc.length < sizeLine ∧ N1 (upd H7 D (.lst (acc ++ [y]))) else N1 H6)
section
variable {n : Nat} {J : It} {G : Hp → Prop} {Y : Nat → Hp → V → Hp → Prop}
theorem inn_it (w : Walk J n G Y) {g : TG} {tt : TT} {te : TE} {vs : List Nat} {σ : L2.St} {H0 : Hp} {D : Addr} {Nx : Hp → Prop} (Pv : Nat → Hp → Prop) (h0 : Pv 0 H0) (hG : ∀ i H, i ≤ n → Pv i H → G H)
    (hs : ∀ i x H H', i < n → Pv i H → Y i H x H' → g x (wipe σ vs) H' fun σ2 H2 => wipe σ2 vs = wipe σ vs ∧ tt σ2 H2 fun b H3 =>
      if b = true then te σ2 H3 fun y H4 => ∃ acc, H4 D = some (.lst acc) ∧ acc.length < sizeLine ∧ Pv (i + 1) (upd H4 D (.lst (acc ++ [y]))) else Pv (i + 1) H3) (hd : ∀ H, Pv n H → Nx H) : Inn J g tt te vs σ D H0 Nx := by
  refine ⟨fun i m H => m = n - i ∧ i ≤ n ∧ Pv i H, ⟨n, (Nat.sub_zero n).symm, Nat.zero_le _, h0⟩, ?_⟩
  rintro i m H ⟨rfl, hi, p⟩
  have q := hG i H hi p
  rcases Nat.lt_or_ge i n with hlt | hge
  · refine .inr ⟨w.goes i H hlt q, Pv (i + 1), fun H' p' => ⟨n - (i + 1), by omega, rfl, hlt, p'⟩, fun x H' y => hs i x H H' hlt p (w.yields i H x H' hlt q y)⟩
  · obtain rfl : i = n := by omega
    exact .inl ⟨w.stops H q, hd H p⟩
theorem lc2_it (w : Walk J n G Y) {g g1 : TG} {tt tt1 : TT} {te : TE} {wi1 : TI} {vs vs1 : List Nat} {σ : L2.St} {H1 : Hp} {D : Addr} {Qd : Hp → Prop} (Pv : Nat → Hp → Prop) (h0 : Pv 0 (upd H1 D (.lst []))) (hG : ∀ i H, i ≤ n → Pv i H → G H)
    (hs : ∀ i x H H', i < n → Pv i H → Y i H x H' → g x (wipe σ vs) H' fun σ2 H2 => wipe σ2 vs = wipe σ vs ∧ tt σ2 H2 fun b H3 =>
      if b = true then wi1 σ2 H3 fun J1 H4 => Inn J1 g1 tt1 te vs1 σ2 D H4 (Pv (i + 1)) else Pv (i + 1) H3) (hd : ∀ H, Pv n H → Qd H) :
    ∃ W : Nat → Nat → Hp → Prop, (∃ m, W 0 m (upd H1 D (.lst []))) ∧ ∀ i m H, W i m H →
      (J.stop i H ∧ Qd H) ∨ (J.go i H ∧ ∃ Nx : Hp → Prop, (∀ H', Nx H' → ∃ m', m' < m ∧ W (i + 1) m' H') ∧ ∀ x H', J.yld i H x H' → g x (wipe σ vs) H' fun σ2 H2 => wipe σ2 vs = wipe σ vs ∧ tt σ2 H2 fun b H3 =>
        if b = true then wi1 σ2 H3 fun J1 H4 => Inn J1 g1 tt1 te vs1 σ2 D H4 Nx else Nx H3) := by
  refine ⟨fun i m H => m = n - i ∧ i ≤ n ∧ Pv i H, ⟨n, (Nat.sub_zero n).symm, Nat.zero_le _, h0⟩, ?_⟩
  rintro i m H ⟨rfl, hi, p⟩
  have q := hG i H hi p
  rcases Nat.lt_or_ge i n with hlt | hge
  · refine .inr ⟨w.goes i H hlt q, Pv (i + 1), fun H' p' => ⟨n - (i + 1), by omega, rfl, hlt, p'⟩, fun x H' y => hs i x H H' hlt p (w.yields i H x H' hlt q y)⟩
  · obtain rfl : i = n := by omega
    exact .inl ⟨w.stops H q, hd H p⟩
end
end So

/-! the truth of an instance by its own __bool__, bool(x) and len(x) by own __bool__ and __len__ -/
namespace So
open PySem PySem.Spec PyProof.Rows L2
section
variable {X : Cx} {CX : CXT} {k : Nat} {C f : Addr} {fd : FuncData} {ps : List Str} {sp : Sp} {E : XK}
/-- a method of one argument, called a room deeper or here -/
theorem run_one {pins : List (Addr × Obj)} {s : Shared} {σ : L2.St} {H : Hp} {a : Addr} {Q : VK} {A : Around} (F : FnOk X.prog X.w X.K X.mg X.base CX k f fd ps sp) (hb : Binds X.K fd ps [])
    (hx : Passes CX X E) (hr : Room k A) (hf : A.frames = X.A.frames) (I : Inv X pins σ H s) (h : sp [.ref a] H Q E) : wpAny (model X.prog X.w) A (call (.ref f) [.ref a]) (EP X pins σ Q) X.xe s := by
  have e0 : Env0 X.prog X.w X.K X.mg X.base A X.stack s H := by
    have e := I.env0
    exact ⟨hf.trans e.frames, e.mod, e.bs, e.bsz, e.funs, e.frf, e.hok, e.bare⟩
  have hl : ([Value.ref a] ++ ([] : List Value)).length = ps.length := (F.len _ _ _ _ h : [V.ref a].length = ps.length)
  refine wpAny_call (codeAny_mono (F.run A X.stack s H ⟨[.ref a], []⟩ ([Value.ref a] ++ []) [.ref a] Q E hr e0 (hb s [Value.ref a] I.kIn hl) (.cons (show RelV (.ref a) (Value.ref a) from rfl) .nil) h) fun r s' hq => ?_)
  cases r with
  | error e => exact hx pins σ H s e s' I hq
  | ok fl =>
    cases fl with
    | ret w => exact I.after hq
    | next => exact False.elim hq
    | brk => exact False.elim hq
    | cont => exact False.elim hq
/-- as a test -/
theorem pt_own {e : Expr} {t : TE} (F : FnOk X.prog X.w X.K X.mg X.base CX k f fd ps sp) (hs : PySem.W.findIn X.K (.ref C) "__bool__" = some (some (.ref f))) (hf : PySem.W.isFn X.K (.ref f) = true) (hb : Binds X.K fd ps []) (hx : Passes CX X E) (hr : Room k X.A)
    (h : PE X e t) (he : ∀ whole, isTrue e X.env whole = (do let v ← whole; standAt e.pos; holding [v] (truthy v)) := by intro _; rfl) :
    PT X e (fun σ H Q => t σ H fun x H1 => ∃ a dx fs, x = .ref a ∧ H1 a = some (.ins C dx fs) ∧ sp [.ref a] H1 (fun v H' => ∃ b, v = .bl b ∧ Q b H') E) := by
  refine ⟨fun pins s σ H Q I hw => ?_⟩
  refine isTrue_plain (thn (h.run pins s σ H _ I hw) fun v s1 ⟨x, H1, I1, r1, q1⟩ => ?_) (he _)
  obtain ⟨a, dx, fs, rfl, ha, q⟩ := q1
  cases r1
  obtain ⟨mA, J, _⟩ := ins_get I1.hok ha
  obtain ⟨od, J, _⟩ := J.look
  obtain ⟨m, hF⟩ := I1.fr
  refine PySem.W.truthy_K hF I1.ok.mod.kin J hs hf (wpAny_mono (run_one F hb hx hr rfl I1 q) (fun w s' z => ?_) fun _ _ z => z)
  obtain ⟨v, H', I', rv, b, rfl, q'⟩ := z
  cases rv
  exact ⟨H', I', q'⟩
/-- len(x) -/
theorem call_lenO (F : FnOk X.prog X.w X.K X.mg X.base CX k f fd ps sp) (hs : PySem.W.findIn X.K (.ref C) "__len__" = some (some (.ref f))) (hf : PySem.W.isFn X.K (.ref f) = true) (hb : Binds X.K fd ps []) (hx : Passes CX X E) (hr : Room (k + 1) X.A) :
    CallR X (.builtin "len") (fun xs H Q => ∃ a dx fs, xs = [.ref a] ∧ H a = some (.ins C dx fs) ∧ sp [.ref a] H (fun v H' => ∃ n : Nat, v = .int n ∧ (n : Int) < 2 ^ 63 ∧ Q (.int n) H') E) := by
  intro pins s σ H xs us Q I r h
  obtain ⟨a, dx, fs, rfl, ha, q⟩ := h
  rw [Vals.ref1 r]
  obtain ⟨mA, J, _⟩ := ins_get I.hok ha
  obtain ⟨od, J, _⟩ := J.look
  obtain ⟨m, hF⟩ := I.fr
  refine PySem.W.len_K hF I.ok.mod.kin J hs hf (wpAny_mono (run_one F hb hx hr.in1 rfl I q) (fun w s' z => ?_) fun _ _ z => z)
  obtain ⟨v, H', I', rv, n, rfl, hn, q'⟩ := z
  obtain ⟨t, rfl⟩ := rv
  exact ⟨⟨Int.natCast_nonneg n, hn⟩, .int n, H', I'.tok _, ⟨_, rfl⟩, q'⟩
/-- bool(x) -/
theorem call_boolO (G : FnOk X.prog X.w X.K X.mg X.base CX k f fd ps sp) (hs : PySem.W.findIn X.K (.ref C) "__bool__" = some (some (.ref f))) (hf : PySem.W.isFn X.K (.ref f) = true) (hb : Binds X.K fd ps []) (hx : Passes CX X E) (hr : Room (k + 2) X.A) :
    CallR X (.type "bool") (fun xs H Q => ∃ a dx fs, xs = [.ref a] ∧ H a = some (.ins C dx fs) ∧ sp [.ref a] H (fun v H' => ∃ b, v = .bl b ∧ Q (.bl b) H') E) := by
  intro pins s σ H xs us Q I r h
  obtain ⟨a, dx, fs, rfl, ha, q⟩ := h
  rw [Vals.ref1 r]
  obtain ⟨mA, J, _⟩ := ins_get I.hok ha
  obtain ⟨od, J, _⟩ := J.look
  obtain ⟨m, hF⟩ := I.fr
  have tr : ∀ (R : Bool → Shared → Prop), (∀ b s' H', Inv X pins σ H' s' → Q (.bl b) H' → R b s') → wpAny (model X.prog X.w) X.A.in1.in1 (truthy (.ref a)) R X.xe s := fun R hR => by
    refine PySem.W.truthy_K hF I.ok.mod.kin J hs hf (wpAny_mono (run_one G hb hx hr.in1.in1 rfl I q) (fun w s' z => ?_) fun _ _ z => z)
    obtain ⟨v, H', I', rv, b, rfl, q'⟩ := z
    cases rv
    exact hR b s' H' I' q'
  refine callType_codes (Q₁ := fun ob s1 => ∃ b H', ob = .bool b ∧ Inv X pins σ H' s1 ∧ Q (.bl b) H') PySem.F.called_bool (PySem.F.typeCall_bool_1 _) PySem.F.entry_object_init (codeAny_call_builtin PySem.F.called_bool.plain F.entry_bool_new (wpAny_of_eq (PySem.F.newCall_bool_1 _) ?_)) fun ob s1 hq => ?_
  · have f1 := PySem.F.conv_sub_bool
    refine wpAny_mono (Q := fun fin s' => ∃ b H', fin = .done (.ret (.bool b)) ∧ Inv X pins σ H' s' ∧ Q (.bl b) H') ?_ (fun fin s' z => ?_) fun _ _ z => z
    · unfold Builtin.«bool.__new__»
      repeat (any_goals (first | assumption | (with_reducible refine tr _ fun b s' H' I' q' => ?_) | wp_step))
      exact ⟨_, _, rfl, I', q'⟩
    · obtain ⟨b, H', rfl, I', q'⟩ := z
      exact ⟨b, H', rfl, I', q'⟩
  · obtain ⟨b, H', rfl, I', q'⟩ := hq
    refine ⟨rfl, PySem.F.args_object_init_2 _ _, ?_⟩
    exact object_init_meets PySem.F.called_bool.init.lookup PySem.F.called_bool.made PySem.F.newNe_bool X.prog X.w X.A.in1 _ s1 ⟨rfl, rfl, .bl b, H', I', rfl, q'⟩
end
end So

/-! rules within a comprehension's block, the written part told -/
namespace So
open PySem PySem.Spec PyProof.Rows L2
section
variable {X : Cx} {K : PySem.W.Frag} {tg l e : Expr} {tl ta : TE} {f : Str} {pos : Pos}
theorem pi_tupK (h : X.K = K) (hl : PE X l tl) : PI X tg l (iTup K tl) := by
  subst h
  exact pi_tup hl
theorem pi_listK (h : X.K = K) (hl : PE X l tl) : PI X tg l (iList K tl) := by
  subst h
  exact pi_list hl
theorem pe_fldK (h : X.K = K) (he : PE X e ta) (hb : attributeBase e f X.env (eval e X.env) = eval e X.env) : PE X (.Attribute e f pos) (tFld K ta f) := by
  subst h
  exact pe_fld he hb
theorem ix_listK (h : X.K = K) : IxR X (rIxL K) := h ▸ ix_list
theorem ix_tupK (h : X.K = K) : IxR X (rIxT K) := h ▸ ix_tup
theorem op_inK (h : X.K = K) : OpR X (compareOp .In) (rIn K false) := by
  subst h
  exact op_in_seq
theorem op_notInK (h : X.K = K) : OpR X (compareOp .NotIn) (rIn K true) := by
  subst h
  exact op_notIn_seq
theorem lenK (h : X.K = K) : CallR X (.builtin "len") (fun xs H Q => ∃ (p : Addr) (ys : List V), xs = [V.ref p] ∧ (SqL K H p ys ∨ SqT K H p ys) ∧ Q (.int (ys.length : Nat)) H) := by
  subst h
  exact call_len_seq
end
end So

namespace K49
open PySem PySem.Spec PyProof.Rows L2 So
abbrev sListed : Stmt := inClass (topS 38) 2
abbrev sLen : Stmt := inClass (topS 38) 7
theorem scListed : FnScope ["self", "tool", "moments", "moment"] ["self"] (defScope sListed) := ⟨rfl, rfl, rfl, by decide +kernel, rfl, by decide +kernel, by decide +kernel⟩
theorem scLen : FnScope ["self"] ["self"] (defScope sLen) := ⟨rfl, rfl, rfl, by decide +kernel, rfl, by decide +kernel, by decide +kernel⟩
def ins1 (k : Int) : List Int → List Int
  | [] => [k]
  | x :: r => if k < x then k :: x :: r else if k = x then x :: r else x :: ins1 k r
def srt (l : List Int) : List Int := l.foldr ins1 []
theorem mem_ins1 {k j : Int} : ∀ {l : List Int}, j ∈ ins1 k l ↔ j = k ∨ j ∈ l
  | [] => by simp [ins1]
  | x :: r => by
    unfold ins1
    split
    · simp
    · split
      · rename_i h
        subst h
        simp
      · rw [List.mem_cons, mem_ins1 (l := r), List.mem_cons]
        constructor
        · rintro (h | h | h) <;> simp [h]
        · rintro (h | h | h) <;> simp [h]
theorem asc_ins1 {k : Int} : ∀ {l : List Int}, l.Pairwise (· < ·) → (ins1 k l).Pairwise (· < ·)
  | [], _ => by simp [ins1]
  | x :: r, h => by
    rw [List.pairwise_cons] at h
    unfold ins1
    split
    · rename_i hk
      refine List.pairwise_cons.mpr ⟨fun j hj => ?_, List.pairwise_cons.mpr h⟩
      rcases List.mem_cons.mp hj with e | e
      · omega
      · have := h.1 j e
        omega
    · split
      · exact List.pairwise_cons.mpr h
      · refine List.pairwise_cons.mpr ⟨fun j hj => ?_, asc_ins1 h.2⟩
        rcases mem_ins1.mp hj with e | e
        · omega
        · exact h.1 j e
theorem srt_asc : ∀ l : List Int, (srt l).Pairwise (· < ·)
  | [] => .nil
  | x :: r => asc_ins1 (srt_asc r)
theorem srt_mem {k : Int} : ∀ {l : List Int}, k ∈ srt l ↔ k ∈ l
  | [] => by simp [srt]
  | x :: r => by
    show k ∈ ins1 x (srt r) ↔ _
    rw [mem_ins1, srt_mem (l := r), List.mem_cons]
theorem srt_one {l ns : List Int} (h : l.Pairwise (· < ·)) (hm : ∀ k, k ∈ l ↔ k ∈ ns) : l = srt ns := pairwise_ext h (srt_asc ns) fun k => (hm k).trans srt_mem.symm
section
variable {P : Program} {w : World} {K : PySem.W.Frag} {mg : Str → Option Value} {base : Heap}
/-- an entry of the lives' dict: a tool and the tuple of its beginnings -/
def EntL (H : Hp) (kv : Key × V) (p : Str × List Int) : Prop := kv.1 = Sum.inr p.1 ∧ ∃ t, kv.2 = .ref t ∧ H t = some (.tup (p.2.map V.int))
/-- at a stand the lives L, in order -/
def LsAt (C : Addr) (H : Hp) (a : Addr) (L : List (Str × List Int)) : Prop := ∃ (dx d : Addr) (kvs : List (Key × V)), H a = some (.ins C dx [("_begun", .ref d)]) ∧ H d = some (.dK kvs) ∧ Paired (EntL H) kvs L
theorem EntL.same {H H' : Hp} {kv : Key × V} {p : Str × List Int} (h : EntL H kv p) (s : Same H H') : EntL H' kv p := by
  obtain ⟨e, t, e1, e2⟩ := h
  exact ⟨e, t, e1, s _ _ e2⟩
theorem LsAt.same {C : Addr} {H H' : Hp} {a : Addr} {L : List (Str × List Int)} (h : LsAt C H a L) (s : Same H H') : LsAt C H' a L := by
  obtain ⟨dx, d, kvs, h1, h2, h3⟩ := h
  exact ⟨dx, d, kvs, s _ _ h1, s _ _ h2, L2.Paired.mapP h3 fun _ _ e => e.same s⟩
theorem ls_get {H : Hp} (z : Str) : ∀ {kvs : List (Key × V)} {L : List (Str × List Int)}, Paired (EntL H) kvs L →
    (L.lookup z = none → valV kvs (.inr z) = none) ∧ ∀ ns, L.lookup z = some ns → ∃ t, valV kvs (.inr z) = some (.ref t) ∧ H t = some (.tup (ns.map V.int))
  | _, _, .nil => ⟨fun _ => rfl, fun ns e => by cases e⟩
  | _, _, .cons (a := kv) (b := p) h t => by
    obtain ⟨e, t', e1, e2⟩ := h
    obtain ⟨zp, ns'⟩ := p
    obtain ⟨kk, kv2⟩ := kv
    have e : kk = Sum.inr zp := e
    subst e
    by_cases c : z = zp
    · subst c
      refine ⟨fun hn => ?_, fun ns hn => ⟨t', (valV_pos rfl).trans (congrArg some e1), ?_⟩⟩
      · rw [List.lookup_cons, beq_self_eq_true] at hn
        cases hn
      · rw [List.lookup_cons, beq_self_eq_true] at hn
        cases hn
        exact e2
    · have en : ¬ (Sum.inr zp : Key) = Sum.inr z := fun y => c (Sum.inr.inj y).symm
      have eb : (z == zp) = false := beq_eq_false_iff_ne.mpr c
      obtain ⟨r1, r2⟩ := ls_get z t
      refine ⟨fun hn => ?_, fun ns hn => ?_⟩
      · rw [List.lookup_cons, eb] at hn
        rw [valV_neg en]
        exact r1 hn
      · rw [List.lookup_cons, eb] at hn
        rw [valV_neg en]
        exact r2 ns hn
theorem lookup_not {z : Str} : ∀ {L : List (Str × List Int)}, z ∉ L.map (·.1) → L.lookup z = none
  | [], _ => rfl
  | (y, ns) :: r, h => by
    rw [List.map_cons, List.mem_cons, not_or] at h
    rw [List.lookup_cons, show (z == y) = false from beq_eq_false_iff_ne.mpr h.1]
    exact lookup_not h.2
theorem lookup_mem {z : Str} {ns : List Int} : ∀ {L : List (Str × List Int)}, (L.map (·.1)).Nodup → (z, ns) ∈ L → L.lookup z = some ns
  | [], _, h => nomatch h
  | (y, ms) :: r, hn, h => by
    rw [List.map_cons, List.nodup_cons] at hn
    rcases List.mem_cons.mp h with e | e
    · cases e
      rw [List.lookup_cons, beq_self_eq_true]
    · have : z ≠ y := fun q => hn.1 (q ▸ List.mem_map_of_mem (f := (·.1)) e)
      rw [List.lookup_cons, show (z == y) = false from beq_eq_false_iff_ne.mpr this]
      exact lookup_mem hn.2 e
theorem lookup_in {z : Str} {ns : List Int} : ∀ {L : List (Str × List Int)}, L.lookup z = some ns → (z, ns) ∈ L
  | [], h => nomatch h
  | (y, ms) :: r, h => by
    rw [List.lookup_cons] at h
    by_cases c : z = y
    · subst c
      rw [beq_self_eq_true] at h
      cases h
      exact List.mem_cons_self
    · rw [show (z == y) = false from beq_eq_false_iff_ne.mpr c] at h
      exact List.mem_cons_of_mem _ (lookup_in h)
/-- the lives as they are told -/
structure LOk (L : List (Str × List Int)) : Prop where
  srt : sortedS (L.map (·.1)) = true
  nd : (L.map (·.1)).Nodup
  few : L.length < 64
  ns : ∀ z ns, (z, ns) ∈ L → isName z = true ∧ z.length ≤ 2000 ∧ ∃ l : List Int, ns = 0 :: l ∧ l.length < 64 ∧ (∀ n ∈ l, gBeg (.int n) = true) ∧ l.Pairwise (· < ·)
/-- a dict of beginnings: what Lives is made of, for the lives L -/
def BgL (K : PySem.W.Frag) (H : Hp) (d : Addr) (L : List (Str × List Int)) : Prop := ∃ (kvs : List (Key × V)) (ks : List Str), H d = some (.dK kvs) ∧ kvs.map (·.1) = ks.map Sum.inr ∧ ks.Perm (L.map (·.1)) ∧
  ∀ z ns, (z, ns) ∈ L → ∃ (l : Addr) (ms : List Int), valV kvs (.inr z) = some (.ref l) ∧ SqL K H l (ms.map V.int) ∧ ms.length < 64 ∧ (∀ n ∈ ms, gBeg (.int n) = true) ∧ ns = 0 :: srt ms
theorem BgL.same {d : Addr} {H H' : Hp} {L : List (Str × List Int)} (h : BgL K H d L) (s : Same H H') : BgL K H' d L := by
  obtain ⟨kvs, ks, h1, h2, h3, h6⟩ := h
  refine ⟨kvs, ks, s _ _ h1, h2, h3, fun z ns e => ?_⟩
  obtain ⟨l, ms, e1, e2, e3⟩ := h6 z ns e
  exact ⟨l, ms, e1, e2.ext s, e3⟩
/-- Lives.__init__ of such a dict -/
def spLInitL (K : PySem.W.Frag) (C : Addr) : Sp := fun vs H Q _ => ∃ (x dx d : Addr) (L : List (Str × List Int)), vs = [.ref x, .ref d] ∧ H x = some (.ins C dx []) ∧ BgL K H d L ∧ LOk L ∧ ∀ H', Off x H H' → LsAt C H' x L → Q .non H'
theorem ok_linitL {f C fW : Addr} {fd fdW : FuncData} (F : Fun K "__init__" "Lives.__init__" sLInit f fd) (T : Lvs K mg C) (L : WordsL mg) (FW : Fun K "with_first" "with_first" sWith fW fdW) (bW : Binds K fdW ["tool", "moments"] []) (gW : mg "with_first" = some (.ref fW))
    (GW : FnOk P w K mg base CX0 4 fW fdW ["tool", "moments"] (spWith K)) : FnOk P w K mg base CX0 5 f fd ["self", "begun"] (spLInitL K C) := by
  refine F.ok scLInit (fun vs H Q E h => ?_) (fun cdv A outer s H vs Q E hr h => ?_)
  · obtain ⟨x, dx, d, F, rfl, _⟩ := h
    rfl
  · obtain ⟨x, dx, d, L0, rfl, hx, hb, hO, q⟩ := h
    obtain ⟨kvs, ks, hd, hk, hpm, hv⟩ := id hb
    have h64 : ks.length < 64 := by rw [hpm.length_eq, List.length_map]; exact hO.few
    refine ⟨_, pss_one (ps_fld (pv 0) (pe_dc (own := [("tool", 2)]) (g := gName 2) (tt := tYes) rfl scLInit.nd (pi_list (pe_callB (call_sortedD rfl) (by rfl) L.sorted (by decide +kernel) (pa_cons (pv 1) pa_nil))) (blkOk_by (N := ["self", "begun", "tool"]) (sc := defScope sLInit) (by decide +kernel))
        (fun _ _ _ _ _ => pg_name (i := 2) scLInit.nd rfl (Or.inl rfl)) (fun _ _ _ _ _ => pts_nil) (fun _ _ _ _ _ => pv 2)
        (fun _ _ _ _ _ => pe_call GW hr (by rfl) gW FW.kp bW .nil pass0 (pa_cons (pv 2) (pa_cons (pe_dget (hu_of hr) (pv 1) (pv 2) (fun _ _ => rfl)) pa_nil)))) rfl), ?_⟩
    refine ⟨_, rfl, d, kvs, ks, rfl, .inl hd, hk, h64, fun ys p hp hsrt hpn => ⟨p, rfl, ⟨_, SqL.of upd_same⟩, fun D hD => ?_⟩⟩
    have sp : Same H (upd H p (.lst (ys.map V.str))) := same_upd0 hpn
    obtain rfl : ys = L0.map (·.1) := sortedS_one hsrt hO.srt (((hp.trans hpm).nodup_iff).mpr hO.nd) hO.nd fun k => (hp.trans hpm).mem_iff
    refine dc_it walk_list (fun i H' => Same (upd H p (.lst ((L0.map (·.1)).map V.str))) H' ∧ ∃ kvs' : List (Key × V), H' D = some (.dK kvs') ∧ Paired (EntL H') kvs' (L0.take i)) ⟨same_upd0 hD, [], upd_same, .nil⟩ (fun _ _ _ y => SqL.of (y.1 _ _ upd_same)) ?_ ?_
    · rintro i v H2 H3 hi ⟨s2, kvs', hD2, y2⟩ ⟨rfl, hv2⟩
      rw [List.length_map, List.length_map] at hi
      obtain ⟨⟨z, ns⟩, hz⟩ : ∃ p, L0[i]? = some p := ⟨_, List.getElem?_eq_getElem hi⟩
      rw [List.getElem?_map, List.getElem?_map, hz] at hv2
      obtain rfl : V.str z = v := Option.some.inj hv2
      have hmem := List.mem_of_getElem? hz
      obtain ⟨hn1, hn2, _⟩ := hO.ns z ns hmem
      obtain ⟨l, ms, hl1, hl3, hl4, hl5, rfl⟩ := hv z ns hmem
      have sA := sp.trans s2
      have et : L0.take (i + 1) = L0.take i ++ [(z, 0 :: srt ms)] := by rw [List.take_add_one, hz]; rfl
      have hfresh : valV kvs' (.inr z) = none := by
        refine (ls_get z y2).1 (lookup_not fun hin => ?_)
        have nd := hO.nd
        rw [← List.take_append_drop i L0, List.map_append, List.nodup_append] at nd
        have hdrop : z ∈ (L0.drop i).map (·.1) := by
          refine List.mem_map.mpr ⟨(z, 0 :: srt ms), ?_, rfl⟩
          refine List.mem_of_getElem? (i := 0) ?_
          rw [List.getElem?_drop, Nat.add_zero]
          exact hz
        exact nd.2.2 z hin z hdrop rfl
      have hl2 : kvs'.length ≤ i := by
        rw [Paired.length y2, List.length_take]
        exact Nat.min_le_left _ _
      refine ⟨rfl, _, rfl, _, rfl, _, rfl, _, rfl, d, _, rfl, .inl ⟨kvs, .inr z, .inl (sA _ _ hd), rfl, hl1.symm⟩, ?_⟩
      have few := hO.few
      refine ⟨z, l, ms, rfl, hn1, hn2, .inl (hl3.ext sA), hl4, hl5, fun t later H4 s4 hw hm ht => ?_⟩
      obtain rfl : later = srt ms := srt_one hw hm
      refine ⟨kvs', .inr z, rfl, s4 _ _ hD2, Nat.lt_of_le_of_lt hl2 (by have := sizeLine_eq; omega), ?_⟩
      have nD : ∀ {t : Addr} {xs : List V}, H4 t = some (.tup xs) → t ≠ D := fun ht z => by rw [z, s4 _ _ hD2] at ht; cases ht
      refine ⟨fun b o e => ?_, _, upd_same, ?_⟩
      · rw [upd_ne (ne_of_none e hD)]
        exact s4 _ _ (s2 _ _ e)
      · rw [putK_new _ hfresh, et]
        refine Paired.snoc (L2.Paired.mapP y2 fun kv p e => ?_) ⟨rfl, t, rfl, (upd_ne (nD ht)).trans ht⟩
        obtain ⟨e0, t2, e1, e2⟩ := e
        have e3 := s4 _ _ e2
        exact ⟨e0, t2, e1, (upd_ne (nD e3)).trans e3⟩
    · rintro H2 ⟨s2, kvs', hD2, y2⟩
      have sA := sp.trans s2
      refine ⟨_, rfl, x, C, dx, [], rfl, sA _ _ hx, T.cl, T.nB, (by show 0 < 1000; decide), ?_⟩
      have nDx : D ≠ x := fun z => by rw [z, sA _ _ hx] at hD2; cases hD2
      rw [List.length_map, List.length_map, List.take_length] at y2
      refine q _ (fun b o n e => (upd_ne n).trans (sA _ _ e)) ⟨dx, D, kvs', upd_same, (upd_ne nDx).trans hD2, L2.Paired.mapP y2 fun kv p e => ?_⟩
      obtain ⟨e0, t2, e1, e2⟩ := e
      exact ⟨e0, t2, e1, (upd_ne (fun y => by rw [y, sA _ _ hx] at e2; cases e2)).trans e2⟩
/-- a life, as it is kept -/
def LfAt (H : Hp) (j : Addr) (e : Str × Int) : Prop := H j = some (.tup [.str e.1, .int e.2])
/-- the lives one by one -/
def lvs (L : List (Str × List Int)) : List (Str × Int) := L.flatMap fun p => p.2.map fun n => (p.1, n)
theorem lvs_len : ∀ {L : List (Str × List Int)} {m : Nat}, (∀ p ∈ L, p.2.length ≤ m) → (lvs L).length ≤ L.length * m
  | [], _, _ => by simp [lvs]
  | p :: r, m, h => by
    have h1 := lvs_len (L := r) (m := m) fun q hq => h q (List.mem_cons_of_mem _ hq)
    have h2 := h p List.mem_cons_self
    show ((p.2.map fun n => (p.1, n)) ++ lvs r).length ≤ _
    rw [List.length_append, List.length_map, List.length_cons, Nat.succ_mul]
    omega
theorem LOk.small {L : List (Str × List Int)} (h : LOk L) : (lvs L).length ≤ 64 * 64 := by
  refine Nat.le_trans (lvs_len (m := 64) fun p hp => ?_) (Nat.mul_le_mul (Nat.le_of_lt h.few) (Nat.le_refl _))
  obtain ⟨_, _, l, e, h1, _⟩ := h.ns p.1 p.2 hp
  rw [e, List.length_cons]
  omega
theorem lvs_mem {L : List (Str × List Int)} {z : Str} {n : Int} : (z, n) ∈ lvs L ↔ ∃ ns, (z, ns) ∈ L ∧ n ∈ ns := by
  unfold lvs
  rw [List.mem_flatMap]
  constructor
  · rintro ⟨⟨z', ns⟩, h1, h2⟩
    obtain ⟨m, h3, h4⟩ := List.mem_map.mp h2
    cases h4
    exact ⟨ns, h1, h3⟩
  · rintro ⟨ns, h1, h2⟩
    exact ⟨_, h1, List.mem_map.mpr ⟨n, h2, rfl⟩⟩
theorem unlock_same {H H' : Hp} {d : Addr} {u o : HO} (h : H d = some u) (s : Same (upd H d o) H') : Same H (upd H' d u) := fun b x e => by
  by_cases c : b = d
  · subst c
    rw [upd_same]
    exact h.symm.trans e
  · rw [upd_ne c]
    exact s _ _ ((upd_ne c).trans e)
theorem over3 {H H1 : Hp} {D : Addr} {o : HO} (s : Same H H1) (h : H D = none) : Same H (upd H1 D o) := Same.over s h
/-- all lives, one by one -/
def spListed (C : Addr) : Sp := fun vs H Q _ => ∃ (a : Addr) (L : List (Str × List Int)), vs = [.ref a] ∧ LsAt C H a L ∧ LOk L ∧ ∀ (H' : Hp) (t : Addr) (js : List Addr), Same H H' → H' t = some (.tup (js.map V.ref)) → Paired (LfAt H') js (lvs L) → Q (.ref t) H'
theorem ok_listed {C f : Addr} {fd : FuncData} (F : Fun K "listed" "Lives.listed" sListed f fd) (T : Lvs K mg C) (L : WordsL mg) : FnOk P w K mg base CX0 1 f fd ["self"] (spListed C) := by
  refine F.ok scListed (fun vs H Q E h => ?_) (fun cdv A outer s H vs Q E hr h => ?_)
  · obtain ⟨a, L, rfl, _⟩ := h
    rfl
  · obtain ⟨a, L0, rfl, hL, hO, q⟩ := h
    obtain ⟨dx, d, kvs, h1, h2, h3⟩ := id hL
    refine ⟨_, pss_one (ps_ret (pe_callTy call_tuple_of (by rfl) L.tuple (by decide +kernel) (pa_cons (pe_lock (pe_lc2 (own := [("tool", 1), ("moments", 2), ("moment", 3)]) (vs1 := [3]) (g := gTup K 2 (gCons (gName 1) (gCons (gName 2) gNil))) (g1 := gName 3) (tt := tYes) (tt1 := tYes) rfl scListed.nd (pi_items (pe_fld (pv 0) rfl)) (blkOk_by (N := ["self", "tool", "moments", "moment"]) (sc := defScope sListed) (by decide +kernel)) (by decide)
        (fun _ _ _ _ _ => pg_tup rfl (pgs_cons (pg_name (i := 1) scListed.nd rfl (Or.inl rfl)) (pgs_cons (pg_name (i := 2) scListed.nd rfl (Or.inl rfl)) pgs_nil))) (fun _ _ _ _ _ => pts_nil)
        (fun _ _ _ _ _ => pi_tupK (K := K) rfl (pv 2)) (fun _ _ _ _ _ => pg_name (i := 3) scListed.nd rfl (Or.inl rfl)) (fun _ _ _ _ _ => pts_nil)
        (fun _ _ _ _ _ => pe_tup (pa_cons (pv 1) (pa_cons (pv 3) pa_nil))))) pa_nil))), ?_⟩
    refine ⟨d, _, h2, True.intro, fun od => ?_⟩
    have na : a ≠ d := fun z => by rw [z, h2] at h1; cases h1
    refine ⟨_, rfl, a, C, dx, _, _, rfl, (upd_ne na).trans h1, T.cl, T.nB, rfl, d, od, kvs, rfl, upd_same, fun D hD => ?_⟩
    have hDd : D ≠ d := fun z => by rw [z, upd_same] at hD; cases hD
    have hDH : H D = none := (upd_ne hDd).symm.trans hD
    have h3' : Paired (EntL (upd H d (.frz od (.dK kvs)))) kvs L0 := L2.Paired.mapP h3 fun kv p e => by
      obtain ⟨e0, t, e1, e2⟩ := e
      exact ⟨e0, t, e1, (upd_ne (fun z => by rw [z, h2] at e2; cases e2)).trans e2⟩
    have hlen := Paired.length h3
    have hsm := hO.small
    have hss := sizeLine_eq
    have hd1 : upd H d (.frz od (.dK kvs)) d = some (.frz od (.dK kvs)) := upd_same
    generalize hH1 : upd H d (.frz od (.dK kvs)) = H1 at hD h3' hd1 ⊢
    refine lc2_it walk_items (fun k H' => Same H1 H' ∧ ∃ rs : List Addr, H' D = some (.lst (rs.map V.ref)) ∧ Paired (LfAt H') rs (lvs (L0.take k))) ⟨same_upd0 hD, [], upd_same, .nil⟩ (fun _ _ _ y => y.1 _ _ hd1) ?_ ?_
    · rintro k x H2 H3 hk ⟨s2, rs, hD2, hpr⟩ ⟨Tt, x1, x2, rfl, hT, rfl, hx1, hx2⟩
      obtain ⟨kv, hkv⟩ : ∃ kv, kvs[k]? = some kv := ⟨_, List.getElem?_eq_getElem hk⟩
      obtain ⟨⟨z, ns⟩, hp, ez, t, et, ht⟩ := L2.paired_get h3' hkv
      have hx1 : kvs[k]?.map (fun kv => kV kv.1) = some x1 := hx1
      have hx2 : kvs[k]?.map Prod.snd = some x2 := hx2
      rw [hkv] at hx1 hx2
      obtain ⟨kk, kv2⟩ := kv
      have ez : kk = Sum.inr z := ez
      have et : kv2 = .ref t := et
      subst ez et
      obtain rfl : V.str z = x1 := Option.some.inj hx1
      obtain rfl : V.ref t = x2 := Option.some.inj hx2
      have hmem := List.mem_of_getElem? hp
      obtain ⟨_, _, l, el, hl64, _⟩ := hO.ns z ns hmem
      have hnl : ns.length ≤ 64 := by rw [el, List.length_cons]; omega
      have etk : lvs (L0.take (k + 1)) = lvs (L0.take k) ++ ns.map fun n => (z, n) := by
        rw [List.take_add_one, hp]
        unfold lvs
        rw [List.flatMap_append]
        simp
      have hle : (lvs (L0.take k)).length + ns.length ≤ 64 * 64 := by
        have e1 : lvs L0 = lvs (L0.take (k + 1)) ++ lvs (L0.drop (k + 1)) := by
          unfold lvs
          rw [← List.flatMap_append, List.take_append_drop]
        rw [e1, List.length_append, etk, List.length_append, List.length_map] at hsm
        omega
      have s3 : Same H2 (upd H2 Tt (.tup [.str z, .ref t])) := same_upd0 hT
      refine ⟨Tt, _, rfl, SqT.of upd_same, rfl, _, _, rfl, _, _, rfl, rfl, rfl, ?_⟩
      have s13 := s2.trans s3
      refine ⟨_, rfl, t, rfl, ⟨_, SqT.of (s13 _ _ ht)⟩, ?_⟩
      have hpr3 : Paired (LfAt (upd H2 Tt (.tup [.str z, .ref t]))) rs (lvs (L0.take k)) := L2.Paired.mapP hpr fun _ _ e => s3 _ _ e
      have hD3 := s3 _ _ hD2
      generalize upd H2 Tt (.tup [.str z, .ref t]) = H3 at s3 s13 hpr3 hD3
      refine inn_it walk_tup (fun j H' => Same H1 H' ∧ ∃ rs : List Addr, H' D = some (.lst (rs.map V.ref)) ∧ Paired (LfAt H') rs (lvs (L0.take k) ++ (ns.take j).map fun n => (z, n))) ⟨s13, rs, hD3, by rw [List.take_zero, List.map_nil, List.append_nil]; exact hpr3⟩ (fun _ _ _ y => SqT.of (y.1 _ _ ht)) ?_ ?_
      · rintro j x H4 H5 hj ⟨s4, rs4, hD4, hpr4⟩ ⟨rfl, hx⟩
        rw [List.length_map] at hj
        rw [List.getElem?_map] at hx
        obtain ⟨n, hn, rfl⟩ : ∃ n, ns[j]? = some n ∧ x = .int n := by
          cases e : ns[j]? with
          | none => rw [e] at hx; cases hx
          | some n => rw [e] at hx; exact ⟨n, rfl, (Option.some.inj hx).symm⟩
        refine ⟨rfl, _, rfl, _, rfl, by show 2 ≤ sizeLine; decide, fun tn htn => ?_⟩
        have s5 := same_upd0 (o := .tup [.str z, .int n]) htn
        have htn5 : (upd H5 tn (.tup [.str z, .int n])) tn = some (.tup [.str z, .int n]) := upd_same
        have hD5 := s5 _ _ hD4
        have eq2 : (ns.take (j + 1)).map (fun n => (z, n)) = (ns.take j).map (fun n => (z, n)) ++ [(z, n)] := by
          rw [List.take_add_one, hn, List.map_append]
          rfl
        have hrl := Paired.length hpr4
        refine ⟨_, hD5, ?_, over3 (s4.trans s5) hD, rs4 ++ [tn], ?_, ?_⟩
        · rw [List.length_append, List.length_map, List.length_take] at hrl
          rw [List.length_map]
          omega
        · rw [upd_same, List.map_append]
          rfl
        · rw [eq2, ← List.append_assoc]
          refine Paired.snoc (L2.Paired.mapP hpr4 fun r q e => ?_) ((upd_ne (ne_of htn5 hD5 (fun z => nomatch z))).trans htn5)
          have e' := s5 _ _ e
          exact (upd_ne (ne_of e' hD5 (fun z => nomatch z))).trans e'
      · rintro H4 ⟨s4, rs4, hD4, hpr4⟩
        rw [List.length_map, List.take_length] at hpr4
        exact ⟨s4, rs4, hD4, by rw [etk]; exact hpr4⟩
    rintro H2 ⟨s2, rs, hD2, hpr⟩
    rw [hlen, List.take_length] at hpr
    subst hH1
    refine ⟨s2 _ _ hd1, D, _, rfl, .inl ⟨SqL.of ((upd_ne hDd).trans hD2), fun t ht => ?_⟩⟩
    have sU := unlock_same h2 s2
    have sV := same_upd0 (o := .tup (rs.map V.ref)) ht
    refine q _ t rs (sU.trans sV) upd_same (L2.Paired.mapP hpr fun r e h => ?_)
    have hr : LfAt H2 r e := h
    have nd : r ≠ d := fun z => by have h5 := s2 _ _ hd1; rw [← z] at h5; exact nomatch (Option.some.inj (hr.symm.trans h5))
    exact sV _ _ ((upd_ne nd).trans hr)
/-- how many lives there are -/
def spLen (C : Addr) : Sp := fun vs H Q _ => ∃ (a : Addr) (L : List (Str × List Int)), vs = [.ref a] ∧ LsAt C H a L ∧ LOk L ∧ ∀ H' : Hp, Same H H' → Q (.int ((lvs L).length : Nat)) H'
theorem ok_len {C f fL : Addr} {fd fdL : FuncData} (F : Fun K "__len__" "Lives.__len__" sLen f fd) (T : Lvs K mg C) (W : Words K mg) (pL : Addr) (PL : PropOf K C "listed" pL fL) (bL : Binds K fdL ["self"] []) (GL : FnOk P w K mg base CX0 1 fL fdL ["self"] (spListed C)) : FnOk P w K mg base CX0 3 f fd ["self"] (spLen C) := by
  refine F.ok scLen (fun vs H Q E h => ?_) (fun cdv A outer s H vs Q E hr h => ?_)
  · obtain ⟨a, L, rfl, _⟩ := h
    rfl
  · obtain ⟨a, L0, rfl, hL, hO, q⟩ := h
    obtain ⟨dx, d, kvs, h1, h2, h3⟩ := id hL
    refine ⟨_, pss_one (ps_ret (pe_callB call_len_seq (by rfl) W.len PySem.boot_len (pa_cons (pe_prop (pv 0) T.cl PL GL hr bL .nil pass0 rfl) pa_nil))), ?_⟩
    refine ⟨_, rfl, a, dx, _, rfl, h1, a, L0, rfl, hL, hO, fun H' t js s ht hp => ⟨t, _, rfl, .inr (SqT.of ht), ?_⟩⟩
    rw [List.length_map, Paired.length hp]
    exact q H' s
/-- the lives in order are lives -/
theorem LsAt.lv {C : Addr} {H : Hp} {a : Addr} {L : List (Str × List Int)} (h : LsAt C H a L) : LvAt C H a (fun z => L.lookup z) := by
  obtain ⟨dx, d, kvs, h1, h2, h3⟩ := h
  exact ⟨dx, d, kvs, h1, h2, fun z e => (ls_get z h3).1 e, fun z ns e => (ls_get z h3).2 ns e⟩
theorem LOk.fok {L : List (Str × List Int)} (h : LOk L) : FOk (fun z => L.lookup z) := fun z ns e => by
  obtain ⟨_, _, l, h1⟩ := h.ns z ns (lookup_in e)
  exact ⟨l, h1⟩
end
end K49

namespace K49
open PySem PySem.Spec PyProof.Rows L2 So
abbrev sInit : Stmt := inClass (topS 29) 1
abbrev sInv : Stmt := inClass (topS 29) 6
theorem scInit : FnScope ["self", "tool", "moment", "is_sound"] ["self", "tool", "moment", "is_sound"] (defScope sInit) := ⟨rfl, rfl, rfl, by decide +kernel, rfl, by decide +kernel, by decide +kernel⟩
theorem scInv : FnScope ["self"] ["self"] (defScope sInv) := ⟨rfl, rfl, rfl, by decide +kernel, rfl, by decide +kernel, by decide +kernel⟩
theorem aln_small : ∀ c ∈ (letters ++ digits).cps.toList, c < 128 := by decide +kernel
theorem name_small {z : Str} (h : isName z = true) : ∀ c ∈ z.cps.toList, c < 128 := by
  unfold isName at h
  simp only [Bool.and_eq_true] at h
  intro c hc
  exact aln_small c (of_decide_eq_true (List.all_eq_true.mp h.2 c hc))
theorem name_len {z : Str} (h : isName z = true) : z.length ≤ 8 := by
  unfold isName at h
  simp only [Bool.and_eq_true] at h
  exact of_decide_eq_true h.1.1.1.2
theorem name_strOk {z : Str} (h : isName z = true) : PyData.strOk z = true := by
  unfold PyData.strOk
  rw [← Array.all_toList]
  exact List.all_eq_true.mpr fun c hc => decide_eq_true (Nat.lt_trans (name_small h c hc) (by decide))
theorem mom_log {m : Int} (h : 0 ≤ m ∧ m ≤ 1000000000000000000000000000000) : m.natAbs.log2 < 1920 := by
  have : m.natAbs < 2 ^ 100 := by omega
  exact Nat.lt_of_lt_of_le (PySem.Flt.log2_lt_of (by decide) this) (by decide)
theorem txt_len {i : Int} (h : i.natAbs.log2 < 1920) : (Str.ofString (toString i)).length ≤ 1921 := by
  rw [PyProof.Rows.ofString_length]
  exact int_text_length_le (k := 1920) (by decide) h
theorem app_len (a b : Str) : (a ++ b).length = a.length + b.length := PyProof.Rows.len_cat a b
/-- the attributes of a saying -/
def sf (z : Str) (m : Int) (b : Bool) : List (Str × V) := [("tool", .str z), ("moment", .int m), ("is_sound", .bl b)]
theorem sf_put (z : Str) (m : Int) (b : Bool) : putF "is_sound" (.bl b) (putF "moment" (.int m) (putF "tool" (.str z) [])) = sf z m b := by
  have e1 : ¬ (("tool" : Str) = "moment") := by decide +kernel
  have e2 : ¬ (("tool" : Str) = "is_sound") := by decide +kernel
  have e3 : ¬ (("moment" : Str) = "is_sound") := by decide +kernel
  simp [putF, sf, e1, e2, e3]
theorem sf_tool (z : Str) (m : Int) (b : Bool) : (sf z m b).lookup ("tool" : Str) = some (.str z) := by
  simp [sf, List.lookup]
theorem sf_moment (z : Str) (m : Int) (b : Bool) : (sf z m b).lookup ("moment" : Str) = some (.int m) := by
  have e1 : (("moment" : Str) == "tool") = false := by decide +kernel
  simp [sf, List.lookup, e1]
theorem sf_sound (z : Str) (m : Int) (b : Bool) : (sf z m b).lookup ("is_sound" : Str) = some (.bl b) := by
  have e1 : (("is_sound" : Str) == "tool") = false := by decide +kernel
  have e2 : (("is_sound" : Str) == "moment") = false := by decide +kernel
  simp [sf, List.lookup, e1, e2]
theorem sf_no (z : Str) (m : Int) (b : Bool) {f : Str} (h1 : (f == "tool") = false) (h2 : (f == "moment") = false) (h3 : (f == "is_sound") = false) : (sf z m b).lookup f = none := by
  simp [sf, List.lookup, h1, h2, h3]
/-- the attributes of what Saying() makes -/
def sfV (t m b : V) : List (Str × V) := [("tool", t), ("moment", m), ("is_sound", b)]
theorem sfV_put (t m b : V) : putF "is_sound" b (putF "moment" m (putF "tool" t [])) = sfV t m b := by
  have e1 : ¬ (("tool" : Str) = "moment") := by decide +kernel
  have e2 : ¬ (("tool" : Str) = "is_sound") := by decide +kernel
  have e3 : ¬ (("moment" : Str) = "is_sound") := by decide +kernel
  simp [putF, sfV, e1, e2, e3]
/-- what the top says of the class Saying, at C -/
structure Say (K : PySem.W.Frag) (mg : Str → Option Value) (C : Addr) : Prop where
  cl : Cls K C
  nT : NoAttr K C "tool"
  nM : NoAttr K C "moment"
  nS : NoAttr K C "is_sound"
  mgC : mg "Saying" = some (.ref C)
  ha : PySem.W.findIn K (.ref C) "__class__" = some (some (.builtin "object.__class__"))
  hn : PySem.W.specialIn K (.builtin "object.__class__") "__get__" = some (some (.builtin "getset_descriptor.__get__"))
  htk : PySem.W.takesIn K (.builtin "object.__class__") = some true
  hm : PySem.W.mroIn K C (.type "object") = some true
  me : PySem.W.kitOne K (.ref C) (.ref C) = some true
  no : ∀ T, T ∈ ["tuple", "str", "NoneType", "int", "bool", "list"] → PySem.W.kitOne K (.type T) (.ref C) = some false ∧ PySem.W.notFirst K C (.type T) = true
/-- at a stands the saying (z, m, b) -/
def At (C : Addr) (H : Hp) (a : Addr) (z : Str) (m : Int) (b : Bool) : Prop := ∃ dx, H a = some (.ins C dx (sf z m b))
/-- a point as data -/
def dPt (z : Str) (m : Int) : PyData := .tuple [.str z, .int m]
theorem dp_pt {K : PySem.W.Frag} {H : Hp} {p : Addr} {z : Str} {m : Int} (h : H p = some (.tup [.str z, .int m])) : Dp K H (.ref p) (dPt z m) := .tup (SqT.of h) (.cons (.str z) (.cons (.int m) .nil))
theorem shaped_pt {z : Str} {m : Int} (h : PyData.strOk z = true) : SeqAt.shaped (dPt z m) = true := by
  unfold SeqAt.shaped dPt
  simp [PyData.canLay0, PyData.canLayAll0, PyData.depth, PyData.depthAll, h]
theorem eqv_pt (z z' : Str) (m m' : Int) : PyData.eqv (dPt z m) (dPt z' m') = decide (z = z' ∧ m = m') := by
  unfold dPt
  simp only [PyData.eqv, PyData.eqvAll, Bool.and_true]
  by_cases h1 : z = z' <;> by_cases h2 : m = m' <;> simp [h1, h2]
section
variable {P : Program} {w : World} {K : PySem.W.Frag} {mg : Str → Option Value} {base : Heap}

/-- the first argument that is none: its error's class, the field, the value -/
def bad3 (CN CM CS : Addr) (t m b : V) : Option (Addr × Str × V) :=
  if gNam t = true then (if gMom m = true then (if gTru b = true then none else some (CS, "value", b)) else some (CM, "moment", m)) else some (CN, "name", t)
/-- both ways out of what makes a saying of these arguments -/
def Ways (CN CM CS : Addr) (t m b : V) (H : Hp) (E : XK) (q : Prop) : Prop :=
  (bad3 CN CM CS t m b = none → q) ∧ ∀ C fl v, bad3 CN CM CS t m b = some (C, fl, v) → ∀ d H', Same H H' → H' d = some (.xd [(fl, v)]) → E (.ref C) (some d) H'

def spInit (CN CM CS C : Addr) : Sp := fun vs H Q E => ∃ (x dx : Addr) (t m b : V) (T1 T2 T3 : String), vs = [.ref x, t, m, b] ∧ H x = some (.ins C dx []) ∧ Gv H t T1 ∧ Gv H m T2 ∧ Gv H b T3 ∧
  Ways CN CM CS t m b H E (∀ H', Off x H H' → H' x = some (.ins C dx (sfV t m b)) → Q .non H')
theorem ok_init {CN CM CS f C fC : Addr} {fd fdC : FuncData} (F : Fun K "__init__" "Saying.__init__" sInit f fd) (T : Say K mg C) (FC : Fun K "check_form" "check_form" sCheck fC fdC) (bC : Binds K fdC ["value", "form"] []) (gC : mg "check_form" = some (.ref fC))
    (GC : FnOk P w K mg base (L2.CX P w) 3 fC fdC ["value", "form"] (spCheck CN CM CS)) : FnOk P w K mg base (L2.CX P w) 4 f fd ["self", "tool", "moment", "is_sound"] (spInit CN CM CS C) := by
  refine F.okX scInit (fun vs H Q E h => ?_) (fun cdv A outer s H vs Q E hr h => ?_)
  · obtain ⟨x, dx, t, m, b, T1, T2, T3, rfl, _⟩ := h
    rfl
  · obtain ⟨x, dx, t, m, b, T1, T2, T3, rfl, hx, v1, v2, v3, qy, qn⟩ := h
    have ps : ∀ σ : L2.St, True := fun _ => trivial
    refine ⟨_, pss_cons (ps_expr (pe_call GC hr (by rfl) gC FC.kp bC .nil (passes_call (takes_of rfl rfl rfl rfl) (fun _ _ _ _ h => h)) (pa_cons (pv 1) (pa_cons pe_str pa_nil))))
      (pss_cons (ps_expr (pe_call GC hr (by rfl) gC FC.kp bC .nil (passes_call (takes_of rfl rfl rfl rfl) (fun _ _ _ _ h => h)) (pa_cons (pv 2) (pa_cons pe_str pa_nil))))
      (pss_cons (ps_expr (pe_call GC hr (by rfl) gC FC.kp bC .nil (passes_call (takes_of rfl rfl rfl rfl) (fun _ _ _ _ h => h)) (pa_cons (pv 3) (pa_cons pe_str pa_nil))))
      (pss_cons (ps_fld (pv 0) (pv 1) rfl) (pss_cons (ps_fld (pv 0) (pv 2) rfl) (pss_one (ps_fld (pv 0) (pv 3) rfl)))))), ?_⟩
    refine ⟨_, rfl, t, T1, _, _, _, _, rfl, v1, .inl ⟨rfl, rfl, rfl, rfl⟩, fun g1 H1 s1 => ?_, fun g1 d H' s e => qn CN "name" t (by unfold bad3; rw [if_neg (by rw [g1]; exact Bool.false_ne_true)]) d H' s e⟩
    refine ⟨_, rfl, m, T2, _, _, _, _, rfl, v2.same s1, .inr (.inl ⟨rfl, rfl, rfl, rfl⟩), fun g2 H2 s2 => ?_, fun g2 d H' s e => qn CM "moment" m (by unfold bad3; rw [if_pos g1, if_neg (by rw [g2]; exact Bool.false_ne_true)]) d H' (s1.trans s) e⟩
    refine ⟨_, rfl, b, T3, _, _, _, _, rfl, v3.same (s1.trans s2), .inr (.inr (.inr ⟨rfl, rfl, rfl, rfl⟩)), fun g3 H3 s3 => ?_, fun g3 d H' s e => qn CS "value" b (by unfold bad3; rw [if_pos g1, if_pos g2, if_neg (by rw [g3]; exact Bool.false_ne_true)]) d H' ((s1.trans s2).trans s) e⟩
    have s123 := (s1.trans s2).trans s3
    refine ⟨_, rfl, _, rfl, x, C, dx, [], rfl, s123 _ _ hx, T.cl, T.nT, (by show 0 < 1000; decide), ?_⟩
    refine ⟨_, rfl, _, rfl, x, C, dx, _, rfl, upd_same, T.cl, T.nM, (by show 1 < 1000; decide), ?_⟩
    refine ⟨_, rfl, _, rfl, x, C, dx, _, rfl, upd_same, T.cl, T.nS, ?_, ?_⟩
    · exact Nat.lt_of_le_of_lt (length_putF _ _ _) (by show 1 + 1 < 1000; decide)
    · refine qy (by unfold bad3; rw [if_pos g1, if_pos g2, if_pos g3]) _ (fun c o n e => ?_) ?_
      · rw [upd_ne n, upd_ne n, upd_ne n]
        exact s123 c o e
      · rw [upd_same, sfV_put]
/-- behind Saying(t, m, b) -/
theorem made {CN CM CS C : Addr} {t m b : V} {T1 T2 T3 : String} {H1 : Hp} {Q : VK} {E : XK} (v1 : Gv H1 t T1) (v2 : Gv H1 m T2) (v3 : Gv H1 b T3) (h : Ways CN CM CS t m b H1 E (∀ (H' : Hp) (a dx : Addr), Same H1 H' → H' a = some (.ins C dx (sfV t m b)) → Q (.ref a) H')) :
    ∀ x dx, H1 x = none → H1 dx = none → dx ≠ x → spInit CN CM CS C (.ref x :: ([t, m, b] ++ [])) (upd (upd H1 dx (.own x)) x (.ins C dx [])) (fun v H2 => v = .non ∧ Q (.ref x) H2) E := by
  intro x dx hx hd ne
  have s0 : Same H1 (upd (upd H1 dx (.own x)) x (.ins C dx [])) := fun c o e => by
    rw [upd_ne (ne_of_none e hx), upd_ne (ne_of_none e hd)]
    exact e
  refine ⟨x, dx, t, m, b, T1, T2, T3, rfl, upd_same, v1.same s0, v2.same s0, v3.same s0, fun g H' o e => ⟨rfl, h.1 g H' x dx (fun c u z => ?_) e⟩, fun C' fl v g d H' s e => h.2 C' fl v g d H' (s0.trans s) e⟩
  exact o c u (ne_of_none z hx) (s0 c u z)
theorem bad3_ok {CN CM CS : Addr} {z : Str} {m : Int} {b : Bool} (h1 : isName z = true) (h2 : 0 ≤ m ∧ m ≤ 1000000000000000000000000000000) : bad3 CN CM CS (.str z) (.int m) (.bl b) = none := by
  unfold bad3
  rw [if_pos (show gNam (.str z) = true from h1), if_pos (show gMom (.int m) = true from decide_eq_true h2)]
  rfl
theorem Ways.ok {CN CM CS : Addr} {z : Str} {m : Int} {b : Bool} {H : Hp} {E : XK} {q : Prop} (h1 : isName z = true) (h2 : 0 ≤ m ∧ m ≤ 1000000000000000000000000000000) (h : q) : Ways CN CM CS (.str z) (.int m) (.bl b) H E q :=
  ⟨fun _ => h, fun C fl v e => by
    rw [bad3_ok h1 h2] at e
    cases e⟩
/-- ~saying -/
def spInv (C : Addr) : Sp := fun vs H Q _ => ∃ (a : Addr) (z : Str) (m : Int) (b : Bool), vs = [.ref a] ∧ At C H a z m b ∧ isName z = true ∧ (0 ≤ m ∧ m ≤ 1000000000000000000000000000000) ∧ ∀ (H' : Hp) (a' : Addr), Same H H' → At C H' a' z m (!b) → Q (.ref a') H'
theorem ok_inv {CN CM CS f C fI : Addr} {fd fdI : FuncData} (F : Fun K "__invert__" "Saying.__invert__" sInv f fd) (T : Say K mg C) (M : Mk K C fI) (bI : Binds K fdI ["self", "tool", "moment", "is_sound"] []) (GI : FnOk P w K mg base (L2.CX P w) 4 fI fdI ["self", "tool", "moment", "is_sound"] (spInit CN CM CS C)) :
    FnOk P w K mg base CX0 6 f fd ["self"] (spInv C) := by
  refine F.ok scInv (fun vs H Q E h => ?_) (fun cdv A outer s H vs Q E hr h => ?_)
  · obtain ⟨a, z, m, b, rfl, _⟩ := h
    rfl
  · obtain ⟨a, z, m, b, rfl, ⟨dx, ha⟩, hz, hm, q⟩ := h
    refine ⟨_, pss_one (ps_ret (pe_make M GI hr (by rfl) T.mgC bI .nil passNo (pa_cons (pe_fld (pv 0) rfl) (pa_cons (pe_fld (pv 0) rfl) (pa_cons (pe_not (pe_fld (pv 0) rfl)) pa_nil))))), ?_⟩
    refine ⟨_, rfl, a, C, dx, _, _, rfl, ha, T.cl, T.nT, sf_tool z m b, _, rfl, a, C, dx, _, _, rfl, ha, T.cl, T.nM, sf_moment z m b, _, rfl, a, C, dx, _, _, rfl, ha, T.cl, T.nS, sf_sound z m b, b, rfl, ?_⟩
    exact made (.str z (Nat.le_trans (name_len hz) (by decide))) (.int m) (.bl (!b)) (Ways.ok hz hm fun H' a' dx' s e => q H' a' s ⟨dx', e⟩)
/-- behind Saying(z, m, b) of a name and a moment -/
theorem madeS {CN CM CS C : Addr} {z : Str} {m : Int} {b : Bool} {H1 : Hp} {Q : VK} {E : XK} (hz : isName z = true) (hm : 0 ≤ m ∧ m ≤ 1000000000000000000000000000000) (q : ∀ (H' : Hp) (a : Addr), Same H1 H' → At C H' a z m b → Q (.ref a) H') :
    ∀ x dx, H1 x = none → H1 dx = none → dx ≠ x → spInit CN CM CS C (.ref x :: ([.str z, .int m, .bl b] ++ [])) (upd (upd H1 dx (.own x)) x (.ins C dx [])) (fun v H2 => v = .non ∧ Q (.ref x) H2) E :=
  made (.str z (Nat.le_trans (name_len hz) (by decide))) (.int m) (.bl b) (Ways.ok hz hm fun H' a' dx' s e => q H' a' s ⟨dx', e⟩)
theorem At.same {C : Addr} {H H' : Hp} {a : Addr} {z : Str} {m : Int} {b : Bool} (h : At C H a z m b) (s : Same H H') : At C H' a z m b := by
  obtain ⟨dx, e⟩ := h
  exact ⟨dx, s _ _ e⟩
end
end K49

namespace So
open PySem PySem.Spec PyProof.Rows L2
/-! {k: v for target in iter if ..}, the keys tuples of ints and texts (HandS.DictComp's own road, the dict a table of such keys) -/
section
variable {X : Cx}
/-- one more entry, its key a tracked tuple -/
theorem dt_put {pins : List (Addr × Obj)} {σ : L2.St} {H : Hp} {s : Shared} {E : Value → Shared → Prop} {D b : Addr} {kvs : List (List Key × V)} {k : List Key} {v : V} {r : Value} {Q : Unit → Shared → Prop} (hu : X.A.units < cLine) (I : Inv X pins σ H s) (hD : H D = some (.dT kvs)) (hz : kvs.length < sizeLine)
    (hb : H b = some (.tup (k.map kV))) (rv : RelV v r) (h : ∀ s', Inv X pins σ (upd H D (.dT (putK kvs k v))) s' → Q () s') : wpAny (model X.prog X.w) X.A (dictSet D (.ref b) r) Q E s := by
  obtain ⟨z, hd, xs, rel, dd⟩ := dt_of I.hok hD
  refine wpAny_dictSet_heap (hsz := by rw [← Paired.length rel]; exact z) hu (key_of I.hok hb) dd fun h' dd' hs => h _ ?_
  obtain ⟨q, es, ep, hq, q2, q3, q4, _, q5⟩ := dd'
  have hl : (putK kvs k v).length ≤ sizeLine := Nat.le_trans (length_putK kvs k v) hz
  exact d_write I (by rw [hD]; exact True.intro) hs ⟨q, hq⟩ ⟨hl, hd, _, (rel.put k hb rv).keeps fun c ys ec => (upd_ne (ne_of ec hD (fun z => nomatch z))).trans ec, q, es, ep, hq, q2, q3, q4, q5⟩
def tDcT (wi : TI) (g : TG) (tt : TT) (tk tv : TE) (vs : List Nat) : TE := fun σ H Q => wi σ H fun J H1 => ∀ D, H1 D = none → ∃ W : Nat → Nat → Hp → Prop, (∃ m, W 0 m (upd H1 D (.dT []))) ∧ ∀ i m H, W i m H →
  (J.stop i H ∧ Q (.ref D) H) ∨ (J.go i H ∧ ∃ Nx : Hp → Prop, (∀ H', Nx H' → ∃ m', m' < m ∧ W (i + 1) m' H') ∧ ∀ x H', J.yld i H x H' → g x (wipe σ vs) H' fun σ2 H2 => wipe σ2 vs = wipe σ vs ∧ tt σ2 H2 fun b H3 =>
    if b = true then tk σ2 H3 fun y H4 => tv σ2 H4 fun z H5 => ∃ kvs k c, y = .ref c ∧ H5 c = some (.tup (k.map kV)) ∧ H5 D = some (.dT kvs) ∧ kvs.length < sizeLine ∧ Nx (upd H5 D (.dT (putK kvs k z))) else Nx H3)
theorem pe_dcT {kx vx tg iter : Expr} {ifs : List Expr} {scope : Scope} {own : List (Str × Nat)} {pos : Pos} {wi : TI} {g : TG} {tt : TT} {tk tv : TE} (hc : X.calm = true) (hN : X.N.Nodup) (hu : X.A.units < cLine) (hi : PI X tg iter wi) (ok : BlkOk X.N X.env.scope scope own)
    (hg : ∀ (s : Shared) (H : Hp) (C : Addr) (cl : List (Str × Addr)) (fp : List Addr), PG (X.blk s H scope (compEnvC scope cl C X.env) fp) tg g) (ht : ∀ (s : Shared) (H : Hp) (C : Addr) (cl : List (Str × Addr)) (fp : List Addr), PTs (X.blk s H scope (compEnvC scope cl C X.env) fp) ifs tt)
    (hk : ∀ (s : Shared) (H : Hp) (C : Addr) (cl : List (Str × Addr)) (fp : List Addr), PE (X.blk s H scope (compEnvC scope cl C X.env) fp) kx tk)
    (he : ∀ (s : Shared) (H : Hp) (C : Addr) (cl : List (Str × Addr)) (fp : List Addr), PE (X.blk s H scope (compEnvC scope cl C X.env) fp) vx tv) (hs : ∀ x, foldedSetIterable iter X.env x = pure x := by intro _; rfl) :
    PE X (.DictComp kx vx [⟨tg, iter, ifs, 0⟩] scope pos) (tDcT wi g tt tk tv (own.map (·.2))) := by
  refine ⟨fun pins s σ H Q I h => ?_⟩
  rw [arm_eval_DictComp]
  have frees : ∀ y ∈ scope.names, y.2 = .free → ∃ c, X.env.cells.lookup y.1 = some c := fun y hy e => (ok.free y hy e).elim (fun k => I.ok.has _ (.inl k)) fun k => I.ok.has _ (.inr k)
  refine wpAny_comprehension_free (use := none) rfl hs (closure_ok frees) ok.kind (fun y hy e => by rw [ok.uniq y hy, e]) (thn (hi.run pins s σ H _ I h) fun xv sa ha => thn ha fun iv sb hb => ?_)
  obtain ⟨it, fp, tn, J, Hb, rfl, Ib, T, stb, fb, turn⟩ := hb
  refine wpAny_newObj_type (newEnv_comp ?_)
  -- the dict, new
  obtain ⟨D, hD⟩ : ∃ D, D = sb.heap.objs.size := ⟨_, rfl⟩
  obtain ⟨W, ⟨m0, w0⟩, turn⟩ := turn D (Ib.hok.fresh (Nat.le_of_eq hD.symm))
  obtain ⟨sc, hsc⟩ : ∃ sc : Shared, sc = { sb with heap := sb.heap.push { cls := .type "dict", data := .dict #[] } } := ⟨_, rfl⟩
  have hsch : sc.heap = sb.heap.push { cls := .type "dict", data := .dict #[] } := by rw [hsc]
  have Ic : Inv X pins σ (upd Hb D (.dT [])) sc := by
    rw [hsc]
    refine Ib.laid (t' := sb.toks) (fun b o e => Heap.get?_push_of_some _ e) (Nat.le_of_eq hD.symm) ?_
    rw [hD]
    exact dt_empty sb.heap Ib.big
  have fc : ∀ b ∈ fp, FpOk X pins (upd Hb D (.dT [])) b ∧ b < sc.heap.objs.size := fun b hb => by
    obtain ⟨o, e, _⟩ := T.obj _ _ stb b hb
    have hlt := Heap.lt_size e
    exact ⟨⟨(upd_ne (by rw [hD]; exact Nat.ne_of_lt hlt)).trans (fb b hb).1, (fb b hb).2⟩, by rw [hsch, Heap.size_push]; exact Nat.lt_succ_of_lt hlt⟩
  have stc : tn 0 sc.heap := T.keep _ _ _ stb fun b _ o e => by rw [hsch]; exact Heap.get?_push_of_some _ e
  have Id := block_start Ic ok hN fc
  obtain ⟨ce, hce⟩ : ∃ ce, ce = compEnvC scope (cellsFrom (sc.heap.objs.size + 1) scope.names (cloFrom X.env.cells scope.names [])) sc.heap.objs.size X.env := ⟨_, rfl⟩
  have pg := hg sc (upd Hb D (.dT [])) sc.heap.objs.size (cellsFrom (sc.heap.objs.size + 1) scope.names (cloFrom X.env.cells scope.names [])) fp
  have pt := ht sc (upd Hb D (.dT [])) sc.heap.objs.size (cellsFrom (sc.heap.objs.size + 1) scope.names (cloFrom X.env.cells scope.names [])) fp
  have pk := hk sc (upd Hb D (.dT [])) sc.heap.objs.size (cellsFrom (sc.heap.objs.size + 1) scope.names (cloFrom X.env.cells scope.names [])) fp
  have pe := he sc (upd Hb D (.dT [])) sc.heap.objs.size (cellsFrom (sc.heap.objs.size + 1) scope.names (cloFrom X.env.cells scope.names [])) fp
  rw [← hsc, ← hD]
  obtain ⟨sd, hsd⟩ : ∃ sd : Shared, sd = { sc with heap := pushCells (sc.heap.push { cls := .type "dict", data := .dict #[] }) scope.names } := ⟨_, rfl⟩
  show codeAny _ _ (.compStart (.DictComp kx vx [⟨tg, iter, ifs, 0⟩] scope pos) 0 (.ref it) (.ref D) (compEnvC scope (cellsFrom (sc.heap.objs.size + 1) scope.names (cloFrom X.env.cells scope.names [])) sc.heap.objs.size X.env)) (compPost (model X.prog X.w) X.A X.xe none _ (.ref D) sc.heap.objs.size) { sc with heap := pushCells (sc.heap.push { cls := .type "dict", data := .dict #[] }) scope.names }
  rw [← hce] at pg pt pk pe Id ⊢
  rw [← hsd] at Id ⊢
  have cL : ce.locals = sc.heap.objs.size := by rw [hce]; rfl
  obtain ⟨Hc, hHc⟩ : ∃ Hc, Hc = upd Hb D (.dT []) := ⟨_, rfl⟩
  rw [← hHc] at Ic Id pg pt pk pe w0 fc
  have nfp : ∀ b ∈ fp, Hc b = none := fun b hb => (fc b hb).1.1
  have std : tn 0 sd.heap := T.keep _ _ _ stc fun b _ o e => by rw [hsd]; exact pushCells_keeps _ _ _ _ (Heap.get?_push_of_some _ e)
  have stat : ∀ {σ' : L2.St} {H' : Hp} {s' : Shared}, Inv (X.blk sc Hc scope ce fp) [] σ' H' s' → (∀ b ∈ fp, H' b = none) → ∀ b ∈ fp, FpOk (X.blk sc Hc scope ce fp) [] H' b := fun I' hn b hb =>
    ⟨hn b hb, (I'.ok.exf b hb).1, I'.ok.exfs b hb, .inl hb, fun x c e => (I'.ok.exf b hb).2 x c e, fun p hp => absurd (show p ∈ ([] : List (Addr × Obj)) ++ [] from hp) (by simp)⟩
  have loop : codeAny (model X.prog X.w) X.A (.compLoop (.DictComp kx vx [⟨tg, iter, ifs, 0⟩] scope pos) 0 (.ref it) (.ref D) ce) (compPost (model X.prog X.w) X.A X.xe none (EP X pins σ Q) (.ref D) sc.heap.objs.size) sd := by
    refine compLoop_anyD (fun n s' => ∃ i H', Inv (X.blk sc Hc scope ce fp) [] (wipe σ (own.map (·.2))) H' s' ∧ tn i s'.heap ∧ (∀ b ∈ fp, H' b = none) ∧ W i n H') ?_ m0 ⟨0, Hc, Id, std, nfp, w0⟩
    rintro n se ⟨i, He, Ie, ste, ne, we⟩
    rcases turn i n He we with ⟨stop, fin⟩ | ⟨go, Nx, hNx, step⟩
    · refine thnF (T.done (X.blk sc Hc scope ce fp) rfl rfl rfl hc i [] se _ He (fun _ _ => False) Ie (stat Ie ne) ste stop) fun r sf ⟨hr, If⟩ => ?_
      subst hr
      have Ig : Inv X pins σ He sf := Ic.call' (ch := fp) If.os If.base If.hok If.bare fun b hb => ⟨(fc b hb).1.2.2.2.1, (fc b hb).1.2.1, (fc b hb).1.2.2.2.2.1, (fc b hb).1.2.2.2.2.2⟩
      have nC : He sc.heap.objs.size = none := by
        have z : He ce.locals = none := If.free
        rw [cL] at z
        exact z
      obtain ⟨m, hn, _⟩ := If.loc
      have hn : sf.heap.Ns ce.locals m := hn
      rw [cL] at hn
      obtain ⟨g0, g1, g2, g3, g4, g5⟩ := Ic.fpOk (H' := He) (Nat.le_refl _) nC
      exact ⟨m, hn, fun h'' same => ⟨.ref D, He, Ig.turned (t' := sf.toks) (fun b o hb e => (same.2 b hb).trans e) g0 g1 g3 g4 g5, rfl, fin⟩⟩
    · refine thnF (T.item (X.blk sc Hc scope ce fp) rfl rfl rfl hc i [] se _ He (fun _ _ => False) Ie (stat Ie ne) ste go) fun r sf ⟨u, hr, h6⟩ => ?_
      subst hr
      refine thnF h6 fun _ sg ⟨x, Hg, Ig, rg, yg, stg, ng⟩ => ?_
      have Ip := Ig.pinned (stat Ig ng) (T.obj _ _ stg)
      refine thnF (pg.run _ sg _ Hg x u _ Ip rg (step x Hg yg)) fun _ sh ⟨σh, Hh, Ih, hw, qh⟩ => ?_
      refine thnF (pt.run _ sh σh Hh _ Ih qh) fun b si ⟨Hi, Ii, qi⟩ => ?_
      have next : ∀ {s' : Shared} {H' : Hp}, Inv (X.blk sc Hc scope ce fp) ([] ++ pinsAt fp sg.heap) σh H' s' → Nx H' → ∃ m, m < n ∧ ∃ i H', Inv (X.blk sc Hc scope ce fp) [] (wipe σ (own.map (·.2))) H' s' ∧ tn i s'.heap ∧ (∀ b ∈ fp, H' b = none) ∧ W i m H' := fun {s' H'} I' nx => by
        obtain ⟨m', hm, w'⟩ := hNx H' nx
        have kept : ∀ b ∈ fp, ∀ o, sg.heap.get? b = some o → s'.heap.get? b = some o ∧ H' b = none := fun b hb o e => by
          have z := I'.pin (b, o) (List.mem_append_right _ (List.mem_append_right _ (mem_pinsAt hb e)))
          exact ⟨z.1, z.2.1⟩
        refine ⟨m', hm, i + 1, H', (I'.unpinned (pins := [])).weak (by rw [← hw, wipe_length]) (fun j v e => ?_), T.keep _ _ _ stg fun b hb o e => (kept b hb o e).1, fun b hb => ?_, w'⟩
        · rw [← hw] at e
          exact (wipe_some e).1
        · obtain ⟨o, e, _⟩ := T.obj _ _ stg b hb
          exact (kept b hb o e).2
      cases b with
      | false =>
        simp only [Bool.false_eq_true, if_false] at qi ⊢
        exact next Ii qi
      | true =>
        simp only [if_true] at qi ⊢
        refine thnF (pk.run _ si σh Hi _ Ii qi) fun z sj ⟨yk, Hj, Ij, rj, qj⟩ => ?_
        refine thnF (pe.run _ sj σh Hj _ Ij qj) fun z2 sk ⟨yv, Hk, Ik, rk, kvs, k, c, ek, hck, hDk, hzk, nx⟩ => ?_
        subst ek
        obtain rfl : z = Value.ref c := rj
        exact dt_put (X := X.blk sc Hc scope ce fp) hu Ik hDk hzk hck rk fun sl Il => next Il nx
  exact codeAny_compStart_dict loop (T.self X.A 0 _ _ _ std loop)
end
end So

namespace So
open PySem PySem.Spec PyProof.Rows L2
/-! for k, v in d.items(), the keys tuples of ints and texts -/
def ItiT (d : Addr) (o : Obj) (kvs : List (List Key × V)) : It :=
  ⟨fun i H => H d = some (.frz o (.dT kvs)) ∧ i < kvs.length, fun i H x H' => ∃ (T : Addr) (k : List Key) (v : V) (q : Addr), kvs[i]? = some (k, v) ∧ H q = some (.tup (k.map kV)) ∧ x = .ref T ∧ H T = none ∧ H' = L2.upd H T (.tup [.ref q, v]), fun i H => H d = some (.frz o (.dT kvs)) ∧ kvs.length ≤ i⟩
section
variable {X : Cx} {pins : List (Addr × Obj)} {σ : L2.St} {H : Hp} {s : Shared} {d : Addr} {o : Obj}
theorem frz_ents {kvs : List (List Key × V)} (I : Inv X pins σ H s) (h : H d = some (.frz o (.dT kvs))) : ∃ (es : Array DictEntry) (ep : Nat), (d == sysModules) = false ∧ DT.Raw s.heap d es ep ∧ o.data = .dict es ep ∧ es.size = kvs.length ∧
    ∀ (i : Nat) (k : List Key) (v : V), kvs[i]? = some (k, v) → ∃ (en : DictEntry) (q : Addr), es[i]? = some en ∧ en.key = .ref q ∧ H q = some (.tup (k.map kV)) ∧ L2.RelV v en.val := by
  obtain ⟨hd, z, hs, xs, pr, o', es, ep, ho, hx, hdt, he, _⟩ := I.hok d _ h
  rw [hd] at ho
  cases ho
  refine ⟨es, ep, hs, ⟨_, hd, hx, hdt⟩, hdt, ?_, fun i k v e => ?_⟩
  · rw [size_of_entries he, ← Paired.length pr]
  · obtain ⟨b, hb, e1, e2, e3⟩ := paired_get pr e
    have q := entry_at he i
    rw [hb] at q
    exact ⟨_, b.2.1, q, rfl, e2, e3⟩
end
section
variable {P : Program} {w : World} {K : PySem.W.Frag} {d : Addr} {o : Obj} {es : Array DictEntry} {ep : Nat}
theorem turn_itemsT {kvs : List (List Key × V)} {elts : List Expr} {kk : Nat} {tpos : Pos} (it : Addr) (hod : o.data = .dict es ep) :
    Turn P w K (.Tuple elts kk tpos) (ItiT d o kvs) [it] it (fun i h => ∃ ok ov, IsItemIter h it d i kvs.length ep ok ov) where
  mem := List.mem_singleton.mpr rfl
  obj := fun i h ⟨ok, ov, e⟩ b hb => by
    obtain rfl := List.mem_singleton.mp hb
    exact ⟨_, e, fun v z => nomatch z⟩
  keep := fun i h h' ⟨ok, ov, e⟩ k => ⟨ok, ov, k it (List.mem_singleton.mpr rfl) _ e⟩
  item := by
    rintro X rfl rfl rfl hc i pins s σ H E I hf ⟨ok, ov, he⟩ ⟨hd, hi⟩
    obtain ⟨es', ep', hs, raw, hdt, hsz, ent⟩ := frz_ents I hd
    obtain ⟨rfl, rfl⟩ := dict_ep hod hdt
    obtain ⟨⟨k, v⟩, hkv⟩ : ∃ p, kvs[i]? = some p := ⟨kvs[i], List.getElem?_eq_getElem hi⟩
    obtain ⟨en, q, hen, hkey, hq, rv⟩ := ent i k v hkv
    have hi' : i < es'.size := by rw [hsz]; exact hi
    obtain rfl : es'[i] = en := by
      rw [Array.getElem?_eq_getElem hi'] at hen
      exact Option.some.inj hen
    rw [← hsz] at he
    have hlt : it < s.heap.objs.size := Heap.lt_size he
    refine DT.nextI he raw hi' fun h' ho hT hz hk => ⟨_, rfl, wpAny_letOwnedTupleGo_items (s := { s with heap := h' }) ho fun h'' he' sb => ?_⟩
    have hT2 := (sb.2 _ (Nat.ne_of_gt hlt)).trans hT
    have new : ObjOk X.prog X.w (L2.upd H s.heap.objs.size (.tup [.ref q, v])) h'' s.heap.objs.size (.tup [.ref q, v]) :=
      ⟨by show 2 ≤ sizeLine; decide, [es'[i].key, es'[i].val], .cons hkey (.cons rv .nil), ⟨_, hT2, rfl, _, rfl⟩⟩
    refine ⟨.ref s.heap.objs.size, _, I.turnedNew (t' := s.toks) (ch := [it]) (fun b ob hb e => (sb.2 b (fun z => hb (List.mem_singleton.mpr z))).trans (hk b ob (fun z => hb (List.mem_singleton.mpr z)) e)) hf (Nat.le_refl _) new, rfl, ⟨_, k, v, q, hkv, hq, rfl, I.hok.fresh (Nat.le_refl _), rfl⟩, ⟨es'[i].key, es'[i].val, ?_⟩, fun b hb => ?_⟩
    · rw [← hsz]
      exact he'
    · obtain rfl := List.mem_singleton.mp hb
      exact (upd_ne (Nat.ne_of_lt hlt)).trans (hf b (List.mem_singleton.mpr rfl)).1
  done := by
    rintro X rfl rfl rfl hc i pins s σ H E I hf ⟨ok, ov, he⟩ ⟨hd, hi⟩
    obtain ⟨f0, f1, f2, f3, f4, f5⟩ := hf it (List.mem_singleton.mpr rfl)
    obtain ⟨es', ep', hs, raw, hdt, hsz, ent⟩ := frz_ents I hd
    obtain ⟨rfl, rfl⟩ := dict_ep hod hdt
    rw [← hsz] at he
    exact DT.endI (I.ok.hd hc) he raw (by rw [hsz]; exact hi) fun h' eb => ⟨rfl, I.turned (t' := s.toks) (fun b ob hb e => eb b ob hb e) f0 f1 f3 f4 f5⟩
  self := fun A i s Q E ⟨_, _, e⟩ h => PySem.W.kcp_self e h
end
def iItemsT (td : TE) : TI := fun σ H R => td σ H fun x H1 => ∃ d o kvs, x = .ref d ∧ H1 d = some (.frz o (.dT kvs)) ∧ R (ItiT d o kvs) H1
section
variable {X : Cx} {e : Expr} {td : TE} {apos cpos : Pos}
theorem pi_itemsT {elts : List Expr} {kk : Nat} {tpos : Pos} (he : PE X e td) (hbase : attributeBase e "items" X.env (eval e X.env) = eval e X.env := by rfl) (hline : (apos.endLine == cpos.line) = true := by rfl) :
    PI X (.Tuple elts kk tpos) (.Call (.Attribute e "items" apos) [] [] cpos) (iItemsT td) := by
  refine ⟨fun pins s σ H R I h => ?_⟩
  refine wpAny_Call_method (T := "dict") (id := "dict.items") hbase rfl hline F.plainAttrs_dict F.slot_dict_items F.type_dict_items (thn (he.run pins s σ H _ I h) fun u s1 ⟨x, H1, I1, rx, d, o, kvs, ex, hd, q⟩ => ?_)
  subst ex
  obtain rfl : u = Value.ref d := rx
  obtain ⟨es, ep, hs, raw, hdt, hsz, ent⟩ := frz_ents I1 hd
  refine ⟨raw.typeIs, fun b hb => ?_, ?_⟩
  · cases hb
    obtain ⟨ob, g1, g2, _⟩ := raw
    exact ⟨ob, g1, g2.2.1⟩
  have I2 : Inv X pins σ H1 { s1 with heap := s1.heap.push { cls := .type "dict_items", data := .fields #[.ref d] } } := I1.kept (t' := s1.toks) fun b ob q => Heap.get?_push_of_some _ q
  have fin : wpAny (model X.prog X.w) X.A (pyIter (.ref s1.heap.objs.size)) (PIE X pins σ (.Tuple elts kk tpos) R) X.xe { s1 with heap := s1.heap.push { cls := .type "dict_items", data := .fields #[.ref d] } } := by
    refine DT.iterI (d := d) ⟨_, Heap.get?_push_size _ rfl, rfl, rfl⟩ (raw.push _) (pi_one (tk := s1.toks) I2 _ (turn_itemsT _ hdt) ⟨.none, .none, ?_⟩ q)
    rw [← hsz]
    exact Heap.get?_push_size _ rfl
  exact method_meetsIn F.slot_dict_items F.entry_dict_items rfl (PySem.evalArgs_none ⟨rfl, raw.typeIs, F.args_dict_items_1 _, _, DT.meetsItems (es := es) (ep := ep) hs, raw, fin⟩)
end
theorem walk_itemsT {d : Addr} {o : Obj} {kvs : List (List Key × V)} : Walk (ItiT d o kvs) kvs.length (fun H => H d = some (.frz o (.dT kvs)))
    (fun i H x H' => ∃ (T : Addr) (k : List Key) (v : V) (q : Addr), kvs[i]? = some (k, v) ∧ H q = some (.tup (k.map kV)) ∧ x = .ref T ∧ H T = none ∧ H' = L2.upd H T (.tup [.ref q, v])) :=
  ⟨fun _ _ hi q => ⟨q, hi⟩, fun _ q => ⟨q, Nat.le_refl _⟩, fun _ _ _ _ _ _ y => y⟩
end So

namespace So
open PySem PySem.Spec PyProof.Rows L2
/-! whether a dict with tuple keys is empty -/
section
variable {prog : Program} {w : World} {κ : Type} [DecidableEq κ] {knd : HeapKind prog w κ} {A : Around} {E : Value → Shared → Prop} {s : Shared}
theorem truth_dictH {d : Addr} {xs : List (κ × Addr × Value)} {Q : Bool → Shared → Prop} (hd : (d == sysModules) = false) (hm : s.heap.DictOfH knd d xs) (fit : (xs.length : Int) < 2 ^ 63) (h : Q (!xs.isEmpty) { s with toks := s.toks + 1 + 1 }) : wpAny (model prog w) A (truthy (.ref d)) Q E s := by
  have len : wpAny (model prog w) A (runValue (.builtin "len" ⟨[.ref d], []⟩)) (fun r s' => r = .int xs.length (s.toks + 1) ∧ Q (!xs.isEmpty) s') E s := by
    refine wpAny_runValue (codeAny_builtin entry_len ?_)
    rw [Around.under_plainId plain_len _]
    exact wpAny_mono (wpAny_len_body_dictH (Q := fun r s' => r = .int xs.length (s.toks + 1) ∧ Q (!xs.isEmpty) s') hd hm fit ⟨rfl, h⟩) (fun fin s' ⟨r, e, hq⟩ => by subst e; exact hq) fun _ _ e => e
  have back : ((xs.length : Int) != 0) = !xs.isEmpty := by
    cases xs with
    | nil => rfl
    | cons x r =>
      simp
      omega
  unfold truthy
  refine wpAny_bind (wpAny_callSpecial?_none (name := Str.ofString "__bool__") hm.typeIs noBool_dict ?_)
  refine wpAny_bind (wpAny_specialOf (name := Str.ofString "__len__") hm.typeIs PySem.F.slot_dict_len.lookup ?_)
  refine wpAny_bind (wpAny_mono len (fun r s' ⟨e, hq⟩ => ?_) fun _ _ e => e)
  subst e
  exact wpAny_pure (back ▸ hq)
end
section
variable {X : Cx} {a : Expr} {ta : TE}
theorem pt_dT (ha : PE X a ta) (he : ∀ whole, isTrue a X.env whole = (do let v ← whole; standAt a.pos; holding [v] (truthy v)) := by intro _; rfl) :
    PT X a (fun σ H Q => ta σ H fun x H' => ∃ (p : Addr) (kvs : List (List Key × V)), x = .ref p ∧ H' p = some (.dT kvs) ∧ Q (!kvs.isEmpty) H') := by
  refine ⟨fun pins s σ H Q I h => ?_⟩
  refine isTrue_plain (thn (ha.run pins s σ H _ I h) fun v s1 ⟨x, H1, I1, r1, p, kvs, ex, hp, q1⟩ => ?_) (he _)
  subst ex
  obtain rfl : v = Value.ref p := r1
  obtain ⟨z, hd, xs, rel, dd⟩ := dt_of I1.hok hp
  have hs : sizeLine = 16777216 := sizeLine_eq
  have hl := Paired.length rel
  refine truth_dictH hd dd (by omega) ⟨H1, I1.tok _, ?_⟩
  rw [show xs.isEmpty = kvs.isEmpty by cases rel <;> rfl]
  exact q1
end
end So

namespace So
open PySem PySem.Spec PyProof.Rows L2
/-! a statement that is never come to -/
def tDead : TS := fun _ _ _ => False
theorem ps_dead {X : Cx} {st : Stmt} : PS X st tDead := ⟨fun _ _ _ _ _ _ h => h.elim⟩
theorem pss_dead {X : Cx} {st : List Stmt} : PSs X st tDead := ⟨fun _ _ _ _ _ _ h => h.elim⟩
def tDeadE : TE := fun _ _ _ => False
theorem pe_dead {X : Cx} {e : Expr} : PE X e tDeadE := ⟨fun _ _ _ _ _ _ h => h.elim⟩
end So

namespace K49
open PySem PySem.Spec PyProof.Rows L2 So
abbrev sIsTurn : Stmt := topS 31
abbrev sHInit : Stmt := inClass (topS 33) 0
theorem scIsTurn : FnScope ["lives", "life", "turn"] ["lives", "life", "turn"] (defScope sIsTurn) := ⟨rfl, rfl, rfl, by decide +kernel, rfl, by decide +kernel, by decide +kernel⟩
theorem scHInit : FnScope ["self", "lives", "turns", "life"] ["self", "lives", "turns"] (defScope sHInit) := ⟨rfl, rfl, rfl, by decide +kernel, rfl, by decide +kernel, by decide +kernel⟩
/-- a turn of a life of these lives -/
def TurnOk (L : List (Str × List Int)) (e : Str × Int) (v : V) : Prop := v = .non ∨ ∃ (i : Int) (ns : List Int), v = .int i ∧ gMom (.int i) = true ∧ (e.1, ns) ∈ L ∧ e.2 ∈ ns ∧ e.2 ≤ i ∧ ∀ n ∈ ns, n ≤ i → n ≤ e.2
/-- the key of a life -/
def keyOf (e : Str × Int) : List Key := [.inr e.1, .inl e.2]
theorem LfAt.key {H : Hp} {j : Addr} {e : Str × Int} (h : LfAt H j e) : H j = some (.tup ((keyOf e).map kV)) := h
theorem keyOf_inj {a b : Str × Int} (h : keyOf a = keyOf b) : a = b := by
  obtain ⟨a1, a2⟩ := a
  obtain ⟨b1, b2⟩ := b
  unfold keyOf at h
  injection h with h1 h2
  injection h2 with h3 _
  cases h1
  cases h3
  rfl
theorem dcT_it {J : It} {n : Nat} {G : Hp → Prop} {Y : Nat → Hp → V → Hp → Prop} (w : Walk J n G Y) {g : TG} {tt : TT} {tk tv : TE} {vs : List Nat} {σ : L2.St} {H1 : Hp} {D : Addr} {Qd : Hp → Prop} (Pv : Nat → Hp → Prop) (h0 : Pv 0 (upd H1 D (.dT []))) (hG : ∀ i H, i ≤ n → Pv i H → G H)
    (hs : ∀ i x H H', i < n → Pv i H → Y i H x H' → g x (wipe σ vs) H' fun σ2 H2 => wipe σ2 vs = wipe σ vs ∧ tt σ2 H2 fun b H3 =>
      if b = true then tk σ2 H3 fun y H4 => tv σ2 H4 fun z H5 => ∃ kvs k c, y = .ref c ∧ H5 c = some (.tup (k.map kV)) ∧ H5 D = some (.dT kvs) ∧ kvs.length < sizeLine ∧ Pv (i + 1) (upd H5 D (.dT (putK kvs k z))) else Pv (i + 1) H3) (hd : ∀ H, Pv n H → Qd H) :
    ∃ W : Nat → Nat → Hp → Prop, (∃ m, W 0 m (upd H1 D (.dT []))) ∧ ∀ i m H, W i m H →
      (J.stop i H ∧ Qd H) ∨ (J.go i H ∧ ∃ Nx : Hp → Prop, (∀ H', Nx H' → ∃ m', m' < m ∧ W (i + 1) m' H') ∧ ∀ x H', J.yld i H x H' → g x (wipe σ vs) H' fun σ2 H2 => wipe σ2 vs = wipe σ vs ∧ tt σ2 H2 fun b H3 =>
        if b = true then tk σ2 H3 fun y H4 => tv σ2 H4 fun z H5 => ∃ kvs k c, y = .ref c ∧ H5 c = some (.tup (k.map kV)) ∧ H5 D = some (.dT kvs) ∧ kvs.length < sizeLine ∧ Nx (upd H5 D (.dT (putK kvs k z))) else Nx H3) := by
  refine ⟨fun i m H => m = n - i ∧ i ≤ n ∧ Pv i H, ⟨n, by simp, Nat.zero_le _, h0⟩, ?_⟩
  rintro i m H ⟨rfl, hi, p⟩
  have q := hG i H hi p
  by_cases hlt : i < n
  · exact .inr ⟨w.goes i H hlt q, Pv (i + 1), fun H' p' => ⟨n - (i + 1), by omega, rfl, hlt, p'⟩, fun x H' y => hs i x H H' hlt p (w.yields i H x H' hlt q y)⟩
  · have e : i = n := by omega
    subst e
    exact .inl ⟨w.stops H q, hd H p⟩
theorem lvs_nodup {L : List (Str × List Int)} (nd : (L.map (·.1)).Nodup) (hp : ∀ z ns, (z, ns) ∈ L → ns.Nodup) : (lvs L).Nodup := by
  induction L with
  | nil => exact List.nodup_nil
  | cons p r ih =>
    obtain ⟨z, ns⟩ := p
    rw [List.map_cons, List.nodup_cons] at nd
    show ((ns.map fun n => (z, n)) ++ lvs r).Nodup
    rw [List.nodup_append]
    refine ⟨?_, ih nd.2 fun z' ns' h => hp z' ns' (List.mem_cons_of_mem _ h), fun a ha b hb e => ?_⟩
    · exact List.Pairwise.map _ (fun a b h e => h (Prod.mk.inj e).2) (hp z ns List.mem_cons_self)
    · subst e
      obtain ⟨n, _, rfl⟩ := List.mem_map.mp ha
      obtain ⟨ns', h1, _⟩ := lvs_mem.mp hb
      exact nd.1 (List.mem_map_of_mem (f := (·.1)) h1)
theorem LOk.lnd {L : List (Str × List Int)} (h : LOk L) : (lvs L).Nodup := by
  refine lvs_nodup h.nd fun z ns hm => ?_
  obtain ⟨_, _, l, rfl, _, hb, hp⟩ := h.ns z ns hm
  rw [List.nodup_cons]
  refine ⟨fun h0 => ?_, hp.imp fun h e => absurd h (by omega)⟩
  have : (1 : Int) ≤ 0 ∧ (0 : Int) ≤ 1000000000000000000000000000000 := of_decide_eq_true (hb 0 h0)
  omega
theorem sum_small {m : Nat} : ∀ {l : List Nat}, (∀ x ∈ l, x ≤ m) → l.sum ≤ l.length * m
  | [], _ => by simp
  | x :: r, h => by
    have h1 := sum_small (l := r) fun y hy => h y (List.mem_cons_of_mem _ hy)
    have h2 := h x List.mem_cons_self
    rw [List.sum_cons, List.length_cons, Nat.succ_mul]
    omega
/-- what the top says of the class History, at C -/
structure Hsts (K : PySem.W.Frag) (mg : Str → Option Value) (C : Addr) : Prop where
  cl : Cls K C
  nL : NoAttr K C "_lives"
  nT : NoAttr K C "_turns"
  mgC : mg "History" = some (.ref C)
/-- a history at x, of the lives L: its turns es -/
def HsAt (CL C : Addr) (H : Hp) (x : Addr) (L : List (Str × List Int)) (es : List ((Str × Int) × V)) : Prop := ∃ (dx d lv : Addr), H x = some (.ins C dx [("_lives", .ref lv), ("_turns", .ref d)]) ∧ LsAt CL H lv L ∧ H d = some (.dT (es.map fun e => (keyOf e.1, e.2)))
theorem HsAt.same {CL C : Addr} {H H' : Hp} {x : Addr} {L : List (Str × List Int)} {es : List ((Str × Int) × V)} (h : HsAt CL C H x L es) (s : Same H H') : HsAt CL C H' x L es := by
  obtain ⟨dx, d, lv, h1, h2, h3⟩ := h
  exact ⟨dx, d, lv, s _ _ h1, h2.same s, s _ _ h3⟩
theorem LsAt.updT {C : Addr} {H : Hp} {a d : Addr} {L : List (Str × List Int)} {kvs : List (List Key × V)} {o : HO} (h : LsAt C H a L) (hd : H d = some (.dT kvs)) : LsAt C (upd H d o) a L := by
  obtain ⟨dx, b, kvb, h1, h2, h3⟩ := h
  refine ⟨dx, b, kvb, (upd_ne (ne_of h1 hd (fun z => nomatch z))).trans h1, (upd_ne (ne_of h2 hd (fun z => nomatch z))).trans h2, L2.Paired.mapP h3 fun kv p e => ?_⟩
  obtain ⟨e0, t, e1, e2⟩ := e
  exact ⟨e0, t, e1, (upd_ne (ne_of e2 hd (fun z => nomatch z))).trans e2⟩
theorem LsAt.offI {C C' dx' x : Addr} {H H' : Hp} {a : Addr} {L : List (Str × List Int)} (h : LsAt C H a L) (hx : H x = some (.ins C' dx' [])) (s : Off x H H') : LsAt C H' a L := by
  obtain ⟨dx, b, kvb, h1, h2, h3⟩ := h
  refine ⟨dx, b, kvb, s _ _ (ne_of h1 hx (fun z => by cases z)) h1, s _ _ (ne_of h2 hx (fun z => nomatch z)) h2, L2.Paired.mapP h3 fun kv p e => ?_⟩
  obtain ⟨e0, t, e1, e2⟩ := e
  exact ⟨e0, t, e1, s _ _ (ne_of e2 hx (fun z => nomatch z)) e2⟩
section
variable {P : Program} {w : World} {K : PySem.W.Frag} {mg : Str → Option Value} {base : Heap}
def spIsTurn (C : Addr) : Sp := fun vs H Q _ => ∃ (a j : Addr) (e : Str × Int) (v : V) (L : List (Str × List Int)), vs = [.ref a, .ref j, v] ∧ LsAt C H a L ∧ LOk L ∧ LfAt H j e ∧ TurnOk L e v ∧ ∀ H', Same H H' → Q (.bl true) H'
theorem ok_isTurn {C f fM fL : Addr} {fd fdM fdL : FuncData} (F : Fun K "is_turn" "is_turn" sIsTurn f fd) (T : Lvs K mg C) (FM : Fun K "is_moment" "is_moment" sMoment fM fdM) (bM : Binds K fdM ["value"] []) (gM : mg "is_moment" = some (.ref fM))
    (GM : FnOk P w K mg base CX0 2 fM fdM ["value"] spMoment) (mL : Meth K C "life_of" fL) (bL : Binds K fdL ["self", "tool", "moment"] []) {CM CT' : Addr} (GL : FnOk P w K mg base (L2.CX P w) 4 fL fdL ["self", "tool", "moment"] (spLife C CM CT')) :
    FnOk P w K mg base CX0 5 f fd ["lives", "life", "turn"] (spIsTurn C) := by
  refine F.ok scIsTurn (fun vs H Q E h => ?_) (fun cdv A outer s H vs Q E hr h => ?_)
  · obtain ⟨_, _, _, _, _, rfl, _⟩ := h
    rfl
  · obtain ⟨a, j, ⟨z, b⟩, v, L, rfl, hL, hO, hj, ht, q⟩ := h
    have hr2 : Room 2 _ := hr.mono (by decide)
    refine ⟨_, pss_one (ps_ret (pe_or (pe_cmpR op_isN (pv 2) pe_non (nomark _)) (pe_one (pe_and (pe_call GM hr2 (by rfl) gM FM.kp bM .nil pass0 (pa_cons (pv 2) pa_nil))
      (pe_one (pe_cmpR (op_eqD hr.units) (pe_meth (pv 0) T.cl mL GL hr bL .nil passNo (pa_cons (pe_ix ix_tup (pv 1) pe_int (fun _ _ => rfl)) (pa_cons (pv 2) pa_nil))) (pv 1) (nomark _))))))), ?_⟩
    rcases ht with rfl | ⟨i, ns, rfl, hg, hm, hb1, hb2, hb3⟩
    · exact ⟨_, rfl, rfl, _, rfl, iteT (q H (Same.refl H))⟩
    · obtain ⟨dx, d, kvs, h1, h2, h3⟩ := id hL
      refine ⟨_, rfl, rfl, _, rfl, iteF ?_⟩
      refine ⟨_, rfl, _, "int", rfl, .int i, _, rfl, ?_⟩
      rw [hg]
      refine iteT ?_
      refine ⟨_, rfl, a, dx, _, rfl, h1, rfl, _, rfl, j, _, 0, _, rfl, rfl, SqT.of hj, rfl, _, rfl, a, .str z, .int i, "str", "int", fun z => L.lookup z, rfl, hL.lv, hO.fok, .str z (hO.ns z ns hm).2.1, .int i, fun i' ns' b' e1 e2 e3 e4 e5 e6 t H1 s1 ht => ?_, fun e => ?_, fun ns' e1 e2 => ?_⟩
      case refine_2 => exact absurd ((lookup_mem hO.nd hm).symm.trans e) (by simp)
      case refine_3 => rw [hg] at e2; cases e2
      cases e2
      obtain rfl : ns = ns' := Option.some.inj ((lookup_mem hO.nd hm).symm.trans e1)
      obtain rfl : b = b' := by
        have h1 := hb3 b' e4 e5
        have h2 := e6 b hb1 hb2
        omega
      have hsh : SeqAt.shaped (.tuple [.str z, .int b]) = true := by simp [SeqAt.shaped, PyData.canLay0, PyData.canLayAll0, PyData.depth, PyData.depthAll, name_strOk (hO.ns z ns hm).1]
      refine ⟨_, rfl, .tuple [.str z, .int b], .tuple [.str z, .int b], .tup (SqT.of ht) (.cons (.str _) (.cons (.int _) .nil)), .tup (SqT.of (s1 _ _ hj)) (.cons (.str _) (.cons (.int _) .nil)), hsh, hsh, ?_⟩
      rw [show PyData.eqv (.tuple [.str z, .int b]) (.tuple [.str z, .int b]) = true from by simp [PyData.eqv, PyData.eqvAll]]
      exact q H1 s1
/-- History.__init__ of lives and of a dict that gives each life a turn -/
def spHInit (CL CH : Addr) : Sp := fun vs H Q _ => ∃ (x dx lv d : Addr) (L : List (Str × List Int)) (kvs : List (List Key × V)), vs = [.ref x, .ref lv, .ref d] ∧ H x = some (.ins CH dx []) ∧ LsAt CL H lv L ∧ LOk L ∧ H d = some (.dT kvs) ∧
  kvs.length = (lvs L).length ∧ (∀ kv ∈ kvs, ∃ e ∈ lvs L, kv.1 = keyOf e) ∧ (∀ e ∈ lvs L, ∃ v, valV kvs (keyOf e) = some v ∧ TurnOk L e v) ∧
  ∀ H', Off x H H' → HsAt CL CH H' x L ((lvs L).map fun e => (e, (valV kvs (keyOf e)).getD .non)) → Q .non H'
theorem ok_hinit {CL CH f fT fLn fC fL : Addr} {fd fdT fdLn fdC fdL : FuncData} (F : Fun K "__init__" "History.__init__" sHInit f fd) (T : Lvs K mg CL) (TH : Hsts K mg CH) (W : Words K mg) (md : mg "dict" = none)
    (FT : Fun K "is_turn" "is_turn" sIsTurn fT fdT) (bT : Binds K fdT ["lives", "life", "turn"] []) (gT : mg "is_turn" = some (.ref fT)) (GT : FnOk P w K mg base CX0 5 fT fdT ["lives", "life", "turn"] (spIsTurn CL))
    (sN : PySem.W.findIn K (.ref CL) "__len__" = some (some (.ref fLn))) (iN : PySem.W.isFn K (.ref fLn) = true) (bN : Binds K fdLn ["self"] []) (GN : FnOk P w K mg base CX0 3 fLn fdLn ["self"] (spLen CL))
    (sC : PySem.W.findIn K (.ref CL) "__contains__" = some (some (.ref fC))) (iC : PySem.W.isFn K (.ref fC) = true) (bC : Binds K fdC ["self", "life"] []) (GC : FnOk P w K mg base CX0 2 fC fdC ["self", "life"] (spCont CL))
    (pL : Addr) (PL : PropOf K CL "listed" pL fL) (bL : Binds K fdL ["self"] []) (GL : FnOk P w K mg base CX0 1 fL fdL ["self"] (spListed CL)) :
    FnOk P w K mg base CX0 6 f fd ["self", "lives", "turns"] (spHInit CL CH) := by
  refine F.ok scHInit (fun vs H Q E h => ?_) (fun cdv A outer s H vs Q E hr h => ?_)
  · obtain ⟨_, _, _, _, _, _, rfl, _⟩ := h
    rfl
  · obtain ⟨x, dx, lv, d, L0, kvs, rfl, hx, hL, hO, hd, hlen, hin, hall, q⟩ := h
    have hr2 : Room 2 _ := hr.mono (by decide)
    have hr4 : Room 4 _ := hr.mono (by decide)
    refine ⟨_, pss_cons (ps_if (PW.pt (pw_or (pt_not (pt_val (pe_callB call_isi (by rfl) W.isi (by decide +kernel) (pa_cons (pv 2) (pa_cons (pe_bltn (v := .ty "dict") (by rfl) md (by decide +kernel) rfl) pa_nil)))))
        (pw_or (pt_cmpR op_ne (pe_callB call_len_dT (by rfl) W.len PySem.boot_len (pa_cons (pv 2) pa_nil)) (pe_callB (call_lenO GN sN iN bN pass0 hr4) (by rfl) W.len PySem.boot_len (pa_cons (pv 1) pa_nil)) (nomark _))
          (pw_or1 (pt_not (pt_val (pe_callB (cr_all rfl) (by rfl) W.all (by decide +kernel) (pa_cons (pe_lock (pe_lc (own := [("life", 3)]) (g := gName 3) (tt := tYes) rfl scHInit.nd (pi_keys (pv 2)) (blkOk_by (N := ["self", "lives", "turns", "life"]) (sc := defScope sHInit) (by decide +kernel))
            (fun _ _ _ _ _ => pg_name (i := 3) scHInit.nd rfl (Or.inl rfl)) (fun _ _ _ _ _ => pts_nil) (fun _ _ _ _ _ => pe_cmpR (op_inO GC sC iC bC pass0 hr2) (pv 3) (pv 1) (by rfl)))) pa_nil)))))))) pss_dead pss_nil)
      (pss_cons (ps_for PassesOwn.never rfl (pi_tup (pe_prop (pv 1) T.cl PL GL hr2 bL .nil pass0 rfl)) (pg_name (i := 3) scHInit.nd rfl (Or.inl rfl))
        (pss_one (ps_if (pt_not (pt_val (pe_call GT hr (by rfl) gT FT.kp bT .nil pass0 (pa_cons (pv 1) (pa_cons (pv 3) (pa_cons (pe_dget (hu_of hr) (pv 2) (pv 3) (fun _ _ => rfl)) pa_nil)))))) pss_dead pss_nil)))
      (pss_cons (ps_fld (pv 0) (pv 1) rfl)
      (pss_one (ps_fld (pv 0) (pe_dcT (own := [("life", 3)]) (g := gName 3) (tt := tYes) rfl scHInit.nd hr.units0 (pi_tup (pe_prop (pv 1) T.cl PL GL hr2 bL .nil pass0 rfl)) (blkOk_by (N := ["self", "lives", "turns", "life"]) (sc := defScope sHInit) (by decide +kernel))
        (fun _ _ _ _ _ => pg_name (i := 3) scHInit.nd rfl (Or.inl rfl)) (fun _ _ _ _ _ => pts_nil) (fun _ _ _ _ _ => pv 3) (fun _ _ _ _ _ => pe_dget (hu_of hr) (pv 2) (pv 3) (fun _ _ => rfl))) rfl)))), ?_⟩
    obtain ⟨dx0, db, kvb, g1, g2, g3⟩ := id hL
    have hsm := hO.small
    have hss := sizeLine_eq
    have hlk : ∀ e ∈ lvs L0, ∃ ns, e.1.length ≤ 2000 ∧ L0.lookup e.1 = some ns ∧ e.2 ∈ ns := fun e he => by
      obtain ⟨ns, h1, h2⟩ := lvs_mem.mp (show (e.1, e.2) ∈ lvs L0 from he)
      exact ⟨ns, (hO.ns _ _ h1).2.1, lookup_mem hO.nd h1, h2⟩
    refine ⟨_, rfl, _, _, _, _, _, rfl, .ty "dict", .base (.dT hd), (show PySem.W.kitOne K (.type "dict") (.type "dict") = some true from kit_ty (by decide +kernel)), _, rfl, iteF ?_⟩
    refine ⟨_, rfl, d, kvs, rfl, hd, _, rfl, lv, dx0, _, rfl, g1, lv, L0, rfl, hL, hO, fun H1 s1 => ⟨_, rfl, by omega, rfl, _, rfl, ite2 (fun e => by rw [hlen, decide_eq_true rfl] at e; cases e) (fun _ => ?_)⟩⟩
    have hd1 := s1 _ _ hd
    refine ⟨d, _, hd1, True.intro, fun od => ⟨_, rfl, d, od, rfl, .inr ⟨kvs, upd_same, fun D hD => ?_⟩⟩⟩
    have hDd : D ≠ d := fun z => by rw [z, upd_same] at hD; cases hD
    have hLf : LsAt CL (upd H1 d (.frz od (.dT kvs))) lv L0 := (hL.same s1).updT hd1
    have hdf : upd H1 d (.frz od (.dT kvs)) d = some (.frz od (.dT kvs)) := upd_same
    generalize hHf : upd H1 d (.frz od (.dT kvs)) = Hf at hD hLf hdf ⊢
    refine lc_it walk_keysT (fun k H' => Same Hf H' ∧ H' D = some (.lst ((List.replicate k true).map V.bl))) ⟨same_upd0 hD, upd_same⟩ (fun _ _ _ y => y.1 _ _ hdf) ?_ ?_
    · rintro k y H2 H3 hk ⟨s2, hDk⟩ ⟨rfl, kk, v, qa, hkv, rfl, hq⟩
      obtain ⟨e, he, ek⟩ := hin (kk, v) (List.mem_of_getElem? hkv)
      have ek : kk = keyOf e := ek
      subst ek
      obtain ⟨ns, hz, hlo, hn⟩ := hlk e he
      obtain ⟨dx1, db1, kvb1, f1, f2, f3⟩ := id (hLf.same s2)
      refine ⟨rfl, _, rfl, _, rfl, lv, dx1, _, rfl, f1, lv, .ref qa, some (.str e.1, .int e.2), fun z => L0.lookup z, rfl, (hLf.same s2).lv, .inr ⟨_, _, qa, "str", "int", rfl, rfl, hq, .str _ hz, .int _⟩, inF (fun z => L0.lookup z) (some (.str e.1, .int e.2)), rfl, _, hDk, ?_, over3 s2 hD, ?_⟩
      · rw [List.length_map, List.length_replicate]
        omega
      · have hin' : inF (fun z => L0.lookup z) (some (.str e.1, .int e.2)) = true := by
          show (match L0.lookup e.1 with | some ns => decide (e.2 ∈ ns) | none => false) = true
          rw [hlo]
          exact decide_eq_true hn
        rw [upd_same, List.replicate_succ', List.map_append, show (id (inF (fun z => L0.lookup z) (some (.str e.1, .int e.2)))) = true from hin']
        rfl
    rintro H2 ⟨s2, hD2⟩
    refine ⟨s2 _ _ hdf, D, List.replicate kvs.length true, rfl, SqL.of ((upd_ne hDd).trans hD2), _, rfl, ?_⟩
    rw [show (List.replicate kvs.length true).all id = true by simp]
    refine iteF ?_
    subst hHf
    have sA : Same H (upd H2 d (.dT kvs)) := s1.trans (unlock_same hd1 s2)
    generalize upd H2 d (.dT kvs) = Ha at sA
    have hLa := hL.same sA
    obtain ⟨dx2, db2, kvb2, f1, _⟩ := id hLa
    refine ⟨_, rfl, lv, dx2, _, rfl, f1, lv, L0, rfl, hLa, hO, fun H3 t js s3 ht hjs => ⟨t, rfl, ⟨_, SqT.of ht⟩, ?_⟩⟩
    have hjl := Paired.length hjs
    refine for_it walk_tup (fun i σ H' => (∃ v3, σ = [some (.ref x), some (.ref lv), some (.ref d), v3]) ∧ Same H3 H') ⟨⟨_, rfl⟩, Same.refl H3⟩ (fun _ _ _ _ y => SqT.of (y.2 _ _ ht)) ?_ ?_
    · rintro i y σ H4 H5 hi ⟨⟨v3, rfl⟩, s4⟩ ⟨rfl, hy⟩
      rw [List.getElem?_map] at hy
      obtain ⟨j, hj, rfl⟩ : ∃ j, js[i]? = some j ∧ y = .ref j := by
        cases e : js[i]? with
        | none => rw [e] at hy; cases hy
        | some t => rw [e] at hy; exact ⟨t, rfl, (Option.some.inj hy).symm⟩
      obtain ⟨e, he, hje⟩ := L2.paired_get hjs hj
      have hje4 : LfAt H5 j e := s4 _ _ hje
      obtain ⟨v, hv, htk⟩ := hall e (List.mem_of_getElem? he)
      have sB := sA.trans (s3.trans s4)
      refine ⟨_, rfl, _, rfl, _, rfl, _, rfl, d, _, rfl, .inr ⟨kvs, keyOf e, j, .inl (sB _ _ hd), rfl, hje4.key, hv.symm⟩, lv, j, e, v, L0, rfl, hL.same sB, hO, hje4, htk, fun H6 s6 => ⟨_, rfl, iteF ⟨⟨_, rfl⟩, s4.trans s6⟩⟩⟩
    rintro σ H4 ⟨⟨v3, rfl⟩, s4⟩
    have sB := sA.trans (s3.trans s4)
    refine ⟨_, rfl, _, rfl, x, CH, dx, [], rfl, sB _ _ hx, TH.cl, TH.nL, by show 0 < 1000; decide, ?_⟩
    have ox : Off x H (upd H4 x (.ins CH dx [("_lives", .ref lv)])) := fun b o n e => (upd_ne n).trans (sB _ _ e)
    have hx5 : upd H4 x (.ins CH dx [("_lives", .ref lv)]) x = some (.ins CH dx [("_lives", .ref lv)]) := upd_same
    have ep : putF "_lives" (.ref lv) [] = [(("_lives" : Str), V.ref lv)] := rfl
    rw [ep]
    generalize upd H4 x (.ins CH dx [("_lives", .ref lv)]) = H5 at ox hx5
    have hL5 := hL.offI hx ox
    obtain ⟨dx3, db3, kvb3, f3, _⟩ := id hL5
    refine ⟨_, rfl, lv, dx3, _, rfl, f3, lv, L0, rfl, hL5, hO, fun H6 t2 js2 s6 ht2 hjs2 => ⟨t2, rfl, ⟨_, SqT.of ht2⟩, fun D2 hD2 => ?_⟩⟩
    have hjl2 := Paired.length hjs2
    have hd6 : H6 d = some (.dT kvs) := s6 _ _ (ox _ _ (ne_of hd hx (fun z => nomatch z)) hd)
    refine dcT_it walk_tup (fun i H' => Same H6 H' ∧ H' D2 = some (.dT (((lvs L0).take i).map fun e => (keyOf e, (valV kvs (keyOf e)).getD .non)))) ⟨same_upd0 hD2, upd_same⟩ (fun _ _ _ y => SqT.of (y.1 _ _ ht2)) ?_ ?_
    · rintro i y H7 H8 hi ⟨s7, hDk⟩ ⟨rfl, hy⟩
      rw [List.getElem?_map] at hy
      obtain ⟨j, hj, rfl⟩ : ∃ j, js2[i]? = some j ∧ y = .ref j := by
        cases e : js2[i]? with
        | none => rw [e] at hy; cases hy
        | some t => rw [e] at hy; exact ⟨t, rfl, (Option.some.inj hy).symm⟩
      obtain ⟨e, he, hje⟩ := L2.paired_get hjs2 hj
      have hje7 : LfAt H8 j e := s7 _ _ hje
      obtain ⟨v, hv, htk⟩ := hall e (List.mem_of_getElem? he)
      have et : (lvs L0).take (i + 1) = (lvs L0).take i ++ [e] := by rw [List.take_add_one, he]; rfl
      have hfresh : valV (((lvs L0).take i).map fun e => (keyOf e, (valV kvs (keyOf e)).getD .non)) (keyOf e) = none := by
        cases hc : valV (((lvs L0).take i).map fun e => (keyOf e, (valV kvs (keyOf e)).getD .non)) (keyOf e) with
        | none => rfl
        | some u =>
          have hm := valV_in hc
          rw [List.map_map] at hm
          obtain ⟨e2, h2, h3⟩ := List.mem_map.mp hm
          have e2e : e2 = e := keyOf_inj h3
          subst e2e
          have nd := hO.lnd
          rw [← List.take_append_drop i (lvs L0), List.nodup_append] at nd
          exact absurd rfl (nd.2.2 e2 h2 e2 (List.mem_of_getElem? (i := 0) (by rw [List.getElem?_drop, Nat.add_zero]; exact he)))
      refine ⟨rfl, _, rfl, _, rfl, _, rfl, d, _, rfl, .inr ⟨kvs, keyOf e, j, .inl (s7 _ _ hd6), rfl, hje7.key, hv.symm⟩, _, keyOf e, j, rfl, hje7.key, hDk, ?_, over3 s7 hD2, ?_⟩
      · rw [List.length_map, List.length_take]
        omega
      · rw [upd_same, putK_new _ hfresh, et, List.map_append]
        show some (HO.dT _) = some (HO.dT _)
        rw [List.map_cons, hv]
        rfl
    rintro H7 ⟨s7, hDk⟩
    rw [List.length_map, hjl2, List.take_length] at hDk
    have hx7 : H7 x = some (.ins CH dx [("_lives", .ref lv)]) := s7 _ _ (s6 _ _ hx5)
    refine ⟨_, rfl, x, CH, dx, _, rfl, hx7, TH.cl, TH.nT, by show 1 < 1000; decide, ?_⟩
    have nDx : D2 ≠ x := fun z => by rw [z, hx7] at hDk; cases hDk
    refine q _ (fun b o n e => (upd_ne n).trans (s7 _ _ (s6 _ _ (ox _ _ n e)))) ⟨dx, D2, lv, upd_same, hL.offI hx (fun b o n e => (upd_ne n).trans (s7 _ _ (s6 _ _ (ox _ _ n e)))), ?_⟩
    rw [upd_ne nDx, hDk, List.map_map]
    rfl
end
end K49

namespace So
open PySem PySem.Spec PyProof.Rows L2
section
variable {X : Cx} {CX : CXT} {k : Nat} {C f : Addr} {fd : FuncData} {ps : List Str} {sp : Sp} {E : XK}
/-- str(o) of an instance whose class has an own __str__ -/
theorem call_strOwn (F : FnOk X.prog X.w X.K X.mg X.base CX k f fd ps sp) (hs : PySem.W.findIn X.K (.ref C) "__str__" = some (some (.ref f))) (hf : PySem.W.isFn X.K (.ref f) = true) (hb : Binds X.K fd ps []) (hx : Passes CX X E) (hr : Room (k + 2) X.A) :
    CallR X (.type "str") (fun xs H Q => ∃ a dx fs, xs = [.ref a] ∧ H a = some (.ins C dx fs) ∧ sp [.ref a] H (fun v H' => ∃ t : Str, v = .str t ∧ Q (.str t) H') E) := by
  intro pins s σ H xs us Q I r h
  obtain ⟨a, dx, fs, rfl, ha, q⟩ := h
  obtain ⟨u, rfl, ru⟩ := vals1 r
  cases ru
  obtain ⟨mA, J, _⟩ := ins_get I.hok ha
  obtain ⟨od, J, _⟩ := J.look
  have hr2 : Room k X.A.in1.in1 := hr.in1.in1
  refine PySem.W.kso_call hr2.units0 I.kIn J hs hf ?_
  have e0 : Env0 X.prog X.w X.K X.mg X.base X.A.in1.in1 X.stack s H := I.env0.in1.in1
  have hl : ([Value.ref a] ++ ([] : List Value)).length = ps.length := (F.len _ _ _ _ q : [V.ref a].length = ps.length)
  refine wpAny_call (codeAny_mono (F.run X.A.in1.in1 X.stack s H ⟨[.ref a], []⟩ ([Value.ref a] ++ []) [.ref a] _ E hr2 e0 (hb s [Value.ref a] I.kIn hl) (show Vals [V.ref a] [Value.ref a] from .cons rfl .nil) q) fun r s' hq => ?_)
  match r, hq with
  | .error e, hq => exact hx pins σ H s e s' I hq
  | .ok (.ret u), hq =>
    obtain ⟨v, H', I', rv, t, ev, q'⟩ := I.after hq
    subst ev
    obtain ⟨tk, rfl⟩ := rv
    exact ⟨.str t, H', I', ⟨tk, rfl⟩, q'⟩
  | .ok .next, hq => exact hq.elim
  | .ok .brk, hq => exact hq.elim
  | .ok .cont, hq => exact hq.elim
end
end So

/-! o[i] of an own class with __getitem__ -/
namespace So
open PySem PySem.Spec PyProof.Rows L2
section
variable {X : Cx} {CX : CXT} {k : Nat} {C f : Addr} {fd : FuncData} {ps : List Str} {sp : Sp} {E : XK}
def rIxO (C : Addr) (sp : Sp) (E : XK) : R2 := fun x y H Q => ∃ a dx fs, x = .ref a ∧ H a = some (.ins C dx fs) ∧ sp [.ref a, y] H Q E
theorem pe_ixO {o i : Expr} {pos : Pos} {ta tb : TE} (ho : PE X o ta) (hi : PE X i tb) (F : FnOk X.prog X.w X.K X.mg X.base CX k f fd ps sp) (hs : PySem.W.findIn X.K (.ref C) "__getitem__" = some (some (.ref f))) (hfn : PySem.W.fnIn X.K f = true) (hf : PySem.W.isFn X.K (.ref f) = true)
    (hb : Binds X.K fd ps []) (hx : Passes CX X E) (hr : Room (k + 1) X.A) (hsl : ∀ v u, subscripted i true v u = runValue (.builtin "lifetime.subscript" ⟨[v, u], []⟩) := by intro _ _; rfl) : PE X (.Subscript o i pos) (tOp (rIxO C sp E) ta tb) := by
  refine ⟨fun pins s σ H Q I h => Subscript_ (binT ho hi I h fun v u s2 x y H2 I2 rx ry q => ?_)⟩
  obtain ⟨a, dx, fs, rfl, ha, q⟩ := q
  cases rx
  obtain ⟨mA, J, _⟩ := ins_get I2.hok ha
  obtain ⟨od, J, _⟩ := J.look
  obtain ⟨m, hF⟩ := I2.fr
  refine PySem.W.sub_K hF I2.ok.mod.kin J hs hfn hf ?_ (hsl _ _)
  have hr1 : Room k X.A.in1 := hr.in1
  have e0 : Env0 X.prog X.w X.K X.mg X.base X.A.in1 X.stack s2 H2 := I2.env0.in1
  have hl : ([Value.ref a, u] ++ ([] : List Value)).length = ps.length := (F.len _ _ _ _ q : [V.ref a, y].length = ps.length)
  refine wpAny_call (codeAny_mono (F.run X.A.in1 X.stack s2 H2 ⟨[.ref a, u], []⟩ ([.ref a, u] ++ []) [.ref a, y] _ E hr1 e0 (hb s2 [.ref a, u] I2.kIn hl) (.cons rfl (.cons ry .nil)) q) fun r s' hq => ?_)
  match r, hq with
  | .error e, hq => exact hx pins σ H2 s2 e s' I2 hq
  | .ok (.ret w), hq =>
    obtain ⟨z, H', I', rz, q'⟩ := I2.after hq
    exact ⟨z, H', I', rz, q'⟩
  | .ok .next, hq => exact hq.elim
  | .ok .brk, hq => exact hq.elim
  | .ok .cont, hq => exact hq.elim
end
end So

namespace K49
open PySem PySem.Spec PyProof.Rows L2 So
abbrev sAlways : Stmt := inClass (topS 33) 1
abbrev sTurns : Stmt := inClass (topS 33) 4
abbrev sTurn : Stmt := inClass (topS 33) 5
abbrev sItem : Stmt := inClass (topS 33) 6
abbrev sMakes : Stmt := inClass (topS 33) 8
abbrev sCall : Stmt := inClass (topS 33) 9
abbrev sWTurn : Stmt := inClass (topS 33) 12
abbrev sPoint : Stmt := inClass (topS 29) 5
theorem scAlways : FnScope ["lives", "life"] ["lives"] (defScope sAlways) := ⟨rfl, rfl, rfl, by decide +kernel, rfl, by decide +kernel, by decide +kernel⟩
theorem scTurns : FnScope ["self", "life"] ["self"] (defScope sTurns) := ⟨rfl, rfl, rfl, by decide +kernel, rfl, by decide +kernel, by decide +kernel⟩
theorem scTurn : FnScope ["self", "tool", "moment"] ["self", "tool", "moment"] (defScope sTurn) := ⟨rfl, rfl, rfl, by decide +kernel, rfl, by decide +kernel, by decide +kernel⟩
theorem scItem : FnScope ["self", "at", "tool", "moment", "turn"] ["self", "at"] (defScope sItem) := ⟨rfl, rfl, rfl, by decide +kernel, rfl, by decide +kernel, by decide +kernel⟩
theorem scMakes : FnScope ["self", "saying"] ["self", "saying"] (defScope sMakes) := ⟨rfl, rfl, rfl, by decide +kernel, rfl, by decide +kernel, by decide +kernel⟩
theorem scCall : FnScope ["self", "saying"] ["self", "saying"] (defScope sCall) := ⟨rfl, rfl, rfl, by decide +kernel, rfl, by decide +kernel, by decide +kernel⟩
theorem scWTurn : FnScope ["self", "tool", "moment", "turn", "life", "turns"] ["self", "tool", "moment", "turn"] (defScope sWTurn) := ⟨rfl, rfl, rfl, by decide +kernel, rfl, by decide +kernel, by decide +kernel⟩
theorem scPoint : FnScope ["self"] ["self"] (defScope sPoint) := ⟨rfl, rfl, rfl, by decide +kernel, rfl, by decide +kernel, by decide +kernel⟩
theorem valV_mem {κ : Type} [DecidableEq κ] {k : κ} {v : V} : ∀ {kvs : List (κ × V)}, (kvs.map (·.1)).Nodup → (k, v) ∈ kvs → valV kvs k = some v
  | [], _, h => nomatch h
  | p :: r, nd, h => by
    rw [List.map_cons, List.nodup_cons] at nd
    rcases List.mem_cons.mp h with e | e
    · subst e
      exact valV_pos rfl
    · have : ¬ p.1 = k := fun q => nd.1 (q ▸ List.mem_map_of_mem (f := (·.1)) e)
      rw [valV_neg this]
      exact valV_mem nd.2 e
theorem valV_out {κ : Type} [DecidableEq κ] {k : κ} {kvs : List (κ × V)} (h : k ∉ kvs.map (·.1)) : valV kvs k = none := by
  cases hc : valV kvs k with
  | none => rfl
  | some v => exact absurd (valV_in hc) h
theorem back_es {es : List ((Str × Int) × V)} {lv : List (Str × Int)} {kvs : List (List Key × V)} (h : es.map (·.1) = lv) (hv : ∀ e ∈ es, valV kvs (keyOf e.1) = some e.2) : (lv.map fun e => (e, (valV kvs (keyOf e)).getD .non)) = es := by
  subst h
  rw [List.map_map]
  refine (List.map_congr_left (g := id) fun e he => ?_).trans (List.map_id es)
  show (e.1, (valV kvs (keyOf e.1)).getD .non) = e
  rw [hv e he]
  rfl
/-- each life has a turn of its own -/
structure HsOk (L : List (Str × List Int)) (es : List ((Str × Int) × V)) : Prop where
  k : es.map (·.1) = lvs L
  e : ∀ e ∈ es, TurnOk L e.1 e.2
theorem HsOk.nd {L : List (Str × List Int)} {es : List ((Str × Int) × V)} (dr : HsOk L es) (ok : LOk L) : ((es.map fun e => (keyOf e.1, e.2)).map (·.1)).Nodup := by
  have e : (es.map fun e => (keyOf e.1, e.2)).map (·.1) = (lvs L).map keyOf := by
    rw [← dr.k, List.map_map, List.map_map]
    rfl
  rw [e]
  exact List.Pairwise.map _ (fun a b h e => h (keyOf_inj e)) ok.lnd
theorem HsOk.get {L : List (Str × List Int)} {es : List ((Str × Int) × V)} (dr : HsOk L es) (ok : LOk L) {e : Str × Int} {v : V} (h : (e, v) ∈ es) : valV (es.map fun e => (keyOf e.1, e.2)) (keyOf e) = some v :=
  valV_mem (dr.nd ok) (List.mem_map.mpr ⟨(e, v), h, rfl⟩)
theorem HsOk.pre {L : List (Str × List Int)} {es : List ((Str × Int) × V)} (dr : HsOk L es) (ok : LOk L) :
    (es.map fun e => (keyOf e.1, e.2)).length = (lvs L).length ∧ (∀ kv ∈ es.map fun e => (keyOf e.1, e.2), ∃ e ∈ lvs L, kv.1 = keyOf e) ∧ (∀ e ∈ lvs L, ∃ v, valV (es.map fun e => (keyOf e.1, e.2)) (keyOf e) = some v ∧ TurnOk L e v) ∧
      ((lvs L).map fun e => (e, (valV (es.map fun e => (keyOf e.1, e.2)) (keyOf e)).getD .non)) = es := by
  have hv : ∀ e ∈ es, valV (es.map fun e => (keyOf e.1, e.2)) (keyOf e.1) = some e.2 := fun e he => dr.get ok he
  refine ⟨by rw [List.length_map, ← dr.k, List.length_map], fun kv hk => ?_, fun e he => ?_, back_es dr.k hv⟩
  · obtain ⟨e, he, rfl⟩ := List.mem_map.mp hk
    exact ⟨e.1, by rw [← dr.k]; exact List.mem_map_of_mem (f := (·.1)) he, rfl⟩
  · rw [← dr.k] at he
    obtain ⟨e', he', rfl⟩ := List.mem_map.mp he
    exact ⟨e'.2, hv e' he', dr.e e' he'⟩
theorem newS {H : Hp} {x dx C : Addr} (h1 : H x = none) (h2 : H dx = none) : Same H (upd (upd H dx (.own x)) x (.ins C dx [])) := fun c o e => by
  rw [upd_ne (ne_of_none e h1), upd_ne (ne_of_none e h2)]
  exact e
section
variable {P : Program} {w : World} {K : PySem.W.Frag} {mg : Str → Option Value} {base : Heap}
/-- behind History(lives, d), the dict just of these turns -/
theorem made_h {CL CH x dx lv d : Addr} {L : List (Str × List Int)} {es : List ((Str × Int) × V)} {H1 : Hp} {Q : VK} {E : XK} (hx : H1 x = none) (hdx : H1 dx = none) (hL : LsAt CL H1 lv L) (ok : LOk L) (dr : HsOk L es) (hd : H1 d = some (.dT (es.map fun e => (keyOf e.1, e.2))))
    (q : ∀ H', Same H1 H' → HsAt CL CH H' x L es → Q .non H') : spHInit CL CH [.ref x, .ref lv, .ref d] (upd (upd H1 dx (.own x)) x (.ins CH dx [])) Q E := by
  have s0 := newS (C := CH) hx hdx
  obtain ⟨m1, m2, m3, m4⟩ := dr.pre ok
  refine ⟨x, dx, lv, d, L, _, rfl, upd_same, hL.same s0, ok, s0 _ _ hd, m1, m2, m3, fun H' o h => ?_⟩
  rw [m4] at h
  exact q H' (fun c u g => o c u (ne_of_none g hx) (s0 c u g)) h
/-- the history in which each tool is always sound -/
def spAlways (CL CH : Addr) : Sp := fun vs H Q _ => ∃ (lv : Addr) (L : List (Str × List Int)), vs = [.ref lv] ∧ LsAt CL H lv L ∧ LOk L ∧ ∀ (H' : Hp) (x : Addr), Same H H' → HsAt CL CH H' x L ((lvs L).map fun e => (e, .non)) → HsOk L ((lvs L).map fun e => (e, .non)) → Q (.ref x) H'
theorem ok_always {CL CH f fI fL : Addr} {fd fdI fdL : FuncData} (F : Fun K "always" "History.always" sAlways f fd) (T : Lvs K mg CL) (TH : Hsts K mg CH) (M : Mk K CH fI) (bI : Binds K fdI ["self", "lives", "turns"] []) (GI : FnOk P w K mg base CX0 6 fI fdI ["self", "lives", "turns"] (spHInit CL CH))
    (pL : Addr) (PL : PropOf K CL "listed" pL fL) (bL : Binds K fdL ["self"] []) (GL : FnOk P w K mg base CX0 1 fL fdL ["self"] (spListed CL)) : FnOk P w K mg base CX0 8 f fd ["lives"] (spAlways CL CH) := by
  refine F.ok scAlways (fun vs H Q E h => ?_) (fun cdv A outer s H vs Q E hr h => ?_)
  · obtain ⟨_, _, rfl, _⟩ := h
    rfl
  · obtain ⟨lv, L0, rfl, hL, hO, q⟩ := h
    have hr2 : Room 2 _ := hr.mono (by decide)
    have hsm := hO.small
    have hss := sizeLine_eq
    refine ⟨_, pss_one (ps_ret (pe_make M GI hr (by rfl) TH.mgC bI .nil pass0 (pa_cons (pv 0) (pa_cons (pe_dcT (own := [("life", 1)]) (g := gName 1) (tt := tYes) rfl scAlways.nd hr.units0 (pi_tup (pe_prop (pv 0) T.cl PL GL hr2 bL .nil pass0 rfl)) (blkOk_by (N := ["lives", "life"]) (sc := defScope sAlways) (by decide +kernel))
        (fun _ _ _ _ _ => pg_name (i := 1) scAlways.nd rfl (Or.inl rfl)) (fun _ _ _ _ _ => pts_nil) (fun _ _ _ _ _ => pv 1) (fun _ _ _ _ _ => pe_non)) pa_nil)))), ?_⟩
    obtain ⟨dx0, db, kvb, g1, g2, g3⟩ := id hL
    refine ⟨_, rfl, _, rfl, lv, dx0, _, rfl, g1, lv, L0, rfl, hL, hO, fun H1 t js s1 ht hjs => ⟨t, rfl, ⟨_, SqT.of ht⟩, fun D hD => ?_⟩⟩
    have hjl := Paired.length hjs
    refine dcT_it walk_tup (fun i H' => Same H1 H' ∧ H' D = some (.dT (((lvs L0).take i).map fun e => (keyOf e, V.non)))) ⟨same_upd0 hD, upd_same⟩ (fun _ _ _ y => SqT.of (y.1 _ _ ht)) ?_ ?_
    · rintro i y H7 H8 hi ⟨s7, hDk⟩ ⟨rfl, hy⟩
      rw [List.getElem?_map] at hy
      obtain ⟨j, hj, rfl⟩ : ∃ j, js[i]? = some j ∧ y = .ref j := by
        cases e : js[i]? with
        | none => rw [e] at hy; cases hy
        | some t => rw [e] at hy; exact ⟨t, rfl, (Option.some.inj hy).symm⟩
      obtain ⟨e, he, hje⟩ := L2.paired_get hjs hj
      have hje7 : LfAt H8 j e := s7 _ _ hje
      have et : (lvs L0).take (i + 1) = (lvs L0).take i ++ [e] := by rw [List.take_add_one, he]; rfl
      have hfresh : valV (((lvs L0).take i).map fun e => (keyOf e, V.non)) (keyOf e) = none := valV_out fun hm => by
        rw [List.map_map] at hm
        obtain ⟨e2, h2, h3⟩ := List.mem_map.mp hm
        have e2e : e2 = e := keyOf_inj h3
        subst e2e
        have nd := hO.lnd
        rw [← List.take_append_drop i (lvs L0), List.nodup_append] at nd
        exact absurd rfl (nd.2.2 e2 h2 e2 (List.mem_of_getElem? (i := 0) (by rw [List.getElem?_drop, Nat.add_zero]; exact he)))
      refine ⟨rfl, _, rfl, _, keyOf e, j, rfl, hje7.key, hDk, ?_, over3 s7 hD, ?_⟩
      · rw [List.length_map, List.length_take]
        omega
      · rw [upd_same, putK_new _ hfresh, et, List.map_append]
        rfl
    rintro H7 ⟨s7, hDk⟩
    rw [List.length_map, hjl, List.take_length] at hDk
    have dr : HsOk L0 ((lvs L0).map fun e => (e, V.non)) := ⟨by rw [List.map_map]; exact List.map_id _, fun e he => by
      obtain ⟨e', _, rfl⟩ := List.mem_map.mp he
      exact .inl rfl⟩
    have hd : H7 D = some (.dT (((lvs L0).map fun e => (e, V.non)).map fun e => (keyOf e.1, e.2))) := by
      rw [hDk, List.map_map]
      rfl
    exact fun x dx e1 e2 e3 => made_h e1 e2 (hL.same (s1.trans s7)) hO dr hd fun H' s hs => ⟨rfl, q H' x ((s1.trans s7).trans s) hs dr⟩
/-- a new dict of the turns -/
def spTurns (CL CH : Addr) : Sp := fun vs H Q _ => ∃ (x : Addr) (L : List (Str × List Int)) (es : List ((Str × Int) × V)), vs = [.ref x] ∧ HsAt CL CH H x L es ∧ LOk L ∧ HsOk L es ∧ ∀ (H' : Hp) (d : Addr), H d = none → Same H H' → H' d = some (.dT (es.map fun e => (keyOf e.1, e.2))) → Q (.ref d) H'
theorem ok_turns {CL CH f : Addr} {fd : FuncData} (F : Fun K "turns" "History.turns" sTurns f fd) (TH : Hsts K mg CH) : FnOk P w K mg base CX0 1 f fd ["self"] (spTurns CL CH) := by
  refine F.ok scTurns (fun vs H Q E h => ?_) (fun cdv A outer s H vs Q E hr h => ?_)
  · obtain ⟨_, _, _, rfl, _⟩ := h
    rfl
  · obtain ⟨x, L, es, rfl, hH, hO, dr, q⟩ := h
    obtain ⟨dx, d, lv, h1, h2, h3⟩ := id hH
    have hss := sizeLine_eq
    have hsm := hO.small
    have hel : es.length = (lvs L).length := by rw [← dr.k, List.length_map]
    refine ⟨_, pss_one (ps_ret (pe_lock (pe_dcT (own := [("life", 1)]) (g := gName 1) (tt := tYes) rfl scTurns.nd hr.units0 (pi_keys (pe_fld (pv 0) rfl)) (blkOk_by (N := ["self", "life"]) (sc := defScope sTurns) (by decide +kernel))
        (fun _ _ _ _ _ => pg_name (i := 1) scTurns.nd rfl (Or.inl rfl)) (fun _ _ _ _ _ => pts_nil) (fun _ _ _ _ _ => pv 1) (fun _ _ _ _ _ => pe_dget (hu_of hr) (pe_fldK (K := K) rfl (pv 0) rfl) (pv 1) (fun _ _ => rfl))))), ?_⟩
    have nx : x ≠ d := fun z => by rw [z, h3] at h1; cases h1
    refine ⟨d, _, h3, True.intro, fun od => ⟨_, rfl, x, CH, dx, _, _, rfl, (upd_ne nx).trans h1, TH.cl, TH.nT, rfl, d, od, rfl, .inr ⟨_, upd_same, fun D hD => ?_⟩⟩⟩
    have hDd : D ≠ d := fun z => by rw [z, upd_same] at hD; cases hD
    have hdf : upd H d (.frz od (.dT (es.map fun e => (keyOf e.1, e.2)))) d = some (.frz od (.dT (es.map fun e => (keyOf e.1, e.2)))) := upd_same
    have hxf := (upd_ne (o := .frz od (.dT (es.map fun e => (keyOf e.1, e.2)))) nx).trans h1
    generalize hHf : upd H d (.frz od (.dT (es.map fun e => (keyOf e.1, e.2)))) = Hf at hD hdf hxf ⊢
    refine dcT_it walk_keysT (fun i H' => Same Hf H' ∧ H' D = some (.dT ((es.take i).map fun e => (keyOf e.1, e.2)))) ⟨same_upd0 hD, upd_same⟩ (fun _ _ _ y => y.1 _ _ hdf) ?_ ?_
    · rintro i y H7 H8 hi ⟨s7, hDk⟩ ⟨rfl, kk, v, qa, hkv, rfl, hq⟩
      rw [List.getElem?_map] at hkv
      obtain ⟨e, he, ek, ev⟩ : ∃ e, es[i]? = some e ∧ keyOf e.1 = kk ∧ e.2 = v := by
        cases e : es[i]? with
        | none => rw [e] at hkv; cases hkv
        | some t => rw [e] at hkv; cases hkv; exact ⟨t, rfl, rfl, rfl⟩
      subst ek ev
      have hv := dr.get hO (e := e.1) (v := e.2) (List.mem_of_getElem? he)
      have et : es.take (i + 1) = es.take i ++ [e] := by rw [List.take_add_one, he]; rfl
      have hfresh : valV ((es.take i).map fun e => (keyOf e.1, e.2)) (keyOf e.1) = none := valV_out fun hm => by
        have nd := dr.nd hO
        rw [← List.take_append_drop i es, List.map_append, List.map_append, List.nodup_append] at nd
        exact nd.2.2 _ hm (keyOf e.1) (List.mem_map.mpr ⟨(keyOf e.1, e.2), List.mem_map.mpr ⟨e, List.mem_of_getElem? (i := 0) (by rw [List.getElem?_drop, Nat.add_zero]; exact he), rfl⟩, rfl⟩) rfl
      refine ⟨rfl, _, rfl, _, rfl, x, CH, dx, _, _, rfl, s7 _ _ hxf, TH.cl, TH.nT, rfl, _, rfl, d, _, rfl, .inr ⟨_, keyOf e.1, qa, .inr ⟨od, s7 _ _ hdf⟩, rfl, hq, hv.symm⟩, _, keyOf e.1, qa, rfl, hq, hDk, ?_, over3 s7 hD, ?_⟩
      · rw [List.length_map, List.length_take]
        omega
      · rw [upd_same, putK_new _ hfresh, et, List.map_append]
        rfl
    rintro H7 ⟨s7, hDk⟩
    rw [List.length_map, List.take_length] at hDk
    subst hHf
    exact ⟨s7 _ _ hdf, q _ D ((upd_ne hDd).symm.trans hD) (unlock_same h3 s7) ((upd_ne hDd).trans hDk)⟩
end
end K49

namespace K49
open PySem PySem.Spec PyProof.Rows L2 So
/-- b begins the life in which the moment i of z lies -/
def LifeAt (L : List (Str × List Int)) (z : Str) (i b : Int) : Prop := gMom (.int i) = true ∧ ∃ ns, (z, ns) ∈ L ∧ b ∈ ns ∧ b ≤ i ∧ ∀ n ∈ ns, n ≤ i → n ≤ b
theorem LifeAt.one {L : List (Str × List Int)} {z : Str} {i b b' : Int} {ns' : List Int} (h : LifeAt L z i b) (ok : LOk L) (e1 : L.lookup z = some ns') (e4 : b' ∈ ns') (e5 : b' ≤ i) (e6 : ∀ n ∈ ns', n ≤ i → n ≤ b') : b = b' := by
  obtain ⟨_, ns, hm, h1, h2, h3⟩ := h
  obtain rfl : ns = ns' := Option.some.inj ((lookup_mem ok.nd hm).symm.trans e1)
  have a1 := h3 b' e4 e5
  have a2 := e6 b h1 h2
  omega
/-- whether a tool is sound at i, by its turn -/
def sndB (v : V) (i : Int) : Bool := match v with
  | .int t => decide (t > i)
  | _ => true
section
variable {P : Program} {w : World} {K : PySem.W.Frag} {mg : Str → Option Value} {base : Heap}
theorem life_sp {CL CM CT' lv : Addr} {z : Str} {i b : Int} {L : List (Str × List Int)} {H : Hp} {Q : VK} {E : XK} (hL : LsAt CL H lv L) (ok : LOk L) (h : LifeAt L z i b) (q : ∀ t H', Same H H' → LfAt H' t (z, b) → Q (.ref t) H') : spLife CL CM CT' [.ref lv, .str z, .int i] H Q E := by
  obtain ⟨hg, ns, hm, h1, h2, h3⟩ := id h
  refine ⟨lv, .str z, .int i, "str", "int", fun z => L.lookup z, rfl, hL.lv, ok.fok, .str z (ok.ns z ns hm).2.1, .int i, fun i' ns' b' e1 e2 e3 e4 e5 e6 t H1 s1 ht => ?_, fun e => ?_, fun ns' e1 e2 => ?_⟩
  case refine_2 => exact absurd ((lookup_mem ok.nd hm).symm.trans e) (by simp)
  case refine_3 => rw [hg] at e2; cases e2
  cases e2
  obtain rfl := h.one ok e1 e4 e5 e6
  exact q t H1 s1 ht
/-- the turn of the life of a point -/
def spTurn (CL CH : Addr) : Sp := fun vs H Q _ => ∃ (x : Addr) (z : Str) (i b : Int) (v : V) (L : List (Str × List Int)) (es : List ((Str × Int) × V)), vs = [.ref x, .str z, .int i] ∧ HsAt CL CH H x L es ∧ LOk L ∧ HsOk L es ∧ LifeAt L z i b ∧ ((z, b), v) ∈ es ∧ ∀ H', Same H H' → Q v H'
theorem ok_turn {CL CH CM CT' f fL : Addr} {fd fdL : FuncData} (F : Fun K "turn" "History.turn" sTurn f fd) (T : Lvs K mg CL) (TH : Hsts K mg CH) (mL : Meth K CL "life_of" fL) (bL : Binds K fdL ["self", "tool", "moment"] []) (GL : FnOk P w K mg base (L2.CX P w) 4 fL fdL ["self", "tool", "moment"] (spLife CL CM CT')) :
    FnOk P w K mg base CX0 5 f fd ["self", "tool", "moment"] (spTurn CL CH) := by
  refine F.ok scTurn (fun vs H Q E h => ?_) (fun cdv A outer s H vs Q E hr h => ?_)
  · obtain ⟨_, _, _, _, _, _, _, rfl, _⟩ := h
    rfl
  · obtain ⟨x, z, i, b, v, L, es, rfl, hH, hO, dr, hl, hv, q⟩ := h
    obtain ⟨dx, d, lv, h1, h2, h3⟩ := id hH
    obtain ⟨dxl, db, kvb, g1, _⟩ := id h2
    refine ⟨_, pss_one (ps_ret (pe_dget (hu_of hr) (pe_fld (pv 0) rfl) (pe_meth (pe_fld (pv 0) rfl) T.cl mL GL hr bL .nil passNo (pa_cons (pv 1) (pa_cons (pv 2) pa_nil))) (fun _ _ => rfl))), ?_⟩
    refine ⟨_, rfl, x, CH, dx, _, _, rfl, h1, TH.cl, TH.nT, rfl, _, rfl, x, CH, dx, _, _, rfl, h1, TH.cl, TH.nL, rfl, lv, dxl, _, rfl, g1, rfl, _, rfl, _, rfl, ?_⟩
    dsimp only [tNil, List.append_nil]
    refine life_sp h2 hO hl fun t H' s ht => ?_
    exact ⟨d, v, rfl, .inr ⟨_, keyOf (z, b), t, .inl (s _ _ h3), rfl, ht.key, (dr.get hO hv).symm⟩, q H' s⟩
/-- history[point] -/
def spItem (CL CH : Addr) : Sp := fun vs H Q _ => ∃ (x j : Addr) (z : Str) (i b : Int) (v : V) (L : List (Str × List Int)) (es : List ((Str × Int) × V)), vs = [.ref x, .ref j] ∧ H j = some (.tup [.str z, .int i]) ∧ HsAt CL CH H x L es ∧ LOk L ∧ HsOk L es ∧ LifeAt L z i b ∧ ((z, b), v) ∈ es ∧
  ∀ H', Same H H' → Q (.bl (sndB v i)) H'
theorem ok_item {CL CH f fT : Addr} {fd fdT : FuncData} (F : Fun K "__getitem__" "History.__getitem__" sItem f fd) (TH : Hsts K mg CH) (mT : Meth K CH "turn" fT) (bT : Binds K fdT ["self", "tool", "moment"] []) (GT : FnOk P w K mg base CX0 5 fT fdT ["self", "tool", "moment"] (spTurn CL CH)) :
    FnOk P w K mg base CX0 6 f fd ["self", "at"] (spItem CL CH) := by
  refine F.ok scItem (fun vs H Q E h => ?_) (fun cdv A outer s H vs Q E hr h => ?_)
  · obtain ⟨_, _, _, _, _, _, _, _, rfl, _⟩ := h
    rfl
  · obtain ⟨x, j, z, i, b, v, L, es, rfl, hj, hH, hO, dr, hl, hv, q⟩ := h
    obtain ⟨dx, d, lv, h1, h2, h3⟩ := id hH
    refine ⟨_, pss_cons (ps_asg (pv 1) (pg_tup rfl (pgs_cons (pg_name (i := 2) scItem.nd rfl (Or.inl rfl)) (pgs_cons (pg_name (i := 3) scItem.nd rfl (Or.inl rfl)) pgs_nil))))
      (pss_cons (ps_set (i := 4) scItem.nd rfl (.inl rfl) (pe_meth (pv 0) TH.cl mT GT hr bT .nil pass0 (pa_cons (pv 2) (pa_cons (pv 3) pa_nil))))
      (pss_one (ps_ret (pe_or (pe_cmpR op_isN (pv 4) pe_non (nomark _)) (pe_one (pe_cmpR op_gt (pv 4) (pv 3) (nomark _))))))), ?_⟩
    refine ⟨_, rfl, j, _, rfl, SqT.of hj, rfl, _, _, rfl, _, _, rfl, rfl, ?_⟩
    refine ⟨_, rfl, x, dx, _, rfl, h1, rfl, _, rfl, _, rfl, x, z, i, b, v, L, es, rfl, hH, hO, dr, hl, hv, fun H' s => ?_⟩
    rcases dr.e _ hv with hn | ⟨t, ns, ht, _⟩
    · have hn : v = .non := hn
      subst hn
      exact ⟨_, rfl, rfl, _, rfl, iteT (q H' s)⟩
    · have ht : v = .int t := ht
      subst ht
      exact ⟨_, rfl, rfl, _, rfl, iteF ⟨_, rfl, _, rfl, _, _, rfl, rfl, q H' s⟩⟩
/-- the point of a saying -/
def spPoint (CY : Addr) : Sp := fun vs H Q _ => ∃ (a : Addr) (z : Str) (i : Int) (b : Bool), vs = [.ref a] ∧ At CY H a z i b ∧ ∀ (H' : Hp) (j : Addr), Same H H' → H' j = some (.tup [.str z, .int i]) → Q (.ref j) H'
theorem ok_point {CY f : Addr} {fd : FuncData} (F : Fun K "point" "Saying.point" sPoint f fd) (T : Say K mg CY) : FnOk P w K mg base CX0 1 f fd ["self"] (spPoint CY) := by
  refine F.ok scPoint (fun vs H Q E h => ?_) (fun cdv A outer s H vs Q E hr h => ?_)
  · obtain ⟨_, _, _, _, rfl, _⟩ := h
    rfl
  · obtain ⟨a, z, i, b, rfl, ⟨dx, hA⟩, q⟩ := h
    refine ⟨_, pss_one (ps_ret (pe_tup (pa_cons (pe_fld (pv 0) rfl) (pa_cons (pe_fld (pv 0) rfl) pa_nil)))), ?_⟩
    exact ⟨_, rfl, a, CY, dx, _, _, rfl, hA, T.cl, T.nT, sf_tool _ _ _, _, rfl, a, CY, dx, _, _, rfl, hA, T.cl, T.nM, sf_moment _ _ _, by show 2 ≤ sizeLine; decide, fun j hj => q _ j (same_upd0 hj) upd_same⟩
/-- whether a history makes a saying true -/
def spMakes (CL CH CY : Addr) : Sp := fun vs H Q _ => ∃ (x a : Addr) (z : Str) (i b : Int) (s : Bool) (v : V) (L : List (Str × List Int)) (es : List ((Str × Int) × V)), vs = [.ref x, .ref a] ∧ At CY H a z i s ∧ HsAt CL CH H x L es ∧ LOk L ∧ HsOk L es ∧ LifeAt L z i b ∧ ((z, b), v) ∈ es ∧
  ∀ H', Same H H' → Q (.bl (decide (sndB v i = s))) H'
theorem ok_makes {CL CH CY f fI pP fP : Addr} {fd fdI fdP : FuncData} (F : Fun K "_makes" "History._makes" sMakes f fd) (T : Say K mg CY) (TH : Hsts K mg CH) (sI : PySem.W.findIn K (.ref CH) "__getitem__" = some (some (.ref fI))) (nI : PySem.W.fnIn K fI = true) (iI : PySem.W.isFn K (.ref fI) = true) (bI : Binds K fdI ["self", "at"] [])
    (GI : FnOk P w K mg base CX0 6 fI fdI ["self", "at"] (spItem CL CH)) (PP : PropOf K CY "point" pP fP) (bP : Binds K fdP ["self"] []) (GP : FnOk P w K mg base CX0 1 fP fdP ["self"] (spPoint CY)) : FnOk P w K mg base CX0 8 f fd ["self", "saying"] (spMakes CL CH CY) := by
  refine F.ok scMakes (fun vs H Q E h => ?_) (fun cdv A outer s H vs Q E hr h => ?_)
  · obtain ⟨_, _, _, _, _, _, _, _, _, rfl, _⟩ := h
    rfl
  · obtain ⟨x, a, z, i, b, sb, v, L, es, rfl, hA, hH, hO, dr, hl, hv, q⟩ := h
    obtain ⟨dx, d, lv, h1, h2, h3⟩ := id hH
    obtain ⟨dxa, hAa⟩ := id hA
    have hr2 : Room 2 _ := hr.mono (by decide)
    refine ⟨_, pss_one (ps_ret (pe_cmpR op_eq (pe_ixO (pv 0) (pe_prop (pv 1) T.cl PP GP hr2 bP .nil pass0 rfl) GI sI nI iI bI pass0 hr) (pe_fld (pv 1) rfl) (nomark _))), ?_⟩
    refine ⟨_, rfl, _, rfl, a, dxa, _, rfl, hAa, a, z, i, sb, rfl, hA, fun H1 j s1 hj => ⟨x, dx, _, rfl, s1 _ _ h1, x, j, z, i, b, v, L, es, rfl, hj, hH.same s1, hO, dr, hl, hv, fun H2 s2 => ?_⟩⟩
    refine ⟨_, rfl, a, CY, dxa, _, _, rfl, s2 _ _ (s1 _ _ hAa), T.cl, T.nS, sf_sound _ _ _, rfl, ?_⟩
    have e : decide (V.bl (sndB v i) = V.bl sb) = decide (sndB v i = sb) := decide_eq_decide.mpr ⟨fun h => V.bl.inj h, fun h => by rw [h]⟩
    rw [e]
    exact q H2 (s1.trans s2)
theorem ok_call {CL CH CY f fM : Addr} {fd fdM : FuncData} (F : Fun K "__call__" "History.__call__" sCall f fd) (TH : Hsts K mg CH) (mM : Meth K CH "_makes" fM) (bM : Binds K fdM ["self", "saying"] []) (GM : FnOk P w K mg base CX0 8 fM fdM ["self", "saying"] (spMakes CL CH CY)) :
    FnOk P w K mg base CX0 9 f fd ["self", "saying"] (spMakes CL CH CY) := by
  refine F.ok scCall (fun vs H Q E h => ?_) (fun cdv A outer s H vs Q E hr h => ?_)
  · obtain ⟨_, _, _, _, _, _, _, _, _, rfl, _⟩ := h
    rfl
  · obtain ⟨x, a, z, i, b, sb, v, L, es, rfl, hA, hH, hO, dr, hl, hv, q⟩ := h
    obtain ⟨dx, d, lv, h1, h2, h3⟩ := id hH
    refine ⟨_, pss_one (ps_ret (pe_meth (pv 0) TH.cl mM GM hr bM .nil pass0 (pa_cons (pv 1) pa_nil))), ?_⟩
    exact ⟨_, rfl, x, dx, _, rfl, h1, rfl, _, rfl, x, a, z, i, b, sb, v, L, es, rfl, hA, hH, hO, dr, hl, hv, q⟩
/-- the turns with another one at the life e -/
def putE (es : List ((Str × Int) × V)) (e : Str × Int) (v : V) : List ((Str × Int) × V) := es.map fun q => if q.1 = e then (e, v) else q
theorem putE_fst (es : List ((Str × Int) × V)) (e : Str × Int) (v : V) : (putE es e v).map (·.1) = es.map (·.1) := by
  unfold putE
  rw [List.map_map]
  refine List.map_congr_left fun q _ => ?_
  show (if q.1 = e then (e, v) else q).1 = q.1
  split
  · rename_i h
    exact h.symm
  · rfl
theorem HsOk.put {L : List (Str × List Int)} {es : List ((Str × Int) × V)} (dr : HsOk L es) {e : Str × Int} {v : V} (h : TurnOk L e v) : HsOk L (putE es e v) := ⟨by rw [putE_fst]; exact dr.k, fun q hq => by
  obtain ⟨q', hq', rfl⟩ := List.mem_map.mp hq
  show TurnOk L (if q'.1 = e then (e, v) else q').1 (if q'.1 = e then (e, v) else q').2
  split
  · exact h
  · exact dr.e q' hq'⟩
theorem putE_K {L : List (Str × List Int)} {es : List ((Str × Int) × V)} (dr : HsOk L es) {e : Str × Int} {v : V} (he : e ∈ lvs L) : putK (es.map fun e => (keyOf e.1, e.2)) (keyOf e) v = (putE es e v).map fun e => (keyOf e.1, e.2) := by
  unfold putK putE
  rw [if_pos ?_, List.map_map, List.map_map]
  · refine List.map_congr_left fun q _ => ?_
    show (if keyOf q.1 = keyOf e then (keyOf q.1, v) else (keyOf q.1, q.2)) = (keyOf (if q.1 = e then (e, v) else q).1, (if q.1 = e then (e, v) else q).2)
    by_cases c : q.1 = e
    · rw [if_pos (by rw [c]), if_pos c, c]
    · rw [if_neg (fun h => c (keyOf_inj h)), if_neg c]
  · rw [← dr.k] at he
    obtain ⟨q, hq, rfl⟩ := List.mem_map.mp he
    exact List.any_eq_true.mpr ⟨(keyOf q.1, q.2), List.mem_map.mpr ⟨q, hq, rfl⟩, decide_eq_true rfl⟩
/-- another turn for the life of a point -/
def spWTurn (CL CH : Addr) : Sp := fun vs H Q _ => ∃ (x : Addr) (z : Str) (i b : Int) (v : V) (L : List (Str × List Int)) (es : List ((Str × Int) × V)), vs = [.ref x, .str z, .int i, v] ∧ HsAt CL CH H x L es ∧ LOk L ∧ HsOk L es ∧ LifeAt L z i b ∧ TurnOk L (z, b) v ∧
  ∀ (H' : Hp) (y : Addr), Same H H' → HsAt CL CH H' y L (putE es (z, b) v) → HsOk L (putE es (z, b) v) → Q (.ref y) H'
theorem ok_wturn {CL CH CM CT' f fI fL pT fT : Addr} {fd fdI fdL fdT : FuncData} (F : Fun K "with_turn" "History.with_turn" sWTurn f fd) (T : Lvs K mg CL) (TH : Hsts K mg CH) (M : Mk K CH fI) (bI : Binds K fdI ["self", "lives", "turns"] []) (GI : FnOk P w K mg base CX0 6 fI fdI ["self", "lives", "turns"] (spHInit CL CH))
    (mL : Meth K CL "life_of" fL) (bL : Binds K fdL ["self", "tool", "moment"] []) (GL : FnOk P w K mg base (L2.CX P w) 4 fL fdL ["self", "tool", "moment"] (spLife CL CM CT')) (PT : PropOf K CH "turns" pT fT) (bT : Binds K fdT ["self"] []) (GT : FnOk P w K mg base CX0 1 fT fdT ["self"] (spTurns CL CH)) :
    FnOk P w K mg base CX0 8 f fd ["self", "tool", "moment", "turn"] (spWTurn CL CH) := by
  refine F.ok scWTurn (fun vs H Q E h => ?_) (fun cdv A outer s H vs Q E hr h => ?_)
  · obtain ⟨_, _, _, _, _, _, _, rfl, _⟩ := h
    rfl
  · obtain ⟨x, z, i, b, v, L, es, rfl, hH, hO, dr, hl, hv, q⟩ := h
    obtain ⟨dx, d, lv, h1, h2, h3⟩ := id hH
    obtain ⟨dxl, db, kvb, g1, _⟩ := id h2
    have hr2 : Room 2 _ := hr.mono (by decide)
    have hr4 : Room 4 _ := hr.mono (by decide)
    have hss := sizeLine_eq
    have hsm := hO.small
    have hel : es.length = (lvs L).length := by rw [← dr.k, List.length_map]
    refine ⟨_, pss_cons (ps_set (i := 4) scWTurn.nd rfl (.inl rfl) (pe_meth (pe_fld (pv 0) rfl) T.cl mL GL hr4 bL .nil passNo (pa_cons (pv 1) (pa_cons (pv 2) pa_nil))))
      (pss_cons (ps_set (i := 5) scWTurn.nd rfl (.inl rfl) (pe_prop (pv 0) TH.cl PT GT hr2 bT .nil pass0 rfl))
      (pss_cons (ps_dput (hu_of hr) (pv 5) (pv 4) (pv 3) rfl)
      (pss_one (ps_ret (pe_make M GI hr (by rfl) TH.mgC bI .nil pass0 (pa_cons (pe_fld (pv 0) rfl) (pa_cons (pv 5) pa_nil))))))), ?_⟩
    refine ⟨_, rfl, x, CH, dx, _, _, rfl, h1, TH.cl, TH.nL, rfl, lv, dxl, _, rfl, g1, rfl, _, rfl, _, rfl, ?_⟩
    dsimp only [tNil, List.append_nil]
    refine life_sp h2 hO hl fun t H1 s1 ht => ?_
    refine ⟨_, rfl, x, dx, _, rfl, s1 _ _ h1, x, L, es, rfl, hH.same s1, hO, dr, fun H2 d2 n2 s2 hd2 => ?_⟩
    have hmem : (z, b) ∈ lvs L := by
      obtain ⟨_, ns, hm, hb, _⟩ := hl
      exact lvs_mem.mpr ⟨ns, hm, hb⟩
    refine ⟨_, rfl, _, rfl, _, rfl, d2, _, rfl, DPut.t (k := keyOf (z, b)) hd2 (LfAt.key (show LfAt H2 t (z, b) from s2 _ _ ht)) (by rw [List.length_map]; omega), ?_⟩
    rw [putE_K dr hmem]
    have s3 : Same H1 (upd H2 d2 (.dT ((putE es (z, b) v).map fun e => (keyOf e.1, e.2)))) := Same.over s2 n2
    have s13 := s1.trans s3
    exact ⟨_, rfl, x, CH, dx, _, _, rfl, s13 _ _ h1, TH.cl, TH.nL, rfl, _, rfl, fun x' dx' e1 e2 e3 => made_h e1 e2 (h2.same s13) hO (dr.put hv) upd_same fun H' s hs => ⟨rfl, q H' x' (s13.trans s) hs (dr.put hv)⟩⟩
end
end K49

namespace K49
open PySem PySem.Spec PyProof.Rows L2 So
abbrev sEU : Stmt := inClass (topS 6) 0
abbrev sTS : Stmt := topS 35
theorem scEU : FnScope ["self", "at"] ["self", "at"] (defScope sEU) := ⟨rfl, rfl, rfl, by decide +kernel, rfl, by decide +kernel, by decide +kernel⟩
theorem scTS : FnScope ["lives", "tool", "moment", "turn", "life"] ["lives", "tool", "moment", "turn"] (defScope sTS) := ⟨rfl, rfl, rfl, by decide +kernel, rfl, by decide +kernel, by decide +kernel⟩
/-- r is the last moment of the life that begins at b -/
def LastAt (ns : List Int) (b r : Int) : Prop := ((∀ n ∈ ns, n ≤ b) ∧ r = 1000000000000000000000000000000) ∨ ∃ m ∈ ns, b < m ∧ (∀ n ∈ ns, b < n → m ≤ n) ∧ r = m - 1
/-- the sayings that tell a turn of the life from b to r -/
def dueS (b r : Int) (v : V) : List (Int × Bool) := match v with
  | .int t => if t = b then [(t, false)] else [(t - 1, true), (t, false)]
  | _ => [(r, true)]
/-- sayings in a tuple -/
def SysAt (CY : Addr) (H : Hp) (t : Addr) (z : Str) (l : List (Int × Bool)) : Prop := ∃ as : List Addr, H t = some (.tup (as.map V.ref)) ∧ Paired (fun a q => At CY H a z q.1 q.2) as l
section
variable {P : Program} {w : World} {K : PySem.W.Frag} {mg : Str → Option Value} {base : Heap}
theorem initS {CN CM CS C x dx : Addr} {z : Str} {m : Int} {b : Bool} {H1 : Hp} {Q : VK} {E : XK} (hx : H1 x = none) (hdx : H1 dx = none) (hz : isName z = true) (hm : 0 ≤ m ∧ m ≤ 1000000000000000000000000000000) (q : ∀ H' : Hp, Same H1 H' → At C H' x z m b → Q .non H') :
    spInit CN CM CS C [.ref x, .str z, .int m, .bl b] (upd (upd H1 dx (.own x)) x (.ins C dx [])) Q E := by
  have s0 := newS (C := C) hx hdx
  refine ⟨x, dx, .str z, .int m, .bl b, "str", "int", "bool", rfl, upd_same, .str z (Nat.le_trans (name_len hz) (by decide)), .int m, .bl b, Ways.ok hz hm fun H' o e => q H' (fun c u g => o c u (ne_of_none g hx) (s0 c u g)) ⟨dx, e⟩⟩
theorem ok_eU {C f : Addr} {fd : FuncData} (F : Fun K "__init__" "BadTurn.__init__" sEU f fd) (O : OneE K mg "BadTurn" "at" C f fd) : FnOk P w K mg base CX0 1 f fd ["self", "at"] (spOneE C "at") := by
  refine F.ok scEU (fun vs H Q E h => ?_) (fun cdv A outer s H vs Q E hr h => ?_)
  · obtain ⟨a, v, rfl, _⟩ := h
    rfl
  · obtain ⟨a, v, rfl, ha, q⟩ := h
    exact ⟨_, pss_one (ps_ost (pv 0) (pv 1)), _, rfl, _, rfl, a, C, rfl, O.T, O.no, .inl ⟨ha, fun dx h n => q dx h n⟩⟩
/-- is_turn, of any value -/
def spIsTurnG (C : Addr) : Sp := fun vs H Q _ => ∃ (a j : Addr) (e : Str × Int) (v : V) (T : String) (L : List (Str × List Int)), vs = [.ref a, .ref j, v] ∧ LsAt C H a L ∧ LOk L ∧ LfAt H j e ∧ e ∈ lvs L ∧ Gv H v T ∧ ∀ (r : Bool) (H' : Hp), (r = true ↔ TurnOk L e v) → Same H H' → Q (.bl r) H'
theorem life_ex {ns : List Int} {i : Int} (h : ∃ n ∈ ns, n ≤ i) : ∃ b ∈ ns, b ≤ i ∧ ∀ n ∈ ns, n ≤ i → n ≤ b := by
  induction ns with
  | nil => obtain ⟨_, h, _⟩ := h; cases h
  | cons x r ih =>
    by_cases hr : ∃ n ∈ r, n ≤ i
    · obtain ⟨b, h1, h2, h3⟩ := ih hr
      by_cases c : x ≤ i ∧ b < x
      · refine ⟨x, List.mem_cons_self, c.1, fun n hn hi => ?_⟩
        rcases List.mem_cons.mp hn with e | e
        · omega
        · have := h3 n e hi
          omega
      · refine ⟨b, List.mem_cons_of_mem _ h1, h2, fun n hn hi => ?_⟩
        rcases List.mem_cons.mp hn with e | e
        · omega
        · exact h3 n e hi
    · obtain ⟨n, hn, hi⟩ := h
      rcases List.mem_cons.mp hn with e | e
      · subst e
        refine ⟨n, List.mem_cons_self, hi, fun k hk hki => ?_⟩
        rcases List.mem_cons.mp hk with e | e
        · omega
        · exact absurd ⟨k, e, hki⟩ hr
      · exact absurd ⟨n, e, hi⟩ hr
theorem ok_isTurnG {C f fM fL CM CT' : Addr} {fd fdM fdL : FuncData} (F : Fun K "is_turn" "is_turn" sIsTurn f fd) (T : Lvs K mg C) (FM : Fun K "is_moment" "is_moment" sMoment fM fdM) (bM : Binds K fdM ["value"] []) (gM : mg "is_moment" = some (.ref fM))
    (GM : FnOk P w K mg base CX0 2 fM fdM ["value"] spMoment) (mL : Meth K C "life_of" fL) (bL : Binds K fdL ["self", "tool", "moment"] []) (GL : FnOk P w K mg base (L2.CX P w) 4 fL fdL ["self", "tool", "moment"] (spLife C CM CT')) :
    FnOk P w K mg base CX0 5 f fd ["lives", "life", "turn"] (spIsTurnG C) := by
  refine F.ok scIsTurn (fun vs H Q E h => ?_) (fun cdv A outer s H vs Q E hr h => ?_)
  · obtain ⟨_, _, _, _, _, _, rfl, _⟩ := h
    rfl
  · obtain ⟨a, j, ⟨z, b⟩, v, T', L, rfl, hL, hO, hj, hm, hv, q⟩ := h
    have hr2 : Room 2 _ := hr.mono (by decide)
    obtain ⟨ns, hns, hb⟩ := lvs_mem.mp hm
    obtain ⟨hnm, hzl, l, enl, _⟩ := hO.ns z ns hns
    refine ⟨_, pss_one (ps_ret (pe_or (pe_cmpR op_isN (pv 2) pe_non (nomark _)) (pe_one (pe_and (pe_call GM hr2 (by rfl) gM FM.kp bM .nil pass0 (pa_cons (pv 2) pa_nil))
      (pe_one (pe_cmpR (op_eqD hr.units) (pe_meth (pv 0) T.cl mL GL hr bL .nil passNo (pa_cons (pe_ix ix_tup (pv 1) pe_int (fun _ _ => rfl)) (pa_cons (pv 2) pa_nil))) (pv 1) (nomark _))))))), ?_⟩
    obtain ⟨dx, d, kvs, h1, h2, h3⟩ := id hL
    by_cases hn : v = .non
    · subst hn
      exact ⟨_, rfl, rfl, _, rfl, iteT (q true H ⟨fun _ => .inl rfl, fun _ => rfl⟩ (Same.refl H))⟩
    refine ⟨_, rfl, rfl, _, rfl, ?_⟩
    rw [decide_eq_false hn]
    refine iteF ⟨_, rfl, v, T', rfl, hv, _, rfl, ?_⟩
    cases hg : gMom v with
    | false =>
      refine iteF (q false H ⟨(fun h => by cases h), fun h => ?_⟩ (Same.refl H))
      rcases h with h | ⟨i, _, h, hg', _⟩
      · exact absurd h hn
      · rw [h, hg'] at hg
        cases hg
    | true =>
      obtain ⟨i, rfl⟩ : ∃ i, v = .int i := by
        cases v with
        | int i => exact ⟨i, rfl⟩
        | _ => cases hg
      have hi0 : 0 ≤ i := (of_decide_eq_true hg).1
      refine iteT ?_
      obtain ⟨b0, k1, k2, k3⟩ := life_ex (ns := ns) (i := i) ⟨0, by rw [enl]; exact List.mem_cons_self, hi0⟩
      refine ⟨_, rfl, a, dx, _, rfl, h1, rfl, _, rfl, j, _, 0, _, rfl, rfl, SqT.of hj, rfl, _, rfl, ?_⟩
      dsimp only [tNil, List.append_nil]
      refine life_sp (b := b0) hL hO ⟨hg, ns, hns, k1, k2, k3⟩ fun t H1 s1 ht => ?_
      have hsh := fun m : Int => shaped_pt (z := z) (m := m) (name_strOk hnm)
      refine ⟨_, rfl, dPt z b0, dPt z b, dp_pt ht, dp_pt (s1 _ _ hj), hsh _, hsh _, ?_⟩
      rw [eqv_pt]
      refine q _ H1 ⟨fun h => ?_, fun h => ?_⟩ s1
      · obtain ⟨_, e⟩ : z = z ∧ b0 = b := of_decide_eq_true h
        subst e
        exact .inr ⟨i, ns, rfl, hg, hns, k1, k2, k3⟩
      · rcases h with h | ⟨i', ns', h, _, g1, g2, g3, g4⟩
        · exact absurd h hn
        · cases h
          have e : ns' = ns := Option.some.inj ((lookup_mem hO.nd g1).symm.trans (lookup_mem hO.nd hns))
          have a1 := k3 b (by rw [← e]; exact g2) g3
          have a2 := g4 b0 (by rw [e]; exact k1) k2
          exact decide_eq_true ⟨rfl, by show b0 = b; omega⟩
/-- turn_sayings, of any values -/
def spTS (CM CT' CU CY CL : Addr) : Sp := fun vs H Q E => ∃ (lv : Addr) (v m t : V) (T1 T2 T3 : String) (L : List (Str × List Int)), vs = [.ref lv, v, m, t] ∧ LsAt CL H lv L ∧ LOk L ∧ Gv H v T1 ∧ Gv H m T2 ∧ Gv H t T3 ∧
  (∀ z i b ns r, v = .str z → m = .int i → LifeAt L z i b → (z, ns) ∈ L → TurnOk L (z, b) t → (t = .non → LastAt ns b r) → ∀ H' y, Same H H' → SysAt CY H' y z (dueS b r t) → Q (.ref y) H') ∧
  (fB (fun z => L.lookup z) v = none → ∀ d H', Same H H' → H' d = some (.xd [("tool", v)]) → E (.ref CT') (some d) H') ∧
  (∀ ns, fB (fun z => L.lookup z) v = some ns → gMom m = false → ∀ d H', Same H H' → H' d = some (.xd [("moment", m)]) → E (.ref CM) (some d) H') ∧
  (∀ z i b, v = .str z → m = .int i → LifeAt L z i b → ¬ TurnOk L (z, b) t → ∀ d j H', Same H H' → H' d = some (.xd [("at", .ref j)]) → LfAt H' j (z, b) → E (.ref CU) (some d) H')
theorem ok_ts {CN CM CS CT' CU CL0 CY CL f fT fL fLa fI fU : Addr} {fd fdT fdL fdLa fdI fdU : FuncData} (F : Fun K "turn_sayings" "turn_sayings" sTS f fd) (T : Lvs K mg CL) (TY : Say K mg CY)
    (FT : Fun K "is_turn" "is_turn" sIsTurn fT fdT) (bT : Binds K fdT ["lives", "life", "turn"] []) (gT : mg "is_turn" = some (.ref fT)) (GT : FnOk P w K mg base CX0 5 fT fdT ["lives", "life", "turn"] (spIsTurnG CL))
    (mL : Meth K CL "life_of" fL) (bL : Binds K fdL ["self", "tool", "moment"] []) (GL : FnOk P w K mg base (L2.CX P w) 4 fL fdL ["self", "tool", "moment"] (spLife CL CM CT'))
    (mLa : Meth K CL "last_of" fLa) (bLa : Binds K fdLa ["self", "life"] []) (GLa : FnOk P w K mg base (L2.CX P w) 3 fLa fdLa ["self", "life"] (spLast CL CL0))
    (M : Mk K CY fI) (bI : Binds K fdI ["self", "tool", "moment", "is_sound"] []) (GI : FnOk P w K mg base (L2.CX P w) 4 fI fdI ["self", "tool", "moment", "is_sound"] (spInit CN CM CS CY))
    (O : OneE K mg "BadTurn" "at" CU fU fdU) (GU : FnOk P w K mg base CX0 1 fU fdU ["self", "at"] (spOneE CU "at")) :
    FnOk P w K mg base (L2.CX P w) 6 f fd ["lives", "tool", "moment", "turn"] (spTS CM CT' CU CY CL) := by
  refine F.okX scTS (fun vs H Q E h => ?_) (fun cdv A outer s H vs Q E hr h => ?_)
  · obtain ⟨_, _, _, _, _, _, _, _, rfl, _⟩ := h
    rfl
  · obtain ⟨lv, v, m, t, T1, T2, T3, L, rfl, hL, hO, hv, hm, ht, qy, q1, q2, q3⟩ := h
    have hr4 : Room 4 _ := hr.mono (by decide)
    have hr3 : Room 3 _ := hr.mono (by decide)
    have hr2 : Room 2 _ := hr.mono (by decide)
    refine ⟨_, pss_cons (ps_set (i := 4) scTS.nd rfl (.inl rfl) (pe_meth (pv 0) T.cl mL GL hr4 bL .nil (passes_call (takes_of rfl rfl rfl rfl) (fun _ _ _ _ h => h)) (pa_cons (pv 1) (pa_cons (pv 2) pa_nil))))
      (pss_cons (ps_if (pt_not (pt_val (pe_call GT hr (by rfl) gT FT.kp bT .nil pass0 (pa_cons (pv 0) (pa_cons (pv 4) (pa_cons (pv 3) pa_nil)))))) (pss_one (ps_raiseOne O GU rfl hr2 (takes_of rfl rfl rfl rfl) (by rfl) (pa_cons (pv 4) pa_nil))) pss_nil)
      (pss_cons (ps_if (pt_cmpR op_isN (pv 3) pe_non (nomark _)) (pss_one (ps_ret (pe_tup (pa_cons (pe_make M GI hr (by rfl) TY.mgC bI .nil passNo (pa_cons (pv 1) (pa_cons (pe_meth (pv 0) T.cl mLa GLa hr3 bLa .nil passNo (pa_cons (pv 4) pa_nil)) (pa_cons pe_bl pa_nil)))) pa_nil)))) pss_nil)
      (pss_cons (ps_if (pt_cmpR op_eq (pv 3) (pe_ix ix_tup (pv 4) pe_int (fun _ _ => rfl)) (nomark _)) (pss_one (ps_ret (pe_tup (pa_cons (pe_make M GI hr (by rfl) TY.mgC bI .nil passNo (pa_cons (pv 1) (pa_cons (pv 3) (pa_cons pe_bl pa_nil)))) pa_nil)))) pss_nil)
      (pss_one (ps_ret (pe_tup (pa_cons (pe_make M GI hr (by rfl) TY.mgC bI .nil passNo (pa_cons (pv 1) (pa_cons (pe_op op_sub (pv 3) pe_int) (pa_cons pe_bl pa_nil)))) (pa_cons (pe_make M GI hr (by rfl) TY.mgC bI .nil passNo (pa_cons (pv 1) (pa_cons (pv 3) (pa_cons pe_bl pa_nil)))) pa_nil)))))))), ?_⟩
    obtain ⟨dx, d, kvs, h1, h2, h3⟩ := id hL
    refine ⟨_, rfl, lv, dx, _, rfl, h1, rfl, _, rfl, _, rfl, lv, v, m, T1, T2, fun z => L.lookup z, rfl, hL.lv, hO.fok, hv, hm, fun i ns b e1 e2 e3 e4 e5 e6 j H1 s1 hj => ?_, fun e d' H' s h => q1 e d' H' s h, fun ns e1 e2 d' H' s h => q2 ns e1 e2 d' H' s h⟩
    subst e2
    obtain ⟨z, rfl⟩ : ∃ z, v = .str z := by
      cases v with
      | str z => exact ⟨z, rfl⟩
      | _ => cases e1
    have hm' : (z, ns) ∈ L := lookup_in e1
    obtain ⟨hnm, hzl, l, enl, _, hlb, hlp⟩ := hO.ns z ns hm'
    have hlife : LifeAt L z i b := ⟨e3, ns, hm', e4, e5, e6⟩
    have hrange : ∀ n ∈ ns, 0 ≤ n ∧ n ≤ 1000000000000000000000000000000 := fun n hn => by
      rw [enl] at hn
      rcases List.mem_cons.mp hn with h | h
      · omega
      · have : 1 ≤ n ∧ n ≤ 1000000000000000000000000000000 := of_decide_eq_true (hlb n h)
        omega
    have hL1 := hL.same s1
    refine ⟨_, rfl, _, rfl, _, rfl, lv, j, (z, b), t, T3, L, rfl, hL1, hO, hj, lvs_mem.mpr ⟨ns, hm', e4⟩, ht.same s1, fun r H2 hrr s2 => ⟨_, rfl, ?_⟩⟩
    have s12 := s1.trans s2
    cases r with
    | false =>
      refine iteT ⟨_, rfl, mkOne rfl fun d' H' s' _ e => q3 z i b rfl rfl hlife (fun h => by have := hrr.mpr h; cases this) d' j H' (s12.trans s') e (s' _ _ (s2 _ _ hj))⟩
    | true =>
      have hok := hrr.mp rfl
      refine iteF ?_
      have hj2 : LfAt H2 j (z, b) := s2 _ _ hj
      rcases id hok with rfl | ⟨k, ns', rfl, hg, hm2, hb2, hbk, hmax⟩
      · refine ⟨_, rfl, rfl, _, rfl, iteT ?_⟩
        refine ⟨_, rfl, _, rfl, lv, dx, _, rfl, s12 _ _ h1, rfl, _, rfl, lv, .ref j, some (.str z, .int b), fun z => L.lookup z, rfl, (hL.same s12).lv, hO.fok, .inr ⟨_, _, j, "str", "int", rfl, rfl, hj2, .str z hzl, .int b⟩, fun u i' ns2 r e1' e2' e3' hlast H3 s3 x dx' nx ndx nxd => ?_, fun h => ?_⟩
        case refine_2 =>
          have : inF (fun z => L.lookup z) (some (.str z, .int b)) = true := by
            show (match L.lookup z with | some ns => decide (b ∈ ns) | none => false) = true
            rw [show L.lookup z = some ns from e1]
            exact decide_eq_true e4
          rw [this] at h
          cases h
        cases e1'
        obtain rfl : ns = ns2 := Option.some.inj (e1.symm.trans e2')
        have hla : LastAt ns b r := hlast
        have hr0 : 0 ≤ r ∧ r ≤ 1000000000000000000000000000000 := by
          rcases hlast with ⟨_, h⟩ | ⟨n, hn, h1, _, h2⟩
          · omega
          · have := hrange n hn
            have := hrange b e4
            omega
        refine initS nx ndx hnm hr0 fun H4 s4 hA => ⟨rfl, by show 1 ≤ sizeLine; decide, fun y hy => ?_⟩
        exact qy z i b ns r rfl rfl hlife hm' hok (fun _ => hla) _ y (((s12.trans s3).trans s4).trans (same_upd0 hy)) ⟨[x], upd_same, .cons (hA.same (same_upd0 hy)) .nil⟩
      · refine ⟨_, rfl, rfl, _, rfl, iteF ?_⟩
        have hk : 0 ≤ k ∧ k ≤ 1000000000000000000000000000000 := of_decide_eq_true hg
        have hb0 := hrange b e4
        refine ⟨_, rfl, _, rfl, j, _, 1, _, rfl, rfl, SqT.of hj2, rfl, rfl, _, rfl, ite2 (fun e => ?_) (fun e => ?_)⟩
        · have e : k = b := V.int.inj (of_decide_eq_true e)
          refine ⟨_, rfl, _, rfl, fun x dx' nx ndx nxd => initS nx ndx hnm hk fun H4 s4 hA => ⟨rfl, by show 1 ≤ sizeLine; decide, fun y hy => ?_⟩⟩
          refine qy z i b ns 0 rfl rfl hlife hm' hok (fun h => by cases h) _ y ((s12.trans s4).trans (same_upd0 hy)) ?_
          show SysAt CY _ y z (if k = b then [(k, false)] else [(k - 1, true), (k, false)])
          rw [if_pos e]
          exact ⟨[x], upd_same, .cons (hA.same (same_upd0 hy)) .nil⟩
        · have e : ¬ k = b := fun h => e (decide_eq_true (by rw [h]))
          have hbk : b ≤ k := hbk
          refine ⟨_, rfl, _, rfl, _, _, rfl, rfl, fun x dx' nx ndx nxd => initS nx ndx hnm (by omega) fun H4 s4 hA => ⟨rfl, ?_⟩⟩
          refine ⟨_, rfl, _, rfl, fun x2 dx2 nx2 ndx2 nxd2 => initS nx2 ndx2 hnm hk fun H5 s5 hA2 => ⟨rfl, by show 2 ≤ sizeLine; decide, fun y hy => ?_⟩⟩
          refine qy z i b ns 0 rfl rfl hlife hm' hok (fun h => by cases h) _ y (((s12.trans s4).trans s5).trans (same_upd0 hy)) ?_
          show SysAt CY _ y z (if k = b then [(k, false)] else [(k - 1, true), (k, false)])
          rw [if_neg e]
          exact ⟨[x, x2], upd_same, .cons ((hA.same s5).same (same_upd0 hy)) (.cons (hA2.same (same_upd0 hy)) .nil)⟩
end
end K49

/-! x != y of two tuples whose items an own == finds equal -/
namespace So
open PySem PySem.SeqAt PySem.Spec PyProof.Rows
open AutoSeq1 (wpAny_loadPart')
open MeetsSeq MeetsSeq2 MeetsSeq3 SeqRoads2
section
variable {prog : Program} {w : World} {A : Around} {W : Result → Shared → Prop} {p q : Addr} {us vs : Array Value}
/-- the two tuples as objects -/
def tupO (d : Option Addr) (us : Array Value) (k : Nat) (sl : Array (Option Value)) : Obj := { cls := .type "tuple", dict := d, data := .seq us k, slots := sl }
theorem body_ne {d1 d2 : Option Addr} {k1 k2 : Nat} {m1 m2 : Array (Option Value)} (hs : us.size = vs.size) (J : Nat → Shared → Prop)
    (step : ∀ (k : Nat) (a : k < us.size) (b : k < vs.size) (t : Shared), J k t → wpAny (model prog w) A.in1 (eqBool us[k] vs[k]) (fun z t' => z = true ∧ J (k + 1) t') (fun e t' => W (.error e) t') t)
    (done : ∀ t, J us.size t → W (.ok (.ret (.bool false))) t) {t : Shared} (hp : t.heap.get? p = some (tupO d1 us k1 m1)) (hq : t.heap.get? q = some (tupO d2 vs k2 m2)) (j0 : J 0 t) :
    wpAny (model prog w) A.in1 (Builtin.«tuple.__ne__» ⟨[.ref p, .ref q], []⟩) (GQ.FinOf prog w A W) (fun e t' => W (.error e) t') t := by
  have sub2 := AutoSeq1.sub_tuple_tuple
  have len : (us.toList.zip vs.toList).length = us.size := by simp [hs]
  have keep := j0
  unfold tupO at hp hq
  obtain ⟨t1, t2, t3, t4, t5⟩ := t
  wp_walk using wpAny_loadPart' hp, wpAny_loadPart' hq, wpAny_forIn_list _ (fun more acc t' => acc.1 = none ∧ ∃ k, k ≤ us.size ∧ more = (us.toList.zip vs.toList).drop k ∧ J k t') _
  case turn =>
    rintro ⟨v1, u1⟩ more acc t' ⟨ha, k, hk, em, jk⟩
    have below : k < (us.toList.zip vs.toList).length := by
      by_cases c : k < (us.toList.zip vs.toList).length
      · exact c
      · rw [List.drop_of_length_le (by omega)] at em
        cases em
    have ku : k < us.size := by rw [← len]; exact below
    have kv : k < vs.size := by rw [← hs]; exact ku
    rw [List.drop_eq_getElem_cons below] at em
    injection em with e1 e2
    obtain ⟨f1, f2⟩ : v1 = us[k] ∧ u1 = vs[k] := ⟨by simpa using congrArg Prod.fst e1, by simpa using congrArg Prod.snd e1⟩
    subst f1 f2
    refine wpAny_bind (wpAny_mono (step k ku kv t' jk) (fun z t2 ⟨hz, j2⟩ => ?_) fun _ _ y => y)
    subst hz
    wp_walk
    exact ⟨rfl, k + 1, ku, e2, j2⟩
  case fin =>
    rintro ⟨a1, a2⟩ t' ⟨ha, k, hk, em, jk⟩
    dsimp only at ha
    subst ha
    have ek : k = us.size := by
      by_cases c : k < (us.toList.zip vs.toList).length
      · rw [List.drop_eq_getElem_cons c] at em
        cases em
      · omega
    subst ek
    have last := done t' jk
    wp_walk
    simpa [Builtin.Tuple.tupleCompareSizes, hs] using last
  case h =>
    exact ⟨rfl, 0, Nat.zero_le _, rfl, keep⟩
theorem cmp_ne {E : Value → Shared → Prop} {t : Shared} {Q : Value → Shared → Prop} (hs : us.size = vs.size) (hu : A.units < cLine) (J : Nat → Shared → Prop) (hp : t.heap.IsTuple p us) (hq : t.heap.IsTuple q vs)
    (step : ∀ (k : Nat) (a : k < us.size) (b : k < vs.size) (t : Shared), J k t → wpAny (model prog w) A.in1 (eqBool us[k] vs[k]) (fun z t' => z = true ∧ J (k + 1) t') E t)
    (done : ∀ t, J us.size t → Q (.bool false) t) (j0 : J 0 t) : wpAny (model prog w) A (richCompare .NotEq (.ref p) (.ref q)) Q E t := by
  obtain ⟨⟨c1, d1, x1, m1⟩, g1, hc1, k1, hx1⟩ := hp
  obtain ⟨⟨c2, d2, x2, m2⟩, g2, hc2, k2, hx2⟩ := hq
  dsimp only at hc1 hx1 hc2 hx2
  subst hc1 hx1 hc2 hx2
  refine wpAny_richCompare_same_room (op := .NotEq) ⟨_, g1, rfl⟩ ⟨_, g2, rfl⟩ F.slot_tuple_ne ?_ hu
  refine GQ.call_here F.slot_tuple_ne ⟨_, g1, rfl⟩ F.entry_tuple_ne (F.args_tuple_ne_2 _ _) ?_
  exact body_ne (W := wants (fun y t' => y ≠ .notImplemented ∧ Q y t') E) hs J step (fun t' j => ⟨nofun, done t' j⟩) g1 g2 j0
end
open L2
section
variable {X : Cx} {n : Nat} {D : Eqv}
/-- what x != y asks of two tuples, equal item by item -/
def rNeTG (K : PySem.W.Frag) (D : Eqv) : R2 := fun x y H Q => DTup K D x y H ∧ ∀ H', Ext H H' → Q (.bl false) H'
theorem op_neTG (hD : Mon D) (h : EqG X n D) (hr : Room (n + 1) X.A) : OpR X (compareOp .NotEq) (rNeTG X.K D) := by
  intro pins s σ H x y v u Q I rx ry hq
  obtain ⟨⟨a, b, xs, ys, rfl, rfl, ha, hb, pr⟩, q⟩ := hq
  cases rx
  cases ry
  obtain ⟨l1, v1, i1, _⟩ := I.tuple ha
  obtain ⟨l2, v2, i2, _⟩ := I.tuple hb
  have same : l1.toArray.size = l2.toArray.size := by
    have e1 := v1.length
    have e2 := v2.length
    have e3 := pr.1
    simp only [List.size_toArray]
    omega
  show wpAny _ _ (richCompare .NotEq (.ref a) (.ref b)) _ _ s
  exact cmp_ne same hr.units0 (fun _ t => LoopI X pins σ H t) i1 i2 (fun k c1 c2 t j => turnG hD h ⟨hr, rfl⟩ pr v1 v2 k c1 c2 t j) (fun t ⟨G, J, e⟩ => ⟨.bl false, G, J, rfl, q G e⟩) ⟨H, I, Ext.rfl'⟩
end
end So

namespace K49
open PySem PySem.Spec PyProof.Rows L2 So
abbrev sWordOf : Stmt := topS 27
abbrev sStr : Stmt := inClass (topS 29) 11
abbrev sEq : Stmt := inClass (topS 29) 9
theorem scWordOf : FnScope ["value"] ["value"] (defScope sWordOf) := ⟨rfl, rfl, rfl, by decide +kernel, rfl, by decide +kernel, by decide +kernel⟩
theorem scStr : FnScope ["self"] ["self"] (defScope sStr) := ⟨rfl, rfl, rfl, by decide +kernel, rfl, by decide +kernel, by decide +kernel⟩
theorem scEq : FnScope ["self", "other"] ["self", "other"] (defScope sEq) := ⟨rfl, rfl, rfl, by decide +kernel, rfl, by decide +kernel, by decide +kernel⟩
def wordOf (b : Bool) : Str := if b then "sound" else "unsound"
section
variable {P : Program} {w : World} {K : PySem.W.Frag} {mg : Str → Option Value} {base : Heap}
/-- word_of of a truth -/
def spWordOf : Sp := fun vs H Q _ => ∃ b : Bool, vs = [.bl b] ∧ Q (.str (wordOf b)) H
theorem ok_wordOf {f : Addr} {fd : FuncData} (F : Fun K "word_of" "word_of" sWordOf f fd) (W : Words K mg) : FnOk P w K mg base CX0 1 f fd ["value"] spWordOf := by
  refine F.ok scWordOf (fun vs H Q E h => ?_) (fun cdv A outer s H vs Q E hr h => ?_)
  · obtain ⟨b, rfl, _⟩ := h
    rfl
  · obtain ⟨b, rfl, q⟩ := h
    refine ⟨_, pss_cons (ps_if (pt_val (pe_callB call_isi (by rfl) W.isi (by decide +kernel) (pa_cons (pv 0) (pa_cons (pe_bltn (v := .ty "bool") (by rfl) W.bool (by decide +kernel) rfl) pa_nil))))
      (pss_one (ps_ret (pe_ifExp (pt_val (pv 0)) pe_str pe_str))) pss_nil) (pss_one (ps_ret (pe_callTy call_str_int (by rfl) W.str (by decide +kernel) (pa_cons (pv 0) pa_nil)))), ?_⟩
    refine ⟨_, rfl, _, _, _, _, true, rfl, .ty "bool", .base (.bl b), kit_bool_bool, true, rfl, iteT ?_⟩
    refine ⟨_, rfl, b, rfl, ?_⟩
    cases b with
    | true => exact iteT q
    | false => exact iteF q
/-- the text of a saying -/
def spStr (C : Addr) : Sp := fun vs H Q _ => ∃ (a : Addr) (z : Str) (m : Int) (b : Bool), vs = [.ref a] ∧ At C H a z m b ∧ z.length ≤ 2000 ∧ 0 ≤ m ∧ m ≤ 1000000000000000000000000000000 ∧ ∀ H', Same H H' → Q (.str (Txt.join " " [z, (toString m : String), wordOf b])) H'
theorem ok_str {f C fW : Addr} {fd fdW : FuncData} (F : Fun K "__str__" "Saying.__str__" sStr f fd) (W : Words K mg) (T : Say K mg C) (FW : Fun K "word_of" "word_of" sWordOf fW fdW) (bW : Binds K fdW ["value"] []) (gW : mg "word_of" = some (.ref fW)) :
    FnOk P w K mg base CX0 2 f fd ["self"] (spStr C) := by
  have GW : FnOk P w K mg base CX0 1 fW fdW ["value"] spWordOf := ok_wordOf FW W
  refine F.ok scStr (fun vs H Q E h => ?_) (fun cdv A outer s H vs Q E hr h => ?_)
  · obtain ⟨a, z, m, b, rfl, _⟩ := h
    rfl
  · obtain ⟨a, z, m, b, rfl, ⟨dx, ha⟩, hz, h0, h1, q⟩ := h
    refine ⟨_, pss_one (ps_ret (pe_join pe_str (pe_lst (pa_cons (pe_fld (pv 0) rfl) (pa_cons (pe_callTy call_str_int (by rfl) W.str (by decide +kernel) (pa_cons (pe_fld (pv 0) rfl) pa_nil)) (pa_cons (pe_call GW hr (by rfl) gW FW.kp bW .nil pass0 (pa_cons (pe_fld (pv 0) rfl) pa_nil)) pa_nil)))))), ?_⟩
    have hlog : m.natAbs.log2 < 1920 := by
      have : m.natAbs < 2 ^ 100 := by omega
      exact Nat.lt_of_lt_of_le (PySem.Flt.log2_lt_of (by decide) this) (by decide)
    refine ⟨⟨_, rfl⟩, _, rfl, a, C, dx, _, _, rfl, ha, T.cl, T.nT, sf_tool z m b, _, rfl, a, C, dx, _, _, rfl, ha, T.cl, T.nM, sf_moment z m b, m, rfl, hlog, _, rfl, a, C, dx, _, _, rfl, ha, T.cl, T.nS, sf_sound z m b, b, rfl, (by show 3 ≤ sizeLine; decide), fun p hp => ?_⟩
    refine ⟨_, p, [z, (toString m : String), wordOf b], rfl, rfl, .inl (SqL.of upd_same), ?_, q _ (Same.over (Same.refl H) hp)⟩
    have e1 : (Str.ofString (toString m)).length ≤ 1921 := by
      rw [PyProof.Rows.ofString_length]
      exact int_text_length_le (k := 1920) (by decide) hlog
    have e2 : (wordOf b).length ≤ 7 := by cases b <;> decide
    have e3 : ((" " : String) : Str).length = 1 := by decide
    show (z.length + ((Str.ofString (toString m)).length + ((wordOf b).length + 0))) + 3 * ((" " : String) : Str).length ≤ 16777216
    rw [e3]
    omega

/-- two sayings that say the same -/
def SameS (C : Addr) (a b : Addr) (H : Hp) : Prop := ∃ (z : Str) (m : Int) (s : Bool), At C H a z m s ∧ At C H b z m s ∧ PyData.strOk z = true
theorem SameS.ext {C : Addr} : ∀ (a b : Addr) (H H' : Hp), Ext H H' → SameS C a b H → SameS C a b H' := fun a b H H' e h => by
  obtain ⟨z, m, s, ⟨d1, h1⟩, ⟨d2, h2⟩, h3⟩ := h
  exact ⟨z, m, s, ⟨d1, e _ _ h1⟩, ⟨d2, e _ _ h2⟩, h3⟩
theorem ok_eqS {f C p g : Addr} {fd fdP : FuncData} (F : Fun K "__eq__" "Saying.__eq__" sEq f fd) (W : Words K mg) (T : Say K mg C) (hp : PropOf K C "point" p g) (bP : Binds K fdP ["self"] []) (GP : FnOk P w K mg base CX0 1 g fdP ["self"] (spPoint C)) :
    FnOk P w K mg base CX0 3 f fd ["self", "other"] (L2.spEq (SameS C)) := by
  refine F.ok scEq (fun vs H Q E h => ?_) (fun cdv A outer s H vs Q E hr h => ?_)
  · obtain ⟨_, _, rfl, _⟩ := h
    rfl
  · obtain ⟨a, a', rfl, ⟨z, m, b, hA, hA', hz⟩, q⟩ := h
    refine ⟨_, pss_cons (ps_if (pt_not (pt_val (pe_callB call_isi (by rfl) W.isi (by decide +kernel) (pa_cons (pv 1) (pa_cons (pe_glob (v := .ref C) rfl T.mgC rfl) pa_nil))))) pss_dead pss_nil)
      (pss_one (ps_ret (pe_and (pe_cmpR (op_eqD hr.units) (pe_prop (pv 0) T.cl hp GP hr bP .nil pass0 rfl) (pe_prop (pv 1) T.cl hp GP hr bP .nil pass0 rfl) (nomark _))
        (pe_one (pe_cmpR op_eq (pe_fld (pv 0) rfl) (pe_fld (pv 1) rfl) (nomark _)))))), ?_⟩
    obtain ⟨dx, ha⟩ := id hA
    obtain ⟨dx', ha'⟩ := id hA'
    refine ⟨_, rfl, _, _, _, _, true, rfl, .own C, .base (.ins ha' T.cl T.ha T.hn T.htk T.hm), T.me, true, rfl, iteF ?_⟩
    refine ⟨_, rfl, a, dx, _, rfl, ha, a, z, m, b, rfl, hA, fun H1 p1 s1 h1 => ?_⟩
    refine ⟨_, rfl, a', dx', _, rfl, s1 _ _ ha', a', z, m, b, rfl, hA'.same s1, fun H2 p2 s2 h2 => ?_⟩
    refine ⟨dPt z m, dPt z m, dp_pt (s2 _ _ h1), dp_pt h2, shaped_pt hz, shaped_pt hz, _, rfl, ?_⟩
    rw [eqv_pt, decide_eq_true ⟨rfl, rfl⟩]
    have s12 := s1.trans s2
    refine iteT ⟨_, rfl, a, C, dx, _, _, rfl, s12 _ _ ha, T.cl, T.nS, sf_sound z m b, _, rfl, a', C, dx', _, _, rfl, s12 _ _ ha', T.cl, T.nS, sf_sound z m b, rfl, ?_⟩
    rw [decide_eq_true rfl]
    exact q H2 s12
/-- two tuples of the same sayings -/
theorem sys_prs {CY : Addr} {H : Hp} {z : Str} (hz : PyData.strOk z = true) : ∀ {l : List (Int × Bool)} {as bs : List Addr}, Paired (fun a q => At CY H a z q.1 q.2) as l → Paired (fun a q => At CY H a z q.1 q.2) bs l → Prs (DIns CY (SameS CY)) (as.map V.ref) (bs.map V.ref) H
  | _, _, _, .nil, .nil => Prs.nil
  | _, _, _, .cons h t, .cons h' t' => by
    obtain ⟨d1, g1⟩ := id h
    obtain ⟨d2, g2⟩ := id h'
    exact Prs.cons ⟨_, _, _, _, _, _, rfl, rfl, g1, g2, _, _, _, h, h', hz⟩ (sys_prs hz t t')
end
end K49

namespace So
open PySem PySem.Spec PyProof.Rows L2
section
variable {P : Program} {w : World} {K : PySem.W.Frag} {mg : Str → Option Value} {base : Heap} {CX : CXT} {sp : Sp} {fd : FuncData} {ps N : List Str} {k : Nat} {f c : Addr}
/-- a def by its body, the guards and the code object told -/
theorem fnG_ofC {x qual : Str} {st : Stmt} (F : Fun K x qual st f fd) (hcode : fd.code = .ref c) (S : FnScope N ps (defScope st)) (len : ∀ vs H Q E, sp vs H Q E → vs.length = ps.length)
    (hbody : ∀ (A : Around) (outer : List Env) (s : Shared) (H : Hp) (vs : List V) (Q : VK) (E : XK), A.guards = some [] → Room k (A.deeper (envOfC qual (defScope st) s.heap.objs.size f (.ref c))) → sp vs H Q E →
      ∃ t, PSs (cxOf CX P w K mg base N qual (defScope st) f (.ref c) A outer s H E).nox (defBody st) t ∧ t { nx := fun _ H' => Q .non H', rt := Q } (start N vs) H) : FnG P w K mg base CX (k + 1) f fd ps sp := by
  obtain ⟨oc, od, kV, doc, pm, an, cdv, ct, osl, rfl, lk, hcd⟩ := F.ex
  obtain rfl : cdv = .ref c := hcode
  constructor
  · exact len
  intro A outer s H args us vs Q E hg hr e0 hb r hsp
  have old : ∀ b o, base.get? b = some o → s.heap.get? b = some o := fun b o e => (e0.bs b o e).1
  have KX := e0.mod.kin.keeps old
  have lim := e0.mod.nolimit.keeps old
  refine codeAny_call_function hr.depth (KX _ _ lk) rfl S.co S.gen rfl (PySem.W.codeRec_of KX hcd) (hb _ _ _ _ ?_)
  refine wpAny_newFunctionEnv_cells S.kind (fun y hy => ?_) fun env he s1 x => ?_
  · rcases S.par y.1 (List.of_mem_zip (show (y.1, y.2) ∈ ps.zip us from hy)).1 with q | q
    · exact Or.inl q
    · exact Or.inr (And.intro q (PySem.W.cellsFrom_some _ _ _ (Or.inl q)))
  subst he
  refine And.intro (lim.keeps x.toInCall.keep) (codeAny_func ?_)
  obtain ⟨t, ht, hq⟩ := hbody A outer s H vs Q E hg (hr.deeper _) hsp
  refine wpAny_mono (ht.nox.run [] s1 (start N vs) H _ (inv_start S hr.hd e0 (len _ _ _ _ hsp) r x) hq) (fun fl s' hs => ?_) fun _ _ hs => hs
  match fl, hs with
  | .ret u, ⟨v, σ', H', J, rv, q⟩ => exact ⟨v, H', J.os, J.bare, J.base, J.hok, rv, q⟩
  | .next, ⟨σ', H', J, q⟩ => exact ⟨V.non, H', J.os, J.bare, J.base, J.hok, rfl, q⟩
  | .brk, ⟨_, _, _, q⟩ => exact q.elim
  | .cont, ⟨_, _, _, q⟩ => exact q.elim
end
end So

namespace So
open PySem PySem.Spec PyProof.Rows L2 LamX
/-- the law's call, its one table of code objects and the guards told -/
theorem law_callTG {P : Program} {w : World} {K : PySem.W.Frag} {mg mb : Str → Option Value} {CX : CXT} {k : Nat} {fa a c T : Addr} {fd : FuncData} {x : Str} {sp : Sp} {s₁ : Shared} {vs : List Value} {ns : List Int}
    (KX : K.In s₁.heap) (hns : s₁.heap.Ns mainGlobals mg) (hb : s₁.heap.Ns builtinsNs mb) (hbb : ∀ x : Str, x ≠ "__name__" → mb x = bootBuiltins x) (hlim : s₁.heap.NoLimit) (hg : s₁.gens = #[])
    (tab : s₁.heap.get? T = some { cls := .none, data := .fields #[] }) (noT : K.lookup T = none) (cd : PySem.W.CodeHd s₁.heap c T)
    (mod : ∃ (bm : Addr) (ob : Obj), mg "__builtins__" = some (.ref bm) ∧ bm ≠ builtinsNs ∧ s₁.heap.get? bm = some ob ∧ ob.cls = .type "module" ∧ ob.dict = some builtinsNs ∧ ob.data = .plain)
    (ha : s₁.heap.get? a = some { cls := .type "list", data := .seq vs.toArray }) (hi : IntsAre vs ns) (hl : ns.length ≤ sizeLine) (hr : Room k callerA)
    (F : ∀ base : Heap, K.In base → base.Ns mainGlobals mg → TabB base mg c T → FnG P w K mg base CX k fa fd [x] sp) (hbind : ∀ (s : Shared) (u : Value), BindsTo s fd ⟨[u], []⟩ [(x, u)])
    (hsp : ∀ H : Hp, H T = some (.tbl #[]) → SqL K H a (ns.map V.int) → sp [.ref a] H (fun v _ => v = .bl true) fun _ _ _ => False)
    (hCX : ∀ H e s', CX [] H s₁ (fun _ _ _ => False) e s' → False) :
    codeAny (model P w) callerA (.call (.ref fa) ⟨[.ref a], []⟩) (fun r s' => r = .ok (.ret (.bool true)) ∧ OldK s₁.heap s'.heap ∧ s'.os = s₁.os ∧ AllBare s'.gens) s₁ := by
  have aT : a ≠ T := fun z => by
    rw [z, tab] at ha
    have := congrArg Obj.data (Option.some.inj ha)
    cases this
  -- what may be tracked at the start: the table, and the script where the written part does not hold it
  have go : ∀ H : Hp, H T = some (.tbl #[]) → (∀ b u, H b = some u → b = T ∨ (b = a ∧ K.lookup a = none ∧ ∃ o xs, u = .frz o (.lst xs))) → SqL K H a (ns.map V.int) → HOk P w H s₁.heap →
      codeAny (model P w) callerA (.call (.ref fa) ⟨[.ref a], []⟩) (fun r s' => r = .ok (.ret (.bool true)) ∧ OldK s₁.heap s'.heap ∧ s'.os = s₁.os ∧ AllBare s'.gens) s₁ := by
    intro H hT hA hS hok
    -- an object that is neither the script's list nor the table stands in the base
    have free : ∀ {b : Addr} {o : Obj}, s₁.heap.get? b = some o → (∀ vs n, o.data ≠ .seq vs n) → o.data ≠ .fields #[] → H b = none := by
      intro b o e h1 h2
      cases q : H b with
      | none => rfl
      | some u =>
        rcases hA b u q with rfl | ⟨rfl, _⟩
        · rw [tab] at e
          cases e
          exact absurd rfl h2
        · rw [ha] at e
          cases e
          exact absurd rfl (h1 _ _)
    have toBase : ∀ {b : Addr} {o : Obj}, s₁.heap.get? b = some o → H b = none → (hidT s₁.heap H).get? b = some o := fun e n => hidT_get e n
    have nsB : ∀ {b : Addr} {m : Str → Option Value}, s₁.heap.Ns b m → (hidT s₁.heap H).Ns b m := by
      rintro b m ⟨o, es, ep, e, d, r⟩
      have n : H b = none := by
        refine free e ?_ ?_
        · intro vs n z
          rw [d] at z
          cases z
        · intro z
          rw [d] at z
          cases z
      exact ⟨o, es, ep, toBase e n, d, r⟩
    have kin : K.In (hidT s₁.heap H) := by
      intro b o e
      refine toBase (KX b o e) ?_
      cases q : H b with
      | none => rfl
      | some u =>
        rcases hA b u q with rfl | ⟨rfl, z, _⟩
        · rw [noT] at e
          cases e
        · rw [z] at e
          cases e
    have lim2 : (hidT s₁.heap H).NoLimit := by
      obtain ⟨mc, h1, h2⟩ := hlim
      exact ⟨mc, nsB h1, h2⟩
    have gT : mainGlobals ≠ T := fun z => by
      obtain ⟨o, es, ep, e, d, _⟩ := hns
      rw [z, tab] at e
      cases e
      cases d
    have cd2 : PySem.W.CodeHd (hidT s₁.heap H) c T := by
      obtain ⟨o, us, fl, tf, fg, tg, inF, tx, tt, e1, r1, r2, r3, r⟩ := cd
      refine ⟨o, us, fl, tf, fg, tg, inF, tx, tt, toBase e1 (free e1 ?_ ?_), r1, r2, r3, r⟩
      · intro vs n z
        rw [r2] at z
        cases z
      · intro z
        rw [r2] at z
        cases z
        simp at r3
    have bm2 : (hidT s₁.heap H).BuiltinsAt mg T := by
      obtain ⟨bm, ob, b1, b2, b3, b4, b5, b6⟩ := mod
      have n1 : bm ≠ mainGlobals := fun z => by
        obtain ⟨o, es, ep, e, d, _⟩ := hns
        rw [z, e] at b3
        cases b3
        rw [d] at b6
        cases b6
      have n2 : bm ≠ T := fun z => by
        rw [z, tab] at b3
        cases b3
        cases b6
      refine ⟨bm, ob, b1, b2, n1, n2, toBase b3 (free b3 ?_ ?_), b4, b5, b6⟩
      · intro vs n z
        rw [b6] at z
        cases z
      · intro z
        rw [b6] at z
        cases z
    have e0 : Env0 P w K mg (hidT s₁.heap H) callerA [] s₁ H := by
      refine ⟨rfl, ⟨kin, nsB hns, ⟨mb, nsB hb, hbb⟩, lim2⟩, fun b o e => of_hidT e, Nat.le_of_eq (hidT_size _ _), True.intro, ?_, hok, .of_eq hg⟩
      intro b hb
      cases hb
    refine codeAny_mono ((F _ kin (nsB hns) ⟨cd2, bm2, gT⟩).runG callerA [] s₁ H ⟨[.ref a], []⟩ [.ref a] [.ref a] _ _ rfl hr e0 (hbind s₁ (.ref a)) (.cons rfl .nil) (hsp H hT hS)) fun r s' h => ?_
    match r, h with
    | .error e, h => exact (hCX H e s' h).elim
    | .ok .next, h => exact h.elim
    | .ok .brk, h => exact h.elim
    | .ok .cont, h => exact h.elim
    | .ok (.ret u), ⟨v, H', os, bare, un, hok', rv, q⟩ =>
      have q2 : v = .bl true := q
      subst q2
      cases rv
      obtain ⟨more, hm⟩ := un.tbls T #[] hT
      have grown : s'.heap.get? T = some { cls := .none, data := .fields (#[] ++ more) } := hok' T _ hm
      have stay : ∀ b o, b ≠ T → s₁.heap.get? b = some o → s'.heap.get? b = some o := by
        intro b o n e
        cases q : H b with
        | none => exact un.keep b o e q (fun z => nomatch z) (fun z => nomatch z)
        | some u =>
          rcases hA b u q with z | ⟨_, _, ob, xs, rfl⟩
          · exact absurd z n
          · have z1 := (hok b _ q).1
            have z2 := (hok' b _ (un.frzs b ob _ q)).1
            rw [z1] at e
            rw [z2, e]
      refine ⟨rfl, ⟨fun b o e => ?_, fun b o e => ?_⟩, os, bare⟩
      · by_cases n : b = T
        · subst n
          rw [tab] at e
          cases e
          refine .inr (.inl ⟨(cd.tab tab).isCodeTable, rfl, #[], more, rfl, grown⟩)
        · exact .inl (stay b o n e)
      · by_cases n : b = T
        · subst n
          exact ⟨_, grown⟩
        · exact ⟨o, stay b o n e⟩
  have rv := vals_ints hi
  have hlen : (ns.map V.int).length ≤ sizeLine := by rw [List.length_map]; exact hl
  cases hk : K.lookup a with
  | some o =>
    have e := KX a o hk
    rw [ha] at e
    cases e
    refine go (fun b => if b = T then some (.tbl #[]) else none) (if_pos rfl) (fun b u z => ?_) (Or.inr ⟨_, vs.toArray, _, hk, rfl, rfl, rfl, by rw [List.size_toArray, hi.length]; exact hl, by simpa using rv⟩) fun b u z => ?_
    · try dsimp only at z
      by_cases n : b = T
      · exact Or.inl n
      · rw [if_neg n] at z
        cases z
    · try dsimp only at z
      by_cases n : b = T
      · rw [if_pos n] at z
        cases z
        rw [n]
        exact tab
      · rw [if_neg n] at z
        cases z
  | none =>
    refine go (fun b => if b = T then some (.tbl #[]) else if b = a then some (.frz { cls := .type "list", data := .seq vs.toArray } (.lst (ns.map V.int))) else none) (if_pos rfl) (fun b u z => ?_) (Or.inl (Or.inr ⟨_, (if_neg aT).trans (if_pos rfl)⟩)) fun b u z => ?_
    · try dsimp only at z
      by_cases n : b = T
      · exact Or.inl n
      · rw [if_neg n] at z
        by_cases n2 : b = a
        · rw [if_pos n2] at z
          cases z
          exact Or.inr ⟨n2, hk, _, _, rfl⟩
        · rw [if_neg n2] at z
          cases z
    · try dsimp only at z
      by_cases n : b = T
      · rw [if_pos n] at z
        cases z
        rw [n]
        exact tab
      · rw [if_neg n] at z
        by_cases n2 : b = a
        · rw [if_pos n2] at z
          cases z
          rw [n2]
          exact ⟨ha, hlen, vs, _, rv, ha⟩
        · rw [if_neg n2] at z
          cases z
end So

namespace K49
open PySem PySem.Spec PyProof.Rows L2 So LamX
abbrev sHeard : Stmt := topS 44
abbrev heardN : List Str := ["_law_ask", "_law_caught", "error"]
theorem scHeard : FnScope heardN ["_law_ask"] (defScope sHeard) := ⟨rfl, rfl, rfl, by decide +kernel, rfl, by decide +kernel, by decide +kernel⟩
theorem pe_imp {X : Cx} {e : Expr} {t : TE} (h : PE X e t) : PE X e (fun σ H Q => ∃ Q0 : VK, t σ H Q0 ∧ ∀ v H', Q0 v H' → Q v H') :=
  ⟨fun pins s σ H Q I ⟨Q0, h1, h2⟩ => thn (h.run pins s σ H Q0 I h1) fun u s' ⟨v, H', I', r, q⟩ => ⟨v, H', I', r, h2 v H' q⟩⟩
theorem takes_len {X : Cx} {W : WX} (tk : Takes X W) : Takes X (fun c d σ H => σ.length = X.N.length → W c d σ H) := fun u s' ⟨a, B, sI, pins, σ, H, cls, d, e, I, nb, up, sky, na, os, ag, w⟩ =>
  tk u s' ⟨a, B, sI, pins, σ, H, cls, d, e, I, nb, up, sky, na, os, ag, w I.len⟩
/-- the three errors by the law's words -/
def KindT (CO CM CU : Addr) (wd : Str) (C : Addr) (fl : Str) : Prop := (wd = "no" ∧ C = CO ∧ fl = "tool") ∨ (wd = "moment" ∧ C = CM ∧ fl = "moment") ∨ (wd = "turn" ∧ C = CU ∧ fl = "at")
def EchT (CO CM CU : Addr) (Q : VK) : XK := fun cls d H' => ∃ (wd : Str) (C : Addr) (fl : Str) (v : V) (dd : Addr), KindT CO CM CU wd C fl ∧ cls = .ref C ∧ d = some dd ∧ H' dd = some (.xd [(fl, v)]) ∧ ∀ (H'' : Hp) (r : Addr), Same H' H'' → H'' r = some (.tup [.str wd, v]) → Q (.ref r) H''
/-- what is asked always raises -/
def TTu (CO CM CU : Addr) : (XK → Hp → VK → Prop) → Hp → VK → Prop := fun tl H Q => tl (EchT CO CM CU Q) H fun _ _ => False
/-- what the top says of the errors, to the law's heard -/
structure HrT (K : PySem.W.Frag) (mg : Str → Option Value) (CT CO CM CU : Addr) : Prop where
  gT : mg "TillError" = some (.ref CT)
  gO : mg "NoTool" = some (.ref CO)
  gM : mg "BadMoment" = some (.ref CM)
  gU : mg "BadTurn" = some (.ref CU)
  isi : mg "isinstance" = none
  te : ∀ C ∈ [CO, CM, CU], PySem.W.exmOne K (.ref C) (.ref CT) = some true ∧ Err K C
  oo : PySem.W.kitOne K (.ref CO) (.ref CO) = some true
  mo : PySem.W.kitOne K (.ref CM) (.ref CO) = some false
  mm : PySem.W.kitOne K (.ref CM) (.ref CM) = some true
  uo : PySem.W.kitOne K (.ref CU) (.ref CO) = some false
  um : PySem.W.kitOne K (.ref CU) (.ref CM) = some false
  uu : PySem.W.kitOne K (.ref CU) (.ref CU) = some true
  fO : PySem.W.findIn K (.ref CO) "tool" = some none
  fM : PySem.W.findIn K (.ref CM) "moment" = some none
  fU : PySem.W.findIn K (.ref CU) "at" = some none
section
variable {X : Cx}
theorem heard_gives {q : Str} {g CT CO CM CU : Addr} {cdg : Value} (R : HrT X.K X.mg CT CO CM CU) : GivesTo X heardN "_law_heard" (defScope sHeard) g cdg (defBody sHeard) "_law_ask" q (TTu CO CM CU) := by
  intro f c' s H Q tl act hc h
  have TO := (R.te CO (by simp)).2
  have TM := (R.te CM (by simp)).2
  have TU := (R.te CU (by simp)).2
  refine ⟨_, (pss_cons (ps_set (i := 1) scHeard.nd rfl (.inl rfl) pe_non)
      (pss_cons (ps_try_keep (X := (cxOf C8.CX0 X.prog X.w X.K X.mg X.base heardN "_law_heard" (defScope sHeard) g cdg X.A X.stack s H C8.E0).nox) (i := 2) (n := "error") (c := .ref CT)
        (tb := fun W D σ H => ∃ Ech : XK, (∀ cls d σ' H', Ech cls d H' → σ'.length = 3 → W cls d σ' H') ∧ σ[0]? = some (some (.ref f)) ∧ H c' = some (CodeO c' q) ∧ ∃ Q0 : VK, tl Ech H Q0 ∧ ∀ v H', Q0 v H' → D.nx σ H')
        rfl rfl rfl scHeard.nd rfl rfl ⟨rfl, by decide, .inl R.gT⟩ LamX.takes0 (fun W pn xe tk _ => ?_) (fun a pn => pss_one (ps_set (i := 1) scHeard.nd rfl (.inl rfl) (pv 2))))
      (pss_cons (ps_if (pt_val (pe_callB (So.CallR.or call_isi call_isXo) (by rfl) R.isi (by decide +kernel) (pa_cons (pv 1) (pa_cons (pe_glob (v := .ref CO) rfl R.gO rfl) pa_nil)))) (pss_one (ps_ret (pe_tup (pa_cons pe_str (pa_cons (pe_xo TO R.fO (pv 1)) pa_nil))))) pss_nil)
      (pss_cons (ps_if (pt_val (pe_callB (So.CallR.or call_isi call_isXo) (by rfl) R.isi (by decide +kernel) (pa_cons (pv 1) (pa_cons (pe_glob (v := .ref CM) rfl R.gM rfl) pa_nil)))) (pss_one (ps_ret (pe_tup (pa_cons pe_str (pa_cons (pe_xo TM R.fM (pv 1)) pa_nil))))) pss_nil)
      (pss_cons (ps_if (pt_val (pe_callB (So.CallR.or call_isi call_isXo) (by rfl) R.isi (by decide +kernel) (pa_cons (pv 1) (pa_cons (pe_glob (v := .ref CU) rfl R.gU rfl) pa_nil)))) (pss_one (ps_ret (pe_tup (pa_cons pe_str (pa_cons (pe_xo TU R.fU (pv 1)) pa_nil))))) pss_nil)
      pss_dead))))), ?_⟩
  · refine ⟨fun pins s' σ H' D I h' => ?_⟩
    obtain ⟨Ech, hW, h1, h2, Q0, h3, h4⟩ := h'
    exact (pss_one (ps_expr (pe_imp (act (fun c d σ H => σ.length = 3 → W c d σ H) pn xe Ech _ _ (takes_len tk) hW)))).run pins s' σ H' D I ⟨Q0, ⟨h1, h2, h3⟩, fun v H'' z => h4 v H'' z⟩
  · refine ⟨EchT CO CM CU Q, fun cls d σ' H' ⟨wd, C, fl, v, dd, k3, e1, e2, e3, q3⟩ hl => ?_, rfl, hc, fun _ _ => False, h, fun v H' z => z.elim⟩
    obtain ⟨x0, x1, x2, rfl⟩ : ∃ x0 x1 x2, σ' = [x0, x1, x2] := by
      match σ', hl with
      | [x0, x1, x2], _ => exact ⟨x0, x1, x2, rfl⟩
    subst e1 e2
    have hC : C ∈ [CO, CM, CU] := by
      rcases k3 with ⟨_, rfl, _⟩ | ⟨_, rfl, _⟩ | ⟨_, rfl, _⟩ <;> simp
    obtain ⟨tE, tEr⟩ := R.te C hC
    refine ⟨true, tE, fun _ a ha => ⟨_, rfl, ?_⟩, fun y => nomatch y⟩
    have s1 : Same H' (upd H' a (Xo (.ref C) (some dd) a)) := same_upd0 ha
    have HA : (upd H' a (Xo (.ref C) (some dd) a)) a = some (Xo (.ref C) (some dd) a) := upd_same
    have HD : (upd H' a (Xo (.ref C) (some dd) a)) dd = some (.xd [(fl, v)]) := s1 _ _ e3
    revert s1 HA HD
    generalize upd H' a (Xo (.ref C) (some dd) a) = H1
    intro s1 HA HD
    rcases k3 with ⟨rfl, rfl, rfl⟩ | ⟨rfl, rfl, rfl⟩ | ⟨rfl, rfl, rfl⟩
    · refine ⟨_, rfl, .inr ⟨a, _, dd, _, _, _, true, rfl, HA, HD, tEr, .own _, R.oo, _, rfl, iteT ?_⟩⟩
      exact ⟨_, rfl, a, dd, _, v, rfl, HA, HD, by simp [List.lookup], by show 2 ≤ sizeLine; decide, fun r hr => q3 _ r (s1.trans (same_upd0 hr)) upd_same⟩
    · refine ⟨_, rfl, .inr ⟨a, _, dd, _, _, _, false, rfl, HA, HD, tEr, .own _, R.mo, _, rfl, iteF ?_⟩⟩
      refine ⟨_, rfl, .inr ⟨a, _, dd, _, _, _, true, rfl, HA, HD, tEr, .own _, R.mm, _, rfl, iteT ?_⟩⟩
      exact ⟨_, rfl, a, dd, _, v, rfl, HA, HD, by simp [List.lookup], by show 2 ≤ sizeLine; decide, fun r hr => q3 _ r (s1.trans (same_upd0 hr)) upd_same⟩
    · refine ⟨_, rfl, .inr ⟨a, _, dd, _, _, _, false, rfl, HA, HD, tEr, .own _, R.uo, _, rfl, iteF ?_⟩⟩
      refine ⟨_, rfl, .inr ⟨a, _, dd, _, _, _, false, rfl, HA, HD, tEr, .own _, R.um, _, rfl, iteF ?_⟩⟩
      refine ⟨_, rfl, .inr ⟨a, _, dd, _, _, _, true, rfl, HA, HD, tEr, .own _, R.uu, _, rfl, iteT ?_⟩⟩
      exact ⟨_, rfl, a, dd, _, v, rfl, HA, HD, by simp [List.lookup], by show 2 ≤ sizeLine; decide, fun r hr => q3 _ r (s1.trans (same_upd0 hr)) upd_same⟩
end
end K49

namespace So
open PySem PySem.Spec PyProof.Rows L2
/-! a row walked by itself: what follows it is said once -/
theorem ps_cut {X : Cx} {st : Stmt} {t : TS} (h : PS X st t) : PS X st (fun D σ H => ∃ N : L2.St → Hp → Prop, t { D with nx := N } σ H ∧ ∀ σ' H', N σ' H' → D.nx σ' H') :=
  ⟨fun pins s σ H D I ⟨N, h1, h2⟩ => wpAny_mono (h.run pins s σ H { D with nx := N } I h1) (fun fl s' z => by
    cases fl with
    | next =>
      obtain ⟨σ', H', I', q⟩ := z
      exact ⟨σ', H', I', h2 _ _ q⟩
    | ret v => exact z
    | brk => exact z
    | cont => exact z) fun _ _ z => z⟩
end So

namespace K49
open PySem PySem.Spec PyProof.Rows L2 So
abbrev sSpans : Stmt := topS 43
abbrev sDue : Stmt := topS 45
abbrev spansN : List Str := ["_law_pen_here", "_law_found", "_law_title", "_law_ticks", "_law_k", "_law_ends", "_law_tick", "_law_at"]
theorem scSpans : FnScope spansN ["_law_pen_here"] (defScope sSpans) := ⟨rfl, rfl, rfl, by decide +kernel, rfl, by decide +kernel, by decide +kernel⟩
abbrev dueN : List Str := ["_law_title", "_law_low", "_law_high", "_law_turned"]
theorem scDue : FnScope dueN dueN (defScope sDue) := ⟨rfl, rfl, rfl, by decide +kernel, rfl, by decide +kernel, by decide +kernel⟩
/-- the ends of lives with these beginnings -/
def endsOf (ns : List Int) : List Int := ns.tail.map (fun n => n - 1) ++ [1000000000000000000000000000000]
def spansOf (L : List (Str × List Int)) : List (Str × Int × Int) := L.flatMap fun p => (p.2.zip (endsOf p.2)).map fun q => (p.1, q.1, q.2)
def SpAt (H : Hp) (r : Addr) (e : Str × Int × Int) : Prop := H r = some (.tup [.str e.1, .int e.2.1, .int e.2.2])
def MsOk (ms : List Int) : Prop := ms.length ≤ 2 ∧ (∀ n ∈ ms, gBeg (.int n) = true) ∧ ms.Pairwise (· < ·)
def titles : List Str := ["c", "a", "b0"]
theorem spans_len : ∀ {L : List (Str × List Int)}, (∀ p ∈ L, p.2.length ≤ 3) → (spansOf L).length ≤ 3 * L.length
  | [], _ => by simp [spansOf]
  | p :: r, h => by
    have h1 := spans_len (L := r) fun q hq => h q (List.mem_cons_of_mem _ hq)
    have h2 := h p List.mem_cons_self
    show (((p.2.zip (endsOf p.2)).map fun q => (p.1, q.1, q.2)) ++ spansOf r).length ≤ _
    rw [List.length_append, List.length_map, List.length_zip, List.length_cons]
    omega
theorem paired_app {α β : Type} {F : α → β → Prop} : ∀ {a : List α} {b : List β} {c : List α} {d : List β}, Paired F a b → Paired F c d → Paired F (a ++ c) (b ++ d)
  | _, _, _, _, .nil, h => h
  | _, _, _, _, .cons h t, k => .cons h (paired_app t k)
/-- the drawn lives -/
def DrL (L : List (Str × List Int)) (k : Nat) : Prop := L.map (·.1) = titles.take k ∧ ∀ z ns, (z, ns) ∈ L → ∃ ms, ns = 0 :: ms ∧ MsOk ms
theorem off_same {p : Addr} {H H' : Hp} (s : Same H H') : Off p H H' := fun b o _ e => s b o e
theorem Pen.nw {H : Hp} {p l : Addr} {ns : List Int} {n : Nat} {g : Int} (h : Pen H p l ns n g) {d : Addr} (hd : H d = none) : d ≠ p := fun z => by rw [z, h.pen] at hd; cases hd
theorem Pen.sm {H H' : Hp} {p l : Addr} {ns : List Int} {n : Nat} {g : Int} (h : Pen H p l ns n g) (s : Same H H') : Pen H' p l ns n g := ⟨s _ _ h.pen, s _ _ h.cells, h.left⟩
theorem Pen.up {H : Hp} {p l c : Addr} {ns : List Int} {n : Nat} {g : Int} {o : HO} (h : Pen H p l ns n g) (h1 : c ≠ p) (h2 : c ≠ l) : Pen (upd H c o) p l ns n g := ⟨(upd_ne (Ne.symm h1)).trans h.pen, (upd_ne (Ne.symm h2)).trans h.cells, h.left⟩
section
variable {P : Program} {w : World} {K : PySem.W.Frag} {mg : Str → Option Value} {base : Heap}
def spSpans : Sp := fun vs H Q _ => ∃ (p l : Addr) (cc : List Int) (n : Nat) (g : Int), vs = [.ref p] ∧ Pen H p l cc n g ∧ n < 900000 ∧
  ∀ (L : List (Str × List Int)) (k : Nat) (f : Addr) (rs : List Addr) (n' : Nat) (g' : Int) (H' : Hp), DrL L k → 1 ≤ k → k ≤ 3 → H' f = some (.lst (rs.map V.ref)) → Paired (SpAt H') rs (spansOf L) → H f = none → n' ≤ n + 20 → Off p H H' → Pen H' p l cc n' g' → Q (.ref f) H'
theorem ok_spans {f fD fPk : Addr} {fd fdD fdPk : FuncData} (F : Fun K "_law_spans" "_law_spans" sSpans f fd) (ml : mg "len" = none) (mr : mg "range" = none) (msr : mg "sorted" = none) (mst : mg "set" = none)
    (FD : Fun K "_law_draw" "_law_draw" sDraw fD fdD) (bD : Binds K fdD ["_law_pen_here", "_law_many"] []) (gD : mg "_law_draw" = some (.ref fD)) (GD : FnOk P w K mg base CX0 1 fD fdD ["_law_pen_here", "_law_many"] spDraw)
    (FPk : Fun K "_law_pick" "_law_pick" sPick fPk fdPk) (bPk : Binds K fdPk ["_law_pen_here", "_law_some"] []) (gPk : mg "_law_pick" = some (.ref fPk)) (GPk : FnOk P w K mg base CX0 2 fPk fdPk ["_law_pen_here", "_law_some"] (spPick K)) :
    FnOk P w K mg base CX0 4 f fd ["_law_pen_here"] spSpans := by
  refine F.ok scSpans (fun vs H Q E h => ?_) (fun cdv A outer s H vs Q E hr h => ?_)
  · obtain ⟨_, _, _, _, _, rfl, _⟩ := h
    rfl
  · obtain ⟨p, l, cc, n, g, rfl, pen, hn, q⟩ := h
    have hr1 : Room 1 _ := hr.mono (by decide)
    have hr2 : Room 2 _ := hr.mono (by decide)
    have hss := sizeLine_eq
    refine ⟨_, pss_cons (ps_set (i := 1) scSpans.nd rfl (.inl rfl) (pe_lst pa_nil))
      (pss_cons (ps_for PassesOwn.never rfl (pi_list (pe_slice sl_list (pe_lst (pa_cons pe_str (pa_cons pe_str (pa_cons pe_str pa_nil)))) po_none (po_some (pe_op op_add pe_int (pe_call GD hr1 (by rfl) gD FD.kp bD .nil pass0 (pa_cons (pv 0) (pa_cons pe_int pa_nil))))))) (pg_name (i := 2) scSpans.nd rfl (Or.inr rfl))
        (pss_cons (ps_set (i := 3) scSpans.nd rfl (.inr rfl) (pe_lst (pa_cons pe_int pa_nil)))
        (pss_cons (ps_for PassesOwn.never rfl (pi_range1 (by rfl) mr (pa_cons (pe_call GD hr1 (by rfl) gD FD.kp bD .nil pass0 (pa_cons (pv 0) (pa_cons pe_int pa_nil))) pa_nil)) (pg_name (i := 4) scSpans.nd rfl (Or.inl rfl))
          (pss_one (ps_expr (pe_bm PySem.F.plainAttrs_list PySem.F.slot_list_append PySem.F.type_list_append mt_append (pv 3) (pa_cons (pe_call GPk hr2 (by rfl) gPk FPk.kp bPk .nil pass0 (pa_cons (pv 0) (pa_cons (pe_lst (pa_cons pe_int (pa_cons pe_int (pa_cons pe_int (pa_cons (pe_op op_pow pe_int pe_int) (pa_cons (pe_op op_add pe_int (pe_call GD hr1 (by rfl) gD FD.kp bD .nil pass0 (pa_cons (pv 0) (pa_cons (pe_op op_pow pe_int pe_int) pa_nil)))) pa_nil)))))) pa_nil))) pa_nil)))))
        (pss_cons (ps_cut (ps_set (i := 3) scSpans.nd rfl (.inr rfl) (pe_callB (cr_sortedSet rfl) (by rfl) msr (by decide +kernel) (pa_cons (pe_callTy (cr_setI rfl) (by rfl) mst (by decide +kernel) (pa_cons (pv 3) pa_nil)) pa_nil))))
        (pss_cons (ps_set (i := 5) scSpans.nd rfl (.inr rfl) (pe_op op_cat (pe_lc (own := [("_law_tick", 6)]) (g := gName 6) (tt := tYes) rfl scSpans.nd (pi_list (pe_slice sl_list (pv 3) (po_some pe_int) po_none)) (blkOk_by (N := spansN) (sc := defScope sSpans) (by decide +kernel)) (fun _ _ _ _ _ => pg_name (i := 6) scSpans.nd rfl (Or.inl rfl)) (fun _ _ _ _ _ => pts_nil) (fun _ _ _ _ _ => pe_op op_sub (pv 6) pe_int)) (pe_lst (pa_cons (pe_op op_pow pe_int pe_int) pa_nil))))
        (pss_one (ps_set (i := 1) scSpans.nd rfl (.inl rfl) (pe_op op_cat (pv 1) (pe_lc (own := [("_law_at", 7)]) (g := gName 7) (tt := tYes) rfl scSpans.nd (pi_range1 (by rfl) mr (pa_cons (pe_callB call_len_seq (by rfl) ml PySem.boot_len (pa_cons (pv 3) pa_nil)) pa_nil)) (blkOk_by (N := spansN) (sc := defScope sSpans) (by decide +kernel)) (fun _ _ _ _ _ => pg_name (i := 7) scSpans.nd rfl (Or.inl rfl)) (fun _ _ _ _ _ => pts_nil)
            (fun _ _ _ _ _ => pe_tup (pa_cons (pv 2) (pa_cons (pe_ix (ix_listK (K := K) rfl) (pv 3) (pv 7) (fun _ _ => rfl)) (pa_cons (pe_ix (ix_listK (K := K) rfl) (pv 5) (pv 7) (fun _ _ => rfl)) pa_nil)))))))))))))
      (pss_one (ps_ret (pv 1)))), ?_⟩
    -- the titles
    refine ⟨by show 0 ≤ sizeLine; omega, fun f0 hf0 => ⟨by show 3 ≤ sizeLine; omega, fun t3 ht3 => ?_⟩⟩
    have s1 := (same_upd0 (o := .lst []) hf0).trans (same_upd0 (o := .lst [V.str "c", .str "a", .str "b0"]) ht3)
    have pen1 := pen.sm s1
    have hf1 : upd (upd H f0 (.lst [])) t3 (.lst [V.str "c", .str "a", .str "b0"]) f0 = some (.lst []) := same_upd0 ht3 _ _ upd_same
    have ht1 : upd (upd H f0 (.lst [])) t3 (.lst [V.str "c", .str "a", .str "b0"]) t3 = some (.lst [V.str "c", .str "a", .str "b0"]) := upd_same
    have nt3 := (pen.sm (same_upd0 (o := .lst []) hf0)).nw ht3
    have nf0 := pen.nw hf0
    generalize upd (upd H f0 (.lst [])) t3 (.lst [V.str "c", .str "a", .str "b0"]) = H1 at s1 pen1 hf1 ht1 ⊢
    refine ⟨_, rfl, p, l, cc, n, g, 3, rfl, pen1, by omega, by decide, by decide, fun d n5 g5 H5 hd0 hd3 hn5 off5 pen5 => ?_⟩
    refine ⟨_, _, rfl, rfl, 1 + d, rfl, t3, _, rfl, SqL.of (off5 _ _ nt3 ht1), fun tl htl => ?_⟩
    obtain ⟨dn, rfl⟩ : ∃ dn : Nat, d = dn := ⟨d.toNat, by omega⟩
    have ecut : cutV [V.str "c", .str "a", .str "b0"] none (some (1 + (dn : Int))) = (titles.take (dn + 1)).map V.str := by
      rw [show (1 + (dn : Int)) = ((dn + 1 : Nat) : Int) by omega]
      unfold cutV
      rw [HT.sIx_none, HT.sIx_nat, Nat.sub_zero, List.drop_zero]
      match dn, hd3 with
      | 0, _ => rfl
      | 1, _ => rfl
      | 2, _ => rfl
      | k + 3, h => omega
    rw [ecut]
    have s6 := same_upd0 (o := .lst ((titles.take (dn + 1)).map V.str)) htl
    have pen6 := pen5.sm s6
    have hf6 := s6 _ _ (off5 _ _ nf0 hf1)
    have htl6 : upd H5 tl (.lst ((titles.take (dn + 1)).map V.str)) tl = some (.lst ((titles.take (dn + 1)).map V.str)) := upd_same
    have off6 : Off p H (upd H5 tl (.lst ((titles.take (dn + 1)).map V.str))) := ((off_same s1).trans off5).trans (off_same s6)
    have ntl := pen5.nw htl
    generalize upd H5 tl (.lst ((titles.take (dn + 1)).map V.str)) = H6 at pen6 hf6 htl6 off6 ⊢
    have off_none : ∀ {G : Hp} {c : Addr}, Off p H G → G c = none → c ≠ p → H c = none := fun {G c} o hc nc => by
      cases e : H c with
      | none => rfl
      | some u => rw [o c u nc e] at hc; cases hc
    refine ⟨tl, rfl, ⟨_, SqL.of htl6⟩, ?_⟩
    refine for_it walk_list (fun k σ G => ∃ (f : Addr) (rs : List Addr) (L : List (Str × List Int)) (y2 y3 y4 y5 : Option V) (n' : Nat) (g' : Int), σ = [some (.ref p), some (.ref f), y2, y3, y4, y5, none, none] ∧ Pen G p l cc n' g' ∧ n' ≤ n + 1 + 5 * k ∧ Off p H G ∧ H f = none ∧ f ≠ p ∧
        G f = some (.lst (rs.map V.ref)) ∧ Paired (SpAt G) rs (spansOf L) ∧ L.map (·.1) = (titles.take (dn + 1)).take k ∧ (∀ z ns, (z, ns) ∈ L → ∃ ms, ns = 0 :: ms ∧ MsOk ms) ∧ G tl = some (.lst ((titles.take (dn + 1)).map V.str)))
      ⟨f0, [], [], none, none, none, none, n5, g5, rfl, pen6, hn5, off6, hf0, nf0, hf6, .nil, rfl, (fun _ _ h => nomatch h), htl6⟩ (fun _ _ _ _ ⟨_, _, _, _, _, _, _, _, _, _, _, _, _, _, _, _, _, _, _, o⟩ => SqL.of o) ?_ ?_
    case refine_2 =>
      rintro σ G ⟨f, rs, L, y2, y3, y4, y5, n7, g7, rfl, pen7, hn7, off7, hfn, nf, hf7, hrs, hL, hLo, _⟩
      have hlen : (List.map V.str (titles.take (dn + 1))).length = dn + 1 := by
        rw [List.length_map, List.length_take]
        show min (dn + 1) 3 = dn + 1
        omega
      rw [hlen, List.take_take, Nat.min_self] at hL
      rw [hlen] at hn7
      exact ⟨_, rfl, q L (dn + 1) f rs n7 g7 G ⟨hL, hLo⟩ (by omega) (by omega) hf7 hrs hfn (by omega) off7 pen7⟩
    rintro k x σ G' G hk ⟨f, rs, L, y2, y3, y4, y5, n7, g7, rfl, pen7, hn7, off7, hfn, nf, hf7, hrs, hL, hLo, htl7⟩ ⟨rfl, hx⟩
    rw [List.length_map] at hk
    obtain ⟨z, hz, rfl⟩ : ∃ z, (titles.take (dn + 1))[k]? = some z ∧ x = .str z := by
      rw [List.getElem?_map] at hx
      cases e : (titles.take (dn + 1))[k]? with
      | none => rw [e] at hx; cases hx
      | some z => rw [e] at hx; exact ⟨z, rfl, (Option.some.inj hx).symm⟩
    have hk3 : k < 3 := by
      rw [List.length_take] at hk
      have : titles.length = 3 := rfl
      omega
    -- the ticks
    refine ⟨by show 1 ≤ sizeLine; omega, fun tk htk => ?_⟩
    have s8 := same_upd0 (o := .lst [V.int 0]) htk
    have pen8 := pen7.sm s8
    have htk8 : upd G tk (.lst [V.int 0]) tk = some (.lst [V.int 0]) := upd_same
    have ntk := pen7.nw htk
    have ntkl : tk ≠ l := fun y => by rw [y, pen7.cells] at htk; cases htk
    generalize hH8 : upd G tk (.lst [V.int 0]) = H8 at s8 pen8 htk8 ⊢
    refine ⟨_, rfl, p, l, cc, n7, g7, 3, rfl, pen8, by omega, by decide, by decide, fun m n9 g9 H9 hm0 hm3 hn9 off9 pen9 => ⟨_, rfl, by omega, by omega, ?_⟩⟩
    have htk9 := off9 _ _ ntk htk8
    refine for_range (lo := 0) (n := m.toNat) (fun j σ G1 => ∃ (w4 : Option V) (vals : List Int) (n' : Nat) (g' : Int), σ = [some (.ref p), some (.ref f), some (.str z), some (.ref tk), w4, y5, none, none] ∧ Pen G1 p l cc n' g' ∧ n' ≤ n9 + 2 * j ∧ Off p G G1 ∧ G1 tk = some (.lst ((0 :: vals).map V.int)) ∧ vals.length = j ∧ ∀ y ∈ vals, gBeg (.int y) = true)
      ⟨y4, [], n9, g9, rfl, pen9, by omega, (off_same s8).trans off9, htk9, rfl, (fun _ h => nomatch h)⟩ ?_ ?_
    · rintro j σ G1 hj ⟨w4, vals, n10, g10, rfl, pen10, hn10, off10, htk10, hvl, hvb⟩
      refine ⟨_, rfl, .inl ⟨rfl, _, SqL.of htk10⟩, _, rfl, _, _, rfl, rfl, ⟨by decide, by decide, by decide⟩, _, rfl, _, _, rfl, rfl, ⟨by decide, by decide, by decide⟩, p, l, cc, n10, g10, _, rfl, pen10, by omega, by decide, by decide, fun d11 n11 g11 H11 hd0' hd1' hn11 off11 pen11 => ⟨_, _, rfl, rfl, by show 5 ≤ sizeLine; omega, fun qa hqa => ?_⟩⟩
      have s12 := same_upd0 (o := .lst [V.int 1, .int 2, .int 5, .int (10 ^ (30 : Int).toNat), .int (1 + d11)]) hqa
      refine ⟨p, l, cc, n11, g11, .ref qa, rfl, pen11.sm s12, by omega, .inl ⟨qa, _, rfl, pen11.nw hqa, upd_same, by show 0 < 5; decide, by show 5 ≤ 1000; decide, fun v n13 g13 H13 hv hn13 off13 pen13 => ?_⟩⟩
      have hd2' : d11 < 1000000000000000000000000000000 := hd1'
      obtain ⟨y, rfl, hy⟩ : ∃ y, v = .int y ∧ gBeg (.int y) = true := by
        simp only [List.mem_cons, List.not_mem_nil, or_false] at hv
        rcases hv with rfl | rfl | rfl | rfl | rfl
        · exact ⟨_, rfl, by decide +kernel⟩
        · exact ⟨_, rfl, by decide +kernel⟩
        · exact ⟨_, rfl, by decide +kernel⟩
        · exact ⟨_, rfl, by decide +kernel⟩
        · exact ⟨_, rfl, decide_eq_true ⟨by omega, by omega⟩⟩
      have htk13 := off13 _ _ ntk (s12 _ _ (off11 _ _ ntk htk10))
      have o13 := ((off10.trans off11).trans (off_same s12)).trans off13
      refine ⟨tk, _, _, rfl, rfl, htk13, ?_, _, vals ++ [y], n13, g13, rfl, pen13.up ntk ntkl, by omega, fun c o hc e => ?_, ?_, by rw [List.length_append, hvl]; rfl, fun y' hy' => ?_⟩
      · rw [List.length_map, List.length_cons, hvl]
        omega
      · rw [upd_ne (fun y => by rw [y, htk] at e; cases e)]
        exact o13 _ _ hc e
      · rw [upd_same, List.map_cons, List.map_cons, List.map_append]
        rfl
      · rcases List.mem_append.mp hy' with h | h
        · exact hvb y' h
        · rw [List.mem_singleton.mp h]
          exact hy
    rintro σ G1 ⟨w4, vals, n10, g10, rfl, pen10, hn10, off10, htk10, hvl, hvb⟩
    have hvm : vals.length ≤ 2 := by omega
    clear off9 htk9 pen9 pen8 htk8 s8 hH8
    refine ⟨fun σ' H' => ∃ (t2 : Addr) (ms : List Int), σ' = [some (.ref p), some (.ref f), some (.str z), some (.ref t2), w4, y5, none, none] ∧ MsOk ms ∧ Same G1 H' ∧ H' t2 = some (.lst ((0 :: ms).map V.int)), ?_, ?_⟩
    · refine ⟨_, rfl, tk, 0 :: vals, rfl, .inl (SqL.of htk10), by rw [List.length_cons]; omega, fun ps c hps hc => ⟨ps, _, c, rfl, upd_same, by rw [List.length_cons] at hc; omega, fun later t2 hw hm hlen ht2 => ?_⟩⟩
      obtain ⟨ms, rfl, hms⟩ : ∃ ms, later = 0 :: ms ∧ MsOk ms := by
        have hm' : ∀ j, j ∈ later ↔ j ∈ 0 :: vals := fun j => (hm j).trans ⟨of_decide_eq_true, decide_eq_true⟩
        have ge : ∀ j ∈ vals, 1 ≤ j := fun j hj => by
          have : 1 ≤ j ∧ j ≤ 1000000000000000000000000000000 := of_decide_eq_true (hvb j hj)
          exact this.1
        cases later with
        | nil => exact absurd ((hm' 0).mpr List.mem_cons_self) (fun h => nomatch h)
        | cons x r =>
          rw [List.pairwise_cons] at hw
          have hx0 : x = 0 := by
            rcases List.mem_cons.mp ((hm' 0).mpr List.mem_cons_self) with e | e
            · exact e.symm
            · have h1 := hw.1 0 e
              rcases List.mem_cons.mp ((hm' x).mp List.mem_cons_self) with e2 | e2
              · exact e2
              · have := ge x e2
                omega
          subst hx0
          refine ⟨r, rfl, ?_, fun n hn => ?_, hw.2⟩
          · rw [List.length_cons] at hlen hc
            omega
          · have h1 := hw.1 n hn
            rcases List.mem_cons.mp ((hm' n).mp (List.mem_cons_of_mem _ hn)) with e | e
            · omega
            · exact hvb n e
      exact ⟨t2, ms, rfl, hms, (same_upd0 hps).trans (same_upd0 ht2), upd_same⟩
    rintro σ' H14 ⟨t2, ms, rfl, hms, s14, ht14⟩
    have hml := hms.1
    have pen14 := pen10.sm s14
    have off14 := off10.trans (off_same s14)
    clear s14 off10 pen10 htk10
    -- the ends
    refine ⟨_, rfl, 1, rfl, t2, _, rfl, SqL.of ht14, fun sl hsl => ?_⟩
    have ecut2 : cutV ((0 :: ms).map V.int) (some 1) none = ms.map V.int := by
      unfold cutV
      rw [HT.sIx_none, show (1 : Int) = ((1 : Nat) : Int) from rfl, HT.sIx_nat]
      simp
      exact List.take_of_length_le (by rw [List.length_map]; exact Nat.le_refl _)
    rw [ecut2]
    have s15 := same_upd0 (o := .lst (ms.map V.int)) hsl
    have hsl15 : upd H14 sl (.lst (ms.map V.int)) sl = some (.lst (ms.map V.int)) := upd_same
    have ht15 := s15 _ _ ht14
    have pen15 := pen14.sm s15
    have off15 := off14.trans (off_same s15)
    generalize upd H14 sl (.lst (ms.map V.int)) = H15 at hsl15 ht15 pen15 off15 ⊢
    clear s15 hsl pen14 off14 ht14
    refine ⟨sl, rfl, ⟨_, SqL.of hsl15⟩, fun D hD => ?_⟩
    refine lc_it walk_list (fun j H' => Same H15 H' ∧ H' D = some (.lst (((ms.take j).map (fun n => n - 1)).map V.int))) ⟨same_upd0 hD, upd_same⟩ (fun _ _ _ y => SqL.of (y.1 _ _ hsl15)) ?_ ?_
    · rintro j x H16 H17 hj ⟨s16, hD16⟩ ⟨rfl, hx⟩
      obtain ⟨n, hn, rfl⟩ : ∃ n, ms[j]? = some n ∧ x = .int n := by
        rw [List.getElem?_map] at hx
        cases e : ms[j]? with
        | none => rw [e] at hx; cases hx
        | some n => rw [e] at hx; exact ⟨n, rfl, (Option.some.inj hx).symm⟩
      refine ⟨rfl, _, rfl, _, _, rfl, rfl, _, hD16, ?_, over3 s16 hD, ?_⟩
      · rw [List.length_map, List.length_map, List.length_take]
        omega
      · rw [upd_same, List.take_add_one, hn]
        simp
    rintro H16 ⟨s16, hD16⟩
    rw [List.length_map, List.take_length] at hD16
    refine ⟨_, _, rfl, rfl, ⟨by decide, by decide, by decide⟩, by show 1 ≤ sizeLine; omega, fun qa hqa => ?_⟩
    refine ⟨D, qa, _, _, rfl, rfl, same_upd0 hqa _ _ hD16, upd_same, ?_, fun en hen => ?_⟩
    · rw [List.length_map, List.length_map]
      show ms.length + 1 ≤ _
      omega
    have e30 : (List.map V.int (ms.map (fun n => n - 1)) ++ [V.int (10 ^ (30 : Int).toNat)]) = (endsOf (0 :: ms)).map V.int := by
      unfold endsOf
      rw [List.map_append]
      rfl
    rw [e30]
    have s18 := (s16.trans (same_upd0 (o := .lst [V.int (10 ^ (30 : Int).toNat)]) hqa)).trans (same_upd0 (o := .lst ((endsOf (0 :: ms)).map V.int)) hen)
    have hen18 : upd (upd H16 qa (.lst [V.int (10 ^ (30 : Int).toNat)])) en (.lst ((endsOf (0 :: ms)).map V.int)) en = some (.lst ((endsOf (0 :: ms)).map V.int)) := upd_same
    have ht18 := s18 _ _ ht15
    have pen18 := pen15.sm s18
    have off18 := off15.trans (off_same s18)
    generalize upd (upd H16 qa (.lst [V.int (10 ^ (30 : Int).toNat)])) en (.lst ((endsOf (0 :: ms)).map V.int)) = H18 at hen18 ht18 pen18 off18 ⊢
    clear s18 hen hqa s16 hD16 hD hsl15 ht15 pen15 off15
    have hf18 := off18 _ _ nf hf7
    have hrs18 : Paired (SpAt H18) rs (spansOf L) := L2.Paired.mapP hrs fun r e he => off18 _ _ (ne_of (show G r = some (.tup _) from he) pen7.pen (fun y => nomatch y)) he
    have htl18 := off18 _ _ ntl htl7
    -- the spans
    refine ⟨_, rfl, _, rfl, t2, _, rfl, .inl (SqL.of ht18), _, rfl, ?_, ?_, fun D hD => ?_⟩
    · rw [List.length_map, List.length_cons]
      omega
    · rw [List.length_map, List.length_cons]
      omega
    have hnl : (0 :: ms).length ≤ 3 := by rw [List.length_cons]; omega
    have hel : (endsOf (0 :: ms)).length = (0 :: ms).length := by
      unfold endsOf
      rw [List.length_append, List.length_map]
      rfl
    have hzl : ((0 :: ms).zip (endsOf (0 :: ms))).length = (0 :: ms).length := by rw [List.length_zip, hel, Nat.min_self]
    refine lc_it (walk_range (lo := 0) (n := (((List.map V.int (0 :: ms)).length : Nat) : Int).toNat)) (fun j H' => Same H18 H' ∧ ∃ rs2 : List Addr, H' D = some (.lst (rs2.map V.ref)) ∧ Paired (SpAt H') rs2 ((((0 :: ms).zip (endsOf (0 :: ms))).take j).map fun q => (z, q.1, q.2))) ⟨same_upd0 hD, [], upd_same, .nil⟩ (fun _ _ _ _ => trivial) ?_ ?_
    · rintro j x H19 H20 hj ⟨s19, rs2, hD19, hp19⟩ ⟨rfl, rfl⟩
      rw [Int.toNat_natCast, List.length_map] at hj
      obtain ⟨lo, hlo⟩ : ∃ lo, (0 :: ms)[j]? = some lo := ⟨_, List.getElem?_eq_getElem hj⟩
      obtain ⟨hi, hhi⟩ : ∃ hi, (endsOf (0 :: ms))[j]? = some hi := ⟨_, List.getElem?_eq_getElem (by rw [hel]; exact hj)⟩
      have hzj : ((0 :: ms).zip (endsOf (0 :: ms)))[j]? = some (lo, hi) := List.getElem?_zip_eq_some.mpr ⟨hlo, hhi⟩
      have a1 : ((0 :: ms).map V.int)[j]? = some (.int lo) := by rw [List.getElem?_map, hlo]; rfl
      have a2 : ((endsOf (0 :: ms)).map V.int)[j]? = some (.int hi) := by rw [List.getElem?_map, hhi]; rfl
      have ej : (0 : Int) + (j : Nat) = ((j : Nat) : Int) := Int.zero_add _
      refine ⟨rfl, _, rfl, _, rfl, _, rfl, t2, _, _, _, rfl, rfl, SqL.of (s19 _ _ ht18), by rw [ej]; exact atI_nat a1, _, rfl, _, rfl, en, _, _, _, rfl, rfl, SqL.of (s19 _ _ hen18), by rw [ej]; exact atI_nat a2, by show 3 ≤ sizeLine; omega, fun r hr => ?_⟩
      have s20 := same_upd0 (o := .tup [.str z, .int lo, .int hi]) hr
      have hr20 : upd H20 r (.tup [.str z, .int lo, .int hi]) r = some (.tup [.str z, .int lo, .int hi]) := upd_same
      have hD20 := s20 _ _ hD19
      have hl19 := Paired.length hp19
      rw [List.length_map, List.length_take] at hl19
      refine ⟨_, hD20, by rw [List.length_map]; omega, over3 (s19.trans s20) hD, rs2 ++ [r], by rw [upd_same, List.map_append]; rfl, ?_⟩
      rw [List.take_add_one, hzj, List.map_append]
      exact Paired.snoc (L2.Paired.mapP hp19 fun a e he => (upd_ne (ne_of (s20 _ _ (show H20 a = some (.tup _) from he)) hD20 (fun y => nomatch y))).trans (s20 _ _ he)) ((upd_ne (ne_of hr20 hD20 (fun y => nomatch y))).trans hr20)
    rintro H19 ⟨s19, rs2, hD19, hp19⟩
    rw [Int.toNat_natCast, List.length_map, ← hzl, List.take_length] at hp19
    have hl2 := Paired.length hp19
    rw [List.length_map, hzl] at hl2
    have hl1 := Paired.length hrs18
    refine ⟨f, D, _, _, rfl, rfl, s19 _ _ hf18, hD19, ?_, fun f2 hf2 => ?_⟩
    · have hL3 : L.length ≤ 3 := by
        have e1 : (L.map (·.1)).length = L.length := List.length_map _
        rw [hL, List.length_take] at e1
        omega
      have e2 := spans_len (L := L) fun q hq => by
        obtain ⟨ms', e, h1, _⟩ := hLo q.1 q.2 hq
        rw [e, List.length_cons]
        omega
      rw [List.length_map, List.length_map]
      omega
    have s20 := same_upd0 (o := .lst (rs.map V.ref ++ rs2.map V.ref)) hf2
    have s18' := s19.trans s20
    have oF : Off p H (upd H19 f2 (.lst (rs.map V.ref ++ rs2.map V.ref))) := (off7.trans off18).trans (off_same s18')
    have penF := pen18.sm s18'
    have nf2 := (pen18.sm s19).nw hf2
    refine ⟨f2, rs ++ rs2, L ++ [(z, 0 :: ms)], _, _, _, _, n10, g10, rfl, penF, by omega, oF, off_none ((off7.trans off18).trans (off_same s19)) hf2 nf2, nf2, by rw [upd_same, List.map_append], ?_, ?_, fun z' ns' h' => ?_, s18' _ _ htl18⟩
    · unfold spansOf
      rw [List.flatMap_append]
      refine paired_app (L2.Paired.mapP hrs18 fun r e he => s18' _ _ he) ?_
      rw [show ([(z, 0 :: ms)] : List (Str × List Int)).flatMap (fun p => (p.2.zip (endsOf p.2)).map fun q => (p.1, q.1, q.2)) = ((0 :: ms).zip (endsOf (0 :: ms))).map fun q => (z, q.1, q.2) by simp]
      exact L2.Paired.mapP hp19 fun r e he => s20 _ _ he
    · have e : (titles.take (dn + 1)).take (k + 1) = (titles.take (dn + 1)).take k ++ [z] := (List.take_add_one (l := titles.take (dn + 1)) (i := k)).trans (by rw [hz]; rfl)
      rw [List.map_append, hL, e]
      rfl
    · rcases List.mem_append.mp h' with h | h
      · exact hLo z' ns' h
      · cases List.mem_singleton.mp h
        exact ⟨ms, rfl, hms⟩
end
end K49

namespace K49
open PySem PySem.Spec PyProof.Rows L2 So TL
/-- a saying as the law writes it -/
def sayW (z : Str) (q : Int × Bool) : Str := z ++ (" " : Str) ++ Str.ofString (toString q.1) ++ (if q.2 then (" sound" : Str) else (" unsound" : Str))
theorem str_tl {a b : Str} (h : a.cps.toList = b.cps.toList) : a = b := by
  obtain ⟨⟨a⟩⟩ := a
  obtain ⟨⟨b⟩⟩ := b
  cases h
  rfl
theorem app_tl (a b : Str) : (a ++ b).cps.toList = a.cps.toList ++ b.cps.toList := by
  show (a.cps ++ b.cps).toList = _
  exact Array.toList_append
/-- it is the saying's own text -/
theorem say_join (z : Str) (m : Int) (b : Bool) : Txt.join " " [z, (toString m : String), wordOf b] = sayW z (m, b) := by
  refine str_tl ?_
  rw [join_eq]
  have e := tl_join " " [z, Str.ofString (toString m), wordOf b]
  refine Eq.trans e ?_
  unfold sayW
  rw [app_tl, app_tl, app_tl]
  show tl z ++ (tl (" " : Str) ++ (tl (Str.ofString (toString m)) ++ (tl (" " : Str) ++ tl (wordOf b)))) = z.cps.toList ++ (" " : Str).cps.toList ++ (Str.ofString (toString m)).cps.toList ++ _
  have e2 : tl (" " : Str) ++ tl (wordOf b) = (if b = true then (" sound" : Str) else (" unsound" : Str)).cps.toList := by
    cases b <;> decide +kernel
  rw [e2]
  show z.cps.toList ++ ((" " : Str).cps.toList ++ ((Str.ofString (toString m)).cps.toList ++ _)) = _
  rw [List.append_assoc, List.append_assoc]
section
variable {P : Program} {w : World} {K : PySem.W.Frag} {mg : Str → Option Value} {base : Heap}
/-- what the law says is due -/
def spDue : Sp := fun vs H Q _ => ∃ (z : Str) (lo hi : Int) (t : V), vs = [.str z, .int lo, .int hi, t] ∧ z.length ≤ 2000 ∧ (0 ≤ lo ∧ lo ≤ 1000000000000000000000000000000) ∧ (0 ≤ hi ∧ hi ≤ 1000000000000000000000000000000) ∧ (t = .non ∨ ∃ k, t = .int k ∧ lo ≤ k ∧ k ≤ 1000000000000000000000000000000) ∧
  ∀ (H' : Hp) (d : Addr), Same H H' → H' d = some (.lst ((dueS lo hi t).map fun q => V.str (sayW z q))) → Q (.ref d) H'
theorem ok_due {f : Addr} {fd : FuncData} (F : Fun K "_law_due" "_law_due" sDue f fd) (ms : mg "str" = none) : FnOk P w K mg base CX0 1 f fd dueN spDue := by
  refine F.ok scDue (fun vs H Q E h => ?_) (fun cdv A outer s H vs Q E hr h => ?_)
  · obtain ⟨_, _, _, _, rfl, _⟩ := h
    rfl
  · obtain ⟨z, lo, hi, t, rfl, hz, hlo, hhi, ht, q⟩ := h
    have hss := sizeLine_eq
    refine ⟨_, pss_cons (ps_if (pt_cmpR op_isN (pv 3) pe_non (nomark _)) (pss_one (ps_ret (pe_lst (pa_cons (pe_op op_add_str (pe_op op_add_str (pe_op op_add_str (pv 0) pe_str) (pe_callTy call_str_int (by rfl) ms (by decide +kernel) (pa_cons (pv 2) pa_nil))) pe_str) pa_nil)))) pss_nil)
      (pss_cons (ps_if (pt_cmpR op_eq (pv 3) (pv 1) (nomark _)) (pss_one (ps_ret (pe_lst (pa_cons (pe_op op_add_str (pe_op op_add_str (pe_op op_add_str (pv 0) pe_str) (pe_callTy call_str_int (by rfl) ms (by decide +kernel) (pa_cons (pv 1) pa_nil))) pe_str) pa_nil)))) pss_nil)
      (pss_one (ps_ret (pe_lst (pa_cons (pe_op op_add_str (pe_op op_add_str (pe_op op_add_str (pv 0) pe_str) (pe_callTy call_str_int (by rfl) ms (by decide +kernel) (pa_cons (pe_op op_sub (pv 3) pe_int) pa_nil))) pe_str) (pa_cons (pe_op op_add_str (pe_op op_add_str (pe_op op_add_str (pv 0) pe_str) (pe_callTy call_str_int (by rfl) ms (by decide +kernel) (pa_cons (pv 3) pa_nil))) pe_str) pa_nil)))))), ?_⟩
    have e1 : ((" " : String) : Str).length = 1 := by decide
    have e2 : ((" sound" : String) : Str).length = 6 := by decide
    have e3 : ((" unsound" : String) : Str).length = 8 := by decide
    have b1 : ∀ i : Int, 0 ≤ i ∧ i ≤ 1000000000000000000000000000000 → z.length + ((" " : String) : Str).length ≤ sizeLine ∧ (z ++ (" " : Str)).length + (Str.ofString (toString i)).length ≤ sizeLine ∧ (z ++ (" " : Str) ++ Str.ofString (toString i)).length + 8 ≤ sizeLine := fun i h => by
      have t1 := txt_len (mom_log h)
      have t2 := app_len z (" " : Str)
      have t3 := app_len (z ++ (" " : Str)) (Str.ofString (toString i))
      omega
    rcases ht with rfl | ⟨k, rfl, k1, k2⟩
    · obtain ⟨g1, g2, g3⟩ := b1 hi hhi
      refine ⟨_, rfl, rfl, _, rfl, iteT ?_⟩
      exact ⟨_, rfl, _, _, rfl, rfl, g1, _, rfl, hi, rfl, mom_log hhi, _, _, rfl, rfl, g2, _, _, rfl, rfl, by rw [e2]; exact Nat.le_trans (Nat.add_le_add_left (by decide) _) g3, by show 1 ≤ sizeLine; omega, fun d hd => q _ d (same_upd0 hd) upd_same⟩
    · refine ⟨_, rfl, rfl, _, rfl, iteF ?_⟩
      refine ⟨_, rfl, _, rfl, rfl, _, rfl, ite2 (fun e => ?_) (fun e => ?_)⟩
      · have e : k = lo := V.int.inj (of_decide_eq_true e)
        obtain ⟨g1, g2, g3⟩ := b1 lo hlo
        refine ⟨_, rfl, _, _, rfl, rfl, g1, _, rfl, lo, rfl, mom_log hlo, _, _, rfl, rfl, g2, _, _, rfl, rfl, by rw [e3]; exact g3, by show 1 ≤ sizeLine; omega, fun d hd => q _ d (same_upd0 hd) ?_⟩
        subst e
        rw [upd_same, show dueS k hi (.int k) = [(k, false)] from if_pos rfl]
        rfl
      · have e : ¬ k = lo := fun h => e (decide_eq_true (by rw [h]))
        obtain ⟨g1, g2, g3⟩ := b1 (k - 1) (by omega)
        obtain ⟨g4, g5, g6⟩ := b1 k (by omega)
        refine ⟨_, rfl, _, _, rfl, rfl, g1, _, rfl, _, _, rfl, rfl, k - 1, rfl, mom_log (by omega), _, _, rfl, rfl, g2, _, _, rfl, rfl, by rw [e2]; exact Nat.le_trans (Nat.add_le_add_left (by decide) _) g3, ?_⟩
        refine ⟨_, rfl, _, _, rfl, rfl, g4, _, rfl, k, rfl, mom_log (by omega), _, _, rfl, rfl, g5, _, _, rfl, rfl, by rw [e3]; exact g6, by show 2 ≤ sizeLine; omega, fun d hd => q _ d (same_upd0 hd) ?_⟩
        rw [upd_same, show dueS lo hi (.int k) = [(k - 1, true), (k, false)] from if_neg e]
        rfl
end
end K49

namespace K49
open PySem PySem.Spec PyProof.Rows L2 So
/-- a turn of the life from b to r -/
def TurnIn (b r : Int) (v : V) : Prop := v = .non ∨ ∃ k, v = .int k ∧ b ≤ k ∧ k ≤ r
/-- the sayings of one turn are all true just where it is the turn -/
theorem due_all {b r : Int} {v o : V} (hv : TurnIn b r v) (ho : TurnIn b r o) (hbr : b ≤ r) : ((dueS b r v).filter fun q => !decide (sndB o q.1 = q.2)) = [] ↔ o = v := by
  rw [List.filter_eq_nil_iff]
  have tr : ∀ i s, (!decide (sndB o i = s)) = true ↔ ¬ sndB o i = s := fun i s => by simp
  rcases hv with rfl | ⟨k, rfl, k1, k2⟩
  · show (∀ a ∈ [(r, true)], _) ↔ _
    rw [List.forall_mem_singleton]
    rcases ho with rfl | ⟨j, rfl, j1, j2⟩
    · exact ⟨fun _ => rfl, fun _ => by simp [sndB]⟩
    · refine ⟨fun h => ?_, fun h => by cases h⟩
      have : ¬ j > r := by omega
      exact absurd (by simp [sndB]; omega) h
  · by_cases e : k = b
    · subst e
      rw [show dueS k r (.int k) = [(k, false)] from if_pos rfl, List.forall_mem_singleton]
      rcases ho with rfl | ⟨j, rfl, j1, j2⟩
      · exact ⟨fun h => absurd (by simp [sndB]) h, fun h => by cases h⟩
      · by_cases c : j = k
        · subst c
          exact ⟨fun _ => rfl, fun _ => by simp [sndB]⟩
        · refine ⟨fun h => absurd (by simp [sndB]; omega) h, fun h => absurd (V.int.inj h) c⟩
    · rw [show dueS b r (.int k) = [(k - 1, true), (k, false)] from if_neg e]
      rcases ho with rfl | ⟨j, rfl, j1, j2⟩
      · refine ⟨fun h => absurd (by simp [sndB]) (h (k, false) (by simp)), fun h => by cases h⟩
      · by_cases c : j = k
        · subst c
          refine ⟨fun _ => rfl, fun _ q hq => ?_⟩
          rcases List.mem_cons.mp hq with h | h
          · subst h
            simp [sndB]
            omega
          · rw [List.mem_singleton.mp h]
            simp [sndB]
        · refine ⟨fun h => ?_, fun h => absurd (V.int.inj h) c⟩
          rcases Int.lt_or_gt_of_ne c with c | c
          · exact absurd (by simp [sndB]; omega) (h (k - 1, true) (by simp))
          · exact absurd (by simp [sndB]; omega) (h (k, false) (by simp))
end K49

namespace K49
open PySem PySem.Spec PyProof.Rows L2 So
/-! what the drawn spans say of the lives -/
/-- the drawn lives, by their titles in order -/
def ordL : List (Str × List Int) → List (Str × List Int)
  | [x, y] => [y, x]
  | [x, y, z] => [y, z, x]
  | l => l
theorem ordL_perm : ∀ L : List (Str × List Int), (ordL L).Perm L
  | [] => .refl _
  | [_] => .refl _
  | [x, y] => .swap x y []
  | [x, y, z] => ((List.Perm.swap x z []).cons y).trans (.swap x y [z])
  | _ :: _ :: _ :: _ :: _ => .refl _
theorem ordL_ok {L : List (Str × List Int)} {k : Nat} (h : DrL L k) (hk : k ≤ 3) : LOk (ordL L) := by
  obtain ⟨h1, h2⟩ := h
  have hp := ordL_perm L
  have nmOk : ∀ z ∈ titles, isName z = true ∧ z.length ≤ 2000 := by decide +kernel
  have hl : L.length ≤ 3 := by
    have e : (L.map (·.1)).length = L.length := List.length_map _
    rw [h1, List.length_take] at e
    have : titles.length = 3 := rfl
    omega
  refine ⟨?_, ((hp.map (·.1)).nodup_iff).mpr ?_, by rw [hp.length_eq]; omega, fun z ns hm => ?_⟩
  · match L, h1 with
    | [], _ => decide +kernel
    | [x], h1 => rfl
    | [x, y], h1 =>
      obtain ⟨x1, x2⟩ := x
      obtain ⟨y1, y2⟩ := y
      match k, h1 with
      | 2, h1 =>
        injection h1 with e1 e2
        injection e2 with e2 _
        have e1 : x1 = "c" := e1
        have e2 : y1 = "a" := e2
        subst e1 e2
        show sortedS ["a", "c"] = true
        decide +kernel
      | 0, h1 => cases h1
      | 1, h1 => cases h1
      | k + 3, h1 =>
        rw [List.take_of_length_le (by show 3 ≤ k + 3; omega)] at h1
        cases h1
    | [x, y, z], h1 =>
      obtain ⟨x1, x2⟩ := x
      obtain ⟨y1, y2⟩ := y
      obtain ⟨z1, z2⟩ := z
      have h1 : [x1, y1, z1] = titles.take k := h1
      have hk3 : 3 ≤ k := by
        have := congrArg List.length h1
        rw [List.length_take] at this
        have e : titles.length = 3 := rfl
        simp only [List.length_cons, List.length_nil] at this
        omega
      rw [List.take_of_length_le (by show 3 ≤ k; omega)] at h1
      injection h1 with e1 e2
      injection e2 with e2 e3
      injection e3 with e3 _
      subst e1 e2 e3
      show sortedS ["a", "b0", "c"] = true
      decide +kernel
    | _ :: _ :: _ :: _ :: _, _ => simp at hl
  · rw [h1]
    exact (show titles.Nodup by decide +kernel).sublist (List.take_sublist _ _)
  · have hm' : (z, ns) ∈ L := hp.mem_iff.mp hm
    obtain ⟨ms, rfl, m1, m2, m3⟩ := h2 z ns hm'
    have hz : z ∈ titles := by
      have : z ∈ L.map (·.1) := List.mem_map_of_mem (f := (·.1)) hm'
      rw [h1] at this
      exact List.mem_of_mem_take this
    exact ⟨(nmOk z hz).1, (nmOk z hz).2, ms, rfl, by omega, m2, m3⟩
/-- a span is a life from its beginning to its last moment -/
theorem span_life {L : List (Str × List Int)} {k : Nat} (h : DrL L k) {z : Str} {lo hi : Int} (he : (z, lo, hi) ∈ spansOf L) :
    0 ≤ lo ∧ lo ≤ hi ∧ hi ≤ 1000000000000000000000000000000 ∧ ∃ ns, (z, ns) ∈ L ∧ lo ∈ ns ∧ LastAt ns lo hi ∧ ∀ i, lo ≤ i → i ≤ hi → ∀ n ∈ ns, n ≤ i → n ≤ lo := by
  unfold spansOf at he
  obtain ⟨⟨z', ns⟩, hm, he⟩ := List.mem_flatMap.mp he
  obtain ⟨⟨lo', hi'⟩, hq, e⟩ := List.mem_map.mp he
  obtain ⟨rfl, rfl, rfl⟩ : z = z' ∧ lo = lo' ∧ hi = hi' := by
    injection e with e1 e2
    injection e2 with e2 e3
    exact ⟨e1.symm, e2.symm, e3.symm⟩
  obtain ⟨ms, rfl, m1, m2, m3⟩ := h.2 z ns hm
  have hb : ∀ n ∈ ms, 1 ≤ n ∧ n ≤ 1000000000000000000000000000000 := fun n hn => of_decide_eq_true (m2 n hn)
  have hp0 : (0 :: ms).Pairwise (· < ·) := List.pairwise_cons.mpr ⟨fun n hn => by have := (hb n hn).1; omega, m3⟩
  have hr : ∀ n ∈ 0 :: ms, 0 ≤ n ∧ n ≤ 1000000000000000000000000000000 := fun n hn => by
    rcases List.mem_cons.mp hn with h | h
    · omega
    · have := hb n h
      omega
  obtain ⟨j, hj⟩ := List.mem_iff_getElem?.mp hq
  obtain ⟨h1, h2⟩ := List.getElem?_zip_eq_some.mp hj
  have h1 : (0 :: ms)[j]? = some lo := h1
  have hlo := List.mem_of_getElem? h1
  obtain ⟨hlt, hget⟩ := List.getElem?_eq_some_iff.mp h1
  rw [List.pairwise_iff_getElem] at hp0
  have h2 : (ms.map (fun n => n - 1) ++ [1000000000000000000000000000000])[j]? = some hi := h2
  by_cases c : j < ms.length
  · rw [List.getElem?_append_left (by rw [List.length_map]; exact c), List.getElem?_map] at h2
    obtain ⟨m, hm', rfl⟩ : ∃ m, ms[j]? = some m ∧ m - 1 = hi := by
      cases q : ms[j]? with
      | none => rw [q] at h2; cases h2
      | some m => rw [q] at h2; exact ⟨m, rfl, Option.some.inj h2⟩
    have hm2 : (0 :: ms)[j + 1]? = some m := hm'
    obtain ⟨hlt2, hget2⟩ := List.getElem?_eq_some_iff.mp hm2
    have h3 := hp0 j (j + 1) hlt hlt2 (by omega)
    have hmem := List.mem_of_getElem? hm2
    have h4 := hr m hmem
    have step : ∀ n ∈ 0 :: ms, n < m → n ≤ lo := fun n hn hne => by
      obtain ⟨i, hi⟩ := List.mem_iff_getElem?.mp hn
      obtain ⟨hi1, hi2⟩ := List.getElem?_eq_some_iff.mp hi
      rcases Nat.lt_trichotomy i j with q | q | q
      · have := hp0 i j hi1 hlt q
        omega
      · subst q
        omega
      · rcases Nat.lt_or_ge (j + 1) i with q2 | q2
        · have := hp0 (j + 1) i hlt2 hi1 q2
          omega
        · obtain rfl : i = j + 1 := by omega
          omega
    refine ⟨(hr lo hlo).1, by omega, by omega, _, hm, hlo, .inr ⟨m, hmem, by omega, fun n hn hln => ?_, rfl⟩, fun i _ h2 n hn hni => step n hn (by omega)⟩
    have hnm : ¬ n < m := fun hc => by
      have := step n hn hc
      omega
    omega
  · have hl : j = ms.length := by
      rw [List.length_cons] at hlt
      omega
    rw [List.getElem?_append_right (by rw [List.length_map]; omega), List.length_map, show j - ms.length = 0 by omega] at h2
    obtain rfl : (1000000000000000000000000000000 : Int) = hi := Option.some.inj h2
    have top : ∀ n ∈ 0 :: ms, n ≤ lo := fun n hn => by
      obtain ⟨i, hi⟩ := List.mem_iff_getElem?.mp hn
      obtain ⟨hi1, hi2⟩ := List.getElem?_eq_some_iff.mp hi
      rcases Nat.lt_or_ge i j with q | q
      · have := hp0 i j hi1 hlt q
        omega
      · rw [List.length_cons] at hi1
        obtain rfl : i = j := by omega
        omega
    exact ⟨(hr lo hlo).1, (hr lo hlo).2, Int.le_refl _, _, hm, hlo, .inl ⟨top, rfl⟩, fun i _ _ n hn _ => top n hn⟩
end K49

namespace K49
open PySem PySem.Spec PyProof.Rows L2 So
/-- the beginnings that the spans tell of a tool, but 0 -/
def begOf (es : List (Str × Int × Int)) (z : Str) : List Int := (es.filter fun e => decide (e.1 = z) && decide (e.2.1 > 0)).map fun e => e.2.1
theorem begOf_snoc (es : List (Str × Int × Int)) (z y : Str) (lo hi : Int) : begOf (es ++ [(y, lo, hi)]) z = begOf es z ++ (if y = z then (if lo > 0 then [lo] else []) else []) := by
  unfold begOf
  rw [List.filter_append, List.map_append]
  congr 1
  by_cases h1 : y = z
  · by_cases h2 : lo > 0 <;> simp [h1, h2]
  · simp [h1]
theorem begOf_app (a b : List (Str × Int × Int)) (z : Str) : begOf (a ++ b) z = begOf a z ++ begOf b z := by
  unfold begOf
  rw [List.filter_append, List.map_append]
theorem begOf_other {a : List (Str × Int × Int)} {z : Str} (h : ∀ e ∈ a, e.1 ≠ z) : begOf a z = [] := by
  unfold begOf
  rw [List.filter_eq_nil_iff.mpr fun e he => by simp [h e he], List.map_nil]
theorem zip_low (z : Str) : ∀ (ns es : List Int), ns.length ≤ es.length → (∀ n ∈ ns, 1 ≤ n) → begOf ((ns.zip es).map fun q => (z, q.1, q.2)) z = ns
  | [], _, _, _ => rfl
  | n :: r, [], h, _ => by simp at h
  | n :: r, e :: s, h, hp => by
    have ih := zip_low z r s (by simpa using h) fun x hx => hp x (List.mem_cons_of_mem _ hx)
    have hn := hp n List.mem_cons_self
    unfold begOf at ih ⊢
    rw [List.zip_cons_cons, List.map_cons, List.filter_cons_of_pos (by simp; omega), List.map_cons, ih]
theorem begOf_spans : ∀ {L : List (Str × List Int)}, (L.map (·.1)).Nodup → (∀ z ns, (z, ns) ∈ L → ∃ ms, ns = 0 :: ms ∧ MsOk ms) → ∀ {z : Str} {ms : List Int}, (z, 0 :: ms) ∈ L → begOf (spansOf L) z = ms
  | [], _, _, _, _, h => nomatch h
  | (y, ns) :: r, nd, ok, z, ms, h => by
    rw [List.map_cons, List.nodup_cons] at nd
    obtain ⟨ms', rfl, m1, m2, m3⟩ := ok y ns List.mem_cons_self
    have hb : ∀ n ∈ ms', 1 ≤ n := fun n hn => by
      have : 1 ≤ n ∧ n ≤ 1000000000000000000000000000000 := of_decide_eq_true (m2 n hn)
      exact this.1
    have e : spansOf ((y, 0 :: ms') :: r) = (((0 :: ms').zip (endsOf (0 :: ms'))).map fun q => (y, q.1, q.2)) ++ spansOf r := rfl
    rw [e, begOf_app]
    have names : ∀ e ∈ spansOf r, e.1 ∈ r.map (·.1) := fun e he => by
      obtain ⟨p, hp, he⟩ := List.mem_flatMap.mp he
      obtain ⟨q, _, rfl⟩ := List.mem_map.mp he
      exact List.mem_map_of_mem (f := (·.1)) hp
    by_cases c : y = z
    · subst c
      have e2 : begOf (spansOf r) y = [] := begOf_other fun e he h => nd.1 (h ▸ names e he)
      have e3 : ms' = ms := by
        rcases List.mem_cons.mp h with h | h
        · cases h
          rfl
        · exact absurd (List.mem_map_of_mem (f := (·.1)) h) nd.1
      subst e3
      have hel : (endsOf (0 :: ms')).length = ms'.length + 1 := by
        unfold endsOf
        rw [List.length_append, List.length_map]
        rfl
      rw [e2, List.append_nil]
      obtain ⟨e0, er, he⟩ : ∃ e0 er, endsOf (0 :: ms') = e0 :: er := by
        cases q : endsOf (0 :: ms') with
        | nil => rw [q] at hel; simp at hel
        | cons a b => exact ⟨a, b, rfl⟩
      rw [he] at hel ⊢
      rw [List.zip_cons_cons, List.map_cons]
      have e4 := begOf_app [(y, (0 : Int), e0)] ((ms'.zip er).map fun q => (y, q.1, q.2)) y
      refine Eq.trans e4 ?_
      rw [zip_low y ms' er (by simpa using (Nat.le_of_eq hel.symm)) hb, show begOf [(y, (0 : Int), e0)] y = [] by simp [begOf], List.nil_append]
    · rw [begOf_other (a := ((0 :: ms').zip (endsOf (0 :: ms'))).map fun q => (y, q.1, q.2)) (z := z) fun e he => by
        obtain ⟨q, _, rfl⟩ := List.mem_map.mp he
        exact c, List.nil_append]
      rcases List.mem_cons.mp h with h | h
      · cases h
        exact absurd rfl c
      · exact begOf_spans nd.2 (fun z ns hm => ok z ns (List.mem_cons_of_mem _ hm)) h
end K49

/-! repr of data with dicts: each thing's text built by itself, so that no more is asked of an address than that a dict is not the modules' own. -/
namespace So
open PySem PySem.Spec PyProof.Rows L2
mutual
/-- a value is this data; dicts with texts as keys may stand in it -/
inductive Dd (K : PySem.W.Frag) (H : Hp) : V → PyData → Prop
  | non : Dd K H .non .none
  | bl (b : Bool) : Dd K H (.bl b) (.bool b)
  | int (i : Int) : Dd K H (.int i) (.int i)
  | str (x : Str) : Dd K H (.str x) (.str x)
  | lst {a : Addr} {xs : List V} {ds : List PyData} (e : SqL K H a xs) (h : DdAll K H xs ds) : Dd K H (.ref a) (.list ds)
  | tup {a : Addr} {xs : List V} {ds : List PyData} (e : SqT K H a xs) (h : DdAll K H xs ds) : Dd K H (.ref a) (.tuple ds)
  | dct {a : Addr} {kvs : List (Key × V)} {ds : List (PyData × PyData)} (e : H a = some (.dK kvs)) (h : DdKv K H kvs ds) : Dd K H (.ref a) (.dict ds)
inductive DdAll (K : PySem.W.Frag) (H : Hp) : List V → List PyData → Prop
  | nil : DdAll K H [] []
  | cons {v : V} {vs : List V} {d : PyData} {ds : List PyData} (h : Dd K H v d) (t : DdAll K H vs ds) : DdAll K H (v :: vs) (d :: ds)
inductive DdKv (K : PySem.W.Frag) (H : Hp) : List (Key × V) → List (PyData × PyData) → Prop
  | nil : DdKv K H [] []
  | cons {k : Str} {v : V} {r : List (Key × V)} {d : PyData} {ds : List (PyData × PyData)} (h : Dd K H v d) (t : DdKv K H r ds) : DdKv K H ((Sum.inr k, v) :: r) ((.str k, d) :: ds)
end
section
variable {X : Cx} {pins : List (Addr × Obj)} {σ : L2.St} {H : Hp} {s : Shared}
/-- a thing in memory that shows so -/
def ShK (X : Cx) (h : Heap) (u : Value) (d : PyData) : Prop := ∃ as bs, Reads h u d as ∧ ReadAtMost h d.depth bs ∧ ReprK X.prog X.w bs h d.depth u d.shown
def ShAll (X : Cx) (h : Heap) (us : List Value) (ds : List PyData) : Prop := ∃ as bs, ReadsAll h us ds as ∧ ReadAtMost h (PyData.depthAll ds) bs ∧ ReprAllK X.prog X.w bs h (PyData.depthAll ds) us (PyData.shownAll ds)
theorem shAll_cons {h : Heap} {u : Value} {us : List Value} {d : PyData} {ds : List PyData} (a : ShK X h u d) (b : ShAll X h us ds) : ShAll X h (u :: us) (d :: ds) := by
  obtain ⟨as1, b1, r1, hb1, k1⟩ := a
  obtain ⟨as2, b2, r2, hb2, k2⟩ := b
  refine ⟨_, b1 ++ b2, .cons r1 r2, ?_, ?_⟩
  · intro b hm
    simp only [PyData.depthAll]
    rcases List.mem_append.mp hm with hm | hm
    · obtain ⟨d', as', r', hd'⟩ := hb1 b hm
      exact ⟨d', as', r', Nat.le_trans hd' (Nat.le_max_left _ _)⟩
    · obtain ⟨d', as', r', hd'⟩ := hb2 b hm
      exact ⟨d', as', r', Nat.le_trans hd' (Nat.le_max_right _ _)⟩
  · simp only [PyData.depthAll, PyData.shownAll]
    exact .cons ((k1.more fun b hb => List.mem_append_left _ hb).level_le (Nat.le_max_left _ _)) (k2.more_le (fun b hb => List.mem_append_right _ hb) (Nat.le_max_right _ _))
theorem shAll_nil {h : Heap} : ShAll X h [] [] := ⟨_, [], .nil, (fun _ h => nomatch h), by simp only [PyData.shownAll]; exact .nil⟩
mutual
theorem Dd.sh (I : Inv X pins σ H s) : ∀ (d : PyData) (v : V) (u : Value), Dd X.K H v d → RelV v u → d.showable = true → d.shown.length ≤ sizeLine → ShK X s.heap u d
  | .none, _, _, h, r, _, _ => by
    cases h
    cases r
    exact ⟨_, [], .none, (fun _ h => nomatch h), by simp only [PyData.shown]; exact .of_is ReprIs.none _ _ _⟩
  | .bool b, _, _, h, r, _, _ => by
    cases h
    cases r
    exact ⟨_, [], .bool b, (fun _ h => nomatch h), by simp only [PyData.shown]; exact .of_is (ReprIs.bool b) _ _ _⟩
  | .int i, _, _, h, r, hs, _ => by
    cases h
    obtain ⟨t, rfl⟩ := r
    exact ⟨_, [], .int i t, (fun _ h => nomatch h), by simp only [PyData.shown]; exact .of_is (ReprIs.int t (by simpa [PyData.showable] using hs)) _ _ _⟩
  | .str x, _, _, h, r, _, hz => by
    cases h
    obtain ⟨t, rfl⟩ := r
    exact ⟨_, [], .str x t, (fun _ h => nomatch h), by simp only [PyData.shown]; exact .of_is (ReprIs.str x t (by simpa only [PyData.shown] using hz)) _ _ _⟩
  | .list ds, _, _, h, r, hs, hz => by
    cases h with
    | @lst a xs _ e hall =>
      cases r
      have hz' : (listText (PyData.shownAll ds)).length ≤ sizeLine := by simpa only [PyData.shown] using hz
      obtain ⟨its, rv, ⟨o, n, h1, h2, _, h3⟩, _⟩ := I.list e
      obtain ⟨as, bs, rd, hb, hk⟩ := DdAll.sh I ds xs its hall rv (by simpa [PyData.showable] using hs) (fun t ht => Nat.le_trans (listText_mem_le ht) hz')
      have rr : Reads s.heap (.ref a) (.list ds) _ := .list h1 h2 h3 rd
      have hna : a ∉ bs := not_mem_of_deeper rr (by simp only [PyData.depth]; omega) hb
      refine ⟨_, a :: bs, rr, ReadAtMost.cons rr (by simp only [PyData.depth]; omega) hb, ?_⟩
      simp only [PyData.depth, PyData.shown]
      cases its with
      | nil =>
        cases rd
        simp only [PyData.shownAll, listText_nil]
        exact ReprK.listEmpty h1 h2 h3
      | cons x l => exact ReprK.list h1 h2 h3 hna (by simpa using hk.length_eq) (fun i y e => hk.item i y (by simpa using e))
  | .tuple ds, _, _, h, r, hs, hz => by
    cases h with
    | @tup a xs _ e hall =>
      cases r
      have hz' : (tupleText (PyData.shownAll ds)).length ≤ sizeLine := by simpa only [PyData.shown] using hz
      obtain ⟨its, rv, ⟨o, h1, h2, n, h3⟩, _⟩ := I.tuple e
      obtain ⟨as, bs, rd, hb, hk⟩ := DdAll.sh I ds xs its hall rv (by simpa [PyData.showable] using hs) (fun t ht => Nat.le_trans (tupleText_mem_le ht) hz')
      have rr : Reads s.heap (.ref a) (.tuple ds) _ := .tuple h1 h2 h3 rd
      have hna : a ∉ bs := not_mem_of_deeper rr (by simp only [PyData.depth]; omega) hb
      refine ⟨_, a :: bs, rr, ReadAtMost.cons rr (by simp only [PyData.depth]; omega) hb, ?_⟩
      simp only [PyData.depth, PyData.shown]
      exact ReprK.tuple h1 h2 h3 hna hk
  | .dict ds, _, _, h, r, hs, hz => by
    cases h with
    | @dct a kvs _ e hall =>
      cases r
      have hz' : (dictText (PyData.shownKv ds)).length ≤ sizeLine := by simpa only [PyData.shown] using hz
      obtain ⟨_, hsys, vs, hk, hD⟩ : kvs.length ≤ sizeLine ∧ (a == sysModules) = false ∧ ∃ vs, KV kvs vs ∧ s.heap.DictOf (mixKind X.prog X.w) a vs := I.hok a _ e
      obtain ⟨o, es, ep, h1, h2, h3, _, e5, _⟩ := hD
      obtain ⟨hs1, hs2⟩ := PyData.showableKv_split ds (by simpa [PyData.showable] using hs)
      obtain ⟨⟨as1, b1, r1, hb1, k1⟩, as2, b2, r2, hb2, k2⟩ := DdKv.sh I ds kvs vs es.toList hall hk e5 hs1 hs2
        (fun t ht => let ⟨p, hp, hl⟩ := PyData.shownKv_key_le ds t ht; Nat.le_trans hl (Nat.le_trans (dictText_mem_le hp) hz')) (fun t ht => let ⟨p, hp, hl⟩ := PyData.shownKv_val_le ds t ht; Nat.le_trans hl (Nat.le_trans (dictText_mem_le hp) hz'))
      have rr : Reads s.heap (.ref a) (.dict ds) _ := .dict h1 h2.1 h3 r1 r2
      have hb : ReadAtMost s.heap (PyData.depthKv ds) (b1 ++ b2) := (hb1.mono (PyData.depthAll_keys_le ds)).append (hb2.mono (PyData.depthAll_vals_le ds))
      have hna : a ∉ b1 ++ b2 := not_mem_of_deeper rr (by simp only [PyData.depth]; omega) hb
      refine ⟨_, a :: (b1 ++ b2), rr, ReadAtMost.cons rr (by simp only [PyData.depth]; omega) hb, ?_⟩
      simp only [PyData.depth, PyData.shown, PyData.shownKv_eq]
      exact ReprK.dict h1 h2.1 h3 hsys hna (ReprEntriesK.of_two es.toList _ _
        (k1.more_le (fun b hb => List.mem_append_left _ hb) (PyData.depthAll_keys_le ds)) (k2.more_le (fun b hb => List.mem_append_right _ hb) (PyData.depthAll_vals_le ds)))
theorem DdAll.sh (I : Inv X pins σ H s) : ∀ (ds : List PyData) (vs : List V) (us : List Value), DdAll X.K H vs ds → Vals vs us → PyData.showableAll ds = true → (∀ t ∈ PyData.shownAll ds, t.length ≤ sizeLine) → ShAll X s.heap us ds
  | [], _, _, h, r, _, _ => by
    cases h
    cases r
    exact shAll_nil
  | d :: ds, _, _, h, r, hs, hz => by
    cases h with
    | cons h1 h2 =>
      cases r with
      | cons r1 r2 =>
        have hs' : d.showable = true ∧ PyData.showableAll ds = true := by simpa [PyData.showableAll] using hs
        exact shAll_cons (Dd.sh I d _ _ h1 r1 hs'.1 (hz _ (by simp only [PyData.shownAll]; exact List.mem_cons_self ..))) (DdAll.sh I ds _ _ h2 r2 hs'.2 fun t ht => hz t (by simp only [PyData.shownAll]; exact List.mem_cons_of_mem _ ht))
theorem DdKv.sh (I : Inv X pins σ H s) : ∀ (ds : List (PyData × PyData)) (kvs : List (Key × V)) (vs : List (Key × Value)) (es : List DictEntry), DdKv X.K H kvs ds → KV kvs vs → Pairs (mixKind X.prog X.w) es vs → PyData.showableAll (ds.map (·.1)) = true → PyData.showableAll (ds.map (·.2)) = true →
    (∀ t ∈ PyData.shownAll (ds.map (·.1)), t.length ≤ sizeLine) → (∀ t ∈ PyData.shownAll (ds.map (·.2)), t.length ≤ sizeLine) → ShAll X s.heap (es.map (·.key)) (ds.map (·.1)) ∧ ShAll X s.heap (es.map (·.val)) (ds.map (·.2))
  | [], _, _, _, h, hk, hp, _, _, _, _ => by
    cases h
    cases hk
    cases hp
    exact ⟨shAll_nil, shAll_nil⟩
  | (dk, dv) :: ds, _, _, _, h, hk, hp, hs1, hs2, z1, z2 => by
    cases h with
    | @cons k v r _ _ h1 h2 =>
      cases hk with
      | @cons _ kv _ _ hk1 hk2 =>
        obtain ⟨kk, kval⟩ := kv
        obtain ⟨q1, q2⟩ := hk1
        simp only at q1 q2
        subst q1
        cases hp with
        | @cons en _ es' _ p1 p2 p3 =>
          have hs1' : (PyData.str k).showable = true ∧ PyData.showableAll (ds.map (·.1)) = true := by simpa [PyData.showableAll] using hs1
          have hs2' : dv.showable = true ∧ PyData.showableAll (ds.map (·.2)) = true := by simpa [PyData.showableAll] using hs2
          have hz1 : (PyData.str k).shown.length ≤ sizeLine := z1 _ (by simp only [List.map_cons, PyData.shownAll]; exact List.mem_cons_self ..)
          have hz2 : dv.shown.length ≤ sizeLine := z2 _ (by simp only [List.map_cons, PyData.shownAll]; exact List.mem_cons_self ..)
          obtain ⟨c1, c2⟩ := DdKv.sh I ds _ _ _ h2 hk2 p3 hs1'.2 hs2'.2 (fun t ht => z1 t (by simp only [List.map_cons, PyData.shownAll]; exact List.mem_cons_of_mem _ ht)) (fun t ht => z2 t (by simp only [List.map_cons, PyData.shownAll]; exact List.mem_cons_of_mem _ ht))
          simp only at p2
          refine ⟨?_, ?_⟩
          · rcases keyIs_shape (show keyIs (Sum.inr k) en.key = true from p1) with ⟨j, t3, z, _⟩ | ⟨y, t3, z, ez⟩
            · cases z
            · cases z
              simp only [List.map_cons]
              refine shAll_cons ?_ c1
              rw [ez]
              exact ⟨_, [], .str k t3, (fun _ h => nomatch h), by simp only [PyData.shown]; exact .of_is (ReprIs.str k t3 (by simpa only [PyData.shown] using hz1)) _ _ _⟩
          · simp only [List.map_cons]
            rw [p2]
            exact shAll_cons (Dd.sh I dv v _ h1 q2 hs2'.1 hz2) c2
end
/-- such a thing is shown by its own type -/
theorem Dd.shows (I : Inv X pins σ H s) {a : Addr} {d : PyData} (h : Dd X.K H (.ref a) d) (hs : d.showable = true) (hz : d.shown.length ≤ sizeLine) : ∃ T idr, ShowsBy X.prog X.w s.heap a d T idr := by
  cases h with
  | @lst _ xs ds e hall =>
    have hz' : (listText (PyData.shownAll ds)).length ≤ sizeLine := by simpa only [PyData.shown] using hz
    obtain ⟨its, rv, ⟨o, n, h1, h2, _, h3⟩, _⟩ := I.list e
    obtain ⟨as, bs, rd, hb, hk⟩ := DdAll.sh I ds xs its hall rv (by simpa [PyData.showable] using hs) (fun t ht => Nat.le_trans (listText_mem_le ht) hz')
    have rr : Reads s.heap (.ref a) (.list ds) _ := .list h1 h2 h3 rd
    have hna : a ∉ bs := not_mem_of_deeper rr (by simp only [PyData.depth]; omega) hb
    refine ⟨"list", "list.__repr__", F.slot_list_repr.toG, F.slot_list_str, F.slot_list_format, fun s' hk0 => ⟨o, hk0 _ _ h1, h2⟩, fun A E s' Q hg hu hk0 hQ => ?_⟩
    simp only [PyData.depth] at hu
    simp only [PyData.shown] at hQ
    cases its with
    | nil =>
      cases rd
      simp only [PyData.shownAll, listText_nil] at hQ
      exact call_list_repr_empty ⟨o, hk0 _ _ h1, h2⟩ (hk0 _ _ h1) h3 (hQ s'.heap _ _ fun _ _ e => e)
    | cons x l => exact call_list_reprK h1 h2 h3 hna (by simpa using hk.length_eq) (fun i y e => hk.item i y (by simpa using e)) hg (fun b _ => Clear.nil b) hu hk0 hQ hz'
  | @tup _ xs ds e hall =>
    have hz' : (tupleText (PyData.shownAll ds)).length ≤ sizeLine := by simpa only [PyData.shown] using hz
    obtain ⟨its, rv, ⟨o, h1, h2, n, h3⟩, _⟩ := I.tuple e
    obtain ⟨as, bs, rd, hb, hk⟩ := DdAll.sh I ds xs its hall rv (by simpa [PyData.showable] using hs) (fun t ht => Nat.le_trans (tupleText_mem_le ht) hz')
    have rr : Reads s.heap (.ref a) (.tuple ds) _ := .tuple h1 h2 h3 rd
    have hna : a ∉ bs := not_mem_of_deeper rr (by simp only [PyData.depth]; omega) hb
    refine ⟨"tuple", "tuple.__repr__", F.slot_tuple_repr, F.slot_tuple_str, F.slot_tuple_format, fun s' hk0 => ⟨o, hk0 _ _ h1, h2⟩, fun A E s' Q hg hu hk0 hQ => ?_⟩
    simp only [PyData.depth] at hu
    simp only [PyData.shown] at hQ
    exact call_tuple_reprK h1 h2 h3 hna hk hg (fun b _ => Clear.nil b) hu hk0 hQ hz'
  | @dct _ kvs ds e hall =>
    have hz' : (dictText (PyData.shownKv ds)).length ≤ sizeLine := by simpa only [PyData.shown] using hz
    obtain ⟨_, hsys, vs, hk, hD⟩ : kvs.length ≤ sizeLine ∧ (a == sysModules) = false ∧ ∃ vs, KV kvs vs ∧ s.heap.DictOf (mixKind X.prog X.w) a vs := I.hok a _ e
    obtain ⟨o, es, ep, h1, h2, h3, _, e5, _⟩ := hD
    obtain ⟨hs1, hs2⟩ := PyData.showableKv_split ds (by simpa [PyData.showable] using hs)
    obtain ⟨⟨as1, b1, r1, hb1, k1⟩, as2, b2, r2, hb2, k2⟩ := DdKv.sh I ds kvs vs es.toList hall hk e5 hs1 hs2
      (fun t ht => let ⟨p, hp, hl⟩ := PyData.shownKv_key_le ds t ht; Nat.le_trans hl (Nat.le_trans (dictText_mem_le hp) hz')) (fun t ht => let ⟨p, hp, hl⟩ := PyData.shownKv_val_le ds t ht; Nat.le_trans hl (Nat.le_trans (dictText_mem_le hp) hz'))
    have rr : Reads s.heap (.ref a) (.dict ds) _ := .dict h1 h2.1 h3 r1 r2
    have hb : ReadAtMost s.heap (PyData.depthKv ds) (b1 ++ b2) := (hb1.mono (PyData.depthAll_keys_le ds)).append (hb2.mono (PyData.depthAll_vals_le ds))
    have hna : a ∉ b1 ++ b2 := not_mem_of_deeper rr (by simp only [PyData.depth]; omega) hb
    refine ⟨"dict", "dict.__repr__", F.slot_dict_repr, F.slot_dict_str, F.slot_dict_format, fun s' hk0 => ⟨o, hk0 _ _ h1, h2.1⟩, fun A E s' Q hg hu hk0 hQ => ?_⟩
    simp only [PyData.depth] at hu
    simp only [PyData.shown, PyData.shownKv_eq] at hQ
    exact call_dict_reprK h1 h2.1 h3 hsys hna (ReprEntriesK.of_two es.toList _ _
      (k1.more_le (fun b hb => List.mem_append_left _ hb) (PyData.depthAll_keys_le ds)) (k2.more_le (fun b hb => List.mem_append_right _ hb) (PyData.depthAll_vals_le ds))) hg (fun b _ => Clear.nil b) hu hk0 hQ (by rw [← PyData.shownKv_eq]; exact hz')
/-- repr of data, dicts in it -/
def rReprG (K : PySem.W.Frag) : List V → Hp → VK → Prop := fun xs H Q => ∃ v d, xs = [v] ∧ Dd K H v d ∧ d.showable = true ∧ d.depth ≤ 60 ∧ d.shown.length ≤ sizeLine ∧ Q (.str d.shown) H
theorem call_reprG (hg : X.A.guards = some []) (hu : X.A.units + 64 < cLine) : CallR X (.builtin "repr") (rReprG X.K) := by
  intro pins s σ H xs us Q I r h
  obtain ⟨v, d, rfl, hd, hs, hdep, hz, q⟩ := h
  obtain ⟨u, rfl, rv⟩ := vals1 r
  cases v with
  | ref a =>
    cases rv
    obtain ⟨T, idr, S⟩ := hd.shows I hs hz
    refine call_repr_slot (by omega) (S.typeIs s fun _ _ e => e) S.slotRepr (S.call X.A.in1 X.xe s _ hg (by show X.A.units + 1 + d.depth < cLine; omega) (fun _ _ e => e) fun h' u tk hk => ⟨_, _, rfl, ?_⟩)
    exact ⟨.str d.shown, H, I.kept hk, ⟨_, rfl⟩, q⟩
  | non =>
    cases hd
    cases rv
    exact PySem.P.repr_of_none ⟨.str _, H, I.tok _, ⟨_, rfl⟩, q⟩
  | bl b =>
    cases hd
    cases rv
    refine PySem.P.repr_of_bool ⟨.str (PyData.shown (.bool b)), H, I.tok _, ⟨s.toks, ?_⟩, q⟩
    cases b <;> rfl
  | int i =>
    cases hd
    obtain ⟨t, rfl⟩ := rv
    exact PySem.P.repr_of_int (by simpa [PyData.showable] using hs) ⟨.str _, H, I.tok _, ⟨_, rfl⟩, q⟩
  | str x =>
    cases hd
    obtain ⟨t, rfl⟩ := rv
    exact PySem.P.repr_of_str ⟨.str _, H, I.tok _, ⟨_, rfl⟩, q⟩ hz
  | byt b => cases hd
  | flt b => cases hd
  | ty n => cases hd
end
/-! data stays -/
mutual
theorem Dd.same {K : PySem.W.Frag} {H H' : Hp} (s : Ext H H') : ∀ {d : PyData} {v : V}, Dd K H v d → Dd K H' v d
  | _, _, .non => .non
  | _, _, .bl b => .bl b
  | _, _, .int i => .int i
  | _, _, .str x => .str x
  | _, _, .lst e h => .lst (SqL.ext e s) (DdAll.same s h)
  | _, _, .tup e h => .tup (SqT.ext e s) (DdAll.same s h)
  | _, _, .dct e h => .dct (s _ _ e) (DdKv.same s h)
theorem DdAll.same {K : PySem.W.Frag} {H H' : Hp} (s : Ext H H') : ∀ {ds : List PyData} {vs : List V}, DdAll K H vs ds → DdAll K H' vs ds
  | _, _, .nil => .nil
  | _, _, .cons h t => .cons (Dd.same s h) (DdAll.same s t)
theorem DdKv.same {K : PySem.W.Frag} {H H' : Hp} (s : Ext H H') : ∀ {ds : List (PyData × PyData)} {vs : List (Key × V)}, DdKv K H vs ds → DdKv K H' vs ds
  | _, _, .nil => .nil
  | _, _, .cons h t => .cons (Dd.same s h) (DdKv.same s t)
end
end So

/-! how long what repr tells of data is, how deep it goes -/
namespace So
open PySem PySem.Spec PyProof.Rows L2
theorem shownAll_map' : ∀ ds : List PyData, PyData.shownAll ds = ds.map PyData.shown
  | [] => rfl
  | d :: r => by
    unfold PyData.shownAll
    rw [shownAll_map' r]
    rfl
theorem sum_le' {k : Nat} : ∀ ds : List PyData, (∀ d ∈ ds, d.shown.length ≤ k) → (((PyData.shownAll ds).map (·.length)).sum) ≤ k * ds.length
  | [], _ => by simp [PyData.shownAll]
  | d :: r, h => by
    have ih := sum_le' r fun x hx => h x (List.mem_cons_of_mem _ hx)
    have h1 := h d List.mem_cons_self
    unfold PyData.shownAll
    rw [List.map_cons, List.sum_cons, List.length_cons, Nat.mul_succ]
    omega
theorem len_all' (ds : List PyData) : (PyData.shownAll ds).length = ds.length := by rw [shownAll_map', List.length_map]
/-- data that shows in n letters, m deep -/
structure OkD (n m : Nat) (d : PyData) : Prop where
  show' : d.showable = true
  deep : d.depth ≤ m
  len : d.shown.length ≤ n
theorem OkD.mono {n m n' m' : Nat} {d : PyData} (h : OkD n m d) (h1 : n ≤ n') (h2 : m ≤ m') : OkD n' m' d := ⟨h.show', Nat.le_trans h.deep h2, Nat.le_trans h.len h1⟩
theorem okAll {n m : Nat} : ∀ {ds : List PyData}, (∀ d ∈ ds, OkD n m d) → PyData.showableAll ds = true ∧ PyData.depthAll ds ≤ m + 1
  | [], _ => ⟨rfl, by simp [PyData.depthAll]⟩
  | d :: r, h => by
    have ih := okAll (ds := r) fun x hx => h x (List.mem_cons_of_mem _ hx)
    have h1 := h d List.mem_cons_self
    refine ⟨?_, ?_⟩
    · simp only [PyData.showableAll, h1.show', ih.1, Bool.and_self]
    · simp only [PyData.depthAll]
      have := h1.deep
      have := ih.2
      omega
theorem OkD.list {n m : Nat} {ds : List PyData} (h : ∀ d ∈ ds, OkD n m d) : OkD (n * ds.length + 2 * ds.length + 3) (m + 2) (.list ds) := by
  have a := okAll h
  refine ⟨by simp only [PyData.showable]; exact a.1, by simp only [PyData.depth]; omega, ?_⟩
  have h1 := listText_len_le (PyData.shownAll ds)
  have h2 := sum_le' (k := n) ds fun d hd => (h d hd).len
  rw [len_all'] at h1
  show (listText (PyData.shownAll ds)).length ≤ _
  omega
theorem OkD.tuple {n m : Nat} {ds : List PyData} (h : ∀ d ∈ ds, OkD n m d) : OkD (n * ds.length + 2 * ds.length + 3) (m + 2) (.tuple ds) := by
  have a := okAll h
  refine ⟨by simp only [PyData.showable]; exact a.1, by simp only [PyData.depth]; omega, ?_⟩
  have h1 := tupleText_len_le (PyData.shownAll ds)
  have h2 := sum_le' (k := n) ds fun d hd => (h d hd).len
  rw [len_all'] at h1
  show (tupleText (PyData.shownAll ds)).length ≤ _
  omega
theorem OkD.int {i : Int} (h : i.natAbs < 2 ^ 250) : OkD 2000 0 (.int i) := by
  have hl : i.natAbs.log2 < 1920 := Nat.lt_of_lt_of_le (PySem.Flt.log2_lt_of (by decide) h) (by decide)
  refine ⟨by simp [PyData.showable, hl], Nat.zero_le _, ?_⟩
  show (Str.ofString (toString i)).length ≤ 2000
  rw [PyProof.Rows.ofString_length]
  exact Nat.le_trans (int_text_length_le (k := 1920) (by decide) hl) (by decide)
theorem OkD.bool (b : Bool) : OkD 2000 0 (.bool b) := ⟨rfl, Nat.zero_le _, by cases b <;> decide⟩
theorem OkD.none : OkD 2000 0 .none := ⟨rfl, Nat.zero_le _, by decide⟩
theorem OkD.str {z : Str} (h : ∀ c ∈ z.cps.toList, c < 128) (hl : z.length ≤ 100) : OkD 2000 0 (.str z) := by
  refine ⟨rfl, Nat.zero_le _, ?_⟩
  have h1 := PySem.StrLaws.reprText_len z (fun c hc => Nat.lt_trans (h c hc) (by decide))
  show (reprText z).length ≤ 2000
  omega
/-- the same texts of the same data -/
theorem OkD.repr {n m : Nat} {d : PyData} (h : OkD n m d) (h1 : m ≤ 60) (h2 : n ≤ 16777216) : d.showable = true ∧ d.depth ≤ 60 ∧ d.shown.length ≤ sizeLine := ⟨h.show', Nat.le_trans h.deep h1, by rw [sizeLine_eq]; exact Nat.le_trans h.len h2⟩
end So

namespace K49
open PySem PySem.Spec PyProof.Rows L2 So TL
def asc (z : Str) : Prop := ∀ c ∈ z.cps.toList, c < 128
theorem asc_ok {z : Str} (h : asc z) : PyData.strOk z = true := by
  unfold PyData.strOk
  rw [← Array.all_toList]
  exact List.all_eq_true.mpr fun c hc => decide_eq_true (Nat.lt_trans (h c hc) (by decide))
theorem app_asc {a b : Str} (ha : asc a) (hb : asc b) : asc (a ++ b) := fun c hc => by
  have hc : c ∈ (a.cps ++ b.cps).toList := hc
  rw [Array.toList_append] at hc
  rcases List.mem_append.mp hc with h | h
  · exact ha c h
  · exact hb c h
theorem num_asc {i : Int} (h : 0 ≤ i) : asc (Str.ofString (toString i)) := by
  intro c hc
  obtain ⟨k, rfl⟩ : ∃ k : Nat, i = k := ⟨i.toNat, by omega⟩
  have e : (Str.ofString (toString ((k : Nat) : Int))).cps.toList = numL k := tl_num k
  rw [e] at hc
  have := numL_digits k _ hc
  omega
theorem dp_strs {K : PySem.W.Frag} {H : Hp} : ∀ zs : List Str, DpAll K H (zs.map V.str) (zs.map PyData.str)
  | [] => .nil
  | z :: r => .cons (.str z) (dp_strs r)
theorem shaped_strs {zs : List Str} (h : ∀ z ∈ zs, PyData.strOk z = true) : SeqAt.shaped (.list (zs.map PyData.str)) = true := by
  unfold SeqAt.shaped
  rw [Bool.and_eq_true]
  refine ⟨?_, decide_eq_true ?_⟩
  · show PyData.canLay0 _ = true
    simp only [PyData.canLay0]
    induction zs with
    | nil => rfl
    | cons a r ih =>
      have h1 := h a List.mem_cons_self
      simpa [PyData.canLayAll0, PyData.canLay0, h1] using ih fun z hz => h z (List.mem_cons_of_mem _ hz)
  · have : PyData.depthAll (zs.map PyData.str) ≤ 1 := by
      clear h
      induction zs with
      | nil => simp [PyData.depthAll]
      | cons a r ih =>
        simp only [List.map_cons, PyData.depthAll, PyData.depth]
        omega
    simp only [PyData.depth]
    omega
theorem say_asc {z : Str} {q : Int × Bool} (hz : isName z = true) (hq : 0 ≤ q.1) : asc (sayW z q) := by
  have hs : asc (" " : Str) := by unfold asc; decide +kernel
  have hw : asc (if q.2 then (" sound" : Str) else (" unsound" : Str)) := by
    cases q.2 <;> (unfold asc; decide +kernel)
  exact app_asc (app_asc (app_asc (name_small hz) hs) (num_asc hq)) hw
theorem eqv_strs : ∀ zs : List Str, PyData.eqvAll (zs.map PyData.str) (zs.map PyData.str) = true
  | [] => by simp [PyData.eqvAll]
  | z :: r => by simp [PyData.eqvAll, PyData.eqv, eqv_strs r]
theorem eqv_strL (zs : List Str) : PyData.eqv (.list (zs.map PyData.str)) (.list (zs.map PyData.str)) = true := by
  rw [PyData.eqv]
  exact eqv_strs zs
theorem last_one {ns : List Int} {b r r' : Int} (h : LastAt ns b r) (h' : LastAt ns b r') : r = r' := by
  rcases h with ⟨h1, rfl⟩ | ⟨m, hm, hb, hl, rfl⟩ <;> rcases h' with ⟨g1, rfl⟩ | ⟨m', gm, gb, gl, rfl⟩
  · rfl
  · have := h1 m' gm
    omega
  · have := g1 m hm
    omega
  · have a1 := hl m' gm gb
    have a2 := gl m hm hb
    omega
theorem due_last {ns : List Int} {b r r' : Int} {v : V} (hv : TurnIn b r v) (h : LastAt ns b r) (h' : v = .non → LastAt ns b r') : dueS b r' v = dueS b r v := by
  rcases hv with rfl | ⟨k, rfl, _, _⟩
  · rw [last_one (h' rfl) h]
  · rfl
theorem due_in {b r : Int} {v : V} (hbr : b ≤ r) (hv : TurnIn b r v) : ∀ q ∈ dueS b r v, b ≤ q.1 ∧ q.1 ≤ r := fun q hq => by
  rcases hv with rfl | ⟨k, rfl, h1, h2⟩
  · rw [List.mem_singleton.mp hq]
    exact ⟨hbr, Int.le_refl _⟩
  · have hq : q ∈ (if k = b then [(k, false)] else [(k - 1, true), (k, false)]) := hq
    split at hq
    · rw [List.mem_singleton.mp hq]
      exact ⟨h1, h2⟩
    · rcases List.mem_cons.mp hq with e | e
      · rw [e]
        exact ⟨by show b ≤ k - 1; omega, by show k - 1 ≤ r; omega⟩
      · rw [List.mem_singleton.mp e]
        exact ⟨h1, h2⟩
theorem due_len (b r : Int) (v : V) : (dueS b r v).length ≤ 2 ∧ 1 ≤ (dueS b r v).length := by
  unfold dueS
  split
  · split <;> simp
  · simp
theorem putE_mem {es : List ((Str × Int) × V)} {e : Str × Int} {v : V} (h : e ∈ es.map (·.1)) : (e, v) ∈ putE es e v := by
  obtain ⟨q, hq, rfl⟩ := List.mem_map.mp h
  exact List.mem_map.mpr ⟨q, hq, by rw [if_pos rfl]⟩
/-- no turn of the life -/
theorem no_turn {L : List (Str × List Int)} {z : Str} {lo hi : Int} {ns : List Int} {v : V} (nd : (L.map (·.1)).Nodup) (hm : (z, ns) ∈ L) (hlo : lo ∈ ns) (hl : LastAt ns lo hi)
    (hv : v ∈ [V.int (lo - 1), .int (hi + 1), .bl true, .str "none"]) : ¬ TurnOk L (z, lo) v := by
  rintro (rfl | ⟨i, ns', rfl, hg, hm', hb, hle, hmax⟩)
  · simp at hv
  · obtain rfl : ns' = ns := Option.some.inj ((lookup_mem nd hm').symm.trans (lookup_mem nd hm))
    have hle : lo ≤ i := hle
    simp only [List.mem_cons, List.not_mem_nil, or_false, V.int.injEq, reduceCtorEq] at hv
    rcases hv with rfl | rfl
    · omega
    · rcases hl with ⟨_, rfl⟩ | ⟨m, h1, h2, _, rfl⟩
      · have : 0 ≤ (1000000000000000000000000000000 : Int) + 1 ∧ (1000000000000000000000000000000 : Int) + 1 ≤ 1000000000000000000000000000000 := of_decide_eq_true hg
        omega
      · have : m ≤ lo := hmax m h1 (by omega)
        omega
/-- no tool of the lives -/
def OdV (z : Str) (H : Hp) (v : V) : Prop := v = .str "zz" ∨ v = .non ∨ v = .int 3 ∨ (∃ t, v = .ref t ∧ H t = some (.lst [.str z])) ∨ v = .str ""
theorem OdV.ext {z : Str} {H H' : Hp} {v : V} (h : OdV z H v) (s : ∀ b xs, H b = some (.lst xs) → H' b = some (.lst xs)) : OdV z H' v := by
  rcases h with h | h | h | ⟨t, h1, h2⟩ | h
  · exact .inl h
  · exact .inr (.inl h)
  · exact .inr (.inr (.inl h))
  · exact .inr (.inr (.inr (.inl ⟨t, h1, s _ _ h2⟩)))
  · exact .inr (.inr (.inr (.inr h)))
theorem OdV.gv {z : Str} {H : Hp} {v : V} (h : OdV z H v) : ∃ T, Gv H v T := by
  rcases h with rfl | rfl | rfl | ⟨t, rfl, h2⟩ | rfl
  · exact ⟨_, .str _ (by decide)⟩
  · exact ⟨_, .non⟩
  · exact ⟨_, .int _⟩
  · exact ⟨_, .lst h2⟩
  · exact ⟨_, .str _ (by decide)⟩
theorem OdV.no {z : Str} {H : Hp} {v : V} {L : List (Str × List Int)} (h : OdV z H v) (h1 : L.lookup ("zz" : Str) = none) (h2 : L.lookup ("" : Str) = none) : fB (fun z => L.lookup z) v = none := by
  rcases h with rfl | rfl | rfl | ⟨t, rfl, _⟩ | rfl
  · exact h1
  · rfl
  · rfl
  · rfl
  · exact h2
theorem OdV.dat {K : PySem.W.Frag} {z : Str} {H : Hp} {v : V} (hz : ∀ c ∈ z.cps.toList, c < 128) (hl : z.length ≤ 100) (h : OdV z H v) : ∃ d, OkD 4100 2 d ∧ ∀ H', Same H H' → Dp K H' v d := by
  rcases h with rfl | rfl | rfl | ⟨t, rfl, h2⟩ | rfl
  · exact ⟨_, (OkD.str (by decide +kernel) (by decide +kernel)).mono (by decide) (by decide), fun _ _ => .str _⟩
  · exact ⟨_, OkD.none.mono (by decide) (by decide), fun _ _ => .non⟩
  · exact ⟨_, (OkD.int (by decide +kernel)).mono (by decide) (by decide), fun _ _ => .int _⟩
  · refine ⟨.list [.str z], (OkD.list (n := 2000) (m := 0) (ds := [.str z]) fun d hd => ?_).mono (by show 2000 * 1 + 2 * 1 + 3 ≤ 4100; decide) (by decide), fun H' s => .lst (SqL.of (s _ _ h2)) (.cons (.str z) .nil)⟩
    rw [List.mem_singleton.mp hd]
    exact OkD.str hz hl
  · exact ⟨_, (OkD.str (by decide +kernel) (by decide +kernel)).mono (by decide) (by decide), fun _ _ => .str _⟩
/-- no moment -/
theorem bad_mom {v : V} (hv : v ∈ [V.int (-1), .int (10 ^ 30 + 1), .bl true, .str "0", .non]) : gMom v = false ∧ (∃ T, ∀ H, Gv H v T) ∧ ∃ d, (∀ (K : PySem.W.Frag) H, Dp K H v d) ∧ OkD 4100 2 d := by
  simp only [List.mem_cons, List.not_mem_nil, or_false] at hv
  rcases hv with rfl | rfl | rfl | rfl | rfl
  · exact ⟨by decide, ⟨_, fun _ => .int _⟩, _, fun _ _ => .int _, (OkD.int (by decide +kernel)).mono (by decide) (by decide)⟩
  · exact ⟨by decide, ⟨_, fun _ => .int _⟩, _, fun _ _ => .int _, (OkD.int (by decide +kernel)).mono (by decide) (by decide)⟩
  · exact ⟨by decide, ⟨_, fun _ => .bl _⟩, _, fun _ _ => .bl _, (OkD.bool _).mono (by decide) (by decide)⟩
  · exact ⟨by decide, ⟨_, fun _ => .str _ (by decide)⟩, _, fun _ _ => .str _, (OkD.str (by decide +kernel) (by decide +kernel)).mono (by decide) (by decide)⟩
  · exact ⟨by decide, ⟨_, fun _ => .non⟩, _, fun _ _ => .non, OkD.none.mono (by decide) (by decide)⟩
theorem off_gv {lo hi : Int} {v : V} (hv : v ∈ [V.int (lo - 1), .int (hi + 1), .bl true, .str "none"]) : ∃ T, ∀ H, Gv H v T := by
  simp only [List.mem_cons, List.not_mem_nil, or_false] at hv
  rcases hv with rfl | rfl | rfl | rfl
  · exact ⟨_, fun _ => .int _⟩
  · exact ⟨_, fun _ => .int _⟩
  · exact ⟨_, fun _ => .bl _⟩
  · exact ⟨_, fun _ => .str _ (by decide)⟩
theorem LsAt.offp {CL : Addr} {H H' : Hp} {st p l : Addr} {L : List (Str × List Int)} {ns : List Int} {n : Nat} {g : Int} (h : LsAt CL H st L) (pen : Pen H p l ns n g) (o : Off p H H') : LsAt CL H' st L := by
  obtain ⟨dx, b, kvb, g1, g2, g3⟩ := h
  refine ⟨dx, b, kvb, o _ _ (ne_of g1 pen.pen (fun y => nomatch y)) g1, o _ _ (ne_of g2 pen.pen (fun y => nomatch y)) g2, L2.Paired.mapP g3 fun kv q e => ?_⟩
  obtain ⟨e0, t, e1, e2⟩ := e
  exact ⟨e0, t, e1, o _ _ (ne_of e2 pen.pen (fun y => nomatch y)) e2⟩
theorem LsAt.extN {CL : Addr} {H H' : Hp} {st : Addr} {L : List (Str × List Int)} (h : LsAt CL H st L) (o : LamX.ExtN H H') : LsAt CL H' st L := by
  obtain ⟨dx, b, kvb, g1, g2, g3⟩ := h
  refine ⟨dx, b, kvb, o _ _ g1 (fun _ y => nomatch y), o _ _ g2 (fun _ y => nomatch y), L2.Paired.mapP g3 fun kv q e => ?_⟩
  obtain ⟨e0, t, e1, e2⟩ := e
  exact ⟨e0, t, e1, o _ _ e2 (fun _ y => nomatch y)⟩
theorem OdV.extN {z : Str} {H H' : Hp} {v : V} (h : OdV z H v) (o : LamX.ExtN H H') : OdV z H' v := h.ext fun b xs e => o _ _ e (fun _ y => nomatch y)
theorem OdV.offp {H H' : Hp} {p l : Addr} {z : Str} {v : V} {ns : List Int} {n : Nat} {g : Int} (h : OdV z H v) (pen : Pen H p l ns n g) (o : Off p H H') : OdV z H' v := by
  rcases h with h | h | h | ⟨t, h1, h2⟩ | h
  · exact .inl h
  · exact .inr (.inl h)
  · exact .inr (.inr (.inl h))
  · exact .inr (.inr (.inr (.inl ⟨t, h1, o _ _ (ne_of h2 pen.pen (fun y => nomatch y)) h2⟩)))
  · exact .inr (.inr (.inr (.inr h)))
theorem extN_of {H H' : Hp} (s : Same H H') : LamX.ExtN H H' := fun b o e _ => s b o e
/-- a data pair of a word and a value -/
theorem okPair {n m : Nat} {d : PyData} {wd : Str} (hw : ∀ c ∈ wd.cps.toList, c < 128) (hl : wd.length ≤ 100) (h : OkD n m d) (hn : 2000 ≤ n) : OkD (n * 2 + 7) (m + 2) (.tuple [.str wd, d]) := by
  refine (OkD.tuple (n := n) (m := m) (ds := [.str wd, d]) fun x hx => ?_).mono (by show n * 2 + 2 * 2 + 3 ≤ _; omega) (Nat.le_refl _)
  rcases List.mem_cons.mp hx with e | e
  · rw [e]
    exact (OkD.str hw hl).mono hn (Nat.zero_le _)
  · rw [List.mem_singleton.mp e]
    exact h
end K49

/-! f(k = v, ..): a def called by keywords alone -/
namespace So
open PySem PySem.Spec PyProof.Rows L2
section
variable {X : Cx} {CX : CXT} {k : Nat} {f : Addr} {fd : FuncData} {ps ks : List Str} {sp : Sp} {E : XK} {x : Str} {p pos : Pos} {kws : List Keyword} {tk : TA} {g : List Value → List Value → List Value} {gV : List V → List V → List V}
def tCallK0 (sp : Sp) (gV : List V → List V → List V) (m : Nat) (E : XK) (tk : TA) : TE := fun σ H Q => tk σ H fun zs H1 => zs.length = m ∧ sp (gV [] zs) H1 Q E
theorem pe_callK0 (F : FnOk X.prog X.w X.K X.mg X.base CX k f fd ps sp) (hr : Room k X.A) (hg : Gl X x) (hm : X.mg x = some (.ref f)) (hk : PySem.W.keepIn X.K (.ref f) = true) (hb : KBn X.K fd ps 0 ks g gV) (hx : Passes CX X E) (hkw : PK X kws tk)
    (hpl : (backToKw pos (keywordEach kws X.env)).any (·.1.isNone) = false := by rfl) (hall : (backToKw pos (keywordEach kws X.env)).all (·.1.isSome) = true := by rfl)
    (hdb : (x == ("__debug__" : Str)) = false := by decide) (hks : (backToKw pos (keywordEach kws X.env)).filterMap (·.1) = ks := by rfl) : PE X (.Call (.Name x p) [] kws pos) (tCallK0 sp gV ks.length E tk) := by
  refine ⟨fun pins s σ H Q I h => ?_⟩
  refine wpAny_Call_Name_kw (ld_glob I hg hm ?_ hdb)
  refine PySem.W.callWith_KW0 (h₀ := X.base) I.ok.mod.kin hk hall (thn (hkw.run pos pins s σ H _ I h) fun ws s2 ⟨zs, H2, I2, rz, hl, q⟩ => ⟨I2.kIn, ?_⟩) hpl
  rw [hks]
  have r2 := hb.rel (.nil : Vals [] []) rz
  have len : (g [] ws).length = ps.length := by rw [← r2.length]; exact F.len _ _ _ _ q
  refine wpAny_call (codeAny_mono (F.run X.A X.stack s2 H2 ⟨[], ks.zip ws⟩ (g [] ws) (gV [] zs) Q E hr I2.env0 (hb.to s2 [] ws I2.kIn rfl (rz.length.symm.trans hl)) r2 q) fun r s' hq => ?_)
  match r, hq with
  | .error e, hq => exact hx pins σ H2 s2 e s' I2 hq
  | .ok (.ret u), hq => exact I2.after hq
  | .ok .next, hq => exact hq.elim
  | .ok .brk, hq => exact hq.elim
  | .ok .cont, hq => exact hq.elim
end
end So

/-! an instance called, inside a block: the reading says nothing of where it stands -/
namespace So
open PySem PySem.Spec PyProof.Rows L2
/-- an instance of the class at C -/
def InsD (H : Hp) (a C : Addr) : Prop := (∃ dx vs, SlX.Slt H a C dx vs) ∨ ∃ dx fs, H a = some (.ins C dx fs)
def tCallD (C : Addr) (sp : Sp) (E : XK) (tf : TE) (t : TA) : TE := fun σ H Q => tf σ H fun y H1 => ∃ a, y = V.ref a ∧ t σ H1 fun vs H2 => InsD H2 a C ∧ sp (V.ref a :: vs) H2 Q E
theorem pe_callD {X : Cx} {CX : CXT} {k : Nat} {C g : Addr} {sp : Sp} {E : XK} {tf : TE} {t : TA} {fe e : Expr} {es : List Expr} {pos : Pos} (hf : PE X fe tf) (c : StX.CallO X.K C g) (F : FnR X.prog X.w X.K X.mg X.base CX k g sp) (hr : Room k X.A) (hx : Passes CX X E) (ha : PA X (e :: es) t)
    (ht : eval (.Call fe (e :: es) [] pos) X.env = (do callWith pos (← eval fe X.env) [] (backTo pos (starEach (e :: es) X.env)) (backToKw pos (keywordEach [] X.env))) := by rfl)
    (he : starEach (e :: es) X.env = (false, eval e X.env) :: starEach es X.env := by rfl) (hpl : (backTo pos (starEach es X.env)).any (·.1) = false := by rfl) : PE X (.Call fe (e :: es) [] pos) (tCallD C sp E tf t) :=
  StX.pe_callO hf c F hr hx ha ht he hpl
end So

/-! a list of anything == [], != [] -/
namespace So
open PySem PySem.Spec PyProof.Rows L2
section
variable {X : Cx}
theorem isL {hp : Heap} {a : Addr} {its : Array Value} (h : PlainL hp a its) : hp.IsList a its := by
  obtain ⟨o, n, e, c, d, dt⟩ := h
  exact ⟨o, e, c, n, dt⟩
def rNil (K : PySem.W.Frag) (neg : Bool) : R2 := fun x y H Q => ∃ (a b : Addr) (xs : List V), x = .ref a ∧ y = .ref b ∧ SqL K H a xs ∧ SqL K H b [] ∧ Q (.bl (if neg then !xs.isEmpty else xs.isEmpty)) H
theorem op_neNil (hu : X.A.units < cLine) : OpR X (compareOp .NotEq) (rNil X.K true) := by
  intro pins s σ H x y v u Q I rx ry h
  obtain ⟨a, b, xs, rfl, rfl, ha, hb, q⟩ := h
  cases rx
  cases ry
  obtain ⟨its, rv, hl, hz⟩ := I.list ha
  obtain ⟨its2, rv2, hl2, hz2⟩ := I.list hb
  cases rv2
  cases xs with
  | nil =>
    cases rv
    exact PySem.SeqAt.RcNeAt.lists (e := fun _ => true) (isL hl) (isL hl2) rfl hu (fun j h1 _ => absurd h1 (Nat.not_lt_zero j)) X.prog X.w _ _ ⟨.bl false, H, I, rfl, q⟩
  | cons x r =>
    cases rv with
    | cons r1 r2 => exact PySem.SeqAt.RcNeAt.lists_lengths (isL hl) (isL hl2) (by simp) hu X.prog X.w _ _ ⟨.bl true, H, I, rfl, q⟩
theorem op_eqNil (hu : X.A.units < cLine) : OpR X (compareOp .Eq) (rNil X.K false) := by
  intro pins s σ H x y v u Q I rx ry h
  obtain ⟨a, b, xs, rfl, rfl, ha, hb, q⟩ := h
  cases rx
  cases ry
  obtain ⟨its, rv, hl, hz⟩ := I.list ha
  obtain ⟨its2, rv2, hl2, hz2⟩ := I.list hb
  cases rv2
  cases xs with
  | nil =>
    cases rv
    exact PySem.SeqAt.RcAt.lists (e := fun _ => true) (isL hl) (isL hl2) rfl hu (fun j h1 _ => absurd h1 (Nat.not_lt_zero j)) X.prog X.w _ _ ⟨.bl true, H, I, rfl, q⟩
  | cons x r =>
    cases rv with
    | cons r1 r2 => exact PySem.SeqAt.RcAt.lists_lengths (isL hl) (isL hl2) (by simp) hu X.prog X.w _ _ ⟨.bl false, H, I, rfl, q⟩
end
end So

/-! a part of an expression walked by itself: what follows it is said once -/
namespace So
open PySem PySem.Spec PyProof.Rows L2
theorem pe_cut {X : Cx} {e : Expr} {t : TE} (h : PE X e t) : PE X e (fun σ H Q => ∃ Q0 : VK, t σ H Q0 ∧ ∀ v H', Q0 v H' → Q v H') :=
  ⟨fun pins s σ H Q I ⟨Q0, h1, h2⟩ => thn (h.run pins s σ H Q0 I h1) fun u s' ⟨v, H', I', r, q⟩ => ⟨v, H', I', r, h2 v H' q⟩⟩
end So

namespace So
open PySem PySem.Spec PyProof.Rows L2 LamX
/-- the law's call, its tables of code objects and the guards told -/
theorem law_callTGs {P : Program} {w : World} {K : PySem.W.Frag} {mg mb : Str → Option Value} {CX : CXT} {k : Nat} {fa a : Addr} {cs : List (Addr × Addr)} {fd : FuncData} {x : Str} {sp : Sp} {s₁ : Shared} {vs : List Value} {ns : List Int}
    (KX : K.In s₁.heap) (hns : s₁.heap.Ns mainGlobals mg) (hb : s₁.heap.Ns builtinsNs mb) (hbb : ∀ x : Str, x ≠ "__name__" → mb x = bootBuiltins x) (hlim : s₁.heap.NoLimit) (hg : s₁.gens = #[])
    (tabs : ∀ q ∈ cs, s₁.heap.get? q.2 = some { cls := .none, data := .fields #[] } ∧ K.lookup q.2 = none ∧ PySem.W.CodeHd s₁.heap q.1 q.2)
    (mod : ∃ (bm : Addr) (ob : Obj), mg "__builtins__" = some (.ref bm) ∧ bm ≠ builtinsNs ∧ s₁.heap.get? bm = some ob ∧ ob.cls = .type "module" ∧ ob.dict = some builtinsNs ∧ ob.data = .plain)
    (ha : s₁.heap.get? a = some { cls := .type "list", data := .seq vs.toArray }) (hi : IntsAre vs ns) (hl : ns.length ≤ sizeLine) (hr : Room k callerA)
    (F : ∀ base : Heap, K.In base → base.Ns mainGlobals mg → (∀ q ∈ cs, TabB base mg q.1 q.2) → FnG P w K mg base CX k fa fd [x] sp) (hbind : ∀ (s : Shared) (u : Value), BindsTo s fd ⟨[u], []⟩ [(x, u)])
    (hsp : ∀ H : Hp, (∀ q ∈ cs, H q.2 = some (.tbl #[])) → SqL K H a (ns.map V.int) → sp [.ref a] H (fun v _ => v = .bl true) fun _ _ _ => False)
    (hCX : ∀ H e s', CX [] H s₁ (fun _ _ _ => False) e s' → False) :
    codeAny (model P w) callerA (.call (.ref fa) ⟨[.ref a], []⟩) (fun r s' => r = .ok (.ret (.bool true)) ∧ OldK s₁.heap s'.heap ∧ s'.os = s₁.os ∧ AllBare s'.gens) s₁ := by
  have tab : ∀ {T : Addr}, (∃ q ∈ cs, q.2 = T) → s₁.heap.get? T = some { cls := .none, data := .fields #[] } := fun ⟨q, hq, e⟩ => e ▸ (tabs q hq).1
  have noT : ∀ {T : Addr}, (∃ q ∈ cs, q.2 = T) → K.lookup T = none := fun ⟨q, hq, e⟩ => e ▸ (tabs q hq).2.1
  have aT : ¬ ∃ q ∈ cs, q.2 = a := fun z => by
    rw [tab z] at ha
    have := congrArg Obj.data (Option.some.inj ha)
    cases this
  -- what may be tracked at the start: the table, and the script where the written part does not hold it
  have go : ∀ H : Hp, (∀ q ∈ cs, H q.2 = some (.tbl #[])) → (∀ b u, H b = some u → (∃ q ∈ cs, q.2 = b) ∨ (b = a ∧ K.lookup a = none ∧ ∃ o xs, u = .frz o (.lst xs))) → SqL K H a (ns.map V.int) → HOk P w H s₁.heap →
      codeAny (model P w) callerA (.call (.ref fa) ⟨[.ref a], []⟩) (fun r s' => r = .ok (.ret (.bool true)) ∧ OldK s₁.heap s'.heap ∧ s'.os = s₁.os ∧ AllBare s'.gens) s₁ := by
    intro H hT hA hS hok
    -- an object that is neither the script's list nor the table stands in the base
    have free : ∀ {b : Addr} {o : Obj}, s₁.heap.get? b = some o → (∀ vs n, o.data ≠ .seq vs n) → o.data ≠ .fields #[] → H b = none := by
      intro b o e h1 h2
      cases q : H b with
      | none => rfl
      | some u =>
        rcases hA b u q with hb | ⟨rfl, _⟩
        · rw [tab hb] at e
          cases e
          exact absurd rfl h2
        · rw [ha] at e
          cases e
          exact absurd rfl (h1 _ _)
    have toBase : ∀ {b : Addr} {o : Obj}, s₁.heap.get? b = some o → H b = none → (hidT s₁.heap H).get? b = some o := fun e n => hidT_get e n
    have nsB : ∀ {b : Addr} {m : Str → Option Value}, s₁.heap.Ns b m → (hidT s₁.heap H).Ns b m := by
      rintro b m ⟨o, es, ep, e, d, r⟩
      have n : H b = none := by
        refine free e ?_ ?_
        · intro vs n z
          rw [d] at z
          cases z
        · intro z
          rw [d] at z
          cases z
      exact ⟨o, es, ep, toBase e n, d, r⟩
    have kin : K.In (hidT s₁.heap H) := by
      intro b o e
      refine toBase (KX b o e) ?_
      cases q : H b with
      | none => rfl
      | some u =>
        rcases hA b u q with hb | ⟨rfl, z, _⟩
        · rw [noT hb] at e
          cases e
        · rw [z] at e
          cases e
    have lim2 : (hidT s₁.heap H).NoLimit := by
      obtain ⟨mc, h1, h2⟩ := hlim
      exact ⟨mc, nsB h1, h2⟩
    have TB : ∀ q ∈ cs, TabB (hidT s₁.heap H) mg q.1 q.2 := by
      rintro ⟨c, T⟩ hq
      have tab' : s₁.heap.get? T = some { cls := .none, data := .fields #[] } := tab ⟨_, hq, rfl⟩
      have cd : PySem.W.CodeHd s₁.heap c T := (tabs _ hq).2.2
      have gT : mainGlobals ≠ T := fun z => by
        obtain ⟨o, es, ep, e, d, _⟩ := hns
        rw [z, tab'] at e
        cases e
        cases d
      have cd2 : PySem.W.CodeHd (hidT s₁.heap H) c T := by
        obtain ⟨o, us, fl, tf, fg, tg, inF, tx, tt, e1, r1, r2, r3, r⟩ := cd
        refine ⟨o, us, fl, tf, fg, tg, inF, tx, tt, toBase e1 (free e1 ?_ ?_), r1, r2, r3, r⟩
        · intro vs n z
          rw [r2] at z
          cases z
        · intro z
          rw [r2] at z
          cases z
          simp at r3
      have bm2 : (hidT s₁.heap H).BuiltinsAt mg T := by
        obtain ⟨bm, ob, b1, b2, b3, b4, b5, b6⟩ := mod
        have n1 : bm ≠ mainGlobals := fun z => by
          obtain ⟨o, es, ep, e, d, _⟩ := hns
          rw [z, e] at b3
          cases b3
          rw [d] at b6
          cases b6
        have n2 : bm ≠ T := fun z => by
          rw [z, tab'] at b3
          cases b3
          cases b6
        refine ⟨bm, ob, b1, b2, n1, n2, toBase b3 (free b3 ?_ ?_), b4, b5, b6⟩
        · intro vs n z
          rw [b6] at z
          cases z
        · intro z
          rw [b6] at z
          cases z
      exact ⟨cd2, bm2, gT⟩
    have e0 : Env0 P w K mg (hidT s₁.heap H) callerA [] s₁ H := by
      refine ⟨rfl, ⟨kin, nsB hns, ⟨mb, nsB hb, hbb⟩, lim2⟩, fun b o e => of_hidT e, Nat.le_of_eq (hidT_size _ _), True.intro, ?_, hok, .of_eq hg⟩
      intro b hb
      cases hb
    refine codeAny_mono ((F _ kin (nsB hns) TB).runG callerA [] s₁ H ⟨[.ref a], []⟩ [.ref a] [.ref a] _ _ rfl hr e0 (hbind s₁ (.ref a)) (.cons rfl .nil) (hsp H hT hS)) fun r s' h => ?_
    match r, h with
    | .error e, h => exact (hCX H e s' h).elim
    | .ok .next, h => exact h.elim
    | .ok .brk, h => exact h.elim
    | .ok .cont, h => exact h.elim
    | .ok (.ret u), ⟨v, H', os, bare, un, hok', rv, q⟩ =>
      have q2 : v = .bl true := q
      subst q2
      cases rv
      have grown : ∀ {T : Addr}, (∃ q ∈ cs, q.2 = T) → ∃ more : Array Value, s'.heap.get? T = some { cls := .none, data := .fields (#[] ++ more) } := by
        rintro T ⟨q, hq, rfl⟩
        obtain ⟨more, hm⟩ := un.tbls q.2 #[] (hT q hq)
        exact ⟨more, hok' q.2 _ hm⟩
      have stay : ∀ b o, (¬ ∃ q ∈ cs, q.2 = b) → s₁.heap.get? b = some o → s'.heap.get? b = some o := by
        intro b o n e
        cases q : H b with
        | none => exact un.keep b o e q (fun z => nomatch z) (fun z => nomatch z)
        | some u =>
          rcases hA b u q with z | ⟨_, _, ob, xs, rfl⟩
          · exact absurd z n
          · have z1 := (hok b _ q).1
            have z2 := (hok' b _ (un.frzs b ob _ q)).1
            rw [z1] at e
            rw [z2, e]
      refine ⟨rfl, ⟨fun b o e => ?_, fun b o e => ?_⟩, os, bare⟩
      · by_cases n : ∃ q ∈ cs, q.2 = b
        · obtain ⟨more, hg⟩ := grown n
          have tb := tab n
          obtain ⟨q, hq, rfl⟩ := n
          rw [tb] at e
          cases e
          exact .inr (.inl ⟨((tabs q hq).2.2.tab tb).isCodeTable, rfl, #[], more, rfl, hg⟩)
        · exact .inl (stay b o n e)
      · by_cases n : ∃ q ∈ cs, q.2 = b
        · obtain ⟨more, hg⟩ := grown n
          exact ⟨_, hg⟩
        · exact ⟨o, stay b o n e⟩
  have rv := vals_ints hi
  have hlen : (ns.map V.int).length ≤ sizeLine := by rw [List.length_map]; exact hl
  cases hk : K.lookup a with
  | some o =>
    have e := KX a o hk
    rw [ha] at e
    cases e
    refine go (fun b => open Classical in if ∃ q ∈ cs, q.2 = b then some (.tbl #[]) else none) (fun q hq => if_pos ⟨q, hq, rfl⟩) (fun b u z => ?_) (Or.inr ⟨_, vs.toArray, _, hk, rfl, rfl, rfl, by rw [List.size_toArray, hi.length]; exact hl, by simpa using rv⟩) fun b u z => ?_
    · try dsimp only at z
      by_cases n : ∃ q ∈ cs, q.2 = b
      · exact Or.inl n
      · rw [if_neg n] at z
        cases z
    · try dsimp only at z
      by_cases n : ∃ q ∈ cs, q.2 = b
      · rw [if_pos n] at z
        cases z
        exact tab n
      · rw [if_neg n] at z
        cases z
  | none =>
    refine go (fun b => open Classical in if ∃ q ∈ cs, q.2 = b then some (.tbl #[]) else if b = a then some (.frz { cls := .type "list", data := .seq vs.toArray } (.lst (ns.map V.int))) else none) (fun q hq => if_pos ⟨q, hq, rfl⟩) (fun b u z => ?_) (Or.inl (Or.inr ⟨_, (if_neg aT).trans (if_pos rfl)⟩)) fun b u z => ?_
    · try dsimp only at z
      by_cases n : ∃ q ∈ cs, q.2 = b
      · exact Or.inl n
      · rw [if_neg n] at z
        by_cases n2 : b = a
        · rw [if_pos n2] at z
          cases z
          exact Or.inr ⟨n2, hk, _, _, rfl⟩
        · rw [if_neg n2] at z
          cases z
    · try dsimp only at z
      by_cases n : ∃ q ∈ cs, q.2 = b
      · rw [if_pos n] at z
        cases z
        exact tab n
      · rw [if_neg n] at z
        by_cases n2 : b = a
        · rw [if_pos n2] at z
          cases z
          rw [n2]
          exact ⟨ha, hlen, vs, _, rv, ha⟩
        · rw [if_neg n2] at z
          cases z
end So

namespace K49
open PySem PySem.Spec PyProof.Rows L2 So LamX
theorem cut63 (xs : List V) : cutV xs none (some 63) = xs.take 63 := by
  unfold cutV
  rw [HT.sIx_none, show HT.sIx xs.length xs.length (some 63) = min 63 xs.length from HT.sIx_nat xs.length xs.length 63]
  simp
abbrev sLaw : Stmt := topS 46
abbrev lawN : List Str := ["_law_script", "_law_pen_here", "_law_again", "_law_spans_here", "_law_begun", "_law_low", "_law_high", "_law_any_so", "_law_some", "_law_turned", "_law_told", "_law_other", "_law_history", "_law_heard_here", "_law_bad", "_law_odd", "_law_off", "_law_stage", "_law_tick", "_law_title", "_law_one"]
theorem scLaw : FnScope lawN ["_law_script"] (defScope sLaw) := ⟨rfl, rfl, rfl, by decide +kernel, rfl, by decide +kernel, by decide +kernel⟩
structure LivM (P : Program) (w : World) (K : PySem.W.Frag) (mg : Str → Option Value) (base : Heap) (C f : Addr) (fd : FuncData) : Prop where
  T : Lvs K mg C
  M : Mk K C f
  b : Binds K fd ["self", "begun"] []
  G : FnOk P w K mg base CX0 5 f fd ["self", "begun"] (spLInitL K C)
/-- what the law calls of History -/
structure HisM (P : Program) (w : World) (K : PySem.W.Frag) (mg : Str → Option Value) (base : Heap) (CL C CY pA fA : Addr) (fdA : FuncData) (fW : Addr) (fdW : FuncData) (fC : Addr) (fdC : FuncData) : Prop where
  T : Hsts K mg C
  A : Sta K C (.type "type") "always" pA fA
  bA : Binds K fdA ["lives"] []
  GA : FnOk P w K mg base CX0 8 fA fdA ["lives"] (spAlways CL C)
  W : Meth K C "with_turn" fW
  bW : Binds K fdW ["self", "tool", "moment", "turn"] []
  GW : FnOk P w K mg base CX0 8 fW fdW ["self", "tool", "moment", "turn"] (spWTurn CL C)
  cl : StX.CallO K C fC
  bC : Binds K fdC ["self", "saying"] []
  GC : FnOk P w K mg base CX0 9 fC fdC ["self", "saying"] (spMakes CL C CY)
/-- what the law asks of sayings -/
structure SayM (P : Program) (w : World) (K : PySem.W.Frag) (mg : Str → Option Value) (base : Heap) (C fS : Addr) (fdS : FuncData) (fE : Addr) (fdE : FuncData) : Prop where
  T : Say K mg C
  s : PySem.W.findIn K (.ref C) "__str__" = some (some (.ref fS))
  i : PySem.W.isFn K (.ref fS) = true
  bS : Binds K fdS ["self"] []
  GS : FnOk P w K mg base CX0 2 fS fdS ["self"] (spStr C)
  e : PySem.W.findIn K (.ref C) "__eq__" = some (some (.ref fE))
  ei : PySem.W.isFn K (.ref fE) = true
  bE : Binds K fdE ["self", "other"] []
  GE : FnOk P w K mg base CX0 3 fE fdE ["self", "other"] (L2.spEq (SameS C))
structure WordsW (mg : Str → Option Value) : Prop where
  rng : mg "range" = none
  rpr : mg "repr" = none
  str : mg "str" = none
  min : mg "min" = none
  int : mg "int" = none
  isi : mg "isinstance" = none
  tup : mg "tuple" = none
/-- the keywords as they stand, and as the def takes them -/
def kTS {α : Type} (us ws : List α) : List α := match us, ws with
  | [], [a, b, c, d] => [a, d, b, c]
  | _, _ => []
/-- the dict of beginnings behind the spans es -/
def BgJ (H : Hp) (bg : Addr) (es : List (Str × Int × Int)) : Prop := ∃ (kvs : List (Key × V)) (ks : List Str), H bg = some (.dK kvs) ∧ kvs.map (·.1) = ks.map Sum.inr ∧ ks.Nodup ∧ (∀ z, z ∈ ks ↔ z ∈ es.map (·.1)) ∧ ks.length ≤ es.length ∧
  ∀ z ∈ ks, ∃ l, valV kvs (.inr z) = some (.ref l) ∧ H l = some (.lst ((begOf es z).map V.int))
theorem begOf_none {es : List (Str × Int × Int)} {z : Str} (h : z ∉ es.map (·.1)) : begOf es z = [] := begOf_other fun e he hz => h (hz ▸ List.mem_map_of_mem (f := (·.1)) he)
theorem begOf_len : ∀ (es : List (Str × Int × Int)) (z : Str), (begOf es z).length ≤ es.length := fun es z => by
  unfold begOf
  rw [List.length_map]
  exact List.length_filter_le _ _
theorem BgJ.same {H H' : Hp} {bg : Addr} {es : List (Str × Int × Int)} (h : BgJ H bg es) (s : Same H H') : BgJ H' bg es := by
  obtain ⟨kvs, ks, h1, h2, h3, h4, h5, h6⟩ := h
  refine ⟨kvs, ks, s _ _ h1, h2, h3, h4, h5, fun z hz => ?_⟩
  obtain ⟨l, e1, e2⟩ := h6 z hz
  exact ⟨l, e1, s _ _ e2⟩
theorem inr_in {z : Str} {l : List Str} (h : (Sum.inr z : Key) ∈ l.map Sum.inr) : z ∈ l := by
  obtain ⟨y, hy, e⟩ := List.mem_map.mp h
  exact Sum.inr.inj e ▸ hy
/-- one more span -/
theorem BgJ.put {H : Hp} {bg nl : Addr} {es : List (Str × Int × Int)} {y : Str} {lo hi : Int} {kvs : List (Key × V)} (h : BgJ H bg es) (hb : H bg = some (.dK kvs)) (hn : H nl = some (.lst ((begOf es y ++ (if lo > 0 then [lo] else [])).map V.int))) :
    BgJ (upd H bg (.dK (putK kvs (.inr y) (.ref nl)))) bg (es ++ [(y, lo, hi)]) := by
  obtain ⟨kvs', ks, h1, h2, h3, h4, h5, h6⟩ := h
  obtain rfl : kvs' = kvs := by
    rw [hb] at h1
    injection h1 with h1
    injection h1 with h1
    exact h1.symm
  have keep : ∀ {l : Addr} {xs : List V}, H l = some (.lst xs) → upd H bg (.dK (putK kvs' (.inr y) (.ref nl))) l = some (.lst xs) := fun hl => (upd_ne (ne_of hl hb (fun z => nomatch z))).trans hl
  have at_ : ∀ z ∈ ks, z ≠ y → ∃ l, valV (putK kvs' (.inr y) (.ref nl)) (.inr z) = some (.ref l) ∧ upd H bg (.dK (putK kvs' (.inr y) (.ref nl))) l = some (.lst ((begOf (es ++ [(y, lo, hi)]) z).map V.int)) := fun z hz ne => by
    obtain ⟨l, e1, e2⟩ := h6 z hz
    refine ⟨l, by rw [valV_put, if_neg (fun q => ne (Sum.inr.inj q))]; exact e1, ?_⟩
    rw [begOf_snoc, if_neg (fun q => ne q.symm), List.append_nil]
    exact keep e2
  have new : ∃ l, valV (putK kvs' (.inr y) (.ref nl)) (.inr y) = some (.ref l) ∧ upd H bg (.dK (putK kvs' (.inr y) (.ref nl))) l = some (.lst ((begOf (es ++ [(y, lo, hi)]) y).map V.int)) := by
    refine ⟨nl, by rw [valV_put, if_pos rfl], ?_⟩
    rw [begOf_snoc, if_pos rfl]
    exact keep hn
  by_cases c : y ∈ ks
  · refine ⟨_, ks, upd_same, ?_, h3, fun z => ?_, by rw [List.length_append]; exact Nat.le_succ_of_le h5, fun z hz => ?_⟩
    · have hc : (kvs'.any fun kv => decide (kv.1 = (Sum.inr y : Key))) = true := by
        have : (Sum.inr y : Key) ∈ kvs'.map (·.1) := by rw [h2]; exact List.mem_map_of_mem (f := Sum.inr) c
        obtain ⟨kv, hk, e⟩ := List.mem_map.mp this
        exact List.any_eq_true.mpr ⟨kv, hk, decide_eq_true e⟩
      unfold putK
      rw [if_pos hc, List.map_map, ← h2]
      refine List.map_congr_left fun q _ => ?_
      show (if q.1 = Sum.inr y then (q.1, V.ref nl) else q).1 = q.1
      split <;> rfl
    · rw [List.map_append, List.mem_append, h4 z]
      refine ⟨.inl, fun hh => hh.elim id fun e => ?_⟩
      have e : z = y := by simpa using e
      rw [e]
      exact (h4 y).mp c
    · by_cases e : z = y
      · subst e
        exact new
      · exact at_ z hz e
  · have hf : valV kvs' (.inr y) = none := by
      cases q : valV kvs' (.inr y) with
      | none => rfl
      | some u =>
        have := valV_in q
        rw [h2] at this
        exact absurd (inr_in this) c
    refine ⟨_, ks ++ [y], upd_same, by rw [putK_new _ hf, List.map_append, List.map_append, h2]; rfl, ?_, fun z => ?_, by rw [List.length_append, List.length_append]; exact Nat.succ_le_succ h5, fun z hz => ?_⟩
    · rw [List.nodup_append]
      exact ⟨h3, by simp, fun a ha b hb e => by
        rw [List.mem_singleton.mp hb] at e
        exact c (e ▸ ha)⟩
    · rw [List.map_append, List.mem_append, List.mem_append, h4 z]
      simp
    · by_cases e : z = y
      · subst e
        exact new
      · refine at_ z ?_ e
        rcases List.mem_append.mp hz with hh | hh
        · exact hh
        · exact absurd (List.mem_singleton.mp hh) e
theorem names_spans {L : List (Str × List Int)} {k : Nat} (h : DrL L k) (z : Str) : z ∈ (spansOf L).map (·.1) ↔ z ∈ L.map (·.1) := by
  constructor
  · intro hm
    obtain ⟨e, he, rfl⟩ := List.mem_map.mp hm
    obtain ⟨p, hp, he⟩ := List.mem_flatMap.mp he
    obtain ⟨q, _, rfl⟩ := List.mem_map.mp he
    exact List.mem_map_of_mem (f := (·.1)) hp
  · intro hm
    obtain ⟨⟨z', ns⟩, hp, rfl⟩ := List.mem_map.mp hm
    obtain ⟨ms, rfl, _⟩ := h.2 z' ns hp
    obtain ⟨e0, er, he⟩ : ∃ e0 er, endsOf (0 :: ms) = e0 :: er := by
      cases q : endsOf (0 :: ms) with
      | nil =>
        have := congrArg List.length q
        unfold endsOf at this
        rw [List.length_append] at this
        simp at this
      | cons a b => exact ⟨a, b, rfl⟩
    refine List.mem_map.mpr ⟨(z', 0, e0), List.mem_flatMap.mpr ⟨_, hp, List.mem_map.mpr ⟨(0, e0), ?_, rfl⟩⟩, rfl⟩
    show (0, e0) ∈ (0 :: ms).zip (endsOf (0 :: ms))
    rw [he, List.zip_cons_cons]
    exact List.mem_cons_self
theorem BgJ.bgl {K : PySem.W.Frag} {H : Hp} {bg : Addr} {L : List (Str × List Int)} {k : Nat} (h : BgJ H bg (spansOf L)) (dr : DrL L k) (hk : k ≤ 3) : BgL K H bg (ordL L) := by
  have ok := ordL_ok dr hk
  have hp := ordL_perm L
  have ndL : (L.map (·.1)).Nodup := ((hp.map (·.1)).nodup_iff).mp ok.nd
  obtain ⟨kvs, ks, h1, h2, h3, h4, _, h6⟩ := h
  refine ⟨kvs, ks, h1, h2, (List.perm_ext_iff_of_nodup h3 ok.nd).mpr fun z => ?_, fun z ns hm => ?_⟩
  · rw [h4 z, names_spans dr z, (hp.map (·.1)).mem_iff]
  · have hm' : (z, ns) ∈ L := hp.mem_iff.mp hm
    obtain ⟨ms, rfl, m1, m2, m3⟩ := dr.2 z ns hm'
    have hz : z ∈ ks := (h4 z).mpr ((names_spans dr z).mpr (List.mem_map_of_mem (f := (·.1)) hm'))
    obtain ⟨l, e1, e2⟩ := h6 z hz
    rw [begOf_spans ndL dr.2 hm'] at e2
    exact ⟨l, ms, e1, SqL.of e2, by omega, m2, by rw [← srt_one m3 fun _ => Iff.rfl]⟩
theorem tabs_off {T : List (Addr × Str)} {H H' : Hp} {p : Addr} {o : HO} (hp : H p = some o) (ht : ∀ ps, o ≠ .tbl ps) (hc : ∀ c x, o ≠ CodeO c x) (t : Tabs T H) (f : Off p H H') : Tabs T H' := by
  intro y hy
  obtain ⟨ps, h1, h2, h3⟩ := t y hy
  refine ⟨ps, f _ _ (fun z => ?_) h1, h2, fun pos cv hcv => ?_⟩
  · rw [z, hp] at h1
    exact ht ps (Option.some.inj h1)
  · obtain ⟨c, e1, e2⟩ := h3 pos cv hcv
    refine ⟨c, e1, f _ _ (fun z => ?_) e2⟩
    rw [z, hp] at e2
    exact hc _ _ (Option.some.inj e2)
theorem off_upd {H : Hp} {c : Addr} {o : HO} : Off c H (upd H c o) := fun b u n e => (upd_ne n).trans e
section
variable {P : Program} {w : World} {K : PySem.W.Frag} {mg : Str → Option Value} {base : Heap}
def spPen (K : PySem.W.Frag) : Sp := fun vs H Q _ => ∃ (a : Addr) (ns : List Int), vs = [.ref a] ∧ SqL K H a (ns.map V.int) ∧ ∀ (H' : Hp) (p l : Addr) (ns' : List Int), Same H H' → Pen H' p l ns' 0 0 → Q (.ref p) H'
theorem ok_pen {f : Addr} {fd : FuncData} (F : Fun K "_law_pen" "_law_pen" sPen f fd) (ml : mg "list" = none) : FnOk P w K mg base CX0 1 f fd ["_law_script"] (spPen K) := by
  refine F.ok scPen (fun vs H Q E h => ?_) (fun cdv A outer s H vs Q E hr h => ?_)
  · obtain ⟨a, ns, rfl, _⟩ := h
    rfl
  · obtain ⟨a, ns, rfl, hS, q⟩ := h
    refine ⟨_, pss_one (ps_ret (pe_lst (pa_cons (pe_callTy call_list_of (by rfl) ml (by decide +kernel) (pa_cons (pe_slice sl_list (pv 0) po_none (po_some pe_int)) pa_nil)) (pa_cons pe_int (pa_cons pe_int pa_nil))))), ?_⟩
    refine ⟨_, rfl, 63, rfl, a, ns.map V.int, rfl, hS, fun c hc => ?_⟩
    rw [cut63, ← List.map_take]
    refine ⟨c, _, rfl, .inl (SqL.of upd_same), fun l hl => ?_⟩
    refine ⟨by show 3 ≤ sizeLine; decide, fun p hp => ?_⟩
    have s1 : Same H (upd (upd (upd H c (.lst ((ns.take 63).map V.int))) l (.lst ((ns.take 63).map V.int))) p (.lst [.ref l, .int 0, .int 0])) := by
      refine ((same_upd0 hc).trans (same_upd0 hl)).trans (same_upd0 hp)
    have nlp : l ≠ p := fun e => by
      rw [e, upd_same] at hp
      cases hp
    exact q _ p l (ns.take 63) s1 ⟨upd_same, (upd_ne nlp).trans upd_same, Int.le_refl 0⟩
def spLaw (K : PySem.W.Frag) (T : List (Addr × Str)) : Sp := fun vs H Q _ => ∃ (a : Addr) (ns : List Int), vs = [.ref a] ∧ SqL K H a (ns.map V.int) ∧ Tabs T H ∧ ∀ H', Q (.bl true) H'
theorem ok_law {T : List (Addr × Str)} {CN CM CS CO CU CT CY CL CH f c1 P1 fV pA fA fW fC fS fE fPen fSp fD fPk fDu fTS fH : Addr} {fd fdV fdA fdW fdC fdS fdE fdPen fdSp fdD fdPk fdDu fdTS fdH : FuncData} (F : Fun K "law" "law" sLaw f fd) (hcode : fd.code = .ref c1) (TB : TabB base mg c1 P1)
    (hT1 : ∀ n f' c', (P1, (envOfC "law" (defScope sLaw) n f' c').qual ++ "<lambda>") ∈ T) (hT2 : ∀ n f' c', ∀ q ∈ T, q.1 = P1 → q.2 = (envOfC "law" (defScope sLaw) n f' c').qual ++ "<lambda>")
    (LV : LivM P w K mg base CL fV fdV) (HV : HisM P w K mg base CL CH CY pA fA fdA fW fdW fC fdC) (SV : SayM P w K mg base CY fS fdS fE fdE) (N : WordsW mg) (RH : HrT K mg CT CO CM CU)
    (FPen : Fun K "_law_pen" "_law_pen" sPen fPen fdPen) (bPen : Binds K fdPen ["_law_script"] []) (gPen : mg "_law_pen" = some (.ref fPen)) (GPen : FnOk P w K mg base CX0 1 fPen fdPen ["_law_script"] (spPen K))
    (FSp : Fun K "_law_spans" "_law_spans" sSpans fSp fdSp) (bSp : Binds K fdSp ["_law_pen_here"] []) (gSp : mg "_law_spans" = some (.ref fSp)) (GSp : FnOk P w K mg base CX0 4 fSp fdSp ["_law_pen_here"] spSpans)
    (FD : Fun K "_law_draw" "_law_draw" sDraw fD fdD) (bD : Binds K fdD ["_law_pen_here", "_law_many"] []) (gD : mg "_law_draw" = some (.ref fD)) (GD : FnOk P w K mg base CX0 1 fD fdD ["_law_pen_here", "_law_many"] spDraw)
    (FPk : Fun K "_law_pick" "_law_pick" sPick fPk fdPk) (bPk : Binds K fdPk ["_law_pen_here", "_law_some"] []) (gPk : mg "_law_pick" = some (.ref fPk)) (GPk : FnOk P w K mg base CX0 2 fPk fdPk ["_law_pen_here", "_law_some"] (spPick K))
    (FDu : Fun K "_law_due" "_law_due" sDue fDu fdDu) (bDu : Binds K fdDu dueN []) (gDu : mg "_law_due" = some (.ref fDu)) (GDu : FnOk P w K mg base CX0 1 fDu fdDu dueN spDue)
    (FTS : Fun K "turn_sayings" "turn_sayings" sTS fTS fdTS) (bTS : Binds K fdTS ["lives", "tool", "moment", "turn"] []) (kTS' : KBn K fdTS ["lives", "tool", "moment", "turn"] 0 ["lives", "moment", "turn", "tool"] kTS kTS) (gTS : mg "turn_sayings" = some (.ref fTS)) (GTS : FnOk P w K mg base (L2.CX P w) 6 fTS fdTS ["lives", "tool", "moment", "turn"] (spTS CM CO CU CY CL))
    (FH : Fun K "_law_heard" "_law_heard" sHeard fH fdH) (bH0 : Binds K fdH ["_law_ask"] []) (gH : mg "_law_heard" = some (.ref fH)) :
    FnG P w K mg base CX0 12 f fd ["_law_script"] (spLaw K T) := by
  obtain ⟨ocH, odH, kVH, docH, pmH, anH, cdvH, ctH, oslH, efd, lkH, hcH⟩ := FH.ex
  subst efd
  have bH := bH0
  refine fnG_ofC F hcode scLaw (fun vs H Q E h => ?_) (fun A outer s H vs Q E hg hr h => ?_)
  · obtain ⟨a, ns, rfl, _⟩ := h
    rfl
  · obtain ⟨a0, sns, rfl, hS, hT, q⟩ := h
    have hr1 : Room 1 _ := hr.mono (by decide)
    have hr2 : Room 2 _ := hr.mono (by decide)
    have hr4 : Room 4 _ := hr.mono (by decide)
    have hr6 : Room 6 _ := hr.mono (by decide)
    have hr8 : Room 8 _ := hr.mono (by decide)
    have hr9 : Room 9 _ := hr.mono (by decide)
    have hr10 : Room 10 _ := hr.mono (by decide)
    have RC : FnR P w K mg base CX0 9 fC (spMakes CL CH CY) := (HV.GC.raw HV.bC .nil).imp fun vs H Q E h => by rw [List.append_nil]; exact h
    refine ⟨_, (pss_cons (ps_set (i := 1) scLaw.nd rfl (.inl rfl) (pe_call GPen hr1 (by rfl) gPen FPen.kp bPen .nil pass0 (pa_cons (pv 0) pa_nil)))
      (pss_cons (ps_for PassesOwn.never rfl (pi_range1 (by rfl) N.rng (pa_cons pe_int pa_nil)) (pg_name (i := 2) scLaw.nd rfl (Or.inl rfl))
        (pss_cons (ps_set (i := 3) scLaw.nd rfl (.inl rfl) (pe_call GSp hr4 (by rfl) gSp FSp.kp bSp .nil pass0 (pa_cons (pv 1) pa_nil)))
        (pss_cons (ps_set (i := 4) scLaw.nd rfl (.inl rfl) pe_dnewK)
        (pss_cons (ps_for PassesOwn.never rfl (pi_list (pv 3)) (pg_tup rfl (pgs_cons (pg_name (i := 19) scLaw.nd rfl (Or.inr rfl)) (pgs_cons (pg_name (i := 5) scLaw.nd rfl (Or.inl rfl)) (pgs_cons (pg_name (i := 6) scLaw.nd rfl (Or.inl rfl)) pgs_nil))))
          (pss_one (ps_dput (hu_of hr) (pv 4) (pv 19) (pe_op op_cat (pe_dget2 (hu_of hr) (pv 4) (pv 19) (pe_lst pa_nil) ⟨by rfl, by rfl, by rfl, by rfl⟩) (pe_cut (pe_ifExp (pt_cmpR op_gt (pv 5) pe_int (nomark _)) (pe_lst (pa_cons (pv 5) pa_nil)) (pe_lst pa_nil)))) rfl)))
        (pss_cons (ps_set (i := 17) scLaw.nd rfl (.inr rfl) (pe_make LV.M LV.G hr6 (by rfl) LV.T.mgC LV.b .nil pass0 (pa_cons (pv 4) pa_nil)))
        (pss_cons (ps_asg (pe_call GPk hr2 (by rfl) gPk FPk.kp bPk .nil pass0 (pa_cons (pv 1) (pa_cons (pv 3) pa_nil))) (pg_tup rfl (pgs_cons (pg_name (i := 19) scLaw.nd rfl (Or.inr rfl)) (pgs_cons (pg_name (i := 5) scLaw.nd rfl (Or.inl rfl)) (pgs_cons (pg_name (i := 6) scLaw.nd rfl (Or.inl rfl)) pgs_nil)))))
        (pss_cons (ps_set (i := 7) scLaw.nd rfl (.inl rfl) (pe_op op_add (pv 5) (pe_call GD hr1 (by rfl) gD FD.kp bD .nil pass0 (pa_cons (pv 1) (pa_cons (pe_op op_add (pe_op op_sub (pv 6) (pv 5)) pe_int) pa_nil)))))
        (pss_cons (ps_set (i := 8) scLaw.nd rfl (.inl rfl) (pe_lst (pa_cons pe_non (pa_cons (pv 5) (pa_cons (pv 6) (pa_cons (pe_callB (call_min2 rfl) (by rfl) N.min (by decide +kernel) (pa_cons (pe_callTy call_int1 (by rfl) N.int (by decide +kernel) (pa_cons (pe_op op_add (pv 5) pe_int) pa_nil)) (pa_cons (pe_callTy call_int1 (by rfl) N.int (by decide +kernel) (pa_cons (pv 6) pa_nil)) pa_nil))) (pa_cons (pv 7) pa_nil)))))))
        (pss_cons (ps_asg (pe_tup (pa_cons (pe_call GPk hr2 (by rfl) gPk FPk.kp bPk .nil pass0 (pa_cons (pv 1) (pa_cons (pv 8) pa_nil))) (pa_cons (pe_call GPk hr2 (by rfl) gPk FPk.kp bPk .nil pass0 (pa_cons (pv 1) (pa_cons (pe_lst (pa_cons (pv 5) (pa_cons (pv 6) (pa_cons (pv 7) pa_nil)))) pa_nil))) pa_nil))) (pg_tup rfl (pgs_cons (pg_name (i := 9) scLaw.nd rfl (Or.inl rfl)) (pgs_cons (pg_name (i := 18) scLaw.nd rfl (Or.inr rfl)) pgs_nil))))
        (pss_cons (ps_set (i := 10) scLaw.nd rfl (.inl rfl) (pe_call GTS hr6 (by rfl) gTS FTS.kp bTS .nil passNo (pa_cons (pv 17) (pa_cons (pv 19) (pa_cons (pv 18) (pa_cons (pv 9) pa_nil))))))
        (pss_cons (ps_cut (ps_if (PW.pt (pw_or (pt_not (pt_val (pe_callB call_isi (by rfl) N.isi (by decide +kernel) (pa_cons (pv 10) (pa_cons (pe_bltn (v := .ty "tuple") (by rfl) N.tup (by decide +kernel) rfl) pa_nil))))) (pw_or1 (pt_cmpR (op_neD hr.units) (pe_lc (own := [("_law_one", 20)]) (g := gName 20) (tt := tYes) rfl scLaw.nd (pi_tup (pv 10)) (blkOk_by (N := lawN) (sc := defScope sLaw) (by decide +kernel)) (fun _ _ _ _ _ => pg_name (i := 20) scLaw.nd rfl (Or.inl rfl)) (fun _ _ _ _ _ => pts_nil)
            (fun _ _ _ _ _ => pe_callTy (call_strOwn SV.GS SV.s SV.i SV.bS pass0 hr4) (by rfl) N.str (by decide +kernel) (pa_cons (pv 20) pa_nil))) (pe_call GDu hr1 (by rfl) gDu FDu.kp bDu .nil pass0 (pa_cons (pv 19) (pa_cons (pv 5) (pa_cons (pv 6) (pa_cons (pv 9) pa_nil))))) (nomark _))))) pss_dead pss_nil))
        (pss_cons (ps_cut (ps_if (pt_cmpR (op_neTG (mon_ins SameS.ext) (eqG_ins SV.GE SV.e SV.ei SV.bE pass0) hr4) (pe_callK0 GTS hr6 (by rfl) gTS FTS.kp kTS' passNo (pk_cons (pv 17) (pk_cons (pv 18) (pk_cons (pv 9) (pk_cons (pv 19) pk_nil))))) (pv 10) (nomark _)) pss_dead pss_nil))
        (pss_cons (ps_for PassesOwn.never rfl (pi_list (pv 8)) (pg_name (i := 11) scLaw.nd rfl (Or.inl rfl))
          (pss_cons (ps_set (i := 12) scLaw.nd rfl (.inr rfl) (pe_meth (pe_sta (pe_glob (v := .ref CH) (by rfl) HV.T.mgC (by rfl)) HV.A HV.GA hr8 HV.bA pass0 (pa_cons (pv 17) pa_nil)) HV.T.cl HV.W HV.GW hr8 HV.bW .nil pass0 (pa_cons (pv 19) (pa_cons (pv 5) (pa_cons (pv 11) pa_nil)))))
          (pss_one (ps_if (pt_cmpR op_ne (pe_cmpR (op_eqNil hr.units0) (pe_lc (own := [("_law_one", 20)]) (g := gName 20) rfl scLaw.nd (pi_tup (pv 10)) (blkOk_by (N := lawN) (sc := defScope sLaw) (by decide +kernel)) (fun _ _ _ _ _ => pg_name (i := 20) scLaw.nd rfl (Or.inl rfl)) (fun _ _ _ _ _ => pts_one (pt_not (pt_val (pe_callD (pv 12) HV.cl RC hr9 pass0 (pa_cons (pv 20) pa_nil))))) (fun _ _ _ _ _ => pv 20)) (pe_lst pa_nil) (nomark _)) (pe_cmpR op_eq (pv 11) (pv 9) (nomark _)) (nomark _)) pss_dead pss_nil))))
        (pss_cons (ps_set (i := 15) scLaw.nd rfl (.inr rfl) (pe_call GPk hr2 (by rfl) gPk FPk.kp bPk .nil pass0 (pa_cons (pv 1) (pa_cons (pe_lst (pa_cons pe_str (pa_cons pe_non (pa_cons pe_int (pa_cons (pe_lst (pa_cons (pv 19) pa_nil)) (pa_cons pe_str pa_nil)))))) pa_nil))))
        (pss_cons (ps_set (i := 14) scLaw.nd rfl (.inr rfl) (pe_call GPk hr2 (by rfl) gPk FPk.kp bPk .nil pass0 (pa_cons (pv 1) (pa_cons (pe_lst (pa_cons (pe_un un_neg pe_int) (pa_cons (pe_op op_add (pe_op op_pow pe_int pe_int) pe_int) (pa_cons pe_bl (pa_cons pe_str (pa_cons pe_non pa_nil)))))) pa_nil))))
        (pss_cons (ps_set (i := 16) scLaw.nd rfl (.inr rfl) (pe_call GPk hr2 (by rfl) gPk FPk.kp bPk .nil pass0 (pa_cons (pv 1) (pa_cons (pe_lst (pa_cons (pe_op op_sub (pv 5) pe_int) (pa_cons (pe_op op_add (pv 6) pe_int) (pa_cons pe_bl (pa_cons pe_str pa_nil))))) pa_nil))))
        (pss_cons (ps_set (i := 13) scLaw.nd rfl (.inl rfl) (pe_lst (pa_cons (pe_lamcall (T := T) (TT := TTu CO CM CU) (t := _) (k := 8) (by rfl) gH FH.kp lkH hcH bH scHeard rfl (Or.inl rfl) (heard_gives RH) TB rfl (hT1 _ _ _) (hT2 _ _ _) hr10
            (lamS_by (sc := defScope sLaw) (by decide +kernel)) rfl (fun _ _ _ _ _ => rfl) (fun A outer s H E f c' hr' => pe_call GTS (hr'.mono (by decide)) (by rfl) gTS FTS.kp bTS .nil (passes_call (takes_of rfl rfl rfl rfl) (fun _ _ _ _ h => h)) (pa_cons (pv 17) (pa_cons (pv 15) (pa_cons (pv 14) (pa_cons (pv 16) pa_nil)))))) pa_nil)))
        (pss_cons (ps_expr (pe_bm PySem.F.plainAttrs_list PySem.F.slot_list_append PySem.F.type_list_append mt_append (pv 13) (pa_cons (pe_lamcall (T := T) (TT := TTu CO CM CU) (t := _) (k := 8) (by rfl) gH FH.kp lkH hcH bH scHeard rfl (Or.inl rfl) (heard_gives RH) TB rfl (hT1 _ _ _) (hT2 _ _ _) hr10
            (lamS_by (sc := defScope sLaw) (by decide +kernel)) rfl (fun _ _ _ _ _ => rfl) (fun A outer s H E f c' hr' => pe_call GTS (hr'.mono (by decide)) (by rfl) gTS FTS.kp bTS .nil (passes_call (takes_of rfl rfl rfl rfl) (fun _ _ _ _ h => h)) (pa_cons (pv 17) (pa_cons (pv 19) (pa_cons (pv 14) (pa_cons (pv 16) pa_nil)))))) pa_nil)))
        (pss_cons (ps_expr (pe_bm PySem.F.plainAttrs_list PySem.F.slot_list_append PySem.F.type_list_append mt_append (pv 13) (pa_cons (pe_lamcall (T := T) (TT := TTu CO CM CU) (t := _) (k := 8) (by rfl) gH FH.kp lkH hcH bH scHeard rfl (Or.inl rfl) (heard_gives RH) TB rfl (hT1 _ _ _) (hT2 _ _ _) hr10
            (lamS_by (sc := defScope sLaw) (by decide +kernel)) rfl (fun _ _ _ _ _ => rfl) (fun A outer s H E f c' hr' => pe_call GTS (hr'.mono (by decide)) (by rfl) gTS FTS.kp bTS .nil (passes_call (takes_of rfl rfl rfl rfl) (fun _ _ _ _ h => h)) (pa_cons (pv 17) (pa_cons (pv 19) (pa_cons (pv 18) (pa_cons (pv 16) pa_nil)))))) pa_nil)))
        (pss_one (ps_cut (ps_if (pt_cmpR op_ne (pe_callB (call_reprD hg hr.units) (by rfl) N.rpr (by decide +kernel) (pa_cons (pv 13) pa_nil)) (pe_callB (call_reprD hg hr.units) (by rfl) N.rpr (by decide +kernel) (pa_cons (pe_lst (pa_cons (pe_tup (pa_cons pe_str (pa_cons (pv 15) pa_nil))) (pa_cons (pe_tup (pa_cons pe_str (pa_cons (pv 14) pa_nil))) (pa_cons (pe_tup (pa_cons pe_str (pa_cons (pe_tup (pa_cons (pv 19) (pa_cons (pv 5) pa_nil))) pa_nil))) pa_nil)))) pa_nil)) (nomark _)) pss_dead pss_nil))))))))))))))))))))))
      (pss_one (ps_ret pe_bl)))), ?_⟩
    have hss := sizeLine_eq
    refine ⟨_, rfl, a0, sns, rfl, hS, fun H1 p l cc s1 pen1 => ?_⟩
    have t1 : Tabs T H1 := hT.ext s1
    refine ⟨4, rfl, by decide, by decide, for_range (lo := 0) (n := 4) (fun i σ H' => ∃ x2 x3 x4 x5 x6 x7 x8 x9 x10 x11 x12 x13 x14 x15 x16 x17 x18 x19 n' g', σ = [some (.ref a0), some (.ref p), x2, x3, x4, x5, x6, x7, x8, x9, x10, x11, x12, x13, x14, x15, x16, x17, x18, x19, none] ∧ Pen H' p l cc n' g' ∧ n' ≤ 60 * i ∧ Tabs T H')
      ⟨none, none, none, none, none, none, none, none, none, none, none, none, none, none, none, none, none, none, 0, 0, rfl, pen1, Nat.le_refl _, t1⟩ ?_ ?_⟩
    case refine_2 =>
      rintro σ H2 ⟨x2, x3, x4, x5, x6, x7, x8, x9, x10, x11, x12, x13, x14, x15, x16, x17, x18, x19, n', g', rfl, _⟩
      exact q _
    rintro i σ H2 hi ⟨x2, x3, x4, x5, x6, x7, x8, x9, x10, x11, x12, x13, x14, x15, x16, x17, x18, x19, n2, g2, rfl, pen2, hn2, t2⟩
    -- the spans
    refine ⟨_, rfl, p, l, cc, n2, g2, rfl, pen2, by omega, fun L k sp rs n3 g3 H3 dr k1 k3 hsp hrs hspn hn3 off3 pen3 => ?_⟩
    have nsp : sp ≠ p := pen2.nw hspn
    intro bg hbg
    have s4 := same_upd0 (o := .dK []) hbg
    have pen4 := pen3.sm s4
    have hsp4 := s4 _ _ hsp
    have hrs4 : Paired (SpAt (upd H3 bg (.dK []))) rs (spansOf L) := L2.Paired.mapP hrs fun r e he => s4 _ _ he
    have bj4 : BgJ (upd H3 bg (.dK [])) bg [] := ⟨[], [], upd_same, rfl, List.nodup_nil, fun z => Iff.rfl, Nat.le_refl _, fun z hz => nomatch hz⟩
    generalize upd H3 bg (.dK []) = H4 at s4 pen4 hsp4 hrs4 bj4 ⊢
    have t4 : Tabs T H4 := by
      refine Tabs.ext ?_ s4
      exact tabs_off pen2.pen (fun _ z => nomatch z) (fun _ _ z => nomatch z) t2 off3
    have hsl : (spansOf L).length ≤ 9 := by
      have e1 : (L.map (·.1)).length = L.length := List.length_map _
      rw [dr.1, List.length_take] at e1
      have e2 := spans_len (L := L) fun q hq => by
        obtain ⟨ms', e, h1, _⟩ := dr.2 q.1 q.2 hq
        rw [e, List.length_cons]
        omega
      omega
    have hrl := Paired.length hrs4
    refine ⟨_, rfl, sp, rfl, ⟨_, SqL.of hsp4⟩, ?_⟩
    refine for_it walk_list (fun j σ G => ∃ (y5 y6 y19 : Option V), σ = [some (.ref a0), some (.ref p), some (.int (0 + (i : Nat))), some (.ref sp), some (.ref bg), y5, y6, x7, x8, x9, x10, x11, x12, x13, x14, x15, x16, x17, x18, y19, none] ∧
        Pen G p l cc n3 g3 ∧ Tabs T G ∧ G sp = some (.lst (rs.map V.ref)) ∧ Paired (SpAt G) rs (spansOf L) ∧ BgJ G bg ((spansOf L).take j))
      ⟨x5, x6, x19, rfl, pen4, t4, hsp4, hrs4, bj4⟩ (fun _ _ _ _ ⟨_, _, _, _, _, _, o, _⟩ => SqL.of o) ?_ ?_
    · rintro j x σ G' G hj ⟨y5, y6, y19, rfl, pen5, t5, hsp5, hrs5, bj5⟩ ⟨rfl, hx⟩
      rw [List.length_map] at hj
      rw [List.getElem?_map] at hx
      obtain ⟨r, hr, rfl⟩ : ∃ r, rs[j]? = some r ∧ x = .ref r := by
        cases e : rs[j]? with
        | none => rw [e] at hx; cases hx
        | some t => rw [e] at hx; exact ⟨t, rfl, (Option.some.inj hx).symm⟩
      obtain ⟨⟨y, lo, hi⟩, he, hre⟩ := L2.paired_get hrs5 hr
      have hre : G r = some (.tup [.str y, .int lo, .int hi]) := hre
      refine ⟨r, _, rfl, SqT.of hre, rfl, _, _, rfl, _, _, rfl, _, _, rfl, rfl, ?_⟩
      obtain ⟨kvs, ks, hb, hks, hnd, hin, hkl, hv⟩ := id bj5
      have hkl' : kvs.length ≤ 9 := by
        have e1 : (kvs.map (·.1)).length = kvs.length := List.length_map _
        rw [hks, List.length_map] at e1
        rw [List.length_take] at hkl
        omega
      refine ⟨_, rfl, bg, rfl, (.inl ⟨_, .inl hb⟩), _, rfl, by show 0 ≤ sizeLine; omega, fun q0 hq0 => ⟨_, DGet.k (k := .inr y) (same_upd0 hq0 _ _ hb), ?_⟩⟩
      have sq := same_upd0 (o := .lst []) hq0
      have hq1 : upd G q0 (.lst []) q0 = some (.lst []) := upd_same
      have bjq := bj5.same sq
      obtain ⟨l0, hl0, hl1⟩ : ∃ l0, (valV kvs (.inr y)).getD (V.ref q0) = .ref l0 ∧ upd G q0 (.lst []) l0 = some (.lst ((begOf ((spansOf L).take j) y).map V.int)) := by
        by_cases c : y ∈ ks
        · obtain ⟨l1, e1, e2⟩ := hv y c
          exact ⟨l1, by rw [e1]; rfl, sq _ _ e2⟩
        · have hf : valV kvs (.inr y) = none := valV_out fun h => by
            rw [hks] at h
            exact c (inr_in h)
          refine ⟨q0, by rw [hf]; rfl, ?_⟩
          rw [begOf_none fun h => c ((hin y).mpr h)]
          exact hq1
      rw [hl0]
      have hb1 := sq _ _ hb
      have penq := pen5.sm sq
      have tq := t5.ext sq
      have hspq := sq _ _ hsp5
      have hrsq : Paired (SpAt (upd G q0 (.lst []))) rs (spansOf L) := L2.Paired.mapP hrs5 fun r e he => sq _ _ he
      generalize upd G q0 (.lst []) = Gq at sq hq1 bjq hl1 hb1 penq tq hspq hrsq ⊢
      refine ⟨fun v G2 => ∃ q2 : Addr, v = .ref q2 ∧ Same Gq G2 ∧ G2 q2 = some (.lst ((if lo > 0 then [lo] else []).map V.int)), ?_, ?_⟩
      · refine ⟨_, rfl, _, _, rfl, rfl, _, rfl, ite2 (fun c => ⟨_, rfl, by show 1 ≤ sizeLine; omega, fun q2 h2 => ⟨q2, rfl, same_upd0 h2, ?_⟩⟩) (fun c => ⟨by show 0 ≤ sizeLine; omega, fun q2 h2 => ⟨q2, rfl, same_upd0 h2, ?_⟩⟩)⟩
        · rw [upd_same, if_pos (of_decide_eq_true c)]
          rfl
        · rw [upd_same, if_neg (fun h => c (decide_eq_true h))]
          rfl
      rintro v G2 ⟨q2, rfl, s6, h6⟩
      have hbl := begOf_len ((spansOf L).take j) y
      rw [List.length_take] at hbl
      refine ⟨l0, q2, _, _, rfl, rfl, s6 _ _ hl1, h6, ?_, fun nl hnl => ?_⟩
      · rw [List.length_map, List.length_map]
        have : (if lo > 0 then [lo] else []).length ≤ 1 := by split <;> simp
        omega
      have s7 := s6.trans (same_upd0 (o := .lst ((begOf ((spansOf L).take j) y).map V.int ++ (if lo > 0 then [lo] else []).map V.int)) hnl)
      have h7 : upd G2 nl (.lst ((begOf ((spansOf L).take j) y).map V.int ++ (if lo > 0 then [lo] else []).map V.int)) nl = some (.lst ((begOf ((spansOf L).take j) y ++ (if lo > 0 then [lo] else [])).map V.int)) := by rw [upd_same, List.map_append]
      generalize upd G2 nl (.lst ((begOf ((spansOf L).take j) y).map V.int ++ (if lo > 0 then [lo] else []).map V.int)) = G3 at s7 h7 ⊢
      have hb3 := s7 _ _ hb1
      have et : (spansOf L).take (j + 1) = (spansOf L).take j ++ [(y, lo, hi)] := by rw [List.take_add_one, he]; rfl
      have bj3 := (bjq.same s7).put (lo := lo) (hi := hi) hb3 h7
      have nl3 : ∀ {c : Addr} {o : HO}, G3 c = some o → (∀ kv, o ≠ .dK kv) → upd G3 bg (.dK (putK kvs (.inr y) (.ref nl))) c = some o := fun hc hd => (upd_ne (fun z => hd _ (Option.some.inj ((z ▸ hc : G3 bg = some _).symm.trans hb3)))).trans hc
      refine ⟨_, rfl, _, rfl, bg, _, rfl, DPut.k (k := .inr y) hb3 (by omega), _, _, _, rfl, ⟨nl3 (penq.sm s7).pen (fun _ z => nomatch z), nl3 (penq.sm s7).cells (fun _ z => nomatch z), penq.left⟩, tabs_off hb3 (fun _ z => nomatch z) (fun _ _ z => nomatch z) (tq.ext s7) off_upd, nl3 (s7 _ _ hspq) (fun _ z => nomatch z), L2.Paired.mapP hrsq fun r e he => nl3 (s7 _ _ he) (fun _ z => nomatch z), by rw [et]; exact bj3⟩
    rintro σ G ⟨y5, y6, y19, rfl, pen5, t5, hsp5, hrs5, bj5⟩
    rw [List.length_map, hrl, List.take_length] at bj5
    have ok := ordL_ok dr k3
    -- the lives
    refine ⟨_, rfl, fun st dst e1 e2 e3 => ?_⟩
    have s0 := newS (C := CL) e1 e2
    refine ⟨st, dst, bg, ordL L, rfl, upd_same, BgL.same (bj5.bgl dr k3) s0, ok, fun H6 o6 ls6 => ⟨rfl, ?_⟩⟩
    have s6 : Same G H6 := fun c u g => o6 c u (ne_of_none g e1) (s0 c u g)
    have pen6 := pen5.sm s6
    have t6 := t5.ext s6
    have hsp6 := s6 _ _ hsp5
    have hrs6 : Paired (SpAt H6) rs (spansOf L) := L2.Paired.mapP hrs5 fun r e he => s6 _ _ he
    clear s6 o6 s0 e1 e2 e3 bj5 pen5 t5 hsp5 hrs5 t4 hrs4 bj4 hsp4 pen4 s4
    have hne : 0 < rs.length := by
      rw [hrl]
      obtain ⟨y, hy⟩ : ∃ y, y ∈ L.map (·.1) := by
        rw [dr.1]
        obtain ⟨k', rfl⟩ : ∃ k', k = k' + 1 := ⟨k - 1, by omega⟩
        exact ⟨"c", List.mem_cons_self⟩
      obtain ⟨e, he, _⟩ := List.mem_map.mp ((names_spans dr y).mpr hy)
      exact List.length_pos_of_mem he
    -- a span
    refine ⟨_, rfl, _, rfl, p, l, cc, n3, g3, .ref sp, rfl, pen6, by omega, .inl ⟨sp, _, rfl, nsp, hsp6, by rw [List.length_map]; exact hne, by rw [List.length_map]; omega, fun v n7 g7 H7 hv hn7 off7 pen7 => ?_⟩⟩
    obtain ⟨r, hr, rfl⟩ := List.mem_map.mp hv
    obtain ⟨j, hj⟩ := List.mem_iff_getElem?.mp hr
    obtain ⟨⟨z, lo, hi⟩, he, hre⟩ := L2.paired_get hrs6 hj
    have hre6 : H6 r = some (.tup [.str z, .int lo, .int hi]) := hre
    have hre7 := off7 _ _ (ne_of hre6 pen6.pen (fun y => nomatch y)) hre6
    obtain ⟨b0, b1, b2, ns, hns, hlo, hlast, hmax⟩ := span_life dr (List.mem_of_getElem? he)
    have hord : (z, ns) ∈ ordL L := (ordL_perm L).mem_iff.mpr hns
    obtain ⟨hznm, hzl, _⟩ := ok.ns z ns hord
    have ls7 : LsAt CL H7 st (ordL L) := by
      obtain ⟨dx, b, kvb, g1, g2, g3⟩ := ls6
      refine ⟨dx, b, kvb, off7 _ _ (ne_of g1 pen6.pen (fun y => nomatch y)) g1, off7 _ _ (ne_of g2 pen6.pen (fun y => nomatch y)) g2, L2.Paired.mapP g3 fun kv q e => ?_⟩
      obtain ⟨e0, t, e1, e2⟩ := e
      exact ⟨e0, t, e1, off7 _ _ (ne_of e2 pen6.pen (fun y => nomatch y)) e2⟩
    have t7 := tabs_off pen6.pen (fun _ z => nomatch z) (fun _ _ z => nomatch z) t6 off7
    refine ⟨r, _, rfl, SqT.of hre7, rfl, _, _, rfl, _, _, rfl, _, _, rfl, rfl, ?_⟩
    -- a moment of it
    refine ⟨_, rfl, _, rfl, _, rfl, _, rfl, _, _, rfl, rfl, _, _, rfl, rfl, p, l, cc, n7, g7, _, rfl, pen7, by omega, by omega, Nat.lt_of_le_of_lt (show _ ≤ 1000000000000000000000000000001 by omega) (by decide), fun d n8 g8 H8 hd0 hd1 hn8 off8 pen8 => ⟨_, _, rfl, rfl, ?_⟩⟩
    have t8 := tabs_off pen7.pen (fun _ z => nomatch z) (fun _ _ z => nomatch z) t7 off8
    have ls8 : LsAt CL H8 st (ordL L) := by
      obtain ⟨dx, b, kvb, g1, g2, g3⟩ := ls7
      refine ⟨dx, b, kvb, off8 _ _ (ne_of g1 pen7.pen (fun y => nomatch y)) g1, off8 _ _ (ne_of g2 pen7.pen (fun y => nomatch y)) g2, L2.Paired.mapP g3 fun kv q e => ?_⟩
      obtain ⟨e0, t, e1, e2⟩ := e
      exact ⟨e0, t, e1, off8 _ _ (ne_of e2 pen7.pen (fun y => nomatch y)) e2⟩
    -- some turns
    refine ⟨_, rfl, _, rfl, _, rfl, _, _, rfl, rfl, .inl ⟨_, rfl, _, rfl, .inl ⟨_, rfl, _, _, rfl, _, rfl, by show 5 ≤ sizeLine; omega, fun so hso => ?_⟩⟩⟩
    obtain ⟨mn, hmn1, hmn2, hmn⟩ : ∃ mn, lo ≤ mn ∧ mn ≤ hi ∧ (if hi < lo + 1 then hi else lo + 1) = mn := ⟨_, by split <;> omega, by split <;> omega, rfl⟩
    rw [hmn]
    have s9 := same_upd0 (o := .lst [V.non, .int lo, .int hi, .int mn, .int (lo + d)]) hso
    have hso9 : upd H8 so (.lst [V.non, .int lo, .int hi, .int mn, .int (lo + d)]) so = some (.lst [V.non, .int lo, .int hi, .int mn, .int (lo + d)]) := upd_same
    have pen9 := pen8.sm s9
    have t9 := t8.ext s9
    have ls9 := ls8.same s9
    have nso := pen8.nw hso
    generalize upd H8 so (.lst [V.non, .int lo, .int hi, .int mn, .int (lo + d)]) = H9 at s9 hso9 pen9 t9 ls9 ⊢
    clear s9 hso
    have turns : ∀ v ∈ [V.non, .int lo, .int hi, .int mn, .int (lo + d)], TurnIn lo hi v := fun v hv => by
      simp only [List.mem_cons, List.not_mem_nil, or_false] at hv
      rcases hv with rfl | rfl | rfl | rfl | rfl
      · exact .inl rfl
      · exact .inr ⟨_, rfl, Int.le_refl _, b1⟩
      · exact .inr ⟨_, rfl, b1, Int.le_refl _⟩
      · exact .inr ⟨_, rfl, hmn1, hmn2⟩
      · exact .inr ⟨_, rfl, by omega, by omega⟩
    have turnOk : ∀ v, TurnIn lo hi v → TurnOk (ordL L) (z, lo) v := fun v hv => by
      rcases hv with rfl | ⟨k, rfl, h1, h2⟩
      · exact .inl rfl
      · exact .inr ⟨k, ns, rfl, decide_eq_true ⟨by omega, by omega⟩, hord, hlo, h1, hmax k h1 h2⟩
    have life : ∀ m, lo ≤ m → m ≤ hi → LifeAt (ordL L) z m lo := fun m h1 h2 => ⟨decide_eq_true ⟨by omega, by omega⟩, ns, hord, hlo, h1, hmax m h1 h2⟩
    -- the turn, the moment asked
    refine ⟨_, rfl, _, rfl, p, l, cc, n8, g8, .ref so, rfl, pen9, by omega, .inl ⟨so, _, rfl, nso, hso9, by show 0 < 5; decide, by show 5 ≤ 1000; decide, fun tv n10 g10 H10 htv hn10 off10 pen10 => ?_⟩⟩
    have htv := turns tv htv
    refine ⟨_, rfl, _, rfl, _, rfl, _, rfl, by show 3 ≤ sizeLine; omega, fun qb hqb => ?_⟩
    have s11 := same_upd0 (o := .lst [V.int lo, .int hi, .int (lo + d)]) hqb
    refine ⟨p, l, cc, n10, g10, .ref qb, rfl, pen10.sm s11, by omega, .inl ⟨qb, _, rfl, pen10.nw hqb, upd_same, by show 0 < 3; decide, by show 3 ≤ 1000; decide, fun ta n12 g12 H12 hta hn12 off12 pen12 => ?_⟩⟩
    obtain ⟨tick, rfl, c1, c2⟩ : ∃ tick, ta = .int tick ∧ lo ≤ tick ∧ tick ≤ hi := by
      have hta : ta ∈ [V.int lo, .int hi, .int (lo + d)] := hta
      simp only [List.mem_cons, List.not_mem_nil, or_false] at hta
      rcases hta with rfl | rfl | rfl
      · exact ⟨_, rfl, Int.le_refl _, b1⟩
      · exact ⟨_, rfl, b1, Int.le_refl _⟩
      · exact ⟨_, rfl, by omega, by omega⟩
    refine ⟨by show 2 ≤ sizeLine; omega, fun tt htt => ⟨tt, _, rfl, SqT.of upd_same, rfl, _, _, rfl, _, _, rfl, rfl, ?_⟩⟩
    have nd := ok.nd
    have lk : (ordL L).lookup z = some ns := lookup_mem nd hord
    have hzok := name_strOk hznm
    have t10 : Tabs T H10 := tabs_off pen9.pen (fun _ z => nomatch z) (fun _ _ z => nomatch z) t9 off10
    have ls10 := ls9.offp pen9 off10
    have hso10 := off10 _ _ nso hso9
    have pen11 := pen10.sm s11
    have t12 : Tabs T H12 := tabs_off pen11.pen (fun _ z => nomatch z) (fun _ _ z => nomatch z) (t10.ext s11) off12
    have ls12 := (ls10.same s11).offp pen11 off12
    have hso12 := off12 _ _ nso (s11 _ _ hso10)
    have s13 := same_upd0 (o := .tup [tv, .int tick]) htt
    have t13 := t12.ext s13
    have ls13 := ls12.same s13
    have hso13 := s13 _ _ hso12
    have pen13 := pen12.sm s13
    generalize upd H12 tt (.tup [tv, .int tick]) = H13 at t13 ls13 hso13 pen13 ⊢
    clear s13 htt ls12 hso12 t12 off12 s11 hqb ls10 hso10 t10 off10 pen11 pen12 pen10 ls9 t9 pen9 hso9 ls8 t8 pen8 off8 ls7 t7 pen7 off7 hre7 hre6 hre hrs6 hsp6 t6 pen6 ls6 hta hmn
    obtain ⟨T3, gt⟩ : ∃ T3, ∀ H', Gv H' tv T3 := by
      rcases htv with rfl | ⟨k, rfl, _⟩
      · exact ⟨_, fun _ => .non⟩
      · exact ⟨_, fun _ => .int k⟩
    have noTool : ∀ {Z : Prop}, fB (fun z => (ordL L).lookup z) (.str z) = none → Z := fun e => by
      rw [show fB (fun z => (ordL L).lookup z) (.str z) = (ordL L).lookup z from rfl, lk] at e
      cases e
    have beg1 : ∀ {i b : Int}, LifeAt (ordL L) z i b → lo ≤ i → i ≤ hi → b = lo := fun h h1 h2 => h.one ok lk hlo h1 (hmax _ h1 h2)
    have hgt : gMom (.int tick) = true := (life tick c1 c2).1
    -- what a call of turn_sayings with the life's turn tells
    have ts : ∀ {G : Hp} {Q : VK} {E : XK}, LsAt CL G st (ordL L) → (∀ G' y, Same G G' → SysAt CY G' y z (dueS lo hi tv) → Q (.ref y) G') → spTS CM CO CU CY CL [.ref st, .str z, .int tick, tv] G Q E := fun hl k => by
      refine ⟨st, .str z, .int tick, tv, "str", "int", T3, ordL L, rfl, hl, ok, .str z hzl, .int tick, gt _, fun z' i b ns' r' e1 e2 hl' hm' ht' hlast' G' y s hy => ?_, fun e => noTool e, fun ns' e1 e2 => ?_, fun z' i b e1 e2 hl' hno => ?_⟩
      · cases e1
        cases e2
        obtain rfl : ns' = ns := Option.some.inj ((lookup_mem nd hm').symm.trans lk)
        have hb := beg1 hl' c1 c2
        rw [hb] at hy hlast'
        rw [due_last htv hlast hlast'] at hy
        exact k G' y s hy
      · rw [hgt] at e2
        cases e2
      · cases e1
        cases e2
        rw [beg1 hl' c1 c2] at hno
        exact absurd (turnOk tv htv) hno
    refine ⟨_, rfl, _, rfl, _, rfl, _, rfl, ?_⟩
    dsimp only [tNil, List.append_nil, List.cons_append, List.nil_append]
    refine ts ls13 fun H14 y s14 hy => ?_
    obtain ⟨as, hya, hpr⟩ := id hy
    have hdi := due_in b1 htv
    obtain ⟨hdl, hdl1⟩ := due_len lo hi tv
    have hal : as.length = (dueS lo hi tv).length := Paired.length hpr
    refine ⟨fun σ' G => σ' = [some (.ref a0), some (.ref p), some (.int (0 + (i : Nat))), some (.ref sp), some (.ref bg), some (.int lo), some (.int hi), some (.int (lo + d)), some (.ref so), some tv, some (.ref y), x11, x12, x13, x14, x15, x16, some (.ref st), some (.int tick), some (.str z), none] ∧ Same H14 G, ?_, ?_⟩
    case refine_1 =>
      refine ⟨_, rfl, _, _, _, _, _, rfl, .ty "tuple", .base (.tup hya), (Gv.tup hya).kitT, _, rfl, iteF ?_⟩
      refine ⟨_, rfl, y, rfl, ⟨_, SqT.of hya⟩, fun D hD => ?_⟩
      refine lc_tup (K := K) (a := y) (xs := as.map V.ref) (fun i H' => Same H14 H' ∧ H' D = some (.lst ((((dueS lo hi tv).take i).map (sayW z)).map V.str))) ⟨Same.over (Same.refl H14) hD, upd_same⟩ (fun _ _ _ h => SqT.of (h.1 _ _ hya)) ?_ ?_
      · rintro j x G hx ⟨sG, hDG⟩
        rw [List.getElem?_map] at hx
        obtain ⟨a, ha, rfl⟩ : ∃ a, as[j]? = some a ∧ x = .ref a := by
          cases e : as[j]? with
          | none => rw [e] at hx; cases hx
          | some t => rw [e] at hx; exact ⟨t, rfl, (Option.some.inj hx).symm⟩
        obtain ⟨⟨m, bb⟩, he, hA⟩ := L2.paired_get hpr ha
        have hA : At CY H14 a z m bb := hA
        have hmi := hdi _ (List.mem_of_getElem? he)
        obtain ⟨dxa, hAa⟩ := id (hA.same sG)
        refine ⟨rfl, _, rfl, a, dxa, _, rfl, hAa, a, z, m, bb, rfl, hA.same sG, hzl, by have : lo ≤ m := hmi.1; omega, by have : m ≤ hi := hmi.2; omega, fun G2 s2 => ⟨_, rfl, _, s2 _ _ hDG, ?_, Same.over (sG.trans s2) hD, ?_⟩⟩
        · rw [List.length_map, List.length_map, List.length_take]
          omega
        · rw [upd_same, List.take_add_one, he, say_join, List.map_append, List.map_append]
          rfl
      rintro H15 ⟨s15, hD15⟩
      rw [List.length_map, hal, List.take_length] at hD15
      refine ⟨_, rfl, _, rfl, _, rfl, _, rfl, z, lo, hi, tv, rfl, hzl, ⟨b0, by omega⟩, ⟨by omega, b2⟩, ?_, fun H16 d16 s16 hd16 => ?_⟩
      · rcases htv with h | ⟨k, h, h1, h2⟩
        · exact .inl h
        · exact .inr ⟨k, h, h1, by omega⟩
      have hsh : SeqAt.shaped (.list (((dueS lo hi tv).map (sayW z)).map PyData.str)) = true := shaped_strs fun w hw => by
        obtain ⟨q', hq', rfl⟩ := List.mem_map.mp hw
        exact asc_ok (say_asc hznm (by have := (hdi _ hq').1; omega))
      have hd16' : H16 d16 = some (.lst (((dueS lo hi tv).map (sayW z)).map V.str)) := by rw [hd16, List.map_map]; rfl
      refine ⟨.list (((dueS lo hi tv).map (sayW z)).map PyData.str), .list (((dueS lo hi tv).map (sayW z)).map PyData.str), .lst (SqL.of (s16 _ _ hD15)) (dp_strs _), .lst (SqL.of hd16') (dp_strs _), hsh, hsh, _, rfl, ?_⟩
      rw [eqv_strL]
      refine iteF ⟨rfl, (s15.trans s16)⟩
    rintro σ' H16 ⟨rfl, s16⟩
    have s1416 := s14.trans s16
    have hy16 : SysAt CY H16 y z (dueS lo hi tv) := ⟨as, s16 _ _ hya, L2.Paired.mapP hpr fun a q h => At.same h s16⟩
    -- asked by keywords
    refine ⟨fun σ' G => σ' = [some (.ref a0), some (.ref p), some (.int (0 + (i : Nat))), some (.ref sp), some (.ref bg), some (.int lo), some (.int hi), some (.int (lo + d)), some (.ref so), some tv, some (.ref y), x11, x12, x13, x14, x15, x16, some (.ref st), some (.int tick), some (.str z), none] ∧ Same H16 G, ?_, ?_⟩
    · refine ⟨_, rfl, _, rfl, _, rfl, _, rfl, rfl, ?_⟩
      dsimp only [tNil, List.append_nil, List.cons_append, List.nil_append, kTS]
      refine ts (ls13.same s1416) fun H17 y2 s17 hy2 => ?_
      obtain ⟨as2, hya2, hpr2⟩ := id hy2
      have hy17 : SysAt CY H17 y z (dueS lo hi tv) := ⟨as, s17 _ _ (s16 _ _ hya), L2.Paired.mapP hpr fun a q h => At.same h (s16.trans s17)⟩
      obtain ⟨as', hya', hpr'⟩ := id hy17
      refine ⟨_, rfl, ⟨y2, y, _, _, rfl, rfl, SqT.of hya2, SqT.of hya', sys_prs hzok hpr2 hpr'⟩, fun H18 e18 => ⟨_, rfl, iteF ⟨rfl, s17.trans e18⟩⟩⟩
    rintro σ' H18 ⟨rfl, s18⟩
    have s1318 : Same H13 H18 := s1416.trans s18
    have hso18 := s1318 _ _ hso13
    have ls18 := ls13.same s1318
    have t18 := t13.ext s1318
    have pen18 := pen13.sm s1318
    have hy18 : SysAt CY H18 y z (dueS lo hi tv) := ⟨as, s18 _ _ (s16 _ _ hya), L2.Paired.mapP hpr fun a q h => At.same h (s16.trans s18)⟩
    clear s1318 s1416 s18 hy16 s16 hpr hya s14 hy hal hso13 ls13 t13 pen13
    -- the turns, one by one
    obtain ⟨as, hya, hpr⟩ := id hy18
    have hal : as.length = (dueS lo hi tv).length := Paired.length hpr
    refine ⟨_, rfl, so, rfl, ⟨_, SqL.of hso18⟩, ?_⟩
    refine for_it walk_list (fun j σ G => ∃ (y11 y12 : Option V), σ = [some (.ref a0), some (.ref p), some (.int (0 + (i : Nat))), some (.ref sp), some (.ref bg), some (.int lo), some (.int hi), some (.int (lo + d)), some (.ref so), some tv, some (.ref y), y11, y12, x13, x14, x15, x16, some (.ref st), some (.int tick), some (.str z), none] ∧ Same H18 G)
      ⟨x11, x12, rfl, Same.refl _⟩ (fun _ _ _ _ ⟨_, _, _, s⟩ => SqL.of (s _ _ hso18)) ?_ ?_
    · rintro j o σ G' G hj ⟨y11, y12, rfl, sG⟩ ⟨rfl, hx⟩
      have hot := turns o (List.mem_of_getElem? hx)
      refine ⟨rfl, _, rfl, st, ordL L, rfl, ls18.same sG, ok, fun G1 h0 s1 hh0 hk0 => ?_⟩
      obtain ⟨dx0, d0', lv0, h01, _⟩ := id hh0
      refine ⟨h0, dx0, _, rfl, h01, rfl, _, rfl, _, rfl, _, rfl, h0, z, lo, lo, o, ordL L, _, rfl, hh0, ok, hk0, life lo (Int.le_refl _) b1, turnOk o hot, fun G2 h s2 hh hk => ?_⟩
      have sG2 := (sG.trans s1).trans s2
      obtain ⟨dxh, dh, lvh, hh1, _⟩ := id hh
      have hmem : ((z, lo), o) ∈ putE ((lvs (ordL L)).map fun e => (e, V.non)) (z, lo) o := putE_mem (by rw [hk0.k]; exact lvs_mem.mpr ⟨ns, hord, hlo⟩)
      refine ⟨_, rfl, y, rfl, ⟨_, SqT.of (sG2 _ _ hya)⟩, fun D hD => ?_⟩
      refine lc_tup (K := K) (a := y) (xs := as.map V.ref) (fun k G' => Same G2 G' ∧ ∃ vs : List V, G' D = some (.lst vs) ∧ vs.length ≤ k ∧ (vs = [] ↔ (((dueS lo hi tv).take k).filter fun q => !decide (sndB o q.1 = q.2)) = [])) ⟨Same.over (Same.refl _) hD, [], upd_same, Nat.zero_le _, by simp⟩ (fun _ _ _ h => SqT.of (h.1 _ _ (sG2 _ _ hya))) ?_ ?_
      · rintro k x G3 hx ⟨s3, vs, hv, hvl, hve⟩
        rw [List.getElem?_map] at hx
        obtain ⟨a, ha, rfl⟩ : ∃ a, as[k]? = some a ∧ x = .ref a := by
          cases e : as[k]? with
          | none => rw [e] at hx; cases hx
          | some t => rw [e] at hx; exact ⟨t, rfl, (Option.some.inj hx).symm⟩
        obtain ⟨⟨m, bb⟩, he, hA⟩ := L2.paired_get hpr ha
        have hA : At CY H18 a z m bb := hA
        have hmi := hdi _ (List.mem_of_getElem? he)
        have hk2 : k < 3 := by
          have := (List.getElem?_eq_some_iff.mp he).1
          omega
        have hss2 := sizeLine_eq
        refine ⟨rfl, _, rfl, h, rfl, _, rfl, .inr ⟨dxh, _, s3 _ _ hh1⟩, h, a, z, m, lo, bb, o, ordL L, _, rfl, hA.same (sG2.trans s3), hh.same s3, ok, hk, life m hmi.1 hmi.2, hmem, fun G4 s4 => ⟨_, rfl, ?_⟩⟩
        have et : (dueS lo hi tv).take (k + 1) = (dueS lo hi tv).take k ++ [(m, bb)] := by rw [List.take_add_one, he]; rfl
        by_cases c : sndB o m = bb
        · rw [decide_eq_true c]
          refine iteF ⟨s3.trans s4, vs, s4 _ _ hv, Nat.le_succ_of_le hvl, ?_⟩
          rw [et, List.filter_append, hve]
          simp [c]
        · rw [decide_eq_false c]
          refine iteT ⟨_, rfl, _, s4 _ _ hv, by omega, Same.over (s3.trans s4) hD, _, upd_same, by rw [List.length_append]; exact Nat.succ_le_succ hvl, ?_⟩
          rw [et, List.filter_append]
          simp [c]
      rintro G3 ⟨s3, vs, hv, hvl, hve⟩
      rw [List.length_map, hal, List.take_length] at hve
      refine ⟨by show 0 ≤ sizeLine; omega, fun e he => ⟨D, e, vs, rfl, rfl, SqL.of (same_upd0 he _ _ hv), SqL.of upd_same, ?_⟩⟩
      have hsc : scal o tv = true := by
        rcases id hot with rfl | ⟨k1, rfl, _⟩ <;> rcases id htv with rfl | ⟨k2, rfl, _⟩ <;> rfl
      refine ⟨_, rfl, _, rfl, hsc, rfl, _, rfl, ?_⟩
      have ee : vs.isEmpty = decide (o = tv) := by
        have h1 := hve.trans (due_all htv hot b1)
        by_cases c : o = tv
        · rw [h1.mpr c, decide_eq_true c]
          rfl
        · rw [decide_eq_false c]
          cases vs with
          | nil => exact absurd (h1.mp rfl) c
          | cons _ _ => rfl
      rw [ee]
      refine ite2 (fun h => absurd h (by simp)) fun _ => ?_
      exact ⟨_, _, rfl, (sG2.trans s3).trans (same_upd0 he)⟩
    rintro σ H19 ⟨y11, y12, rfl, s19⟩
    have pen19 := pen18.sm s19
    have t19 := t18.ext s19
    have ls19 := ls18.same s19
    clear s19 ls18 t18 pen18 hso18 hy18 hpr hya hal
    -- what is wrong: no tool
    refine ⟨_, rfl, _, rfl, by show 1 ≤ sizeLine; omega, fun ql hql => ⟨by show 5 ≤ sizeLine; omega, fun qo hqo => ?_⟩⟩
    have nql : ql ≠ p := pen19.nw hql
    have nqo : qo ≠ p := (pen19.sm (same_upd0 (o := .lst [V.str z]) hql)).nw hqo
    have sq := (same_upd0 (o := .lst [V.str z]) hql).trans (same_upd0 (o := .lst [V.str "zz", .non, .int 3, .ref ql, .str ""]) hqo)
    have hql1 : upd (upd H19 ql (.lst [V.str z])) qo (.lst [V.str "zz", .non, .int 3, .ref ql, .str ""]) ql = some (.lst [.str z]) := same_upd0 hqo _ _ upd_same
    refine ⟨p, l, cc, n12, g12, .ref qo, rfl, pen19.sm sq, by omega, .inl ⟨qo, _, rfl, nqo, upd_same, by show 0 < 5; decide, by show 5 ≤ 1000; decide, fun odd n20 g20 H20 hodd hn20 off20 pen20 => ?_⟩⟩
    have hod : OdV z H20 odd := by
      simp only [List.mem_cons, List.not_mem_nil, or_false] at hodd
      rcases hodd with rfl | rfl | rfl | rfl | rfl
      · exact .inl rfl
      · exact .inr (.inl rfl)
      · exact .inr (.inr (.inl rfl))
      · exact .inr (.inr (.inr (.inl ⟨ql, rfl, off20 _ _ nql hql1⟩)))
      · exact .inr (.inr (.inr (.inr rfl)))
    have t20 := tabs_off (pen19.sm sq).pen (fun _ z => nomatch z) (fun _ _ z => nomatch z) (t19.ext sq) off20
    have ls20 := (ls19.same sq).offp (pen19.sm sq) off20
    clear hodd off20 hql1 sq hqo hql t19 ls19 pen19
    -- no moment
    refine ⟨_, rfl, _, rfl, _, _, rfl, rfl, ⟨by decide, by decide, by decide⟩, _, _, rfl, rfl, by show 5 ≤ sizeLine; omega, fun qb hqb => ?_⟩
    have sb := same_upd0 (o := .lst [V.int (-1), .int (10 ^ 30 + 1), .bl true, .str "0", .non]) hqb
    refine ⟨p, l, cc, n20, g20, .ref qb, rfl, pen20.sm sb, by omega, .inl ⟨qb, [V.int (-1), .int (10 ^ 30 + 1), .bl true, .str "0", .non], rfl, pen20.nw hqb, upd_same, by show 0 < 5; decide, by show 5 ≤ 1000; decide, fun bad n21 g21 H21 hbad hn21 off21 pen21 => ?_⟩⟩
    obtain ⟨hbm, ⟨Tb, gb⟩, db, dpb, okb⟩ := bad_mom hbad
    have t21 := tabs_off (pen20.sm sb).pen (fun _ z => nomatch z) (fun _ _ z => nomatch z) (t20.ext sb) off21
    have ls21 := (ls20.same sb).offp (pen20.sm sb) off21
    have hod21 := (hod.ext (fun b xs e => sb _ _ e)).offp (pen20.sm sb) off21
    clear off21 sb hqb t20 ls20 hod pen20 hbad
    -- no turn
    refine ⟨_, rfl, _, rfl, _, _, rfl, rfl, _, rfl, _, _, rfl, rfl, by show 4 ≤ sizeLine; omega, fun qf hqf => ?_⟩
    have sf := same_upd0 (o := .lst [V.int (lo - 1), .int (hi + 1), .bl true, .str "none"]) hqf
    refine ⟨p, l, cc, n21, g21, .ref qf, rfl, pen21.sm sf, by omega, .inl ⟨qf, [V.int (lo - 1), .int (hi + 1), .bl true, .str "none"], rfl, pen21.nw hqf, upd_same, by show 0 < 4; decide, by show 4 ≤ 1000; decide, fun off n22 g22 H22 hoff hn22 off22 pen22 => ?_⟩⟩
    obtain ⟨Tf, gf⟩ := off_gv hoff
    have hnt := no_turn nd hord hlo hlast hoff
    have t22 := tabs_off (pen21.sm sf).pen (fun _ z => nomatch z) (fun _ _ z => nomatch z) (t21.ext sf) off22
    have ls22 := (ls21.same sf).offp (pen21.sm sf) off22
    have hod22 := (hod21.ext (fun b xs e => sf _ _ e)).offp (pen21.sm sf) off22
    clear off22 sf hqf t21 ls21 hod21 pen21 hoff
    have tit : ∀ w, w ∉ titles → (ordL L).lookup w = none := fun w hw => by
      cases e : (ordL L).lookup w with
      | none => rfl
      | some ns' =>
        have h1 : (w, ns') ∈ L := (ordL_perm L).mem_iff.mp (lookup_in e)
        have h2 : w ∈ L.map (·.1) := List.mem_map_of_mem (f := (·.1)) h1
        rw [dr.1] at h2
        exact absurd (List.mem_of_mem_take h2) hw
    have hno : fB (fun z => (ordL L).lookup z) odd = none := hod22.no (tit _ (by decide +kernel)) (tit _ (by decide +kernel))
    have noOdd : ∀ {Z : Prop} {w : Str} {ns' : List Int}, odd = .str w → (w, ns') ∈ ordL L → Z := fun e hm' => by
      subst e
      have h1 : (ordL L).lookup _ = none := hno
      rw [lookup_mem nd hm'] at h1
      cases h1
    -- the first
    refine ⟨t22, fun H23 x23 t23 => ?_⟩
    obtain ⟨To, gto⟩ := (hod22.extN x23).gv
    refine ⟨_, rfl, _, rfl, _, rfl, _, rfl, st, odd, bad, off, To, Tb, Tf, ordL L, rfl, ls22.extN x23, ok, gto, gb _, gf _, fun z' i' b ns' r' e1 e2 hl' hm' _ _ => noOdd e1 hm', fun _ d' H24 s24 hd' => ⟨"no", CO, "tool", odd, d', .inl ⟨rfl, rfl, rfl⟩, rfl, rfl, hd', fun H25 r1 s25 hr1 => ?_⟩, fun ns' e1 => (by rw [hno] at e1; cases e1), fun z' i' b e1 e2 hl' => (by obtain ⟨_, ns', hm', _⟩ := hl'; exact noOdd e1 hm')⟩
    have x25 := x23.trans (extN_of (s24.trans s25))
    have t25 := t23.ext (s24.trans s25)
    refine ⟨by show 1 ≤ sizeLine; omega, fun q1 hq1 => ?_⟩
    have s26 := same_upd0 (o := .lst [.ref r1]) hq1
    have h26 : (upd H25 q1 (.lst [.ref r1])) q1 = some (.lst [.ref r1]) := upd_same
    have x26 := x25.trans (extN_of s26)
    have t26 := t25.ext s26
    have r1a := s26 _ _ hr1
    generalize upd H25 q1 (.lst [.ref r1]) = H26 at s26 h26 x26 t26 r1a ⊢
    -- the second
    refine ⟨_, rfl, .inl ⟨rfl, _, SqL.of h26⟩, t26, fun H27 x27 t27 => ?_⟩
    refine ⟨_, rfl, _, rfl, _, rfl, _, rfl, st, .str z, bad, off, "str", Tb, Tf, ordL L, rfl, ls22.extN (x26.trans x27), ok, .str z hzl, gb _, gf _, fun z' i' b ns' r' e1 e2 hl' hm' _ _ => (by have := hl'.1; rw [← e2, hbm] at this; cases this), fun e => noTool e, fun ns' e1 e2 d' H28 s28 hd' => ⟨"moment", CM, "moment", bad, d', .inr (.inl ⟨rfl, rfl, rfl⟩), rfl, rfl, hd', fun H29 r2 s29 hr2 => ?_⟩, fun z' i' b e1 e2 hl' => (by have := hl'.1; rw [← e2, hbm] at this; cases this)⟩
    have s2829 := s28.trans s29
    have h29 := s2829 _ _ (x27 _ _ h26 (fun _ z => nomatch z))
    have r1b := s2829 _ _ (x27 _ _ r1a (fun _ z => nomatch z))
    have t29 := t27.ext s2829
    refine ⟨q1, _, _, rfl, rfl, h29, by show 1 < sizeLine; omega, ?_⟩
    have o30 : Off q1 H29 (upd H29 q1 (.lst ([.ref r1] ++ [.ref r2]))) := Off.upd Off.refl
    have h30 : (upd H29 q1 (.lst ([.ref r1] ++ [.ref r2]))) q1 = some (.lst [.ref r1, .ref r2]) := upd_same
    generalize upd H29 q1 (.lst ([.ref r1] ++ [.ref r2])) = H30 at o30 h30 ⊢
    have y30 : ExtN H25 H30 := fun b o e n => o30 _ _ (ne_of_none e hq1) (s2829 _ _ (x27 _ _ (s26 _ _ e) n))
    have x30 := x25.trans y30
    have r1c := y30 _ _ hr1 (fun _ z => nomatch z)
    have r2c := o30 _ _ (ne_of hr2 h29 (fun z => nomatch z)) hr2
    have t30 := tabs_off h29 (fun _ z => nomatch z) (fun _ _ z => nomatch z) t29 o30
    clear o30 t29 r1b h29 s2829 s29 s28 t27 r1a t26 x26 h26 s26 t25 x27
    -- the third
    refine ⟨_, rfl, .inl ⟨rfl, _, SqL.of h30⟩, t30, fun H31 x31 t31 => ?_⟩
    refine ⟨_, rfl, _, rfl, _, rfl, _, rfl, st, .str z, .int tick, off, "str", "int", Tf, ordL L, rfl, ls22.extN (x30.trans x31), ok, .str z hzl, .int tick, gf _, fun z' i' b ns' r' e1 e2 hl' hm' ht' _ => ?_, fun e => noTool e, fun ns' e1 e2 => (by rw [hgt] at e2; cases e2), fun z' i' b e1 e2 hl' _ d' j' H32 s32 hd' hj' => ⟨"turn", CU, "at", .ref j', d', .inr (.inr ⟨rfl, rfl, rfl⟩), rfl, rfl, hd', fun H33 r3 s33 hr3 => ?_⟩⟩
    · cases e1
      cases e2
      rw [beg1 hl' c1 c2] at ht'
      exact absurd ht' hnt
    cases e1
    cases e2
    rw [beg1 hl' c1 c2] at hj'
    have s3233 := s32.trans s33
    have h33 := s3233 _ _ (x31 _ _ h30 (fun _ z => nomatch z))
    have r1d := s3233 _ _ (x31 _ _ r1c (fun _ z => nomatch z))
    have r2d := s3233 _ _ (x31 _ _ r2c (fun _ z => nomatch z))
    have j33 : H33 j' = some (.tup [.str z, .int lo]) := s33 _ _ hj'
    have t33 := t31.ext s3233
    have x33 := (x30.trans x31).trans (extN_of s3233)
    refine ⟨q1, _, _, rfl, rfl, h33, by show 2 < sizeLine; omega, ?_⟩
    have nq1 : ∀ {b : Addr} {xs : List V}, H33 b = some (.tup xs) → (upd H33 q1 (.lst ([.ref r1, .ref r2] ++ [.ref r3]))) b = some (.tup xs) := fun e => (upd_ne (ne_of e h33 (fun z => nomatch z))).trans e
    have r1e := nq1 r1d
    have r2e := nq1 r2d
    have r3e := nq1 hr3
    have j34 := nq1 j33
    have h34 : (upd H33 q1 (.lst ([.ref r1, .ref r2] ++ [.ref r3]))) q1 = some (.lst [.ref r1, .ref r2, .ref r3]) := upd_same
    have t34 : Tabs T (upd H33 q1 (.lst ([.ref r1, .ref r2] ++ [.ref r3]))) := tabs_off h33 (fun _ z => nomatch z) (fun _ _ z => nomatch z) t33 off_upd
    have y34 : ExtN H25 (upd H33 q1 (.lst ([.ref r1, .ref r2] ++ [.ref r3]))) := fun b o e n => (upd_ne (ne_of_none e hq1)).trans (s3233 _ _ (x31 _ _ (y30 _ _ e n) n))
    have x34 := x25.trans y34
    generalize upd H33 q1 (.lst ([.ref r1, .ref r2] ++ [.ref r3])) = H34 at r1e r2e r3e j34 h34 t34 y34 x34 ⊢
    have pen34 : Pen H34 p l cc n22 g22 := ⟨x34 _ _ pen22.pen (fun _ z => nomatch z), x34 _ _ pen22.cells (fun _ z => nomatch z), pen22.left⟩
    have hzc := name_small hznm
    have hz8 := name_len hznm
    obtain ⟨dO, okO, dpO⟩ := (hod22.extN x34).dat (K := K) hzc (by omega)
    have hlo250 : lo.natAbs < 2 ^ 250 := by
      have : lo.natAbs < 2 ^ 100 := by omega
      exact Nat.lt_of_lt_of_le this (by decide)
    have okZ : OkD 4100 2 (.tuple [.str z, .int lo]) := (okPair hzc (by omega) (OkD.int (i := lo) hlo250) (Nat.le_refl _)).mono (by decide) (by decide)
    have ok1 := okPair (wd := "no") (by decide +kernel) (by decide +kernel) okO (by decide)
    have ok2 := okPair (wd := "moment") (by decide +kernel) (by decide +kernel) okb (by decide)
    have ok3 := okPair (wd := "turn") (by decide +kernel) (by decide +kernel) okZ (by decide)
    have okL : OkD (8207 * 3 + 2 * 3 + 3) 6 (.list [.tuple [.str "no", dO], .tuple [.str "moment", db], .tuple [.str "turn", .tuple [.str z, .int lo]]]) := by
      refine OkD.list (n := 8207) (m := 4) (ds := [.tuple [.str "no", dO], .tuple [.str "moment", db], .tuple [.str "turn", .tuple [.str z, .int lo]]]) fun x hx => ?_
      rcases List.mem_cons.mp hx with rfl | hx
      · exact ok1
      rcases List.mem_cons.mp hx with rfl | hx
      · exact ok2
      rw [List.mem_singleton.mp hx]
      exact ok3
    obtain ⟨dd, k1', k2', k3', dp1, dpf⟩ : ∃ dd : PyData, dd.showable = true ∧ dd.depth ≤ 60 ∧ dd.shown.length ≤ sizeLine ∧ Dp K H34 (.ref q1) dd ∧ ∀ (G : Hp) (u1 u2 u3 u4 u5 : Addr), Same H34 G → G u1 = some (.tup [V.str "no", odd]) → G u2 = some (.tup [V.str "moment", bad]) → G u3 = some (.tup [V.str z, .int lo]) → G u4 = some (.tup [V.str "turn", .ref u3]) → G u5 = some (.lst [.ref u1, .ref u2, .ref u4]) → Dp K G (.ref u5) dd := by
      obtain ⟨k1', k2', k3'⟩ := okL.repr (by decide) (by decide)
      refine ⟨_, k1', k2', k3', ?_, fun G u1 u2 u3 u4 u5 sv w1 w2 w3 w4 w5 => ?_⟩
      · exact .lst (SqL.of h34) (.cons (.tup (SqT.of r1e) (.cons (.str _) (.cons (dpO _ (Same.refl _)) .nil))) (.cons (.tup (SqT.of r2e) (.cons (.str _) (.cons (dpb K _) .nil))) (.cons (.tup (SqT.of r3e) (.cons (.str _) (.cons (.tup (SqT.of j34) (.cons (.str _) (.cons (.int _) .nil))) .nil))) .nil)))
      · exact .lst (SqL.of w5) (.cons (.tup (SqT.of w1) (.cons (.str _) (.cons (dpO _ sv) .nil))) (.cons (.tup (SqT.of w2) (.cons (.str _) (.cons (dpb K _) .nil))) (.cons (.tup (SqT.of w4) (.cons (.str _) (.cons (.tup (SqT.of w3) (.cons (.str _) (.cons (.int _) .nil))) .nil))) .nil)))
    clear okL ok1 ok2 ok3 okZ
    refine ⟨fun σ' G => σ' = [some (.ref a0), some (.ref p), some (.int (0 + (i : Nat))), some (.ref sp), some (.ref bg), some (.int lo), some (.int hi), some (.int (lo + d)), some (.ref so), some tv, some (.ref y), y11, y12, some (.ref q1), some bad, some odd, some off, some (.ref st), some (.int tick), some (.str z), none] ∧ Same H34 G, ?_, ?_⟩
    · refine ⟨_, rfl, .ref q1, dd, rfl, dp1, k1', k2', k3', ?_⟩
      refine ⟨_, rfl, by show 2 ≤ sizeLine; omega, fun u1 hu1 => ⟨_, rfl, by show 2 ≤ sizeLine; omega, fun u2 hu2 => ⟨_, rfl, _, rfl, by show 2 ≤ sizeLine; omega, fun u3 hu3 => ⟨by show 2 ≤ sizeLine; omega, fun u4 hu4 => ⟨by show 3 ≤ sizeLine; omega, fun u5 hu5 => ?_⟩⟩⟩⟩⟩
      have v1 := same_upd0 (o := .tup [V.str "no", odd]) hu1
      have v2 := same_upd0 (o := .tup [V.str "moment", bad]) hu2
      have v3 := same_upd0 (o := .tup [V.str z, .int lo]) hu3
      have v4 := same_upd0 (o := .tup [V.str "turn", .ref u3]) hu4
      have v5 := same_upd0 (o := .lst [.ref u1, .ref u2, .ref u4]) hu5
      have w1 := v5 _ _ (v4 _ _ (v3 _ _ (v2 _ _ (upd_same (H := H34) (a := u1) (o := .tup [V.str "no", odd])))))
      have w2 := v5 _ _ (v4 _ _ (v3 _ _ (upd_same (H := upd H34 u1 (.tup [V.str "no", odd])) (a := u2) (o := .tup [V.str "moment", bad]))))
      have w3 := v5 _ _ (v4 _ _ (upd_same (H := upd (upd H34 u1 (.tup [V.str "no", odd])) u2 (.tup [V.str "moment", bad])) (a := u3) (o := .tup [V.str z, .int lo])))
      have w4 := v5 _ _ (upd_same (H := upd (upd (upd H34 u1 (.tup [V.str "no", odd])) u2 (.tup [V.str "moment", bad])) u3 (.tup [V.str z, .int lo])) (a := u4) (o := .tup [V.str "turn", .ref u3]))
      have w5 := upd_same (H := upd (upd (upd (upd H34 u1 (.tup [V.str "no", odd])) u2 (.tup [V.str "moment", bad])) u3 (.tup [V.str z, .int lo])) u4 (.tup [V.str "turn", .ref u3])) (a := u5) (o := .lst [.ref u1, .ref u2, .ref u4])
      have sv := (((v1.trans v2).trans v3).trans v4).trans v5
      clear v1 v2 v3 v4 v5 hu1 hu2 hu3 hu4 hu5
      revert w1 w2 w3 w4 w5 sv
      generalize upd (upd (upd (upd (upd H34 u1 (.tup [V.str "no", odd])) u2 (.tup [V.str "moment", bad])) u3 (.tup [V.str z, .int lo])) u4 (.tup [V.str "turn", .ref u3])) u5 (.lst [.ref u1, .ref u2, .ref u4]) = G
      intro w1 w2 w3 w4 w5 sv
      refine ⟨.ref u5, dd, rfl, dpf _ u1 u2 u3 u4 u5 sv w1 w2 w3 w4 w5, k1', k2', k3', rfl, _, rfl, ?_⟩
      refine ite2 (fun h => absurd h (by simp)) fun _ => ⟨rfl, sv⟩
    rintro σ' H35 ⟨rfl, s35⟩
    exact ⟨_, _, _, _, _, _, _, _, _, _, _, _, _, _, _, _, _, _, n22, g22, rfl, pen34.sm s35, by omega, t34.ext s35⟩
end
end K49

namespace K49
open PySem PySem.Spec PyProof.Rows L2 So LamX
def strOf? : Value → Option Str
  | .str x _ => some x
  | _ => none
theorem vals_strs : ∀ {ss : List Str} {us : List Value}, us.map strOf? = ss.map some → Vals (ss.map V.str) us
  | [], [], _ => .nil
  | [], _ :: _, h => by simp at h
  | _ :: _, [], h => by simp at h
  | x :: ss, u :: us, h => by
    simp only [List.map_cons, List.cons.injEq] at h
    refine .cons ?_ (vals_strs h.2)
    cases u <;> simp [strOf?] at h
    rename_i y t
    exact ⟨t, by rw [h.1]⟩
theorem tab_seq {K : PySem.W.Frag} {a : Addr} {od : Option Addr} {its : Array Value} {n : Nat} {sl : Array (Option Value)} {ss : List Str} (l : K.lookup a = some ⟨.type "tuple", od, .seq its n, sl⟩) (v : its.toList.map strOf? = ss.map some) (hz : ss.length ≤ 1000) (H : Hp) : SqT K H a (ss.map V.str) := by
  have hv := vals_strs v
  refine .inr ⟨_, its, n, l, rfl, rfl, ?_, hv⟩
  have := hv.length
  rw [List.length_map] at this
  rw [← Array.length_toList, ← this]
  exact Nat.le_trans hz (by decide)
section
variable {K : PySem.W.Frag}
theorem exm_own {D S : Addr} (h2 : PySem.W.isClsIn K S = true) (h3 : PySem.W.typeIn K (.ref S) = some (.type "type")) (h1 : PySem.W.subIn K (.ref S) (.type "BaseException") = some true) (h4 : PySem.W.subIn K (.ref D) (.ref S) = some true) (_ : PySem.W.subIn K (.ref S) (.ref S) = some true) : PySem.W.exmOne K (.ref D) (.ref S) = some true := by
  unfold PySem.W.exmOne PySem.W.kitCls
  unfold PySem.W.isClsIn at h2
  simp [h1, h2, h3, h4]
theorem tab_by {x : Str} {f c P : Addr} {o1 u1 : Value} {o2 u2 : Option Addr} {o3 u3 : Array (Option Value)} {fd : FuncData} {vs : Array Value} (a : PySem.W.nsIn K mainGlobals x = some (some (.ref f))) (l : K.lookup f = some ⟨o1, o2, .func fd, o3⟩) (hc : fd.code = .ref c)
    (lc : K.lookup c = some ⟨u1, u2, .fields vs, u3⟩) (hv : (vs[11]? : Option Value) = some (.ref P)) : PySem.W.tabIn K x = some (c, P) := by
  unfold PySem.W.tabIn
  rw [a]
  simp only [l, hc, lc, hv]
theorem kit_VE {D : Addr} (h : PySem.W.subIn K (.ref D) (.type "ValueError") = some true) : PySem.W.kitOne K (.ref D) (.type "ValueError") = some true := by
  unfold PySem.W.kitOne PySem.W.kitCls
  have e : PySem.W.kitMeta "ValueError" = true := by decide +kernel
  simp [h, e]
theorem kit_own {D C : Addr} {b : Bool} (hc : PySem.W.isClsIn K C = true) (ht : PySem.W.typeIn K (.ref C) = some (.type "type")) (hs : PySem.W.subIn K (.ref D) (.ref C) = some b) (self : PySem.W.subIn K (.ref C) (.ref C) = some true) : PySem.W.kitOne K (.ref D) (.ref C) = some b := by
  by_cases e : D = C
  · subst e
    rw [self] at hs
    rw [kit_self, hs]
  · unfold PySem.W.kitOne PySem.W.kitCls
    unfold PySem.W.isClsIn at hc
    simp [hc, ht, hs, e]
end
def TT (P0 : Addr) : List (Addr × Str) := [(P0, (envOfC "law" (defScope sLaw) 0 0 .none).qual ++ "<lambda>")]
theorem TT_in0 {P0 : Addr} : ∀ n f' c', (P0, (envOfC "law" (defScope sLaw) n f' c').qual ++ "<lambda>") ∈ TT P0 := fun _ _ _ => List.mem_cons_self
theorem TT_un0 {P0 : Addr}  : ∀ n f' c', ∀ q ∈ TT P0, q.1 = P0 → q.2 = (envOfC "law" (defScope sLaw) n f' c').qual ++ "<lambda>" := by
  intro n f' c' q hq h
  unfold TT at hq
  simp only [List.mem_cons, List.not_mem_nil, or_false] at hq
  subst hq
  · rfl
theorem kb_ts {K : PySem.W.Frag} {fd : FuncData} (h : ∀ (s : Shared) (a b c d : Value), BindsTo s fd ⟨[], [("lives", a), ("moment", b), ("turn", c), ("tool", d)]⟩ [("lives", a), ("tool", d), ("moment", b), ("turn", c)]) : KBn K fd ["lives", "tool", "moment", "turn"] 0 ["lives", "moment", "turn", "tool"] kTS kTS := by
  refine ⟨fun s us ws _ h1 h2 => ?_, fun {vs us zs ws} r rz => ?_⟩
  · match us, h1, ws, h2 with
    | [], _, [a, b, c, d], _ => exact h s a b c d
  · cases r with
    | cons _ _ => exact .nil
    | nil =>
      cases rz with
      | nil => exact .nil
      | cons r1 rz =>
        cases rz with
        | nil => exact .nil
        | cons r2 rz =>
          cases rz with
          | nil => exact .nil
          | cons r3 rz =>
            cases rz with
            | nil => exact .nil
            | cons r4 rz =>
              cases rz with
              | nil => exact .cons r1 (.cons r4 (.cons r2 (.cons r3 .nil)))
              | cons _ _ => exact .nil
theorem all_mk {l : PySem.W.OpenLaw} {w : World} {K : PySem.W.Frag} {h : Heap} {mg : Str → Option Value} {fa fpen fdraw fpick fspans fheard fdue flaw c_law P_law fwhole fmoment fisname fcheck fwithf fisturn fwordof fts CY fsinit fsstr fseq pspt fspt CV fvinit fvbeg fvlife fvlast fvcont fvlen pvli fvli CH fhinit phalw fhalw phtu fhtu fhturn fhitem fhmk fhcall fhwt aNo CT CN feN CM feM CS feS CO feO CL feL CU feU : Addr} (X : K.In h) (G : h.Ns mainGlobals mg) (hfa : mg "law" = some (.ref fa))
    {odpen anpen oddraw andraw odpick anpick odspans anspans odheard anheard oddue andue odlaw anlaw odwhole anwhole odmoment anmoment odisname anisname odcheck ancheck odwithf anwithf odisturn anisturn odwordof anwordof odts ants odsinit ansinit odsstr ansstr odseq anseq odspt anspt odvinit anvinit odvbeg anvbeg odvlife anvlife odvlast anvlast odvcont anvcont odvlen anvlen odvli anvli odhinit anhinit odhalw anhalw odhtu anhtu odhturn anhturn odhitem anhitem odhmk anhmk odhcall anhcall odhwt anhwt odN odeN aneN odeM aneM odeS aneS odeO aneO odeL aneL odeU aneU odclaw : Option Addr} {slpen sldraw slpick slspans slheard sldue sllaw slwhole slmoment slisname slcheck slwithf slisturn slwordof slts slsinit slsstr slseq slspt slvinit slvbeg slvlife slvlast slvcont slvlen slvli slhinit slhalw slhtu slhturn slhitem slhmk slhcall slhwt slN sleN sleM sleS sleO sleL sleU slclaw : Array (Option Value)} {ocpen kVpen dcpen pmpen ctpen cdpen ocdraw kVdraw dcdraw pmdraw ctdraw cddraw ocpick kVpick dcpick pmpick ctpick cdpick ocspans kVspans dcspans pmspans ctspans cdspans ocheard kVheard dcheard pmheard ctheard cdheard ocdue kVdue dcdue pmdue ctdue cddue oclaw kVlaw dclaw pmlaw ctlaw ocwhole kVwhole dcwhole pmwhole ctwhole cdwhole ocmoment kVmoment dcmoment pmmoment ctmoment cdmoment ocisname kVisname dcisname pmisname ctisname cdisname occheck kVcheck dccheck pmcheck ctcheck cdcheck ocwithf kVwithf dcwithf pmwithf ctwithf cdwithf ocisturn kVisturn dcisturn pmisturn ctisturn cdisturn ocwordof kVwordof dcwordof pmwordof ctwordof cdwordof octs kVts dcts pmts ctts cdts ocsinit kVsinit dcsinit pmsinit ctsinit cdsinit ocsstr kVsstr dcsstr pmsstr ctsstr cdsstr ocseq kVseq dcseq pmseq ctseq cdseq ocspt kVspt dcspt pmspt ctspt cdspt ocvinit kVvinit dcvinit pmvinit ctvinit cdvinit ocvbeg kVvbeg dcvbeg pmvbeg ctvbeg cdvbeg ocvlife kVvlife dcvlife pmvlife ctvlife cdvlife ocvlast kVvlast dcvlast pmvlast ctvlast cdvlast ocvcont kVvcont dcvcont pmvcont ctvcont cdvcont ocvlen kVvlen dcvlen pmvlen ctvlen cdvlen ocvli kVvli dcvli pmvli ctvli cdvli ochinit kVhinit dchinit pmhinit cthinit cdhinit ochalw kVhalw dchalw pmhalw cthalw cdhalw ochtu kVhtu dchtu pmhtu cthtu cdhtu ochturn kVhturn dchturn pmhturn cthturn cdhturn ochitem kVhitem dchitem pmhitem cthitem cdhitem ochmk kVhmk dchmk pmhmk cthmk cdhmk ochcall kVhcall dchcall pmhcall cthcall cdhcall ochwt kVhwt dchwt pmhwt cthwt cdhwt oceN kVeN dceN pmeN cteN cdeN oceM kVeM dceM pmeM cteM cdeM oceS kVeS dceS pmeS cteS cdeS oceO kVeO dceO pmeO cteO cdeO oceL kVeL dceL pmeL cteL cdeL oceU kVeU dceU pmeU cteU cdeU occlaw : Value} {restspt restvli resthalw resthtu : List Value}  {tG tL tA tD : Tok} {itsN : Array Value} {nN : Nat} {vslaw : Array Value} {nmN qN : Str} {NN : Addr} {bsN subN : List Value} {snN : List Str} {abN : Bool} {colN : Option Bool} {ddN : Option Addr} {m0N m1N m2N m3N m5N : Option Value} {nmM qM : Str} {NM : Addr} {bsM subM : List Value} {snM : List Str} {abM : Bool} {colM : Option Bool} {ddM : Option Addr} {m0M m1M m2M m3M m5M : Option Value} {nmS qS : Str} {NS : Addr} {bsS subS : List Value} {snS : List Str} {abS : Bool} {colS : Option Bool} {ddS : Option Addr} {m0S m1S m2S m3S m5S : Option Value} {nmO qO : Str} {NO : Addr} {bsO subO : List Value} {snO : List Str} {abO : Bool} {colO : Option Bool} {ddO : Option Addr} {m0O m1O m2O m3O m5O : Option Value} {nmL qL : Str} {NL : Addr} {bsL subL : List Value} {snL : List Str} {abL : Bool} {colL : Option Bool} {ddL : Option Addr} {m0L m1L m2L m3L m5L : Option Value} {nmU qU : Str} {NU : Addr} {bsU subU : List Value} {snU : List Str} {abU : Bool} {colU : Option Bool} {ddU : Option Addr} {m0U m1U m2U m3U m5U : Option Value}
    (apen : PySem.W.nsIn K mainGlobals "_law_pen" = some (some (.ref fpen)))
    (lpen : K.lookup fpen = some ⟨ocpen, odpen, .func (PySem.W.fnOf "_law_pen" "_law_pen" (defArgs sPen) (defBody sPen) (defScope sPen) .none kVpen dcpen pmpen anpen cdpen ctpen), slpen⟩)
    (cpen : PySem.W.codeIn K cdpen "_law_pen" = true)
    (kpen : PySem.W.keepIn K (.ref fpen) = true)
    (adraw : PySem.W.nsIn K mainGlobals "_law_draw" = some (some (.ref fdraw)))
    (ldraw : K.lookup fdraw = some ⟨ocdraw, oddraw, .func (PySem.W.fnOf "_law_draw" "_law_draw" (defArgs sDraw) (defBody sDraw) (defScope sDraw) .none kVdraw dcdraw pmdraw andraw cddraw ctdraw), sldraw⟩)
    (cdraw : PySem.W.codeIn K cddraw "_law_draw" = true)
    (kdraw : PySem.W.keepIn K (.ref fdraw) = true)
    (apick : PySem.W.nsIn K mainGlobals "_law_pick" = some (some (.ref fpick)))
    (lpick : K.lookup fpick = some ⟨ocpick, odpick, .func (PySem.W.fnOf "_law_pick" "_law_pick" (defArgs sPick) (defBody sPick) (defScope sPick) .none kVpick dcpick pmpick anpick cdpick ctpick), slpick⟩)
    (cpick : PySem.W.codeIn K cdpick "_law_pick" = true)
    (kpick : PySem.W.keepIn K (.ref fpick) = true)
    (aspans : PySem.W.nsIn K mainGlobals "_law_spans" = some (some (.ref fspans)))
    (lspans : K.lookup fspans = some ⟨ocspans, odspans, .func (PySem.W.fnOf "_law_spans" "_law_spans" (defArgs sSpans) (defBody sSpans) (defScope sSpans) .none kVspans dcspans pmspans anspans cdspans ctspans), slspans⟩)
    (cspans : PySem.W.codeIn K cdspans "_law_spans" = true)
    (kspans : PySem.W.keepIn K (.ref fspans) = true)
    (aheard : PySem.W.nsIn K mainGlobals "_law_heard" = some (some (.ref fheard)))
    (lheard : K.lookup fheard = some ⟨ocheard, odheard, .func (PySem.W.fnOf "_law_heard" "_law_heard" (defArgs sHeard) (defBody sHeard) (defScope sHeard) .none kVheard dcheard pmheard anheard cdheard ctheard), slheard⟩)
    (cheard : PySem.W.codeIn K cdheard "_law_heard" = true)
    (kheard : PySem.W.keepIn K (.ref fheard) = true)
    (adue : PySem.W.nsIn K mainGlobals "_law_due" = some (some (.ref fdue)))
    (ldue : K.lookup fdue = some ⟨ocdue, oddue, .func (PySem.W.fnOf "_law_due" "_law_due" (defArgs sDue) (defBody sDue) (defScope sDue) .none kVdue dcdue pmdue andue cddue ctdue), sldue⟩)
    (cdue : PySem.W.codeIn K cddue "_law_due" = true)
    (kdue : PySem.W.keepIn K (.ref fdue) = true)
    (alaw : PySem.W.nsIn K mainGlobals "law" = some (some (.ref flaw)))
    (llaw : K.lookup flaw = some ⟨oclaw, odlaw, .func (PySem.W.fnOf "law" "law" (defArgs sLaw) (defBody sLaw) (defScope sLaw) .none kVlaw dclaw pmlaw anlaw (.ref c_law) ctlaw), sllaw⟩)
    (claw : PySem.W.codeIn K (.ref c_law) "law" = true)
    (klaw : PySem.W.keepIn K (.ref flaw) = true)
    (awhole : PySem.W.nsIn K mainGlobals "is_whole" = some (some (.ref fwhole)))
    (lwhole : K.lookup fwhole = some ⟨ocwhole, odwhole, .func (PySem.W.fnOf "is_whole" "is_whole" (defArgs sWhole) (defBody sWhole) (defScope sWhole) .none kVwhole dcwhole pmwhole anwhole cdwhole ctwhole), slwhole⟩)
    (cwhole : PySem.W.codeIn K cdwhole "is_whole" = true)
    (kwhole : PySem.W.keepIn K (.ref fwhole) = true)
    (amoment : PySem.W.nsIn K mainGlobals "is_moment" = some (some (.ref fmoment)))
    (lmoment : K.lookup fmoment = some ⟨ocmoment, odmoment, .func (PySem.W.fnOf "is_moment" "is_moment" (defArgs sMoment) (defBody sMoment) (defScope sMoment) .none kVmoment dcmoment pmmoment anmoment cdmoment ctmoment), slmoment⟩)
    (cmoment : PySem.W.codeIn K cdmoment "is_moment" = true)
    (kmoment : PySem.W.keepIn K (.ref fmoment) = true)
    (aisname : PySem.W.nsIn K mainGlobals "is_name" = some (some (.ref fisname)))
    (lisname : K.lookup fisname = some ⟨ocisname, odisname, .func (PySem.W.fnOf "is_name" "is_name" (defArgs sName) (defBody sName) (defScope sName) .none kVisname dcisname pmisname anisname cdisname ctisname), slisname⟩)
    (cisname : PySem.W.codeIn K cdisname "is_name" = true)
    (kisname : PySem.W.keepIn K (.ref fisname) = true)
    (acheck : PySem.W.nsIn K mainGlobals "check_form" = some (some (.ref fcheck)))
    (lcheck : K.lookup fcheck = some ⟨occheck, odcheck, .func (PySem.W.fnOf "check_form" "check_form" (defArgs sCheck) (defBody sCheck) (defScope sCheck) .none kVcheck dccheck pmcheck ancheck cdcheck ctcheck), slcheck⟩)
    (ccheck : PySem.W.codeIn K cdcheck "check_form" = true)
    (kcheck : PySem.W.keepIn K (.ref fcheck) = true)
    (awithf : PySem.W.nsIn K mainGlobals "with_first" = some (some (.ref fwithf)))
    (lwithf : K.lookup fwithf = some ⟨ocwithf, odwithf, .func (PySem.W.fnOf "with_first" "with_first" (defArgs sWith) (defBody sWith) (defScope sWith) .none kVwithf dcwithf pmwithf anwithf cdwithf ctwithf), slwithf⟩)
    (cwithf : PySem.W.codeIn K cdwithf "with_first" = true)
    (kwithf : PySem.W.keepIn K (.ref fwithf) = true)
    (aisturn : PySem.W.nsIn K mainGlobals "is_turn" = some (some (.ref fisturn)))
    (listurn : K.lookup fisturn = some ⟨ocisturn, odisturn, .func (PySem.W.fnOf "is_turn" "is_turn" (defArgs sIsTurn) (defBody sIsTurn) (defScope sIsTurn) .none kVisturn dcisturn pmisturn anisturn cdisturn ctisturn), slisturn⟩)
    (cisturn : PySem.W.codeIn K cdisturn "is_turn" = true)
    (kisturn : PySem.W.keepIn K (.ref fisturn) = true)
    (awordof : PySem.W.nsIn K mainGlobals "word_of" = some (some (.ref fwordof)))
    (lwordof : K.lookup fwordof = some ⟨ocwordof, odwordof, .func (PySem.W.fnOf "word_of" "word_of" (defArgs sWordOf) (defBody sWordOf) (defScope sWordOf) .none kVwordof dcwordof pmwordof anwordof cdwordof ctwordof), slwordof⟩)
    (cwordof : PySem.W.codeIn K cdwordof "word_of" = true)
    (kwordof : PySem.W.keepIn K (.ref fwordof) = true)
    (ats : PySem.W.nsIn K mainGlobals "turn_sayings" = some (some (.ref fts)))
    (lts : K.lookup fts = some ⟨octs, odts, .func (PySem.W.fnOf "turn_sayings" "turn_sayings" (defArgs sTS) (defBody sTS) (defScope sTS) .none kVts dcts pmts ants cdts ctts), slts⟩)
    (cts : PySem.W.codeIn K cdts "turn_sayings" = true)
    (kts : PySem.W.keepIn K (.ref fts) = true)
    (thn : PySem.W.specialIn K (.builtin "object.__class__") "__get__" = some (some (.builtin "getset_descriptor.__get__")))
    (tht : PySem.W.takesIn K (.builtin "object.__class__") = some true)
    (aCY : PySem.W.nsIn K mainGlobals "Saying" = some (some (.ref CY)))
    (pgCY : PySem.W.plainGet K CY Str.empty = true)
    (hdCY : PySem.W.hasDictIn K CY = true)
    (poCY : PySem.W.plainOver K CY = true)
    (saCY : PySem.W.findIn K (.ref CY) "__setattr__" = some (some (.builtin "object.__setattr__")))
    (mkCY : PySem.W.makesIn K CY = true)
    (kcCY : PySem.W.keepIn K (.ref CY) = true)
    (nCY_tool : PySem.W.findIn K (.ref CY) "tool" = some none)
    (nCY_moment : PySem.W.findIn K (.ref CY) "moment" = some none)
    (nCY_is_sound : PySem.W.findIn K (.ref CY) "is_sound" = some none)
    (thaCY : PySem.W.findIn K (.ref CY) "__class__" = some (some (.builtin "object.__class__")))
    (thmCY : PySem.W.mroIn K CY (.type "object") = some true)
    (hclsCY : PySem.W.isClsIn K CY = true)
    (htypCY : PySem.W.typeIn K (.ref CY) = some (.type "type"))
    (asinit : PySem.W.findIn K (.ref CY) "__init__" = some (some (.ref fsinit)))
    (isinit : PySem.W.isFn K (.ref fsinit) = true)
    (lsinit : K.lookup fsinit = some ⟨ocsinit, odsinit, .func (PySem.W.fnOf "__init__" "Saying.__init__" (defArgs sInit) (defBody sInit) (defScope sInit) .none kVsinit dcsinit pmsinit ansinit cdsinit ctsinit), slsinit⟩)
    (csinit : PySem.W.codeIn K cdsinit "Saying.__init__" = true)
    (ksinit : PySem.W.keepIn K (.ref fsinit) = true)
    (asstr : PySem.W.findIn K (.ref CY) "__str__" = some (some (.ref fsstr)))
    (isstr : PySem.W.isFn K (.ref fsstr) = true)
    (lsstr : K.lookup fsstr = some ⟨ocsstr, odsstr, .func (PySem.W.fnOf "__str__" "Saying.__str__" (defArgs sStr) (defBody sStr) (defScope sStr) .none kVsstr dcsstr pmsstr ansstr cdsstr ctsstr), slsstr⟩)
    (csstr : PySem.W.codeIn K cdsstr "Saying.__str__" = true)
    (ksstr : PySem.W.keepIn K (.ref fsstr) = true)
    (aseq : PySem.W.findIn K (.ref CY) "__eq__" = some (some (.ref fseq)))
    (iseq : PySem.W.isFn K (.ref fseq) = true)
    (lseq : K.lookup fseq = some ⟨ocseq, odseq, .func (PySem.W.fnOf "__eq__" "Saying.__eq__" (defArgs sEq) (defBody sEq) (defScope sEq) .none kVseq dcseq pmseq anseq cdseq ctseq), slseq⟩)
    (cseq : PySem.W.codeIn K cdseq "Saying.__eq__" = true)
    (kseq : PySem.W.keepIn K (.ref fseq) = true)
    (aspt : PySem.W.findIn K (.ref CY) "point" = some (some (.ref pspt)))
    (gspt : PySem.W.specialIn K (.ref pspt) "__get__" = some (some (.builtin "property.__get__")))
    (tspt : PySem.W.takesIn K (.ref pspt) = some true)
    (rspt : PySem.W.recIn K pspt "property" = some (.ref fspt :: restspt))
    (lspt : K.lookup fspt = some ⟨ocspt, odspt, .func (PySem.W.fnOf "point" "Saying.point" (defArgs sPoint) (defBody sPoint) (defScope sPoint) .none kVspt dcspt pmspt anspt cdspt ctspt), slspt⟩)
    (cspt : PySem.W.codeIn K cdspt "Saying.point" = true)
    (kspt : PySem.W.keepIn K (.ref fspt) = true)
    (aCV : PySem.W.nsIn K mainGlobals "Lives" = some (some (.ref CV)))
    (pgCV : PySem.W.plainGet K CV Str.empty = true)
    (hdCV : PySem.W.hasDictIn K CV = true)
    (poCV : PySem.W.plainOver K CV = true)
    (saCV : PySem.W.findIn K (.ref CV) "__setattr__" = some (some (.builtin "object.__setattr__")))
    (mkCV : PySem.W.makesIn K CV = true)
    (kcCV : PySem.W.keepIn K (.ref CV) = true)
    (nCV__begun : PySem.W.findIn K (.ref CV) "_begun" = some none)
    (thaCV : PySem.W.findIn K (.ref CV) "__class__" = some (some (.builtin "object.__class__")))
    (thmCV : PySem.W.mroIn K CV (.type "object") = some true)
    (hclsCV : PySem.W.isClsIn K CV = true)
    (htypCV : PySem.W.typeIn K (.ref CV) = some (.type "type"))
    (avinit : PySem.W.findIn K (.ref CV) "__init__" = some (some (.ref fvinit)))
    (ivinit : PySem.W.isFn K (.ref fvinit) = true)
    (lvinit : K.lookup fvinit = some ⟨ocvinit, odvinit, .func (PySem.W.fnOf "__init__" "Lives.__init__" (defArgs sLInit) (defBody sLInit) (defScope sLInit) .none kVvinit dcvinit pmvinit anvinit cdvinit ctvinit), slvinit⟩)
    (cvinit : PySem.W.codeIn K cdvinit "Lives.__init__" = true)
    (kvinit : PySem.W.keepIn K (.ref fvinit) = true)
    (avbeg : PySem.W.findIn K (.ref CV) "beginnings" = some (some (.ref fvbeg)))
    (ivbeg : PySem.W.isFn K (.ref fvbeg) = true)
    (lvbeg : K.lookup fvbeg = some ⟨ocvbeg, odvbeg, .func (PySem.W.fnOf "beginnings" "Lives.beginnings" (defArgs sBeg) (defBody sBeg) (defScope sBeg) .none kVvbeg dcvbeg pmvbeg anvbeg cdvbeg ctvbeg), slvbeg⟩)
    (cvbeg : PySem.W.codeIn K cdvbeg "Lives.beginnings" = true)
    (kvbeg : PySem.W.keepIn K (.ref fvbeg) = true)
    (avlife : PySem.W.findIn K (.ref CV) "life_of" = some (some (.ref fvlife)))
    (ivlife : PySem.W.isFn K (.ref fvlife) = true)
    (lvlife : K.lookup fvlife = some ⟨ocvlife, odvlife, .func (PySem.W.fnOf "life_of" "Lives.life_of" (defArgs sLife) (defBody sLife) (defScope sLife) .none kVvlife dcvlife pmvlife anvlife cdvlife ctvlife), slvlife⟩)
    (cvlife : PySem.W.codeIn K cdvlife "Lives.life_of" = true)
    (kvlife : PySem.W.keepIn K (.ref fvlife) = true)
    (avlast : PySem.W.findIn K (.ref CV) "last_of" = some (some (.ref fvlast)))
    (ivlast : PySem.W.isFn K (.ref fvlast) = true)
    (lvlast : K.lookup fvlast = some ⟨ocvlast, odvlast, .func (PySem.W.fnOf "last_of" "Lives.last_of" (defArgs sLast) (defBody sLast) (defScope sLast) .none kVvlast dcvlast pmvlast anvlast cdvlast ctvlast), slvlast⟩)
    (cvlast : PySem.W.codeIn K cdvlast "Lives.last_of" = true)
    (kvlast : PySem.W.keepIn K (.ref fvlast) = true)
    (avcont : PySem.W.findIn K (.ref CV) "__contains__" = some (some (.ref fvcont)))
    (ivcont : PySem.W.isFn K (.ref fvcont) = true)
    (lvcont : K.lookup fvcont = some ⟨ocvcont, odvcont, .func (PySem.W.fnOf "__contains__" "Lives.__contains__" (defArgs sCont) (defBody sCont) (defScope sCont) .none kVvcont dcvcont pmvcont anvcont cdvcont ctvcont), slvcont⟩)
    (cvcont : PySem.W.codeIn K cdvcont "Lives.__contains__" = true)
    (kvcont : PySem.W.keepIn K (.ref fvcont) = true)
    (avlen : PySem.W.findIn K (.ref CV) "__len__" = some (some (.ref fvlen)))
    (ivlen : PySem.W.isFn K (.ref fvlen) = true)
    (lvlen : K.lookup fvlen = some ⟨ocvlen, odvlen, .func (PySem.W.fnOf "__len__" "Lives.__len__" (defArgs sLen) (defBody sLen) (defScope sLen) .none kVvlen dcvlen pmvlen anvlen cdvlen ctvlen), slvlen⟩)
    (cvlen : PySem.W.codeIn K cdvlen "Lives.__len__" = true)
    (kvlen : PySem.W.keepIn K (.ref fvlen) = true)
    (avli : PySem.W.findIn K (.ref CV) "listed" = some (some (.ref pvli)))
    (gvli : PySem.W.specialIn K (.ref pvli) "__get__" = some (some (.builtin "property.__get__")))
    (tvli : PySem.W.takesIn K (.ref pvli) = some true)
    (rvli : PySem.W.recIn K pvli "property" = some (.ref fvli :: restvli))
    (lvli : K.lookup fvli = some ⟨ocvli, odvli, .func (PySem.W.fnOf "listed" "Lives.listed" (defArgs sListed) (defBody sListed) (defScope sListed) .none kVvli dcvli pmvli anvli cdvli ctvli), slvli⟩)
    (cvli : PySem.W.codeIn K cdvli "Lives.listed" = true)
    (kvli : PySem.W.keepIn K (.ref fvli) = true)
    (aCH : PySem.W.nsIn K mainGlobals "History" = some (some (.ref CH)))
    (pgCH : PySem.W.plainGet K CH Str.empty = true)
    (hdCH : PySem.W.hasDictIn K CH = true)
    (poCH : PySem.W.plainOver K CH = true)
    (saCH : PySem.W.findIn K (.ref CH) "__setattr__" = some (some (.builtin "object.__setattr__")))
    (mkCH : PySem.W.makesIn K CH = true)
    (kcCH : PySem.W.keepIn K (.ref CH) = true)
    (nCH__lives : PySem.W.findIn K (.ref CH) "_lives" = some none)
    (nCH__turns : PySem.W.findIn K (.ref CH) "_turns" = some none)
    (rdCH : PySem.W.readsIn K CH (.type "type") = true)
    (gaCH : PySem.W.specialIn K (.ref CH) "__getattribute__" = some (some (.builtin "type.__getattribute__")))
    (ahinit : PySem.W.findIn K (.ref CH) "__init__" = some (some (.ref fhinit)))
    (ihinit : PySem.W.isFn K (.ref fhinit) = true)
    (lhinit : K.lookup fhinit = some ⟨ochinit, odhinit, .func (PySem.W.fnOf "__init__" "History.__init__" (defArgs sHInit) (defBody sHInit) (defScope sHInit) .none kVhinit dchinit pmhinit anhinit cdhinit cthinit), slhinit⟩)
    (chinit : PySem.W.codeIn K cdhinit "History.__init__" = true)
    (khinit : PySem.W.keepIn K (.ref fhinit) = true)
    (athalw : PySem.W.findCls K (.ref CH) (.type "type") "always" = some (.get (.builtin "staticmethod.__get__") (.ref phalw) .none (.ref CH)))
    (rchalw : PySem.W.recIn K phalw "staticmethod" = some (.ref fhalw :: resthalw))
    (lhalw : K.lookup fhalw = some ⟨ochalw, odhalw, .func (PySem.W.fnOf "always" "History.always" (defArgs sAlways) (defBody sAlways) (defScope sAlways) .none kVhalw dchalw pmhalw anhalw cdhalw cthalw), slhalw⟩)
    (chalw : PySem.W.codeIn K cdhalw "History.always" = true)
    (khalw : PySem.W.keepIn K (.ref fhalw) = true)
    (ahtu : PySem.W.findIn K (.ref CH) "turns" = some (some (.ref phtu)))
    (ghtu : PySem.W.specialIn K (.ref phtu) "__get__" = some (some (.builtin "property.__get__")))
    (thtu : PySem.W.takesIn K (.ref phtu) = some true)
    (rhtu : PySem.W.recIn K phtu "property" = some (.ref fhtu :: resthtu))
    (lhtu : K.lookup fhtu = some ⟨ochtu, odhtu, .func (PySem.W.fnOf "turns" "History.turns" (defArgs sTurns) (defBody sTurns) (defScope sTurns) .none kVhtu dchtu pmhtu anhtu cdhtu cthtu), slhtu⟩)
    (chtu : PySem.W.codeIn K cdhtu "History.turns" = true)
    (khtu : PySem.W.keepIn K (.ref fhtu) = true)
    (ahturn : PySem.W.findIn K (.ref CH) "turn" = some (some (.ref fhturn)))
    (ihturn : PySem.W.isFn K (.ref fhturn) = true)
    (lhturn : K.lookup fhturn = some ⟨ochturn, odhturn, .func (PySem.W.fnOf "turn" "History.turn" (defArgs sTurn) (defBody sTurn) (defScope sTurn) .none kVhturn dchturn pmhturn anhturn cdhturn cthturn), slhturn⟩)
    (chturn : PySem.W.codeIn K cdhturn "History.turn" = true)
    (khturn : PySem.W.keepIn K (.ref fhturn) = true)
    (ahitem : PySem.W.findIn K (.ref CH) "__getitem__" = some (some (.ref fhitem)))
    (ihitem : PySem.W.isFn K (.ref fhitem) = true)
    (lhitem : K.lookup fhitem = some ⟨ochitem, odhitem, .func (PySem.W.fnOf "__getitem__" "History.__getitem__" (defArgs sItem) (defBody sItem) (defScope sItem) .none kVhitem dchitem pmhitem anhitem cdhitem cthitem), slhitem⟩)
    (chitem : PySem.W.codeIn K cdhitem "History.__getitem__" = true)
    (khitem : PySem.W.keepIn K (.ref fhitem) = true)
    (fihitem : PySem.W.fnIn K fhitem = true)
    (ahmk : PySem.W.findIn K (.ref CH) "_makes" = some (some (.ref fhmk)))
    (ihmk : PySem.W.isFn K (.ref fhmk) = true)
    (lhmk : K.lookup fhmk = some ⟨ochmk, odhmk, .func (PySem.W.fnOf "_makes" "History._makes" (defArgs sMakes) (defBody sMakes) (defScope sMakes) .none kVhmk dchmk pmhmk anhmk cdhmk cthmk), slhmk⟩)
    (chmk : PySem.W.codeIn K cdhmk "History._makes" = true)
    (khmk : PySem.W.keepIn K (.ref fhmk) = true)
    (ahcall : PySem.W.findIn K (.ref CH) "__call__" = some (some (.ref fhcall)))
    (ihcall : PySem.W.isFn K (.ref fhcall) = true)
    (lhcall : K.lookup fhcall = some ⟨ochcall, odhcall, .func (PySem.W.fnOf "__call__" "History.__call__" (defArgs sCall) (defBody sCall) (defScope sCall) .none kVhcall dchcall pmhcall anhcall cdhcall cthcall), slhcall⟩)
    (chcall : PySem.W.codeIn K cdhcall "History.__call__" = true)
    (khcall : PySem.W.keepIn K (.ref fhcall) = true)
    (fihcall : PySem.W.fnIn K fhcall = true)
    (ahwt : PySem.W.findIn K (.ref CH) "with_turn" = some (some (.ref fhwt)))
    (ihwt : PySem.W.isFn K (.ref fhwt) = true)
    (lhwt : K.lookup fhwt = some ⟨ochwt, odhwt, .func (PySem.W.fnOf "with_turn" "History.with_turn" (defArgs sWTurn) (defBody sWTurn) (defScope sWTurn) .none kVhwt dchwt pmhwt anhwt cdhwt cthwt), slhwt⟩)
    (chwt : PySem.W.codeIn K cdhwt "History.with_turn" = true)
    (khwt : PySem.W.keepIn K (.ref fhwt) = true)
    (gG : PySem.W.nsIn K mainGlobals "GREATEST" = some (some (.int 1000000000000000000000000000000 tG)))
    (gL : PySem.W.nsIn K mainGlobals "LONGEST_NAME" = some (some (.int 8 tL)))
    (gA : PySem.W.nsIn K mainGlobals "LETTERS" = some (some (.str letters tA)))
    (gD : PySem.W.nsIn K mainGlobals "DIGITS" = some (some (.str digits tD)))
    (gN : PySem.W.nsIn K mainGlobals "NO_NAMES" = some (some (.ref aNo)))
    (lN : K.lookup aNo = some ⟨.type "tuple", odN, .seq itsN nN, slN⟩)
    (vN : itsN.toList.map strOf? = noNames.map some)
    (b_isinstance : PySem.W.nsIn K mainGlobals "isinstance" = some none)
    (b_int : PySem.W.nsIn K mainGlobals "int" = some none)
    (b_bool : PySem.W.nsIn K mainGlobals "bool" = some none)
    (b_str : PySem.W.nsIn K mainGlobals "str" = some none)
    (b_len : PySem.W.nsIn K mainGlobals "len" = some none)
    (b_all : PySem.W.nsIn K mainGlobals "all" = some none)
    (b_list : PySem.W.nsIn K mainGlobals "list" = some none)
    (b_tuple : PySem.W.nsIn K mainGlobals "tuple" = some none)
    (b_dict : PySem.W.nsIn K mainGlobals "dict" = some none)
    (b_abs : PySem.W.nsIn K mainGlobals "abs" = some none)
    (b_repr : PySem.W.nsIn K mainGlobals "repr" = some none)
    (b_range : PySem.W.nsIn K mainGlobals "range" = some none)
    (b_sorted : PySem.W.nsIn K mainGlobals "sorted" = some none)
    (b_set : PySem.W.nsIn K mainGlobals "set" = some none)
    (b_max : PySem.W.nsIn K mainGlobals "max" = some none)
    (b_min : PySem.W.nsIn K mainGlobals "min" = some none)
    (b_ValueError : PySem.W.nsIn K mainGlobals "ValueError" = some none)
    (aT : PySem.W.nsIn K mainGlobals "TillError" = some (some (.ref CT)))
    (iT : PySem.W.isClsIn K CT = true)
    (tT : PySem.W.typeIn K (.ref CT) = some (.type "type"))
    (eT : PySem.W.subIn K (.ref CT) (.type "BaseException") = some true)
    (sT : PySem.W.subIn K (.ref CT) (.ref CT) = some true)
    (aN : PySem.W.nsIn K mainGlobals "BadName" = some (some (.ref CN)))
    (xN : K.lookup CN = some (excClassObj nmN qN CN NN bsN [.ref CT, .type "ValueError", .type "Exception", .type "BaseException", .type "object"] true snN subN abN colN ddN m0N m1N m2N m3N m5N "ValueError.__new__"))
    (seN : PySem.W.findIn K (.ref CN) "__setattr__" = some (some (.builtin "object.__setattr__")))
    (geN : PySem.W.findIn K (.ref CN) "__getattribute__" = some (some (.builtin "BaseException.__getattribute__")))
    (heN : PySem.W.findIn K (.ref CN) "__getattr__" = some none)
    (neN : PySem.W.findIn K (.ref CN) "name" = some none)
    (aeN : PySem.W.findIn K (.ref CN) "__init__" = some (some (.ref feN)))
    (teN : PySem.W.typeIn K (.ref feN) = some (.type "function"))
    (leN : K.lookup feN = some ⟨oceN, odeN, .func (PySem.W.fnOf "__init__" "BadName.__init__" (defArgs sEN) (defBody sEN) (defScope sEN) .none kVeN dceN pmeN aneN cdeN cteN), sleN⟩)
    (ceN : PySem.W.codeIn K cdeN "BadName.__init__" = true)
    (keN : PySem.W.keepIn K (.ref feN) = true)
    (kkeN : PySem.W.keepIn K (.ref CN) = true)
    (exeN : PySem.W.subIn K (.ref CN) (.type "BaseException") = some true)
    (tyeN : PySem.W.typeIn K (.ref CN) = some (.type "type"))
    (hdeN : PySem.W.hasDictIn K CN = true)
    (iceN : PySem.W.isClsIn K CN = true)
    (veeN : PySem.W.subIn K (.ref CN) (.type "ValueError") = some true)
    (uteN : PySem.W.subIn K (.ref CN) (.ref CT) = some true)
    (caeN : PySem.W.findIn K (.ref CN) "__class__" = some (some (.builtin "object.__class__")))
    (cmeN : PySem.W.mroIn K CN (.type "object") = some true)
    (aM : PySem.W.nsIn K mainGlobals "BadMoment" = some (some (.ref CM)))
    (xM : K.lookup CM = some (excClassObj nmM qM CM NM bsM [.ref CT, .type "ValueError", .type "Exception", .type "BaseException", .type "object"] true snM subM abM colM ddM m0M m1M m2M m3M m5M "ValueError.__new__"))
    (seM : PySem.W.findIn K (.ref CM) "__setattr__" = some (some (.builtin "object.__setattr__")))
    (geM : PySem.W.findIn K (.ref CM) "__getattribute__" = some (some (.builtin "BaseException.__getattribute__")))
    (heM : PySem.W.findIn K (.ref CM) "__getattr__" = some none)
    (neM : PySem.W.findIn K (.ref CM) "moment" = some none)
    (aeM : PySem.W.findIn K (.ref CM) "__init__" = some (some (.ref feM)))
    (teM : PySem.W.typeIn K (.ref feM) = some (.type "function"))
    (leM : K.lookup feM = some ⟨oceM, odeM, .func (PySem.W.fnOf "__init__" "BadMoment.__init__" (defArgs sEM) (defBody sEM) (defScope sEM) .none kVeM dceM pmeM aneM cdeM cteM), sleM⟩)
    (ceM : PySem.W.codeIn K cdeM "BadMoment.__init__" = true)
    (keM : PySem.W.keepIn K (.ref feM) = true)
    (kkeM : PySem.W.keepIn K (.ref CM) = true)
    (exeM : PySem.W.subIn K (.ref CM) (.type "BaseException") = some true)
    (tyeM : PySem.W.typeIn K (.ref CM) = some (.type "type"))
    (hdeM : PySem.W.hasDictIn K CM = true)
    (iceM : PySem.W.isClsIn K CM = true)
    (veeM : PySem.W.subIn K (.ref CM) (.type "ValueError") = some true)
    (uteM : PySem.W.subIn K (.ref CM) (.ref CT) = some true)
    (caeM : PySem.W.findIn K (.ref CM) "__class__" = some (some (.builtin "object.__class__")))
    (cmeM : PySem.W.mroIn K CM (.type "object") = some true)
    (aS : PySem.W.nsIn K mainGlobals "BadSaying" = some (some (.ref CS)))
    (xS : K.lookup CS = some (excClassObj nmS qS CS NS bsS [.ref CT, .type "ValueError", .type "Exception", .type "BaseException", .type "object"] true snS subS abS colS ddS m0S m1S m2S m3S m5S "ValueError.__new__"))
    (seS : PySem.W.findIn K (.ref CS) "__setattr__" = some (some (.builtin "object.__setattr__")))
    (geS : PySem.W.findIn K (.ref CS) "__getattribute__" = some (some (.builtin "BaseException.__getattribute__")))
    (heS : PySem.W.findIn K (.ref CS) "__getattr__" = some none)
    (neS : PySem.W.findIn K (.ref CS) "value" = some none)
    (aeS : PySem.W.findIn K (.ref CS) "__init__" = some (some (.ref feS)))
    (teS : PySem.W.typeIn K (.ref feS) = some (.type "function"))
    (leS : K.lookup feS = some ⟨oceS, odeS, .func (PySem.W.fnOf "__init__" "BadSaying.__init__" (defArgs sES) (defBody sES) (defScope sES) .none kVeS dceS pmeS aneS cdeS cteS), sleS⟩)
    (ceS : PySem.W.codeIn K cdeS "BadSaying.__init__" = true)
    (keS : PySem.W.keepIn K (.ref feS) = true)
    (kkeS : PySem.W.keepIn K (.ref CS) = true)
    (exeS : PySem.W.subIn K (.ref CS) (.type "BaseException") = some true)
    (tyeS : PySem.W.typeIn K (.ref CS) = some (.type "type"))
    (hdeS : PySem.W.hasDictIn K CS = true)
    (iceS : PySem.W.isClsIn K CS = true)
    (veeS : PySem.W.subIn K (.ref CS) (.type "ValueError") = some true)
    (uteS : PySem.W.subIn K (.ref CS) (.ref CT) = some true)
    (caeS : PySem.W.findIn K (.ref CS) "__class__" = some (some (.builtin "object.__class__")))
    (cmeS : PySem.W.mroIn K CS (.type "object") = some true)
    (aO : PySem.W.nsIn K mainGlobals "NoTool" = some (some (.ref CO)))
    (xO : K.lookup CO = some (excClassObj nmO qO CO NO bsO [.ref CT, .type "ValueError", .type "Exception", .type "BaseException", .type "object"] true snO subO abO colO ddO m0O m1O m2O m3O m5O "ValueError.__new__"))
    (seO : PySem.W.findIn K (.ref CO) "__setattr__" = some (some (.builtin "object.__setattr__")))
    (geO : PySem.W.findIn K (.ref CO) "__getattribute__" = some (some (.builtin "BaseException.__getattribute__")))
    (heO : PySem.W.findIn K (.ref CO) "__getattr__" = some none)
    (neO : PySem.W.findIn K (.ref CO) "tool" = some none)
    (aeO : PySem.W.findIn K (.ref CO) "__init__" = some (some (.ref feO)))
    (teO : PySem.W.typeIn K (.ref feO) = some (.type "function"))
    (leO : K.lookup feO = some ⟨oceO, odeO, .func (PySem.W.fnOf "__init__" "NoTool.__init__" (defArgs sET) (defBody sET) (defScope sET) .none kVeO dceO pmeO aneO cdeO cteO), sleO⟩)
    (ceO : PySem.W.codeIn K cdeO "NoTool.__init__" = true)
    (keO : PySem.W.keepIn K (.ref feO) = true)
    (kkeO : PySem.W.keepIn K (.ref CO) = true)
    (exeO : PySem.W.subIn K (.ref CO) (.type "BaseException") = some true)
    (tyeO : PySem.W.typeIn K (.ref CO) = some (.type "type"))
    (hdeO : PySem.W.hasDictIn K CO = true)
    (iceO : PySem.W.isClsIn K CO = true)
    (veeO : PySem.W.subIn K (.ref CO) (.type "ValueError") = some true)
    (uteO : PySem.W.subIn K (.ref CO) (.ref CT) = some true)
    (caeO : PySem.W.findIn K (.ref CO) "__class__" = some (some (.builtin "object.__class__")))
    (cmeO : PySem.W.mroIn K CO (.type "object") = some true)
    (aL : PySem.W.nsIn K mainGlobals "NoLife" = some (some (.ref CL)))
    (xL : K.lookup CL = some (excClassObj nmL qL CL NL bsL [.ref CT, .type "ValueError", .type "Exception", .type "BaseException", .type "object"] true snL subL abL colL ddL m0L m1L m2L m3L m5L "ValueError.__new__"))
    (seL : PySem.W.findIn K (.ref CL) "__setattr__" = some (some (.builtin "object.__setattr__")))
    (geL : PySem.W.findIn K (.ref CL) "__getattribute__" = some (some (.builtin "BaseException.__getattribute__")))
    (heL : PySem.W.findIn K (.ref CL) "__getattr__" = some none)
    (neL : PySem.W.findIn K (.ref CL) "value" = some none)
    (aeL : PySem.W.findIn K (.ref CL) "__init__" = some (some (.ref feL)))
    (teL : PySem.W.typeIn K (.ref feL) = some (.type "function"))
    (leL : K.lookup feL = some ⟨oceL, odeL, .func (PySem.W.fnOf "__init__" "NoLife.__init__" (defArgs sEL) (defBody sEL) (defScope sEL) .none kVeL dceL pmeL aneL cdeL cteL), sleL⟩)
    (ceL : PySem.W.codeIn K cdeL "NoLife.__init__" = true)
    (keL : PySem.W.keepIn K (.ref feL) = true)
    (kkeL : PySem.W.keepIn K (.ref CL) = true)
    (exeL : PySem.W.subIn K (.ref CL) (.type "BaseException") = some true)
    (tyeL : PySem.W.typeIn K (.ref CL) = some (.type "type"))
    (hdeL : PySem.W.hasDictIn K CL = true)
    (iceL : PySem.W.isClsIn K CL = true)
    (veeL : PySem.W.subIn K (.ref CL) (.type "ValueError") = some true)
    (uteL : PySem.W.subIn K (.ref CL) (.ref CT) = some true)
    (caeL : PySem.W.findIn K (.ref CL) "__class__" = some (some (.builtin "object.__class__")))
    (cmeL : PySem.W.mroIn K CL (.type "object") = some true)
    (aU : PySem.W.nsIn K mainGlobals "BadTurn" = some (some (.ref CU)))
    (xU : K.lookup CU = some (excClassObj nmU qU CU NU bsU [.ref CT, .type "ValueError", .type "Exception", .type "BaseException", .type "object"] true snU subU abU colU ddU m0U m1U m2U m3U m5U "ValueError.__new__"))
    (seU : PySem.W.findIn K (.ref CU) "__setattr__" = some (some (.builtin "object.__setattr__")))
    (geU : PySem.W.findIn K (.ref CU) "__getattribute__" = some (some (.builtin "BaseException.__getattribute__")))
    (heU : PySem.W.findIn K (.ref CU) "__getattr__" = some none)
    (neU : PySem.W.findIn K (.ref CU) "at" = some none)
    (aeU : PySem.W.findIn K (.ref CU) "__init__" = some (some (.ref feU)))
    (teU : PySem.W.typeIn K (.ref feU) = some (.type "function"))
    (leU : K.lookup feU = some ⟨oceU, odeU, .func (PySem.W.fnOf "__init__" "BadTurn.__init__" (defArgs sEU) (defBody sEU) (defScope sEU) .none kVeU dceU pmeU aneU cdeU cteU), sleU⟩)
    (ceU : PySem.W.codeIn K cdeU "BadTurn.__init__" = true)
    (keU : PySem.W.keepIn K (.ref feU) = true)
    (kkeU : PySem.W.keepIn K (.ref CU) = true)
    (exeU : PySem.W.subIn K (.ref CU) (.type "BaseException") = some true)
    (tyeU : PySem.W.typeIn K (.ref CU) = some (.type "type"))
    (hdeU : PySem.W.hasDictIn K CU = true)
    (iceU : PySem.W.isClsIn K CU = true)
    (veeU : PySem.W.subIn K (.ref CU) (.type "ValueError") = some true)
    (uteU : PySem.W.subIn K (.ref CU) (.ref CT) = some true)
    (caeU : PySem.W.findIn K (.ref CU) "__class__" = some (some (.builtin "object.__class__")))
    (cmeU : PySem.W.mroIn K CU (.type "object") = some true)
    (uOO : PySem.W.subIn K (.ref CO) (.ref CO) = some true)
    (uOM : PySem.W.subIn K (.ref CO) (.ref CM) = some false)
    (uOU : PySem.W.subIn K (.ref CO) (.ref CU) = some false)
    (uMO : PySem.W.subIn K (.ref CM) (.ref CO) = some false)
    (uMM : PySem.W.subIn K (.ref CM) (.ref CM) = some true)
    (uMU : PySem.W.subIn K (.ref CM) (.ref CU) = some false)
    (uUO : PySem.W.subIn K (.ref CU) (.ref CO) = some false)
    (uUM : PySem.W.subIn K (.ref CU) (.ref CM) = some false)
    (uUU : PySem.W.subIn K (.ref CU) (.ref CU) = some true)
    (lclaw : K.lookup c_law = some ⟨occlaw, odclaw, .fields vslaw, slclaw⟩)
    (vclaw : (vslaw[11]? : Option Value) = some (.ref P_law))
    (nTlaw : K.lookup P_law = none)
    : ∃ (fd : FuncData) (c0 P0 : Addr), PySem.W.tabIn K "law" = some (c0, P0) ∧ K.lookup P0 = none ∧ (∀ (s : Shared) (v : Value), BindsTo s fd ⟨[v], []⟩ [("_law_script", v)]) ∧
      ∀ base : Heap, K.In base → base.Ns mainGlobals mg → (∀ q ∈ [(c0, P0)], TabB base mg q.1 q.2) → FnG l.prog w K mg base CX0 12 fa fd ["_law_script"] (spLaw K (TT P0)) := by
  have e := hfa.symm.trans (PySem.W.mg_of X G alaw)
  cases e
  have g1 := fun {n : Str} {v : Value} (e : PySem.W.nsIn K mainGlobals n = some (some v)) => PySem.W.mg_of X G e
  have g0 := fun {n : Str} (e : PySem.W.nsIn K mainGlobals n = some none) => PySem.W.mg_none_of X G e
  have F_pen := fun_mk (st := sPen) lpen cpen kpen
  have F_draw := fun_mk (st := sDraw) ldraw cdraw kdraw
  have F_pick := fun_mk (st := sPick) lpick cpick kpick
  have F_spans := fun_mk (st := sSpans) lspans cspans kspans
  have F_heard := fun_mk (st := sHeard) lheard cheard kheard
  have F_due := fun_mk (st := sDue) ldue cdue kdue
  have F_law := fun_mk (st := sLaw) llaw claw klaw
  have F_whole := fun_mk (st := sWhole) lwhole cwhole kwhole
  have F_moment := fun_mk (st := sMoment) lmoment cmoment kmoment
  have F_isname := fun_mk (st := sName) lisname cisname kisname
  have F_check := fun_mk (st := sCheck) lcheck ccheck kcheck
  have F_withf := fun_mk (st := sWith) lwithf cwithf kwithf
  have F_isturn := fun_mk (st := sIsTurn) listurn cisturn kisturn
  have F_wordof := fun_mk (st := sWordOf) lwordof cwordof kwordof
  have F_ts := fun_mk (st := sTS) lts cts kts
  have F_sinit := fun_mk (st := sInit) lsinit csinit ksinit
  have F_sstr := fun_mk (st := sStr) lsstr csstr ksstr
  have F_seq := fun_mk (st := sEq) lseq cseq kseq
  have F_spt := fun_mk (st := sPoint) lspt cspt kspt
  have F_vinit := fun_mk (st := sLInit) lvinit cvinit kvinit
  have F_vbeg := fun_mk (st := sBeg) lvbeg cvbeg kvbeg
  have F_vlife := fun_mk (st := sLife) lvlife cvlife kvlife
  have F_vlast := fun_mk (st := sLast) lvlast cvlast kvlast
  have F_vcont := fun_mk (st := sCont) lvcont cvcont kvcont
  have F_vlen := fun_mk (st := sLen) lvlen cvlen kvlen
  have F_vli := fun_mk (st := sListed) lvli cvli kvli
  have F_hinit := fun_mk (st := sHInit) lhinit chinit khinit
  have F_halw := fun_mk (st := sAlways) lhalw chalw khalw
  have F_htu := fun_mk (st := sTurns) lhtu chtu khtu
  have F_hturn := fun_mk (st := sTurn) lhturn chturn khturn
  have F_hitem := fun_mk (st := sItem) lhitem chitem khitem
  have F_hmk := fun_mk (st := sMakes) lhmk chmk khmk
  have F_hcall := fun_mk (st := sCall) lhcall chcall khcall
  have F_hwt := fun_mk (st := sWTurn) lhwt chwt khwt
  have F_eN := fun_mk (st := sEN) leN ceN keN
  have F_eM := fun_mk (st := sEM) leM ceM keM
  have F_eS := fun_mk (st := sES) leS ceS keS
  have F_eO := fun_mk (st := sET) leO ceO keO
  have F_eL := fun_mk (st := sEL) leL ceL keL
  have F_eU := fun_mk (st := sEU) leU ceU keU
  have b_pen_ := F_pen.binds (ps := ["_law_script"]) fun _ _ _ _ _ _ us hl => match us, hl with | [_], _ => rfl
  have b_draw_ := F_draw.binds (ps := ["_law_pen_here", "_law_many"]) fun _ _ _ _ _ _ us hl => match us, hl with | [_, _], _ => rfl
  have b_pick_ := F_pick.binds (ps := ["_law_pen_here", "_law_some"]) fun _ _ _ _ _ _ us hl => match us, hl with | [_, _], _ => rfl
  have b_spans_ := F_spans.binds (ps := ["_law_pen_here"]) fun _ _ _ _ _ _ us hl => match us, hl with | [_], _ => rfl
  have b_heard_ := F_heard.binds (ps := ["_law_ask"]) fun _ _ _ _ _ _ us hl => match us, hl with | [_], _ => rfl
  have b_due_ := F_due.binds (ps := ["_law_title", "_law_low", "_law_high", "_law_turned"]) fun _ _ _ _ _ _ us hl => match us, hl with | [_, _, _, _], _ => rfl
  have b_law_ := F_law.binds (ps := ["_law_script"]) fun _ _ _ _ _ _ us hl => match us, hl with | [_], _ => rfl
  have b_whole_ := F_whole.binds (ps := ["value"]) fun _ _ _ _ _ _ us hl => match us, hl with | [_], _ => rfl
  have b_moment_ := F_moment.binds (ps := ["value"]) fun _ _ _ _ _ _ us hl => match us, hl with | [_], _ => rfl
  have b_isname_ := F_isname.binds (ps := ["value"]) fun _ _ _ _ _ _ us hl => match us, hl with | [_], _ => rfl
  have b_check_ := F_check.binds (ps := ["value", "form"]) fun _ _ _ _ _ _ us hl => match us, hl with | [_, _], _ => rfl
  have b_withf_ := F_withf.binds (ps := ["tool", "moments"]) fun _ _ _ _ _ _ us hl => match us, hl with | [_, _], _ => rfl
  have b_isturn_ := F_isturn.binds (ps := ["lives", "life", "turn"]) fun _ _ _ _ _ _ us hl => match us, hl with | [_, _, _], _ => rfl
  have b_wordof_ := F_wordof.binds (ps := ["value"]) fun _ _ _ _ _ _ us hl => match us, hl with | [_], _ => rfl
  have b_ts_ := F_ts.binds (ps := ["lives", "tool", "moment", "turn"]) fun _ _ _ _ _ _ us hl => match us, hl with | [_, _, _, _], _ => rfl
  have b_sinit_ := F_sinit.binds (ps := ["self", "tool", "moment", "is_sound"]) fun _ _ _ _ _ _ us hl => match us, hl with | [_, _, _, _], _ => rfl
  have b_sstr_ := F_sstr.binds (ps := ["self"]) fun _ _ _ _ _ _ us hl => match us, hl with | [_], _ => rfl
  have b_seq_ := F_seq.binds (ps := ["self", "other"]) fun _ _ _ _ _ _ us hl => match us, hl with | [_, _], _ => rfl
  have b_spt_ := F_spt.binds (ps := ["self"]) fun _ _ _ _ _ _ us hl => match us, hl with | [_], _ => rfl
  have b_vinit_ := F_vinit.binds (ps := ["self", "begun"]) fun _ _ _ _ _ _ us hl => match us, hl with | [_, _], _ => rfl
  have b_vbeg_ := F_vbeg.binds (ps := ["self", "tool"]) fun _ _ _ _ _ _ us hl => match us, hl with | [_, _], _ => rfl
  have b_vlife_ := F_vlife.binds (ps := ["self", "tool", "moment"]) fun _ _ _ _ _ _ us hl => match us, hl with | [_, _, _], _ => rfl
  have b_vlast_ := F_vlast.binds (ps := ["self", "life"]) fun _ _ _ _ _ _ us hl => match us, hl with | [_, _], _ => rfl
  have b_vcont_ := F_vcont.binds (ps := ["self", "life"]) fun _ _ _ _ _ _ us hl => match us, hl with | [_, _], _ => rfl
  have b_vlen_ := F_vlen.binds (ps := ["self"]) fun _ _ _ _ _ _ us hl => match us, hl with | [_], _ => rfl
  have b_vli_ := F_vli.binds (ps := ["self"]) fun _ _ _ _ _ _ us hl => match us, hl with | [_], _ => rfl
  have b_hinit_ := F_hinit.binds (ps := ["self", "lives", "turns"]) fun _ _ _ _ _ _ us hl => match us, hl with | [_, _, _], _ => rfl
  have b_halw_ := F_halw.binds (ps := ["lives"]) fun _ _ _ _ _ _ us hl => match us, hl with | [_], _ => rfl
  have b_htu_ := F_htu.binds (ps := ["self"]) fun _ _ _ _ _ _ us hl => match us, hl with | [_], _ => rfl
  have b_hturn_ := F_hturn.binds (ps := ["self", "tool", "moment"]) fun _ _ _ _ _ _ us hl => match us, hl with | [_, _, _], _ => rfl
  have b_hitem_ := F_hitem.binds (ps := ["self", "at"]) fun _ _ _ _ _ _ us hl => match us, hl with | [_, _], _ => rfl
  have b_hmk_ := F_hmk.binds (ps := ["self", "saying"]) fun _ _ _ _ _ _ us hl => match us, hl with | [_, _], _ => rfl
  have b_hcall_ := F_hcall.binds (ps := ["self", "saying"]) fun _ _ _ _ _ _ us hl => match us, hl with | [_, _], _ => rfl
  have b_hwt_ := F_hwt.binds (ps := ["self", "tool", "moment", "turn"]) fun _ _ _ _ _ _ us hl => match us, hl with | [_, _, _, _], _ => rfl
  have b_eN_ := F_eN.binds (ps := ["self", "name"]) fun _ _ _ _ _ _ us hl => match us, hl with | [_, _], _ => rfl
  have b_eM_ := F_eM.binds (ps := ["self", "moment"]) fun _ _ _ _ _ _ us hl => match us, hl with | [_, _], _ => rfl
  have b_eS_ := F_eS.binds (ps := ["self", "value"]) fun _ _ _ _ _ _ us hl => match us, hl with | [_, _], _ => rfl
  have b_eO_ := F_eO.binds (ps := ["self", "tool"]) fun _ _ _ _ _ _ us hl => match us, hl with | [_, _], _ => rfl
  have b_eL_ := F_eL.binds (ps := ["self", "value"]) fun _ _ _ _ _ _ us hl => match us, hl with | [_, _], _ => rfl
  have b_eU_ := F_eU.binds (ps := ["self", "at"]) fun _ _ _ _ _ _ us hl => match us, hl with | [_, _], _ => rfl
  have L_CY : Cls K CY := ⟨pgCY, hdCY, poCY, saCY⟩
  have P_spt : PropOf K CY "point" pspt fspt := ⟨aspt, gspt, tspt, ⟨_, rspt⟩⟩
  have L_CV : Cls K CV := ⟨pgCV, hdCV, poCV, saCV⟩
  have P_vli : PropOf K CV "listed" pvli fvli := ⟨avli, gvli, tvli, ⟨_, rvli⟩⟩
  have L_CH : Cls K CH := ⟨pgCH, hdCH, poCH, saCH⟩
  have S_halw : Sta K CH (.type "type") "always" phalw fhalw := ⟨rdCH, gaCH, athalw, ⟨_, rchalw⟩, khalw⟩
  have P_htu : PropOf K CH "turns" phtu fhtu := ⟨ahtu, ghtu, thtu, ⟨_, rhtu⟩⟩
  have RN : Err K CN := ⟨geN, heN, exeN, hdeN, caeN, thn, tht, cmeN⟩
  have ON : OneE K mg "BadName" "name" CN feN _ := ⟨⟨⟨_, _, _, _, _, _, _, _, _, _, _, _, _, _, _, xN, by rfl⟩, seN, exeN, tyeN, kkeN⟩, aeN, teN, g1 aN, neN, RN, b_eN_⟩
  have RM : Err K CM := ⟨geM, heM, exeM, hdeM, caeM, thn, tht, cmeM⟩
  have OM : OneE K mg "BadMoment" "moment" CM feM _ := ⟨⟨⟨_, _, _, _, _, _, _, _, _, _, _, _, _, _, _, xM, by rfl⟩, seM, exeM, tyeM, kkeM⟩, aeM, teM, g1 aM, neM, RM, b_eM_⟩
  have RS : Err K CS := ⟨geS, heS, exeS, hdeS, caeS, thn, tht, cmeS⟩
  have OS : OneE K mg "BadSaying" "value" CS feS _ := ⟨⟨⟨_, _, _, _, _, _, _, _, _, _, _, _, _, _, _, xS, by rfl⟩, seS, exeS, tyeS, kkeS⟩, aeS, teS, g1 aS, neS, RS, b_eS_⟩
  have RO : Err K CO := ⟨geO, heO, exeO, hdeO, caeO, thn, tht, cmeO⟩
  have OO : OneE K mg "NoTool" "tool" CO feO _ := ⟨⟨⟨_, _, _, _, _, _, _, _, _, _, _, _, _, _, _, xO, by rfl⟩, seO, exeO, tyeO, kkeO⟩, aeO, teO, g1 aO, neO, RO, b_eO_⟩
  have RL : Err K CL := ⟨geL, heL, exeL, hdeL, caeL, thn, tht, cmeL⟩
  have OL : OneE K mg "NoLife" "value" CL feL _ := ⟨⟨⟨_, _, _, _, _, _, _, _, _, _, _, _, _, _, _, xL, by rfl⟩, seL, exeL, tyeL, kkeL⟩, aeL, teL, g1 aL, neL, RL, b_eL_⟩
  have RU : Err K CU := ⟨geU, heU, exeU, hdeU, caeU, thn, tht, cmeU⟩
  have OU : OneE K mg "BadTurn" "at" CU feU _ := ⟨⟨⟨_, _, _, _, _, _, _, _, _, _, _, _, _, _, _, xU, by rfl⟩, seU, exeU, tyeU, kkeU⟩, aeU, teU, g1 aU, neU, RU, b_eU_⟩
  have W : Words K mg := ⟨⟨_, g1 gG⟩, ⟨_, g1 gL⟩, ⟨_, g1 gA⟩, ⟨_, g1 gD⟩, ⟨aNo, g1 gN, fun H => tab_seq lN vN (by decide) H⟩, g0 b_isinstance, g0 b_int, g0 b_bool, g0 b_str, g0 b_len, g0 b_all⟩
  have WL : WordsL mg := ⟨g0 b_sorted, g0 b_set, g0 b_max, g0 b_min, g0 b_tuple⟩
  have NW : WordsW mg := ⟨g0 b_range, g0 b_repr, g0 b_str, g0 b_min, g0 b_int, g0 b_isinstance, g0 b_tuple⟩
  have RR : Errs K mg CN CM CS CO CL := ⟨⟨_, _, ON, F_eN⟩, ⟨_, _, OM, F_eM⟩, ⟨_, _, OS, F_eS⟩, ⟨_, _, OO, F_eO⟩, ⟨_, _, OL, F_eL⟩⟩
  have TY : Say K mg CY := ⟨L_CY, nCY_tool, nCY_moment, nCY_is_sound, g1 aCY, thaCY, thn, tht, thmCY, kit_self, fun T hT => by
    simp only [List.mem_cons, List.not_mem_nil, or_false] at hT
    rcases hT with h | h | h | h | h | h <;> subst h <;> exact ⟨kit_no hclsCY htypCY (by decide +kernel), notFirst_ty (by decide +kernel)⟩⟩
  have TV : Lvs K mg CV := ⟨L_CV, nCV__begun, g1 aCV, fun T hT => by
    simp only [List.mem_cons, List.not_mem_nil, or_false] at hT
    rcases hT with h | h | h | h | h | h | h <;> subst h <;> exact ⟨kit_no hclsCV htypCV (by decide +kernel), notFirst_ty (by decide +kernel)⟩⟩
  have TH : Hsts K mg CH := ⟨L_CH, nCH__lives, nCH__turns, g1 aCH⟩
  have HR : HrT K mg CT CO CM CU := {
    gT := g1 aT, gO := g1 aO, gM := g1 aM, gU := g1 aU, isi := g0 b_isinstance
    te := fun C hC => by
      simp only [List.mem_cons, List.not_mem_nil, or_false] at hC
      rcases hC with rfl | rfl | rfl
      · exact ⟨exm_own iT tT eT uteO sT, RO⟩
      · exact ⟨exm_own iT tT eT uteM sT, RM⟩
      · exact ⟨exm_own iT tT eT uteU sT, RU⟩
    oo := kit_self
    mo := kit_own iceO tyeO uMO uOO
    mm := kit_self
    uo := kit_own iceO tyeO uUO uOO
    um := kit_own iceM tyeM uUM uMM
    uu := kit_self
    fO := neO, fM := neM, fU := neU }
  refine ⟨PySem.W.fnOf "law" "law" (defArgs sLaw) (defBody sLaw) (defScope sLaw) .none kVlaw dclaw pmlaw anlaw (.ref c_law) ctlaw, c_law, P_law, tab_by alaw llaw rfl lclaw vclaw, nTlaw, fun s v => .of_eq rfl, fun base _ _ TB => ?_⟩
  have GD := ok_draw (P := l.prog) (w := w) (base := base) F_draw (g0 b_len) (g0 b_int) (g0 b_abs)
  have GPk := ok_pick (P := l.prog) (w := w) (base := base) F_pick (g0 b_len) F_draw b_draw_ (g1 adraw) GD
  have GPen := ok_pen (P := l.prog) (w := w) (base := base) F_pen (g0 b_list)
  have GSp := ok_spans (P := l.prog) (w := w) (base := base) F_spans (g0 b_len) (g0 b_range) (g0 b_sorted) (g0 b_set) F_draw b_draw_ (g1 adraw) GD F_pick b_pick_ (g1 apick) GPk
  have GDu := ok_due (P := l.prog) (w := w) (base := base) F_due (g0 b_str)
  have GM := ok_moment (P := l.prog) (w := w) (base := base) F_moment W F_whole b_whole_ (g1 awhole)
  have GNm := ok_name (P := l.prog) (w := w) (base := base) F_isname W
  have GC := ok_check (P := l.prog) (w := w) (base := base) F_check W RR F_moment b_moment_ (g1 amoment) GM F_isname b_isname_ (g1 aisname) GNm
  have GW := ok_with (P := l.prog) (w := w) (base := base) F_withf WL F_check b_check_ (g1 acheck) GC
  have GVi := ok_linitL (P := l.prog) (w := w) (base := base) F_vinit TV WL F_withf b_withf_ (g1 awithf) GW
  have GLd := ok_listed (P := l.prog) (w := w) (base := base) F_vli TV WL
  have GBg := ok_beg (P := l.prog) (w := w) (base := base) F_vbeg TV W RR
  have GCt := ok_cont (P := l.prog) (w := w) (base := base) F_vcont TV W WL F_whole b_whole_ (g1 awhole)
  have GLn := ok_len (P := l.prog) (w := w) (base := base) F_vlen TV W pvli P_vli b_vli_ GLd
  have GLf := ok_life (P := l.prog) (w := w) (base := base) F_vlife WL ⟨avbeg, ivbeg, kvbeg⟩ TV b_vbeg_ GBg F_check b_check_ (g1 acheck) GC
  have GLa := ok_last (P := l.prog) (w := w) (base := base) F_vlast TV W WL RR b_vcont_ GCt avcont ivcont
  have mL : Meth K CV "life_of" fvlife := ⟨avlife, ivlife, kvlife⟩
  have GTn := ok_isTurn (P := l.prog) (w := w) (base := base) F_isturn TV F_moment b_moment_ (g1 amoment) GM mL b_vlife_ GLf
  have GTg := ok_isTurnG (P := l.prog) (w := w) (base := base) F_isturn TV F_moment b_moment_ (g1 amoment) GM mL b_vlife_ GLf
  have GSi := ok_init (P := l.prog) (w := w) (base := base) F_sinit TY F_check b_check_ (g1 acheck) GC
  have MY : Mk K CY fsinit := ⟨mkCY, asinit, isinit, kcCY⟩
  have GPt := ok_point (P := l.prog) (w := w) (base := base) F_spt TY
  have GSs := ok_str (P := l.prog) (w := w) (base := base) F_sstr W TY F_wordof b_wordof_ (g1 awordof)
  have GSe := ok_eqS (P := l.prog) (w := w) (base := base) F_seq W TY P_spt b_spt_ GPt
  have GHi := ok_hinit (P := l.prog) (w := w) (base := base) F_hinit TV TH W (g0 b_dict) F_isturn b_isturn_ (g1 aisturn) GTn avlen ivlen b_vlen_ GLn avcont ivcont b_vcont_ GCt pvli P_vli b_vli_ GLd
  have MH : Mk K CH fhinit := ⟨mkCH, ahinit, ihinit, kcCH⟩
  have GAl := ok_always (P := l.prog) (w := w) (base := base) F_halw TV TH MH b_hinit_ GHi pvli P_vli b_vli_ GLd
  have GTu := ok_turns (P := l.prog) (w := w) (base := base) (CL := CV) F_htu TH
  have GTr := ok_turn (P := l.prog) (w := w) (base := base) F_hturn TV TH mL b_vlife_ GLf
  have GIt := ok_item (P := l.prog) (w := w) (base := base) F_hitem TH ⟨ahturn, ihturn, khturn⟩ b_hturn_ GTr
  have GMk := ok_makes (P := l.prog) (w := w) (base := base) F_hmk TY TH ahitem fihitem ihitem b_hitem_ GIt P_spt b_spt_ GPt
  have GCa := ok_call (P := l.prog) (w := w) (base := base) F_hcall TH ⟨ahmk, ihmk, khmk⟩ b_hmk_ GMk
  have GWt := ok_wturn (P := l.prog) (w := w) (base := base) F_hwt TV TH MH b_hinit_ GHi mL b_vlife_ GLf P_htu b_htu_ GTu
  have GTS := ok_ts (P := l.prog) (w := w) (base := base) F_ts TV TY F_isturn b_isturn_ (g1 aisturn) GTg mL b_vlife_ GLf ⟨avlast, ivlast, kvlast⟩ b_vlast_ GLa MY b_sinit_ GSi OU (ok_eU (P := l.prog) (w := w) (base := base) F_eU OU)
  have LM : LivM l.prog w K mg base CV fvinit _ := ⟨TV, ⟨mkCV, avinit, ivinit, kcCV⟩, b_vinit_, GVi⟩
  have HM : HisM l.prog w K mg base CV CH CY phalw fhalw _ fhwt _ fhcall _ := ⟨TH, S_halw, b_halw_, GAl, ⟨ahwt, ihwt, khwt⟩, b_hwt_, GWt, ⟨ahcall, ihcall, fihcall⟩, b_hcall_, GCa⟩
  have SM : SayM l.prog w K mg base CY fsstr _ fseq _ := ⟨TY, asstr, isstr, b_sstr_, GSs, aseq, iseq, b_seq_, GSe⟩
  exact ok_law (T := TT P_law) (CN := CN) (CS := CS) F_law rfl (TB _ List.mem_cons_self) TT_in0 (TT_un0 ) LM HM SM NW HR F_pen b_pen_ (g1 apen) GPen F_spans b_spans_ (g1 aspans) GSp F_draw b_draw_ (g1 adraw) GD F_pick b_pick_ (g1 apick) GPk
    F_due b_due_ (g1 adue) GDu F_ts b_ts_ (kb_ts fun s a b c d => .of_eq rfl) (g1 ats) GTS F_heard b_heard_ (g1 aheard)
theorem walk {l : PySem.W.OpenLaw} {q : Program} {loose : List Str} {XP : (Str → Option Value) → Heap → Prop} {YP : World → Heap → Prop} {d : DefRec} {K : Params → PySem.W.Frag} (hn : l.most = some 63) (hdf : d.params.defaults = []) (hnm : d.name = "law")
    (hrec0 : ((recsOf q).find? (fun e => e.name == ("law" : Str))).isSome = true) (hY : ∀ (w : World) (h : Heap), YP w h → (K w.params).In h)
    (F : ∀ (w : World) (mg : Str → Option Value) (fa : Addr) (h : Heap), (K w.params).In h → h.Ns mainGlobals mg → mg "law" = some (.ref fa) →
      ∃ (fd : FuncData) (c0 P0 : Addr), PySem.W.tabIn (K w.params) "law" = some (c0, P0) ∧ (K w.params).lookup P0 = none ∧ (∀ (s : Shared) (u : Value), BindsTo s fd ⟨[u], []⟩ [("_law_script", u)]) ∧
        ∀ base : Heap, (K w.params).In base → base.Ns mainGlobals mg → (∀ q ∈ [(c0, P0)], TabB base mg q.1 q.2) → FnG l.prog w (K w.params) mg base CX0 12 fa fd ["_law_script"] (spLaw (K w.params) (TT P0))) :
    PySem.W.WalkO q loose XP YP l.row.toRowW d [] (fun f vs => PySem.call f vs) := by
  apply Att.attach_callB hn hdf
  intro w s₀ s₁ mg mb fa o pm cd doc a vs ns G Y _ _ _ hmg hobj hints hlen hbits hg
  have KX := hY w _ Y
  rw [hnm] at hmg
  obtain ⟨fd, c0, P0, ht0, nT0, hb, hF⟩ := F w mg fa _ KX G.T.g hmg
  obtain ⟨d0, hd0⟩ := Option.isSome_iff_exists.mp hrec0
  obtain ⟨C0, tb0⟩ := PySem.W.tab_of G.T KX hd0 ht0
  refine law_callTGs (cs := [(c0, P0)]) KX G.T.g G.T.b G.T.builtins G.T.nolimit hg (fun q hq => ?_) G.T.bmain hobj hints (Nat.le_trans hlen (by decide)) ⟨rfl, by decide, by decide⟩ hF hb (fun H hT hS => ⟨a, ns, rfl, hS, fun q hq => ?_, fun _ => rfl⟩) fun _ _ _ z => z
  · simp only [List.mem_cons, List.not_mem_nil, or_false] at hq
    subst hq
    · exact ⟨tb0, nT0, C0⟩
  · unfold TT at hq
    simp only [List.mem_cons, List.not_mem_nil, or_false] at hq
    subst hq
    · exact TabS.nil (hT (c0, P0) (by simp))
end K49

open PySem PySem.W PyProof.Rows in
set_option maxRecDepth 100000 in
set_option maxHeartbeats 0 in
theorem PySem.Challenge.cw_soundtill_k49_turn_sayings_told_holds : PySem.Challenge.rw_soundtill_k49_turn_sayings_told.Holds := by
  w_on; o_law; k_head; (case hw => w_witness2)
  k_fill
  refine K49.walk (l := PySem.Challenge.rw_soundtill_k49_turn_sayings_told) rfl rfl rfl (by decide +kernel) (fun w h Y => PySem.W.km_in_of Y) ?F
  case F =>
    intro w mg fa h KX G hmg
    refine' K49.all_mk KX G hmg ?apen ?lpen ?cpen ?kpen ?adraw ?ldraw ?cdraw ?kdraw ?apick ?lpick ?cpick ?kpick ?aspans ?lspans ?cspans ?kspans ?aheard ?lheard ?cheard ?kheard ?adue ?ldue ?cdue ?kdue ?alaw ?llaw ?claw ?klaw ?awhole ?lwhole ?cwhole ?kwhole ?amoment ?lmoment ?cmoment ?kmoment ?aisname ?lisname ?cisname ?kisname ?acheck ?lcheck ?ccheck ?kcheck ?awithf ?lwithf ?cwithf ?kwithf ?aisturn ?listurn ?cisturn ?kisturn ?awordof ?lwordof ?cwordof ?kwordof ?ats ?lts ?cts ?kts ?thn ?tht ?aCY ?pgCY ?hdCY ?poCY ?saCY ?mkCY ?kcCY ?nCY_tool ?nCY_moment ?nCY_is_sound ?thaCY ?thmCY ?hclsCY ?htypCY ?asinit ?isinit ?lsinit ?csinit ?ksinit ?asstr ?isstr ?lsstr ?csstr ?ksstr ?aseq ?iseq ?lseq ?cseq ?kseq ?aspt ?gspt ?tspt ?rspt ?lspt ?cspt ?kspt ?aCV ?pgCV ?hdCV ?poCV ?saCV ?mkCV ?kcCV ?nCV__begun ?thaCV ?thmCV ?hclsCV ?htypCV ?avinit ?ivinit ?lvinit ?cvinit ?kvinit ?avbeg ?ivbeg ?lvbeg ?cvbeg ?kvbeg ?avlife ?ivlife ?lvlife ?cvlife ?kvlife ?avlast ?ivlast ?lvlast ?cvlast ?kvlast ?avcont ?ivcont ?lvcont ?cvcont ?kvcont ?avlen ?ivlen ?lvlen ?cvlen ?kvlen ?avli ?gvli ?tvli ?rvli ?lvli ?cvli ?kvli ?aCH ?pgCH ?hdCH ?poCH ?saCH ?mkCH ?kcCH ?nCH__lives ?nCH__turns ?rdCH ?gaCH ?ahinit ?ihinit ?lhinit ?chinit ?khinit ?athalw ?rchalw ?lhalw ?chalw ?khalw ?ahtu ?ghtu ?thtu ?rhtu ?lhtu ?chtu ?khtu ?ahturn ?ihturn ?lhturn ?chturn ?khturn ?ahitem ?ihitem ?lhitem ?chitem ?khitem ?fihitem ?ahmk ?ihmk ?lhmk ?chmk ?khmk ?ahcall ?ihcall ?lhcall ?chcall ?khcall ?fihcall ?ahwt ?ihwt ?lhwt ?chwt ?khwt ?gG ?gL ?gA ?gD ?gN ?lN ?vN ?b_isinstance ?b_int ?b_bool ?b_str ?b_len ?b_all ?b_list ?b_tuple ?b_dict ?b_abs ?b_repr ?b_range ?b_sorted ?b_set ?b_max ?b_min ?b_ValueError ?aT ?iT ?tT ?eT ?sT ?aN ?xN ?seN ?geN ?heN ?neN ?aeN ?teN ?leN ?ceN ?keN ?kkeN ?exeN ?tyeN ?hdeN ?iceN ?veeN ?uteN ?caeN ?cmeN ?aM ?xM ?seM ?geM ?heM ?neM ?aeM ?teM ?leM ?ceM ?keM ?kkeM ?exeM ?tyeM ?hdeM ?iceM ?veeM ?uteM ?caeM ?cmeM ?aS ?xS ?seS ?geS ?heS ?neS ?aeS ?teS ?leS ?ceS ?keS ?kkeS ?exeS ?tyeS ?hdeS ?iceS ?veeS ?uteS ?caeS ?cmeS ?aO ?xO ?seO ?geO ?heO ?neO ?aeO ?teO ?leO ?ceO ?keO ?kkeO ?exeO ?tyeO ?hdeO ?iceO ?veeO ?uteO ?caeO ?cmeO ?aL ?xL ?seL ?geL ?heL ?neL ?aeL ?teL ?leL ?ceL ?keL ?kkeL ?exeL ?tyeL ?hdeL ?iceL ?veeL ?uteL ?caeL ?cmeL ?aU ?xU ?seU ?geU ?heU ?neU ?aeU ?teU ?leU ?ceU ?keU ?kkeU ?exeU ?tyeU ?hdeU ?iceU ?veeU ?uteU ?caeU ?cmeU ?uOO ?uOM ?uOU ?uMO ?uMM ?uMU ?uUO ?uUM ?uUU ?lclaw ?vclaw ?nTlaw
    (case apen => k_is)
    (case lpen => k_is)
    (case cpen => k_is)
    (case kpen => k_is)
    (case adraw => k_is)
    (case ldraw => k_is)
    (case cdraw => k_is)
    (case kdraw => k_is)
    (case apick => k_is)
    (case lpick => k_is)
    (case cpick => k_is)
    (case kpick => k_is)
    (case aspans => k_is)
    (case lspans => k_is)
    (case cspans => k_is)
    (case kspans => k_is)
    (case aheard => k_is)
    (case lheard => k_is)
    (case cheard => k_is)
    (case kheard => k_is)
    (case adue => k_is)
    (case ldue => k_is)
    (case cdue => k_is)
    (case kdue => k_is)
    (case alaw => k_is)
    (case llaw => k_is)
    (case claw => k_is)
    (case klaw => k_is)
    (case awhole => k_is)
    (case lwhole => k_is)
    (case cwhole => k_is)
    (case kwhole => k_is)
    (case amoment => k_is)
    (case lmoment => k_is)
    (case cmoment => k_is)
    (case kmoment => k_is)
    (case aisname => k_is)
    (case lisname => k_is)
    (case cisname => k_is)
    (case kisname => k_is)
    (case acheck => k_is)
    (case lcheck => k_is)
    (case ccheck => k_is)
    (case kcheck => k_is)
    (case awithf => k_is)
    (case lwithf => k_is)
    (case cwithf => k_is)
    (case kwithf => k_is)
    (case aisturn => k_is)
    (case listurn => k_is)
    (case cisturn => k_is)
    (case kisturn => k_is)
    (case awordof => k_is)
    (case lwordof => k_is)
    (case cwordof => k_is)
    (case kwordof => k_is)
    (case ats => k_is)
    (case lts => k_is)
    (case cts => k_is)
    (case kts => k_is)
    (case thn => k_is)
    (case tht => k_is)
    (case aCY => k_is)
    (case pgCY => k_is)
    (case hdCY => k_is)
    (case poCY => k_is)
    (case saCY => k_is)
    (case mkCY => k_is)
    (case kcCY => k_is)
    (case nCY_tool => k_is)
    (case nCY_moment => k_is)
    (case nCY_is_sound => k_is)
    (case thaCY => k_is)
    (case thmCY => k_is)
    (case hclsCY => k_is)
    (case htypCY => k_is)
    (case asinit => k_is)
    (case isinit => k_is)
    (case lsinit => k_is)
    (case csinit => k_is)
    (case ksinit => k_is)
    (case asstr => k_is)
    (case isstr => k_is)
    (case lsstr => k_is)
    (case csstr => k_is)
    (case ksstr => k_is)
    (case aseq => k_is)
    (case iseq => k_is)
    (case lseq => k_is)
    (case cseq => k_is)
    (case kseq => k_is)
    (case aspt => k_is)
    (case gspt => k_is)
    (case tspt => k_is)
    (case rspt => k_is)
    (case lspt => k_is)
    (case cspt => k_is)
    (case kspt => k_is)
    (case aCV => k_is)
    (case pgCV => k_is)
    (case hdCV => k_is)
    (case poCV => k_is)
    (case saCV => k_is)
    (case mkCV => k_is)
    (case kcCV => k_is)
    (case nCV__begun => k_is)
    (case thaCV => k_is)
    (case thmCV => k_is)
    (case hclsCV => k_is)
    (case htypCV => k_is)
    (case avinit => k_is)
    (case ivinit => k_is)
    (case lvinit => k_is)
    (case cvinit => k_is)
    (case kvinit => k_is)
    (case avbeg => k_is)
    (case ivbeg => k_is)
    (case lvbeg => k_is)
    (case cvbeg => k_is)
    (case kvbeg => k_is)
    (case avlife => k_is)
    (case ivlife => k_is)
    (case lvlife => k_is)
    (case cvlife => k_is)
    (case kvlife => k_is)
    (case avlast => k_is)
    (case ivlast => k_is)
    (case lvlast => k_is)
    (case cvlast => k_is)
    (case kvlast => k_is)
    (case avcont => k_is)
    (case ivcont => k_is)
    (case lvcont => k_is)
    (case cvcont => k_is)
    (case kvcont => k_is)
    (case avlen => k_is)
    (case ivlen => k_is)
    (case lvlen => k_is)
    (case cvlen => k_is)
    (case kvlen => k_is)
    (case avli => k_is)
    (case gvli => k_is)
    (case tvli => k_is)
    (case rvli => k_is)
    (case lvli => k_is)
    (case cvli => k_is)
    (case kvli => k_is)
    (case aCH => k_is)
    (case pgCH => k_is)
    (case hdCH => k_is)
    (case poCH => k_is)
    (case saCH => k_is)
    (case mkCH => k_is)
    (case kcCH => k_is)
    (case nCH__lives => k_is)
    (case nCH__turns => k_is)
    (case rdCH => k_is)
    (case gaCH => k_is)
    (case ahinit => k_is)
    (case ihinit => k_is)
    (case lhinit => k_is)
    (case chinit => k_is)
    (case khinit => k_is)
    (case athalw => k_is)
    (case rchalw => k_is)
    (case lhalw => k_is)
    (case chalw => k_is)
    (case khalw => k_is)
    (case ahtu => k_is)
    (case ghtu => k_is)
    (case thtu => k_is)
    (case rhtu => k_is)
    (case lhtu => k_is)
    (case chtu => k_is)
    (case khtu => k_is)
    (case ahturn => k_is)
    (case ihturn => k_is)
    (case lhturn => k_is)
    (case chturn => k_is)
    (case khturn => k_is)
    (case ahitem => k_is)
    (case ihitem => k_is)
    (case lhitem => k_is)
    (case chitem => k_is)
    (case khitem => k_is)
    (case fihitem => k_is)
    (case ahmk => k_is)
    (case ihmk => k_is)
    (case lhmk => k_is)
    (case chmk => k_is)
    (case khmk => k_is)
    (case ahcall => k_is)
    (case ihcall => k_is)
    (case lhcall => k_is)
    (case chcall => k_is)
    (case khcall => k_is)
    (case fihcall => k_is)
    (case ahwt => k_is)
    (case ihwt => k_is)
    (case lhwt => k_is)
    (case chwt => k_is)
    (case khwt => k_is)
    (case gG => k_is)
    (case gL => k_is)
    (case gA => k_is)
    (case gD => k_is)
    (case gN => k_is)
    (case lN => k_is)
    (case vN => rfl)
    (case b_isinstance => k_is)
    (case b_int => k_is)
    (case b_bool => k_is)
    (case b_str => k_is)
    (case b_len => k_is)
    (case b_all => k_is)
    (case b_list => k_is)
    (case b_tuple => k_is)
    (case b_dict => k_is)
    (case b_abs => k_is)
    (case b_repr => k_is)
    (case b_range => k_is)
    (case b_sorted => k_is)
    (case b_set => k_is)
    (case b_max => k_is)
    (case b_min => k_is)
    (case b_ValueError => k_is)
    (case aT => k_is)
    (case iT => k_is)
    (case tT => k_is)
    (case eT => k_is)
    (case sT => k_is)
    (case aN => k_is)
    (case xN => k_is)
    (case seN => k_is)
    (case geN => k_is)
    (case heN => k_is)
    (case neN => k_is)
    (case aeN => k_is)
    (case teN => k_is)
    (case leN => k_is)
    (case ceN => k_is)
    (case keN => k_is)
    (case kkeN => k_is)
    (case exeN => k_is)
    (case tyeN => k_is)
    (case hdeN => k_is)
    (case iceN => k_is)
    (case veeN => k_is)
    (case uteN => k_is)
    (case caeN => k_is)
    (case cmeN => k_is)
    (case aM => k_is)
    (case xM => k_is)
    (case seM => k_is)
    (case geM => k_is)
    (case heM => k_is)
    (case neM => k_is)
    (case aeM => k_is)
    (case teM => k_is)
    (case leM => k_is)
    (case ceM => k_is)
    (case keM => k_is)
    (case kkeM => k_is)
    (case exeM => k_is)
    (case tyeM => k_is)
    (case hdeM => k_is)
    (case iceM => k_is)
    (case veeM => k_is)
    (case uteM => k_is)
    (case caeM => k_is)
    (case cmeM => k_is)
    (case aS => k_is)
    (case xS => k_is)
    (case seS => k_is)
    (case geS => k_is)
    (case heS => k_is)
    (case neS => k_is)
    (case aeS => k_is)
    (case teS => k_is)
    (case leS => k_is)
    (case ceS => k_is)
    (case keS => k_is)
    (case kkeS => k_is)
    (case exeS => k_is)
    (case tyeS => k_is)
    (case hdeS => k_is)
    (case iceS => k_is)
    (case veeS => k_is)
    (case uteS => k_is)
    (case caeS => k_is)
    (case cmeS => k_is)
    (case aO => k_is)
    (case xO => k_is)
    (case seO => k_is)
    (case geO => k_is)
    (case heO => k_is)
    (case neO => k_is)
    (case aeO => k_is)
    (case teO => k_is)
    (case leO => k_is)
    (case ceO => k_is)
    (case keO => k_is)
    (case kkeO => k_is)
    (case exeO => k_is)
    (case tyeO => k_is)
    (case hdeO => k_is)
    (case iceO => k_is)
    (case veeO => k_is)
    (case uteO => k_is)
    (case caeO => k_is)
    (case cmeO => k_is)
    (case aL => k_is)
    (case xL => k_is)
    (case seL => k_is)
    (case geL => k_is)
    (case heL => k_is)
    (case neL => k_is)
    (case aeL => k_is)
    (case teL => k_is)
    (case leL => k_is)
    (case ceL => k_is)
    (case keL => k_is)
    (case kkeL => k_is)
    (case exeL => k_is)
    (case tyeL => k_is)
    (case hdeL => k_is)
    (case iceL => k_is)
    (case veeL => k_is)
    (case uteL => k_is)
    (case caeL => k_is)
    (case cmeL => k_is)
    (case aU => k_is)
    (case xU => k_is)
    (case seU => k_is)
    (case geU => k_is)
    (case heU => k_is)
    (case neU => k_is)
    (case aeU => k_is)
    (case teU => k_is)
    (case leU => k_is)
    (case ceU => k_is)
    (case keU => k_is)
    (case kkeU => k_is)
    (case exeU => k_is)
    (case tyeU => k_is)
    (case hdeU => k_is)
    (case iceU => k_is)
    (case veeU => k_is)
    (case uteU => k_is)
    (case caeU => k_is)
    (case cmeU => k_is)
    (case uOO => k_is)
    (case uOM => k_is)
    (case uOU => k_is)
    (case uMO => k_is)
    (case uMM => k_is)
    (case uMU => k_is)
    (case uUO => k_is)
    (case uUM => k_is)
    (case uUU => k_is)
    (case lclaw => k_is)
    (case vclaw => rfl)
    (case nTlaw => first | kernel_rfl | rfl)
