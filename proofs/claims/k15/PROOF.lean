import PyProof.Rows.All
import Wide.All
import OpenK.AllK
import Wide.FinOn
import KE.OsRunLaw
import KE.RegKSuper
import HandS.Head2
import HandS.ForMost
import HandS.OwnEq
import HandS.IsInst
import HandS.Wide
import HandS.EndBits
import HandS.Property
import KE.LtData
import HandS.NamedTupSort
import HandS.Exc
import HandS.ExcInit
import HandS.ExcIs
import HandS.ExcField
import HandS.TryOnly
import HandS.Lambda
import HandS.ClsMeth
import HandS.MakeKwOnly
import KE.KOpsOwn
import HandS.WordsExc
import HandS.WordsDict
import HandS.Codes
import HandS.Walk
import HandS.Iter
import KE.GoesEnum
import KE.GoesMore
import KE.KSuper
import HandS.Zip
import HandS.More
import HandS.List
import PyProof.ReprRoads
import PyProof.StrBlock2
import HandS.Words
import PyProof.StrLawsRepr
import HandS.Text
import KE.SortData
import HandS.RaiseMore
import KE.KCallOwn
import HandS.Star
import PyProof.NeKinds
import PyProof.EqAt
import HandS.Call
import HandS.EndTab
import HandS.Dict
import PyProof.StrLawsTight
import PyProof.StrLawsChain
import PyProof.Rows.StrSplitJoin
import PyProof.Rows.StrItems
import PyProof.Rows.StrSplitAre
import HandS.Defaults
import HandS.Small
import HandS.LawCells
import HandS.IterVal
import KE.GoesZip
import KE.IntTextText
import KE.KUnpackStar
import HandS.ExcOwn
import PySem.Challenge.RW_soundtill_k15_rows_read
set_option Elab.async false
set_option linter.all false
set_option maxRecDepth 100000
set_option maxHeartbeats 8000000
section
open PySem PySem.W PySem.Calls PyProof.Rows
theorem K15.keepH (H : Hook) {p : Prop} (h : p) : p := h
local macro_rules
  | `(tactic| o_headL $H:term) => `(tactic| exact K15.keepH $H (by assumption))
set_option maxHeartbeats 0 in
theorem K15.dummy (h : OpenRow.Holds (OpenLaw.row PySem.Challenge.rw_soundtill_k15_rows_read)) : OpenRow.Holds (OpenLaw.row PySem.Challenge.rw_soundtill_k15_rows_read) := by
  k_headL
abbrev K15.R : OpenRow := OpenLaw.row PySem.Challenge.rw_soundtill_k15_rows_read
def K15.q : Program := view K15.R.prog [0, 2, 3, 4, 5, 6, 8, 9, 10, 11, 12, 13, 14, 15, 16, 17, 18, 19, 20, 21, 22, 23, 24, 26, 27, 28, 29, 30, 31, 32, 33, 34, 35, 36, 37, 38, 39, 40, 41, 42, 43, 45, 46, 47, 48, 49, 50, 51, 52, 53, 54, 55, 56, 57, 58, 59, 60, 61]
def K15.loose : List PySem.Str := [PySem.Str.ofString "FORMS", PySem.Str.ofString "Row", PySem.Str.ofString "SetBy"]
def K15.as : List Addr := [2, 3, 15, 17, 18, 20, 21, 22, 29, 30, 31, 32, 35, 42, 44, 45, 47, 48, 49, 50, 51, 54, 61, 63, 64, 66, 67, 68, 69, 70, 73, 80, 82, 83, 85, 86, 87, 88, 89, 92, 99, 101, 102, 104, 105, 106, 107, 108, 111, 112, 114, 115, 117, 118, 119, 121, 122, 124, 125, 126, 129, 130, 131, 133, 134, 136, 137, 138, 141, 142, 143, 145, 146, 148, 149, 150, 152, 153, 155, 156, 157, 159, 160, 162, 163, 164, 167, 168, 169, 171, 172, 174, 175, 176, 178, 179, 181, 182, 183, 184, 185, 186, 187, 188, 189, 190, 191, 192, 193, 194, 196, 197, 199, 200, 208, 209, 211, 212, 214, 215, 216, 217, 218, 219, 221, 222, 224, 225, 226, 227, 229, 230, 232, 233, 234, 235, 237, 238, 240, 241, 242, 243, 246, 247, 248, 250, 251, 253, 254, 255, 258, 259, 260, 262, 263, 265, 266, 267, 269, 270, 272, 273, 274, 277, 278, 279, 280, 281, 282, 283, 286, 293, 294, 295, 298, 305, 306, 307, 310, 317, 319, 320, 322, 323, 324, 325, 326, 329, 336, 338, 339, 341, 342, 343, 345, 346, 348, 349, 350, 351, 352, 355, 362, 364, 365, 367, 368, 369, 371, 372, 374, 375, 376, 377, 378, 381, 388, 390, 391, 393, 394, 395, 397, 398, 400, 401, 402, 403, 404, 407, 414, 416, 417, 419, 420, 421, 423, 424, 426, 427, 428, 429, 430, 433, 440, 442, 443, 445, 446, 447, 449, 450, 452, 453, 454, 455, 456, 459, 466, 468, 469, 471, 472, 473, 475, 476, 478, 479, 480, 481, 482, 485, 488, 493, 494, 496, 497, 499, 500, 501, 503, 504, 506, 507, 508, 509, 510, 513, 516, 521, 522, 524, 525, 527, 528, 529, 531, 532, 534, 535, 536, 537, 538, 541, 544, 549, 550, 552, 553, 555, 556, 557, 559, 560, 562, 563, 564, 565, 566, 569, 572, 577, 578, 580, 581, 583, 584, 585, 587, 588, 590, 591, 592, 593, 594, 597, 599, 600, 602, 603, 604, 606, 607, 609, 610, 611, 613, 614, 616, 617, 618, 620, 621, 623, 624, 625, 627, 628, 630, 631, 632, 634, 635, 637, 638, 639, 641, 642, 644, 645, 646, 648, 649, 651, 652, 653, 655, 656, 658, 659, 660, 662, 663, 665, 666, 667, 670, 671, 672, 674, 675, 677, 678, 679, 681, 682, 684, 685, 686, 689, 690, 691, 694, 695, 696, 698, 699, 701, 702, 703, 705, 706, 708, 709, 710, 712, 713, 715, 716, 717, 720, 721]
theorem K15.as_eq (P : Params) : K15.as = (K15.dummy.heap_1 P).map (·.1) := by kernel_rfl
def K15.Run (w : World) : Prop := ∀ os : OsState, (HeadRun.endF (HeadRun.stepQ (HeadRun.denQ HeadRun.tabQ) K15.R.prog w) 15300 K15.R.prog w os).map (fun s => (HeadRun.looksF K15.R.prog (boot_heap w.params) s.abs, HeadRun.seenQ K15.q K15.loose (importedModules K15.R.prog.main.body) (fun s => xlAt K15.q [] s && recOk (RowW.records K15.R.toRowW) s) s.abs, K15.as.map (HeadRun.getT s))) = some (true, openGood K15.q K15.loose, (K15.dummy.heap_1 w.params).map fun x => some x.2)
end

section
open PySem PySem.W PySem.Calls PyProof.Rows
theorem K15.runF (w : World) : K15.Run (w.withFollow "special-get-raises" false) := by
  intro os
  kernel_rfl
theorem K15.runT (w : World) : K15.Run (w.withFollow "special-get-raises" true) := by
  intro os
  kernel_rfl
theorem K15.byRowAll (row : String) {P : World → Prop} (hf : ∀ w : World, P (w.withFollow row false)) (ht : ∀ w : World, P (w.withFollow row true)) : ∀ w, P w := fun w => byRow2 row hf ht w
end

/-! So: rules of our own over the hand layer. Runs whose guards are known (for repr), repr of data, == and != by an own __eq__ with both answers, < of data, a method's call with keywords. -/
namespace So
open PySem PySem.Spec PyProof.Rows L2

/-! ### repr of data -/
mutual
theorem dp_noDict {K : PySem.W.Frag} {H : Hp} : ∀ (d : PyData) (v : V), Dp K H v d → d.hasDict = false
  | .none, _, _ => rfl
  | .bool _, _, _ => rfl
  | .int _, _, _ => rfl
  | .str _, _, _ => rfl
  | .list ds, _, h => by
    cases h with
    | lst _ ha => simpa [PyData.hasDict] using dp_noDictAll ds _ ha
  | .tuple ds, _, h => by
    cases h with
    | tup _ ha => simpa [PyData.hasDict] using dp_noDictAll ds _ ha
  | .dict _, _, h => by cases h
theorem dp_noDictAll {K : PySem.W.Frag} {H : Hp} : ∀ (ds : List PyData) (vs : List V), DpAll K H vs ds → PyData.hasDictAll ds = false
  | [], _, _ => rfl
  | d :: ds, _, h => by
    cases h with
    | cons h1 h2 => simp [PyData.hasDictAll, dp_noDict d _ h1, dp_noDictAll ds _ h2]
end

/-- repr(x): what it asks -/
def rRepr (K : PySem.W.Frag) : List V → Hp → VK → Prop := fun xs H Q => ∃ v d, xs = [v] ∧ Dp K H v d ∧ d.showable = true ∧ d.depth ≤ 60 ∧ d.shown.length ≤ sizeLine ∧ Q (.str d.shown) H
section
variable {X : Cx}
theorem call_reprD (hg : X.A.guards = some []) (hu : X.A.units + 64 < cLine) : CallR X (.builtin "repr") (rRepr X.K) := by
  intro pins s σ H xs us Q I r h
  obtain ⟨v, d, rfl, hd, hs, hdep, hz, q⟩ := h
  obtain ⟨u, rfl, rv⟩ := vals1 r
  obtain ⟨as, rd⟩ := Dp.reads I d v u hd rv
  have nd : d.hasDict = false := dp_noDict d v hd
  cases v with
  | ref a =>
    cases rv
    refine repr_of_reads' rd hs (fun z => by rw [nd] at z; cases z) hg (by omega) (fun _ _ e => e) (fun h' t tk k => ?_) hz
    exact ⟨.str d.shown, H, I.kept k, ⟨t, rfl⟩, q⟩
  | non =>
    cases hd
    cases rv
    exact PySem.P.repr_of_none ⟨.str _, H, I.tok _, ⟨_, rfl⟩, q⟩
  | bl b =>
    cases hd
    cases rv
    refine PySem.P.repr_of_bool ⟨.str (PyData.shown (.bool b)), H, I.tok _, ⟨s.toks, ?_⟩, q⟩
    cases b <;> rfl
  | int i =>
    cases hd
    obtain ⟨t, rfl⟩ := rv
    exact PySem.P.repr_of_int (by simpa [PyData.showable] using hs) ⟨.str _, H, I.tok _, ⟨_, rfl⟩, q⟩
  | str x =>
    cases hd
    obtain ⟨t, rfl⟩ := rv
    exact PySem.P.repr_of_str ⟨.str _, H, I.tok _, ⟨_, rfl⟩, q⟩ hz
  | byt b => cases hd
  | flt b => cases hd
  | ty n => cases hd

/-! ### < of data -/
def rLtD (K : PySem.W.Frag) : R2 := fun x y H Q => ∃ d e, Dp K H x d ∧ Dp K H y e ∧ PySem.W.alike d e = true ∧ d ≠ .none ∧ d.depth ≤ 60 ∧ Q (.bl (PySem.W.dataLt d e)) H
theorem op_ltD (hu : X.A.units + 64 < cLine) : OpR X (compareOp .Lt) (rLtD X.K) := by
  intro pins s σ H x y v u Q I rx ry h
  obtain ⟨d, e, hd, he, al, nn, dep, q⟩ := h
  obtain ⟨as, r1⟩ := Dp.reads I d x v hd rx
  obtain ⟨bs, r2⟩ := Dp.reads I e y u he ry
  have hm : min d.depth e.depth ≤ d.depth := Nat.min_le_left _ _
  exact PySem.W.rcLt_alike d e X.A s v u as bs r1 r2 al nn (by omega) _ _ _ _ ⟨.bl _, H, I, rfl, q⟩
end
end So

namespace So
open PySem PySem.Spec PyProof.Rows L2

/-! ### == and != by an own __eq__, both answers -/
/-- x is an instance of C, y of a type that is no class below C; the own __eq__ answers b -/
def rOwn (C : Addr) (K : PySem.W.Frag) (sp : Sp) (E : XK) (g : Bool → Bool) : R2 := fun x y H Q => ∃ a dx fs t, x = .ref a ∧ H a = some (.ins C dx fs) ∧ TyX K H y t ∧ PySem.W.notFirst K C t = true ∧
  sp [.ref a, y] H (fun v H' => ∃ b, v = .bl b ∧ Q (.bl (g b)) H') E
section
variable {X : Cx} {CX : CXT} {k : Nat} {C f : Addr} {fd : FuncData} {ps : List Str} {sp : Sp} {E : XK}
/-- what is wanted of a comparison's answer -/
def BlP (X : Cx) (pins : List (Addr × Obj)) (σ : L2.St) (g : Bool → Bool) (Q : VK) (v : Value) (s' : Shared) : Prop := ∃ b H', v = .bool b ∧ Inv X pins σ H' s' ∧ Q (.bl (g b)) H'
theorem run_eq {pins : List (Addr × Obj)} {s : Shared} {σ : L2.St} {H : Hp} {a dx : Addr} {fs : List (Str × V)} {y : V} {u : Value} {Q : VK} {g : Bool → Bool} {A : Around} (F : FnOk X.prog X.w X.K X.mg X.base CX k f fd ps sp) (hb : Binds X.K fd ps [])
    (hx : Passes CX X E) (hr : Room k A) (hf : A.frames = X.A.frames) (I : Inv X pins σ H s) (ry : RelV y u) (h : sp [.ref a, y] H (fun v H' => ∃ b, v = .bl b ∧ Q (.bl (g b)) H') E) :
    wpAny (model X.prog X.w) A (call (.ref f) [.ref a, u]) (fun v s' => BlP X pins σ g Q v s') X.xe s := by
  have e0 : Env0 X.prog X.w X.K X.mg X.base A X.stack s H := by
    have e := I.env0
    exact ⟨hf.trans e.frames, e.mod, e.bs, e.bsz, e.funs, e.frf, e.hok, e.bare⟩
  have hl : ([Value.ref a, u] ++ ([] : List Value)).length = ps.length := (F.len _ _ _ _ h : [V.ref a, y].length = ps.length)
  refine wpAny_call (codeAny_mono (F.run A X.stack s H ⟨[.ref a, u], []⟩ ([.ref a, u] ++ []) [.ref a, y] _ E hr e0 (hb s [.ref a, u] I.kIn hl) (.cons rfl (.cons ry .nil)) h) fun r s' hq => ?_)
  cases r with
  | error e => exact hx pins σ H s e s' I hq
  | ok fl =>
    cases fl with
    | ret w =>
      obtain ⟨z, H', I', rz, b, ez, q⟩ := I.after hq
      subst ez
      cases rz
      exact ⟨b, H', rfl, I', q⟩
    | next => exact False.elim hq
    | brk => exact False.elim hq
    | cont => exact False.elim hq

theorem op_eqOwn (F : FnOk X.prog X.w X.K X.mg X.base CX k f fd ps sp) (hs : PySem.W.findIn X.K (.ref C) "__eq__" = some (some (.ref f))) (hf : PySem.W.isFn X.K (.ref f) = true) (hb : Binds X.K fd ps []) (hx : Passes CX X E) (hr : Room k X.A) :
    OpR X (compareOp .Eq) (rOwn C X.K sp E id) := by
  intro pins s σ H x y v u Q I rx ry h
  obtain ⟨a, dx, fs, t, rfl, ha, ty, nf, q⟩ := h
  cases rx
  obtain ⟨mA, J, _⟩ := ins_get I.hok ha
  obtain ⟨od, J, _⟩ := J.look
  obtain ⟨P, Z, p, _⟩ := kit_of I ry ty
  obtain ⟨m, hF⟩ := I.fr
  show wpAny _ _ (richCompare .Eq (.ref a) u) _ _ s
  refine PySem.W.cmp_K (op := .Eq) (tb := t) hr.units0 hF I.ok.mod.kin J (Z.ty _ _ I.kIn p) nf hs hf ?_
  refine wpAny_mono (run_eq (dx := dx) (fs := fs) F hb hx hr rfl I ry q) (fun w s' z => ?_) fun _ _ z => z
  obtain ⟨b, H', rfl, I', q'⟩ := z
  exact ⟨.bl b, H', I', rfl, q'⟩

/-- != where the class has an own __eq__ and object's __ne__ -/
theorem op_neOwn (F : FnOk X.prog X.w X.K X.mg X.base CX k f fd ps sp) (hs : PySem.W.findIn X.K (.ref C) "__eq__" = some (some (.ref f))) (hf : PySem.W.isFn X.K (.ref f) = true) (hb : Binds X.K fd ps []) (hx : Passes CX X E) (hr : Room (k + 1) X.A)
    (hn : PySem.W.findIn X.K (.ref C) "__ne__" = some (some (.builtin "object.__ne__"))) (hm : PySem.W.mroIn X.K C (.type "object") = some true) : OpR X (compareOp .NotEq) (rOwn C X.K sp E not) := by
  intro pins s σ H x y v u Q I rx ry h
  obtain ⟨a, dx, fs, t, rfl, ha, ty, nf, q⟩ := h
  cases rx
  obtain ⟨mA, J, _⟩ := ins_get I.hok ha
  obtain ⟨od, J, _⟩ := J.look
  obtain ⟨P, Z, p, _⟩ := kit_of I ry ty
  have KI := I.kIn
  have hb' := Z.ty (model X.prog X.w) _ I.kIn p
  have hu : X.A.units < cLine := hr.units0
  show wpAny _ _ (richCompare .NotEq (.ref a) u) _ _ s
  have one : wpAny (model X.prog X.w) X.A (tryCompare (.ref a) "__ne__" u) (fun r s' => ∃ v, r = some v ∧ EP X pins σ Q v s') X.xe s := by
    unfold tryCompare
    refine wpAny_bind (NtL.csib (J.type.andThen (PySem.W.looks_findIn KI hn)) (PySem.F.cmp_object.ne.bind _) (wpAny_call (codeAny_call_builtin PySem.F.cmp_object.ne.plain PySem.F.cmpEntry_ne (PySem.W.check_slot PySem.F.cmpKind_ne PySem.F.cmpSplit_ne (J.type.andThen (PySem.W.looks_mroIn KI hm)) (PySem.F.cmpArgs_ne _ _) ?_))))
    unfold Builtin.«object.__ne__»
    refine wpAny_bind (wpAny_of_eq (a := ((Value.ref a : Value), [u])) (by first | rfl | (simp only [slotArgs]; rfl)) ?_)
    refine wpAny_bind (wpAny_cRoomFor (by show X.A.units + 1 < cLine; have := hr.units; omega) ?_)
    refine wpAny_bind (PySem.W.ifBound_K KI J hs hf (wpAny_mono (run_eq (dx := dx) (fs := fs) F hb hx hr.in1 rfl I ry q) (fun w s' z => ?_) fun _ _ z => z))
    obtain ⟨b, H', rfl, I', q'⟩ := z
    refine wpAny_bind (wpAny_truthy_bool ?_)
    refine wpAny_pure ?_
    exact wpAny_pure ⟨_, rfl, .bl (!b), H', I', rfl, q'⟩
  unfold richCompare
  simp only [oneThing_ref]
  refine wpAny_holding (wpAny_bind (wpAny_cRoomFor hu ?_))
  refine wpAny_bind (J.type.here (wpAny_bind (hb'.here ?_)))
  have fin : wpAny (model X.prog X.w) X.A (tryCompare (.ref a) "__ne__" u) (fun r s' => ∃ v, r = some v ∧ EP X pins σ Q v s') X.xe s := one
  split
  · rename_i z
    have e : PySem.W.subIn X.K t (.ref C) = some false := by
      rcases Bool.or_eq_true_iff.mp nf with e | e
      · rw [beq_iff_eq.mp e] at z; simp at z
      · exact beq_iff_eq.mp e
    refine wpAny_bind ((PySem.W.looks_subIn KI e).here ?_)
    simp only [Bool.false_eq_true, if_false]
    exact wpAny_bind (wpAny_mono fin (fun r s' z => by obtain ⟨v, rfl, hq⟩ := z; exact wpAny_pure hq) fun _ _ e => e)
  · refine wpAny_bind (wpAny_pure ?_)
    simp only [Bool.false_eq_true, if_false]
    exact wpAny_bind (wpAny_mono fin (fun r s' z => by obtain ⟨v, rfl, hq⟩ := z; exact wpAny_pure hq) fun _ _ e => e)
end
end So

namespace So
open PySem PySem.Spec PyProof.Rows L2

/-! ### runs in which no repr is under way -/
/-- as FnOk, where no repr is under way at the call -/
structure FnG (P : Program) (w : World) (K : PySem.W.Frag) (mg : Str → Option Value) (base : Heap) (CX : CXT) (k : Nat) (f : Addr) (fd : FuncData) (ps : List Str) (sp : Sp) : Prop where
  lenG : ∀ (vs : List V) (H : Hp) (Q : VK) (E : XK), sp vs H Q E → vs.length = ps.length
  runG : ∀ (A : Around) (outer : List Env) (s : Shared) (H : Hp) (args : Args) (us : List Value) (vs : List V) (Q : VK) (E : XK), A.guards = some [] → Room k A → Env0 P w K mg base A outer s H →
    BindsTo s fd args (ps.zip us) → Vals vs us → sp vs H Q E → codeAny (model P w) A (.call (.ref f) args) (CR CX outer P w H s Q E) s
section
variable {P : Program} {w : World} {K : PySem.W.Frag} {mg : Str → Option Value} {base : Heap} {CX : CXT} {sp : Sp} {fd : FuncData} {ps N : List Str} {k : Nat} {f : Addr}
theorem FnG.ofOk (F : FnOk P w K mg base CX k f fd ps sp) : FnG P w K mg base CX k f fd ps sp :=
  ⟨F.len, fun A outer s H args us vs Q E _ => F.run A outer s H args us vs Q E⟩
/-- a def by its body, as the layer's rule, the guards told -/
theorem fnG_of {x qual : Str} {st : Stmt} (F : Fun K x qual st f fd) (S : FnScope N ps (defScope st)) (len : ∀ vs H Q E, sp vs H Q E → vs.length = ps.length)
    (hbody : ∀ (cdv : Value) (A : Around) (outer : List Env) (s : Shared) (H : Hp) (vs : List V) (Q : VK) (E : XK), A.guards = some [] → Room k (A.deeper (envOfC qual (defScope st) s.heap.objs.size f cdv)) → sp vs H Q E →
      ∃ t, PSs (cxOf CX P w K mg base N qual (defScope st) f cdv A outer s H E).nox (defBody st) t ∧ t { nx := fun _ H' => Q .non H', rt := Q } (start N vs) H) : FnG P w K mg base CX (k + 1) f fd ps sp := by
  obtain ⟨oc, od, kV, doc, pm, an, cdv, ct, osl, rfl, lk, hcd⟩ := F.ex
  constructor
  · exact len
  intro A outer s H args us vs Q E hg hr e0 hb r hsp
  have old : ∀ b o, base.get? b = some o → s.heap.get? b = some o := fun b o e => (e0.bs b o e).1
  have KX := e0.mod.kin.keeps old
  have lim := e0.mod.nolimit.keeps old
  refine codeAny_call_function hr.depth (KX _ _ lk) rfl S.co S.gen rfl (PySem.W.codeRec_of KX hcd) (hb _ _ _ _ ?_)
  refine wpAny_newFunctionEnv_cells S.kind (fun y hy => ?_) fun env he s1 x => ?_
  · rcases S.par y.1 (List.of_mem_zip (show (y.1, y.2) ∈ ps.zip us from hy)).1 with q | q
    · exact Or.inl q
    · exact Or.inr (And.intro q (PySem.W.cellsFrom_some _ _ _ (Or.inl q)))
  subst he
  refine And.intro (lim.keeps x.toInCall.keep) (codeAny_func ?_)
  obtain ⟨t, ht, hq⟩ := hbody cdv A outer s H vs Q E hg (hr.deeper _) hsp
  refine wpAny_mono (ht.nox.run [] s1 (start N vs) H _ (inv_start S hr.hd e0 (len _ _ _ _ hsp) r x) hq) (fun fl s' hs => ?_) fun _ _ hs => hs
  match fl, hs with
  | .ret u, ⟨v, σ', H', J, rv, q⟩ => exact ⟨v, H', J.os, J.bare, J.base, J.hok, rv, q⟩
  | .next, ⟨σ', H', J, q⟩ => exact ⟨V.non, H', J.os, J.bare, J.base, J.hok, rfl, q⟩
  | .brk, ⟨_, _, _, q⟩ => exact q.elim
  | .cont, ⟨_, _, _, q⟩ => exact q.elim
end

/-! ### calls -/
section
variable {X : Cx} {CX : CXT} {k : Nat} {f C : Addr} {fd : FuncData} {ps ks : List Str} {sp : Sp} {E : XK} {x m : Str} {p pos apos : Pos} {e o : Expr} {es : List Expr} {kws : List Keyword} {ta : TE} {t tk : TA} {dvs : List V} {ds : List Value}
theorem run_fnG {pins : List (Addr × Obj)} {σ : L2.St} {H : Hp} {s : Shared} {Q : VK} {us : List Value} {vs : List V} (F : FnG X.prog X.w X.K X.mg X.base CX k f fd ps sp) (hg : X.A.guards = some []) (hr : Room k X.A) (hb : Binds X.K fd ps ds) (hd : Vals dvs ds)
    (hx : Passes CX X E) (I : Inv X pins σ H s) (r : Vals vs us) (h : sp (vs ++ dvs) H Q E) : wpAny (model X.prog X.w) X.A (call (.ref f) us) (EP X pins σ Q) X.xe s := by
  have r2 := r.append hd
  have hl : (us ++ ds).length = ps.length := r2.length.symm.trans (F.lenG _ _ _ _ h)
  refine wpAny_call (codeAny_mono (F.runG X.A X.stack s H ⟨us, []⟩ (us ++ ds) (vs ++ dvs) Q E hg hr I.env0 (hb s us I.kIn hl) r2 h) fun r s' hq => ?_)
  match r, hq with
  | .error e, hq => exact hx pins σ H s e s' I hq
  | .ok (.ret u), hq => exact I.after hq
  | .ok .next, hq => exact hq.elim
  | .ok .brk, hq => exact hq.elim
  | .ok .cont, hq => exact hq.elim
/-- f(e, ..), f by FnG -/
theorem pe_callG (F : FnG X.prog X.w X.K X.mg X.base CX k f fd ps sp) (hg : X.A.guards = some []) (hr : Room k X.A) (hgl : Gl X x) (hm : X.mg x = some (.ref f)) (hk : PySem.W.keepIn X.K (.ref f) = true) (hb : Binds X.K fd ps ds) (hd : Vals dvs ds) (hx : Passes CX X E)
    (ha : PA X (e :: es) t) (hdb : (x == ("__debug__" : Str)) = false := by decide) (he : starEach (e :: es) X.env = (false, eval e X.env) :: starEach es X.env := by rfl) (hpl : (backTo pos (starEach es X.env)).any (·.1) = false := by rfl) :
    PE X (.Call (.Name x p) (e :: es) [] pos) (tCall sp dvs E t) := by
  constructor
  intro pins s σ H Q I h
  refine wpAny_Call_Name_kw (ld_glob I hgl hm (PySem.W.callWith_K (h₀ := X.base) I.ok.mod.kin hk (thn (ha.run pos pins s σ H _ I h) fun us s1 q => ?_) he hpl) hdb)
  obtain ⟨vs, H1, I1, r, q⟩ := q
  exact ⟨I1.kIn, run_fnG F hg hr hb hd hx I1 r q⟩
/-- o.m(k = v, ..): keywords alone -/
theorem pe_methK {g : List Value → List Value → List Value} {gV : List V → List V → List V} {pl : Sem Bool} (he : PE X o ta) (c : Cls X.K C) (hm : Meth X.K C m f) (F : FnOk X.prog X.w X.K X.mg X.base CX k f fd ps sp) (hr : Room k X.A) (hb : KBinds X.K fd ps ks g gV)
    (hx : Passes CX X E) (hkw : PK X kws tk) (hall : (backToKw pos (keywordEach kws X.env)).all (·.1.isSome) = true := by rfl) (hks : (backToKw pos (keywordEach kws X.env)).filterMap (·.1) = ks := by rfl)
    (hpl : ((backTo pos (starEach [] X.env)).any (·.1) || (backToKw pos (keywordEach kws X.env)).any (·.1.isNone)) = false := by rfl)
    (ht : eval (.Call (.Attribute o m apos) [] kws pos) X.env = (do
      let ov ← eval o X.env
      standAt apos.atName
      let fx ← holding [ov] (getMethod ov m pl)
      callWith pos fx.1 fx.2 (backTo pos (starEach [] X.env)) (backToKw pos (keywordEach kws X.env))) := by rfl) :
    PE X (.Call (.Attribute o m apos) [] kws pos) (fun σ H Q => ta σ H fun x H1 => ∃ a dx fs, x = .ref a ∧ H1 a = some (.ins C dx fs) ∧ fs.lookup m = none ∧ tk σ H1 fun zs H2 => sp (gV [x] zs) H2 Q E) := by
  constructor
  intro pins s σ H Q I h
  refine PySem.W.methodCall_KW (pl := pl) (thn (he.run pins s σ H _ I h) fun u s1 z => ?_) ht
  obtain ⟨x, H1, I1, rx, a, dx, fs, ex, ea, l, q⟩ := z
  subst ex
  cases rx
  refine getmeth_ok I1 ea c hm l ?_
  refine PySem.W.callWith_KW0 (first := [.ref a]) (h₀ := X.base) I.ok.mod.kin hm.kp hall (thn (hkw.run pos pins s1 σ H1 _ I1 q) fun ws s2 z => ?_) hpl
  obtain ⟨zs, H2, I2, rz, q2⟩ := z
  refine ⟨I2.kIn, ?_⟩
  rw [hks]
  exact run_fnk (us := [.ref a]) (vs := [.ref a]) F hr hb hx I2 (.cons rfl .nil) rz q2
end

/-! ### the end of a law -/
theorem law_callG {P : Program} {w : World} {K : PySem.W.Frag} {mg mb : Str → Option Value} {CX : CXT} {k : Nat} {fa a : Addr} {fd : FuncData} {x : Str} {sp : Sp} {s₁ : Shared} {vs : List Value} {ns : List Int}
    (KX : K.In s₁.heap) (hns : s₁.heap.Ns mainGlobals mg) (hb : s₁.heap.Ns builtinsNs mb) (hbb : ∀ x : Str, x ≠ "__name__" → mb x = bootBuiltins x) (hlim : s₁.heap.NoLimit) (hg : s₁.gens = #[])
    (ha : s₁.heap.get? a = some { cls := .type "list", data := .seq vs.toArray }) (hi : IntsAre vs ns) (hl : ns.length ≤ sizeLine) (hr : Room k callerA)
    (F : ∀ base : Heap, K.In base → base.Ns mainGlobals mg → FnG P w K mg base CX k fa fd [x] sp) (hbind : ∀ (s : Shared) (u : Value), BindsTo s fd ⟨[u], []⟩ [(x, u)])
    (hsp : ∀ H : Hp, Only H → SqL K H a (ns.map V.int) → sp [.ref a] H (fun v _ => v = .bl true) fun _ _ _ => False)
    (hCX : ∀ H e s', CX [] H s₁ (fun _ _ _ => False) e s' → False) :
    codeAny (model P w) callerA (.call (.ref fa) ⟨[.ref a], []⟩) (fun r s' => r = .ok (.ret (.bool true)) ∧ OldK s₁.heap s'.heap ∧ s'.os = s₁.os ∧ AllBare s'.gens) s₁ := by
  -- the call itself, for a heap in which the script alone may be tracked
  have go : ∀ H : Hp, Only H → SqL K H a (ns.map V.int) → HOk P w H s₁.heap → (∀ b u, H b = some u → b = a ∧ K.lookup a = none) →
      codeAny (model P w) callerA (.call (.ref fa) ⟨[.ref a], []⟩) (fun r s' => r = .ok (.ret (.bool true)) ∧ OldK s₁.heap s'.heap ∧ s'.os = s₁.os ∧ AllBare s'.gens) s₁ := by
    intro H hO hS hok hA
    have free : ∀ b : Addr, (b ≠ a ∨ K.lookup a ≠ none) → H b = none := by
      intro b z
      cases q : H b with
      | none => rfl
      | some u => exact (z.elim (fun z => z (hA b u q).1) fun z => z (hA b u q).2).elim
    have notSeq : ∀ {b : Addr} {m : Str → Option Value}, s₁.heap.Ns b m → b ≠ a := by
      rintro b m ⟨o, es, ep, e, d, _⟩ rfl
      rw [ha] at e
      cases e
      cases d
    have inH : ∀ {b : Addr} {m : Str → Option Value}, s₁.heap.Ns b m → (hidT s₁.heap H).Ns b m := by
      intro b m n
      have nb := free b (Or.inl (notSeq n))
      obtain ⟨o, es, ep, e, r⟩ := n
      exact ⟨o, es, ep, hidT_get e nb, r⟩
    have kin : K.In (hidT s₁.heap H) := by
      intro b o e
      refine hidT_get (KX b o e) ?_
      by_cases hb : b = a
      · exact free b (Or.inr (by rw [← hb, e]; exact fun z => nomatch z))
      · exact free b (Or.inl hb)
    have lim2 : (hidT s₁.heap H).NoLimit := by
      obtain ⟨mc, h1, h2⟩ := hlim
      exact ⟨mc, inH h1, h2⟩
    have e0 : Env0 P w K mg (hidT s₁.heap H) callerA [] s₁ H := by
      refine ⟨rfl, ⟨kin, inH hns, ⟨mb, inH hb, hbb⟩, lim2⟩, fun b o e => of_hidT e, Nat.le_of_eq (hidT_size _ _), True.intro, ?_, hok, .of_eq hg⟩
      intro b hb
      cases hb
    refine codeAny_mono ((F _ kin (inH hns)).runG callerA [] s₁ H ⟨[.ref a], []⟩ [.ref a] [.ref a] _ _ rfl hr e0 (hbind s₁ (.ref a)) (.cons rfl .nil) (hsp H hO hS)) fun r s' h => ?_
    match r, h with
    | .error e, h => exact (hCX H e s' h).elim
    | .ok .next, h => exact h.elim
    | .ok .brk, h => exact h.elim
    | .ok .cont, h => exact h.elim
    | .ok (.ret u), ⟨v, H', os, bare, un, hok', rv, q⟩ =>
      have q2 : v = .bl true := q
      subst q2
      cases rv
      refine ⟨rfl, OldK.of_keep (fun b o e => ?_), os, bare⟩
      rcases hO b with z | ⟨ob, xs, z⟩
      · exact un.keep b o e z (fun z => nomatch z) (fun z => nomatch z)
      · have z1 := (hok b _ z).1
        have z2 := (hok' b _ (un.frzs b ob _ z)).1
        rw [z1] at e
        rw [z2, e]
  have rv := vals_ints hi
  have hlen : (ns.map V.int).length ≤ sizeLine := by rw [List.length_map]; exact hl
  cases hk : K.lookup a with
  | some o =>
    have e := KX a o hk
    rw [ha] at e
    cases e
    exact go (fun _ => none) (fun _ => Or.inl rfl) (Or.inr ⟨_, vs.toArray, _, hk, rfl, rfl, rfl, by rw [List.size_toArray, hi.length]; exact hl, by simpa using rv⟩) (fun b u z => nomatch z) fun b u z => nomatch z
  | none =>
    have at_ : ∀ b u, (if b = a then some (HO.frz { cls := .type "list", data := .seq vs.toArray } (.lst (ns.map V.int))) else none) = some u → b = a ∧ u = .frz { cls := .type "list", data := .seq vs.toArray } (.lst (ns.map V.int)) := by
      intro b u z
      split at z
      · rename_i hb
        exact ⟨hb, (Option.some.inj z).symm⟩
      · cases z
    refine go (fun b => if b = a then some (.frz { cls := .type "list", data := .seq vs.toArray } (.lst (ns.map V.int))) else none) (fun b => ?_) (Or.inl (Or.inr ⟨_, if_pos rfl⟩)) (fun b u z => ?_) fun b u z => ⟨(at_ b u z).1, hk⟩
    · by_cases hb : b = a
      · exact Or.inr ⟨_, _, if_pos hb⟩
      · exact Or.inl (if_neg hb)
    · obtain ⟨rfl, rfl⟩ := at_ b u z
      exact ⟨ha, hlen, vs, _, rv, ha⟩

theorem walk_ofG {l : PySem.W.OpenLaw} {n k : Nat} {q : Program} {loose : List Str} {XP : (Str → Option Value) → Heap → Prop} {YP : World → Heap → Prop} {d : DefRec} {K : Params → PySem.W.Frag} {CX : World → CXT} {sp : World → Sp} {x : Str}
    (hn : l.most = some n) (hn2 : n ≤ sizeLine) (hdf : d.params.defaults = []) (hr : Room k callerA) (hY : ∀ (w : World) (h : Heap), YP w h → (K w.params).In h)
    (F : ∀ (w : World) (mg : Str → Option Value) (fa : Addr) (h : Heap), (K w.params).In h → h.Ns mainGlobals mg → mg d.name = some (.ref fa) →
      ∃ fd : FuncData, (∀ (s : Shared) (u : Value), BindsTo s fd ⟨[u], []⟩ [(x, u)]) ∧ ∀ base : Heap, (K w.params).In base → base.Ns mainGlobals mg → FnG l.prog w (K w.params) mg base (CX w) k fa fd [x] (sp w))
    (hsp : ∀ (w : World) (H : Hp) (a : Addr) (ns : List Int), ns.length ≤ n → (∀ z ∈ ns, Builtin.Int.intBits z ≤ 1048576) → Only H → SqL (K w.params) H a (ns.map V.int) → sp w [.ref a] H (fun v _ => v = .bl true) fun _ _ _ => False)
    (hCX : ∀ (w : World) (H : Hp) (s : Shared) (e : Value) (s' : Shared), CX w [] H s (fun _ _ _ => False) e s' → False) :
    PySem.W.WalkO q loose XP YP l.row.toRowW d [] (fun f vs => PySem.call f vs) := by
  apply Att.attach_callB hn hdf
  intro w s₀ s₁ mg mb fa o pm cd doc a vs ns G Y _ _ _ hmg hobj hints hlen hbits hg
  obtain ⟨fd, hb, hF⟩ := F w mg fa _ (hY w _ Y) G.T.g hmg
  exact law_callG (hY w _ Y) G.T.g G.T.b G.T.builtins G.T.nolimit hg hobj hints (Nat.le_trans hlen hn2) hr hF hb (fun H hO hS => hsp w H a ns hlen hbits hO hS) fun H e s' => hCX w H s₁ e s'
end So

namespace So
open PySem PySem.Spec PyProof.Rows L2
section
variable {K : PySem.W.Frag} {C : Addr}
theorem kit_self : PySem.W.kitOne K (.ref C) (.ref C) = some true := by
  unfold PySem.W.kitOne
  rw [if_pos]
  simp
/-- no built-in type stands below an own class -/
theorem sub_ty {T : String} (h : (fastBuiltinMro T).map (fun l => l.all fun v => match v with | .type _ => true | _ => false) = some true) : PySem.W.subIn K (.type T) (.ref C) = some false := by
  show (fastBuiltinMro T).map (·.contains (.ref C)) = some false
  cases e : fastBuiltinMro T with
  | none => rw [e] at h; cases h
  | some l =>
    rw [e] at h
    have h2 : (l.all fun v => match v with | .type _ => true | _ => false) = true := Option.some.inj h
    show some (l.contains (.ref C)) = some false
    congr 1
    cases c : l.contains (.ref C) with
    | false => rfl
    | true =>
      have m : (Value.ref C) ∈ l := by simpa using c
      have := List.all_eq_true.mp h2 _ m
      cases this
theorem notFirst_ty {T : String} (h : (fastBuiltinMro T).map (fun l => l.all fun v => match v with | .type _ => true | _ => false) = some true) : PySem.W.notFirst K C (.type T) = true := by
  unfold PySem.W.notFirst
  rw [sub_ty h]
  simp
theorem kit_no {T : String} (hc : PySem.W.isClsIn K C = true) (ht : PySem.W.typeIn K (.ref C) = some (.type "type")) (h : (fastBuiltinMro T).map (fun l => l.all fun v => match v with | .type _ => true | _ => false) = some true) : PySem.W.kitOne K (.type T) (.ref C) = some false := by
  unfold PySem.W.kitOne PySem.W.kitCls
  unfold PySem.W.isClsIn at hc
  have hb : ((PySem.W.clsIn K C).isSome && PySem.W.typeIn K (.ref C) == some (.type "type")) = true := by
    rw [hc, ht]
    simp
  have sb := sub_ty (K := K) (C := C) h
  simp [hb, sb]
end
end So

/-! So, on: exceptions that are kept as values. -/
namespace So
open PySem PySem.Spec PyProof.Rows L2
/-- an exception object of the class cls, its dict at d, that stands at a and is nobody's news -/
def Xo (cls : Value) (d : Option Addr) (a : Addr) : HO := .ext fun h => ∃ (oe : Obj) (vs : Array Value), h.get? a = some oe ∧ Zc cls d oe ∧ oe.data = .fields vs
theorem xo_ok {P : Program} {w : World} {H : Hp} {h : Heap} {a : Addr} {cls : Value} {d : Option Addr} {oe : Obj} {vs : Array Value} (e : h.get? a = some oe) (z : Zc cls d oe) (f : oe.data = .fields vs) : ObjOk P w H h a (Xo cls d a) := by
  refine ⟨⟨oe, vs, e, z, f⟩, ⟨oe, e⟩, ?_⟩
  rintro h1 h2 ⟨o, v, q, r⟩ k
  exact ⟨o, v, k o q, r⟩
theorem xo_at {P : Program} {w : World} {H : Hp} {h : Heap} {a : Addr} {cls : Value} {d : Option Addr} (hok : HOk P w H h) (e : H a = some (Xo cls d a)) : ∃ (oe : Obj) (vs : Array Value), h.get? a = some oe ∧ Zc cls d oe ∧ oe.data = .fields vs := by
  have x : ObjOk P w H h a (.ext fun h => ∃ (oe : Obj) (vs : Array Value), h.get? a = some oe ∧ Zc cls d oe ∧ oe.data = .fields vs) := hok a _ e
  exact x.1
section
variable {X : Cx} {pins : List (Addr × Obj)} {σ : L2.St} {H : Hp} {s sI : Shared} {a : Addr} {cls : Value} {d : Option Addr} {oe : Obj} {vs : Array Value}
/-- an exception that has landed is tracked from now on -/
theorem track (J : Inv X pins σ H sI) (hex : X.ex = []) (hI : sI.heap.get? a = none) (I : Inv X pins σ H s) (he : s.heap.get? a = some oe) (hz : Zc cls d oe) (hd : oe.data = .fields vs) (na : H a = none) (nL : a ≠ X.env.locals) :
    Inv X pins σ (upd H a (Xo cls d a)) s := by
  have h0 : ∀ b o, X.s_0.heap.get? b = some o → b ≠ a := by
    rintro b o e rfl
    obtain ⟨o', e'⟩ := J.base.there b o e (by rw [hex]; exact fun z => nomatch z)
    rw [hI] at e'
    cases e'
  have hs : ∀ {b : Addr} {u : HO}, H b = some u → (upd H a (Xo cls d a)) b = some u := fun e => (upd_ne (ne_of_none e na)).trans e
  refine ⟨I.ok, I.os, I.bare, ⟨I.base.keep, I.base.slot, fun b o e n hx => (upd_ne (h0 b o e)).trans (I.base.free b o e n hx), I.base.there, fun b xs q => hs (I.base.tups b xs q), fun b o u q => hs (I.base.frzs b o u q), fun b ps q => ?_⟩,
    I.loc, I.cell, (upd_ne nL.symm).trans I.free, fun x c e => ?_, fun p hp => ?_, fun b u e => ?_, I.len⟩
  · obtain ⟨m, q'⟩ := I.base.tbls b ps q
    exact ⟨m, hs q'⟩
  · refine (upd_ne ?_).trans (I.freeC x c e)
    rintro rfl
    obtain ⟨v, o, ho, hc⟩ := I.cell x c e
    rw [he] at ho
    cases ho
    rw [hd] at hc
    cases hc
  · obtain ⟨p1, p2, p3, p4, p5⟩ := I.pin p hp
    refine ⟨p1, (upd_ne ?_).trans p2, p3, p4, p5⟩
    intro z
    have := (J.pin p hp).1
    rw [z, hI] at this
    cases this
  · by_cases hb : b = a
    · subst hb
      rw [upd_same] at e
      cases e
      exact xo_ok he hz hd
    · rw [upd_ne hb] at e
      exact (I.hok b u e).stay (fun _ _ _ q => q) (fun c q => hs q) fun c xs q => hs q
end

/-! ### try: body, except x as n: suite, the exception kept as a value -/
/-- what such a clause wishes of an exception of the body -/
def wKeep (K : PySem.W.Frag) (c : Value) (i : Nat) (ts : TS) (Wout : WX) (D : Ends) : WX := fun cls d σ H =>
  ∃ b, PySem.W.exmOne K cls c = some b ∧ (b = true → ∀ a, H a = none → ts { nx := fun σ' H' => D.nx (σ'.set i none) H', rt := D.rt, bk := fun σ' H' => D.bk (σ'.set i none) H', ct := fun σ' H' => D.ct (σ'.set i none) H' } (σ.set i (some (.ref a))) (upd H a (Xo cls d a))) ∧
    (b = false → Wout cls d σ H)
section
variable {X : Cx} {x n : Str} {c : Value} {i : Nat} {body suite : List Stmt} {b₀ : Stmt} {np pos pos' : Pos} {tb : WX → TS} {ts : TS} {Wout : WX}
theorem ps_try_keep (hs : X.stack = X.env :: X.outer) (hf : X.env.frame = some X.env.locals) (hex : X.ex = []) (hN : X.N.Nodup) (hi : X.N[i]? = some n) (hln : X.env.kindOf n = some .local) (hc : Names X x c) (tk : Takes X Wout)
    (hb : ∀ (W : WX) (pn : List (Addr × Obj)) (xe : Value → Shared → Prop), Takes (X.tr pn xe) W → PassesOwn (model X.prog X.w) X.A X.env xe → PSs (X.tr pn xe) body (tb W))
    (hsu : ∀ (a : Addr) (pn : List (Addr × Obj)), PSs (X.suite a pn) (b₀ :: suite) ts) :
    PS X (.Try body [.ExceptHandler (some (.Name x np)) (some n) (b₀ :: suite) pos'] [] [] pos) (fun D σ H => tb (wKeep X.K c i ts Wout D) D σ H) := by
  constructor
  intro pins s σ H D I h
  have ok := I.ok
  have hfr : X.A.frames = some (X.env :: X.outer) := ok.frames.trans (congrArg some hs)
  refine wpAny_Try_except (wpAny_mono ((hb (wKeep X.K c i ts Wout D) (X.pn ++ pins) (fun e s₁ => wpAny (model X.prog X.w) X.A (noteFrame e X.env) (fun _ s₂ => wpAny (model X.prog X.w) X.A (setFlight e none) (fun _ s₃ =>
    wpAny (model X.prog X.w) X.A (handleBy e X.env [.ExceptHandler (some (.Name x np)) (some n) (b₀ :: suite) pos']) (SP X pins D) X.xe s₃) X.xe s₂) X.xe s₁) (fun u s' xx => ?_) PassesOwn.looking).run [] s σ H D (I.toTry _) h) (fun f s1 hsp => ?_) fun e s1 he => he)
  · obtain ⟨a, B, sI, pins', σ', H', cls, d, rfl, J', nb, up, sky, na, os, ag, b, hb1, hyes, hno⟩ := xx
    have J : Inv X pins σ' H' sI := J'.ofTry ok
    have sky' : Sky B (X.env :: X.outer) a (Zc cls d) X.env.locals s'.heap := hs ▸ sky
    refine Sky.land Zc.steady hfr hf sky' fun h3 fl3 up3 => ?_
    have J3 : Inv X pins σ' H' { s' with heap := h3 } := J.landed nb fl3.1 (up.trans up3) os ag
    obtain ⟨oe3, vs3, he3, hz3, hd3⟩ := fl3.there
    have nfr : a ∉ frs (X.env :: X.outer) := fun hm => by
      obtain ⟨_, o', e', hnf⟩ := fl3.2.2.1.mem hm
      rw [he3] at e'
      cases e'
      exact hnf _ hd3
    have nL : a ≠ X.env.locals := fun z => nfr (by
      refine List.mem_filterMap.mpr ⟨X.env, List.mem_cons_self, ?_⟩
      rw [hf, z])
    have hBa : B.get? a = none := fl3.2.1
    have hIa : sI.heap.get? a = none := by
      cases e : sI.heap.get? a with
      | none => rfl
      | some o =>
        have := nb a o e (by rw [hs]; exact nfr)
        rw [hBa] at this
        cases this
    refine wpAny_handleBy_cons (codeAny_handlers_test ?_) (by intro q; cases q)
    have LT : PySem.W.Looks (model X.prog X.w) h3 (typeOf (.ref a)) cls := by
      intro A Q E s k q
      refine wpAny_typeOf_ref (k _ _ he3) ?_
      rw [hz3.1]
      exact q
    have LM := PySem.W.exm_one (M := model X.prog X.w) (J3.kIn) LT hb1
    have S0 : ∀ {h4 : Heap}, Inv X pins σ' H' { s' with heap := h4 } → ∀ {o : Obj} {v : Array Value}, h4.get? a = some o → Zc cls d o → o.data = .fields v → Inv (X.suite a (X.pn ++ pins)) [] σ' (upd H' a (Xo cls d a)) { s' with heap := h4 } := by
      intro h4 J4 o v e z dt
      have T := track J hex hIa J4 e z dt na nL
      exact ⟨T.ok.suite _ _, T.os, T.bare, T.base, T.loc, T.cell, T.free, T.freeC, fun p hp => T.pin p (by rwa [List.append_nil] at hp), T.hok, T.len⟩
    have S3 := S0 J3 he3 hz3 hd3
    have test : ∀ {Q : Value → Shared → Prop} {E : Value → Shared → Prop}, Q c { s' with heap := h3 } → wpAny (model X.prog X.w) (X.A.mark (some (.ref a))) (eval (.Name x np) X.env) Q E { s' with heap := h3 } := by
      intro Q E q
      rcases hc with ⟨hg, hdbg, hm | ⟨hm, hv, hnn⟩⟩
      · exact ld_glob (X := X.suite a (X.pn ++ pins)) S3 hg hm q hdbg
      · exact ld_blt (X := X.suite a (X.pn ++ pins)) S3 hg hm hv q hnn hdbg
    refine test (LM.here ?_)
    cases b with
    | true =>
      refine codeAny_handlers_suite_as (HandSPX.lands_againZ fl3 fun h4 fl4 up4 => ?_)
      have J4 : Inv X pins σ' H' { s' with heap := h4 } := J.landed nb fl4.1 ((up.trans up3).trans up4) os ag
      obtain ⟨oe4, vs4, he4, hz4, hd4⟩ := fl4.there
      have S4 := S0 J4 he4 hz4 hd4
      refine store_ok (X := X.suite a (X.pn ++ pins)) (v := .ref a) S4 hN hi (.inl hln) rfl (fun s5 S5 => ?_) (.inr hln)
      refine wpAny_mono ((hsu a (X.pn ++ pins)).run [] s5 _ _ _ S5 (hyes rfl a na)) (fun f s6 hsp => ?_) (fun _ _ z => z.elim)
      have out : ∀ {σ6 : L2.St} {H6 : Hp}, Inv (X.suite a (X.pn ++ pins)) [] σ6 H6 s6 → Inv X pins σ6 H6 s6 := fun S6 =>
        ⟨ok, S6.os, S6.bare, S6.base, S6.loc, S6.cell, S6.free, S6.freeC, fun p hp => S6.pin p (List.mem_append_left _ hp), S6.hok, S6.len⟩
      match f, hsp with
      | .next, ⟨σ6, H6, S6, q6⟩ => exact gone_ok (out S6) hN hi hln fun s7 J7 => ⟨_, _, J7, q6⟩
      | .brk, ⟨σ6, H6, S6, q6⟩ => exact gone_ok (out S6) hN hi hln fun s7 J7 => ⟨_, _, J7, q6⟩
      | .cont, ⟨σ6, H6, S6, q6⟩ => exact gone_ok (out S6) hN hi hln fun s7 J7 => ⟨_, _, J7, q6⟩
      | .ret u, ⟨v6, σ6, H6, S6, r6, q6⟩ => exact gone_ok (out S6) hN hi hln fun s7 J7 => ⟨_, _, _, J7, r6, q6⟩
    | false =>
      refine wpAny_handleBy_nil ?_
      obtain ⟨_, _, _, oe, vs, T, _, _, he, _, hd, h1, _⟩ := id fl3
      unfold PySem.passOn
      refine wpAny_bind (wpAny_field he hd h1 ?_)
      have nn : ¬ ((Value.ref T == Value.none) = true) := by simp
      rw [if_neg nn]
      have fin : wpAny (model X.prog X.w) X.A (setFlight (.ref a) X.env.frame) (fun _ s4 => wpAny (model X.prog X.w) X.A (throw (.ref a) : Sem Flow) (SP X pins D) X.xe s4) X.xe { s' with heap := h3 } := by
        rw [hf]
        refine HandSPX.setFlight_upZ fl3 fun h4 hh4 up4 => wpAny_throw (tk _ _ ⟨a, B, sI, pins, σ', H', cls, d, rfl, J, nb, (up.trans up3).trans up4, ?_, na, os, ag, hno rfl⟩)
        exact Or.inr (Or.inr (hs ▸ hh4))
      first
        | exact wpAny_bind (wpAny_pure (wpAny_bind fin))
        | exact wpAny_bind fin
  · match f, hsp with
    | .next, ⟨σ', H', J', q⟩ => exact wpAny_execs_nil ⟨σ', H', J'.ofTry ok, q⟩
    | .brk, ⟨σ', H', J', q⟩ => exact ⟨σ', H', J'.ofTry ok, q⟩
    | .cont, ⟨σ', H', J', q⟩ => exact ⟨σ', H', J'.ofTry ok, q⟩
    | .ret u, ⟨v, σ', H', J', r, q⟩ => exact ⟨v, σ', H', J'.ofTry ok, r, q⟩
end
end So

namespace So
open PySem PySem.Spec PyProof.Rows L2
/-- what an error class of the program's own says of its instances -/
structure Err (K : PySem.W.Frag) (C : Addr) : Prop where
  ga : PySem.W.findIn K (.ref C) "__getattribute__" = some (some (.builtin "BaseException.__getattribute__"))
  gg : PySem.W.findIn K (.ref C) "__getattr__" = some none
  exC : PySem.W.subIn K (.ref C) (.type "BaseException") = some true
  hdC : PySem.W.hasDictIn K C = true
  ca : PySem.W.findIn K (.ref C) "__class__" = some (some (.builtin "object.__class__"))
  cn : PySem.W.specialIn K (.builtin "object.__class__") "__get__" = some (some (.builtin "getset_descriptor.__get__"))
  ct : PySem.W.takesIn K (.builtin "object.__class__") = some true
  cm : PySem.W.mroIn K C (.type "object") = some true
section
variable {X : Cx}
/-- e.n, e an exception that is kept -/
theorem pe_xo {C : Addr} {e : Expr} {te : TE} {pos : Pos} {n : Str} (T : Err X.K C) (hno : PySem.W.findIn X.K (.ref C) n = some none) (he : PE X e te) (hb : attributeBase e n X.env (eval e X.env) = eval e X.env := by rfl) :
    PE X (.Attribute e n pos) (fun σ H Q => te σ H fun x H1 => ∃ (a dd : Addr) (fs : List (Str × V)) (v : V), x = .ref a ∧ H1 a = some (Xo (.ref C) (some dd) a) ∧ H1 dd = some (.xd fs) ∧ fs.lookup n = some v ∧ Q v H1) := by
  constructor
  intro pins s σ H Q I h
  refine attr_of hb (thn (he.run pins s σ H _ I h) fun u s1 hh => ?_)
  obtain ⟨x, H1, I1, rx, a, dd, fs, v, rfl, ha, ea, l, q⟩ := hh
  cases rx
  obtain ⟨oe, vs, hg, hz, hd⟩ := xo_at I1.hok ha
  obtain ⟨mA, hns, hr⟩ := (show ObjOk X.prog X.w H1 s1.heap dd (.xd fs) from I1.hok dd _ ea)
  obtain ⟨od, ho, hl⟩ := lookIn_ns hns
  have hrn := hr n
  rw [l] at hrn
  obtain ⟨u, hu, ru⟩ := RelO.some_of hrn
  have nc : PySem.W.notCls oe = true := by
    unfold PySem.W.notCls
    rw [hd]
  have J : PySem.W.InstAt s1.heap a oe C (some od) := by
    refine ⟨hg, hz.1, nc, ?_⟩
    rw [hz.2]
    exact ho
  have fo := PySem.W.findObj_own (K := X.K) (C := C) (od := od) (name := n) (v := u) T.hdC hno rfl (by rw [hl, hu])
  exact HandSPX.exc_get I1.kIn J T.ga T.gg T.exC fo (handed_of ru) ⟨v, H1, I1.tok _, ru, q⟩
end
/-! ### isinstance of a kept exception -/
section
open PySem.W PySem.Calls
variable {prog : Program} {w : World} {A : Around} {E : Value → Shared → Prop} {K : Frag} {x D : Addr} {ox : Obj} {od : Option Obj}
theorem err_class {Q : Option Value → Shared → Prop} (T : Err K D) (hp : Heap) (g : Array GenState) (dr : Drawn) (t : Nat) (os : OsState) (X : K.In hp) (I : InstAt hp x ox D od)
    (h : Q (some (.ref D)) ⟨hp, g, dr, t + 1, os⟩) : wpAny (model prog w) A (getAttr? (.ref x) "__class__") Q E ⟨hp, g, dr, t, os⟩ := by
  have isc : (clsIn K D).isSome = true := by
    obtain ⟨cd, hc, _⟩ := any_some T.hdC
    rw [hc]
    rfl
  have hf : findObj K D od "__class__" = some (.bind (.builtin "getset_descriptor.__get__") (.builtin "object.__class__")) := by
    cases od with
    | none => exact findObj_dataN isc T.ca T.cn T.ct
    | some o => exact findObj_data isc T.ca T.cn T.ct
  have k0 := I.type (M := model prog w)
  have k1 := looks_findIn (M := model prog w) X T.ga
  have k2 := looks_findIn (M := model prog w) X T.gg
  have k3 := looks_find (M := model prog w) X I hf
  have below : Looks (model prog w) hp (isInstance (.ref x) (.type "BaseException")) true := k0.andThen (looks_subIn X T.exC)
  have ne : (Value.builtin "BaseException.__getattribute__" == Value.builtin "object.__getattribute__") = false := by decide +kernel
  have both : (onTheHeap (Value.ref D) && Value.builtin "BaseException.__getattribute__" == Value.builtin "object.__getattribute__") = false := by
    rw [ne]
    exact Bool.and_false _
  have own : onTheHeap (Value.ref D) = true := rfl
  have noheap : (false && onTheHeap (Value.builtin "BaseException.__getattribute__")) = false := rfl
  unfold getAttr? getAttrBy? getAttrBy
  apply wpAny_bind
  apply wpAny_mkText
  apply wpAny_bind
  apply wpAny_attempt
  apply wpAny_holding
  apply wpAny_bind
  apply k0.at
  apply wpAny_bind
  apply k1.at
  show wpAny _ _ (ite ((onTheHeap (Value.ref D) && Value.builtin "BaseException.__getattribute__" == Value.builtin "object.__getattribute__") = true) _ _) _ _ _
  rw [both, if_neg (by decide)]
  unfold getAttrByItsOwn hookBefore
  apply wpAny_bind
  rw [if_pos own]
  apply k2.at
  apply wpAny_bind
  apply wpAny_attempt
  apply wpAny_holding
  unfold callGetattribute
  rw [noheap, if_neg (by decide)]
  unfold boundAndCalled
  rw [F.excAttr_ValueError.ga.bind (.ref x)]
  apply wpAny_bind
  apply wpAny_pure
  show wpAny _ _ (call (.builtin "BaseException.__getattribute__") [.ref x, .str "__class__" t]) _ _ _
  apply wpAny_call
  refine codeAny_call_builtin F.excAttr_ValueError.ga.plain F.entry_bexc_ga (@check_slot (model prog w) _ _ ⟨hp, g, dr, t + 1, os⟩ "BaseException.__getattribute__" "BaseException" "__getattribute__" (.ref x) [.str "__class__" t] [] _ (by decide +kernel) (by decide +kernel) below (F.args_bexc_ga (.ref x) (.str "__class__" t)) ?_)
  unfold Builtin.«object.__getattribute__»
  apply wpAny_bind
  refine wpAny_of_eq (a := ((Value.ref x : Value), [Value.str "__class__" t])) (by first | rfl | (simp only [slotArgs]; rfl)) ?_
  apply wpAny_bind
  apply wpAny_pure
  apply wpAny_bind
  apply k0.at
  apply wpAny_bind
  apply k3.at
  show wpAny _ _ (holding [Value.builtin "object.__class__"] (call (.builtin "getset_descriptor.__get__") [.builtin "object.__class__", .ref x, .ref D]) >>= ret) _ _ _
  apply wpAny_bind
  apply wpAny_holding
  apply wpAny_call
  refine class_get (s := ⟨hp, g, dr, t + 1, os⟩) (ox := ox) (od := od) X I T.cm (wpAny_pure ?_)
  show wpAny _ _ (handedOut (.ref D)) _ _ _
  rw [handedOut_of (v := .ref D) rfl]
  first
    | exact wpAny_pure (wpAny_pure h)
    | exact wpAny_pure h
    | exact wpAny_pure (wpAny_bind (wpAny_pure (wpAny_pure h)))
theorem kitx_err (T : Err K D) : KitX K (.ref x) (.ref D) (fun h => ∃ ox od, InstAt h x ox D od) where
  ty := fun _ _ _ ⟨_, _, I⟩ => I.type
  it := fun _ _ X _ => by
    obtain ⟨cd, hc, _⟩ := any_some T.hdC
    unfold clsIn at hc
    split at hc
    · rename_i ho
      intro A' Q' E' s' k q
      unfold isType loadHead
      exact wpAny_bind (wpAny_loadPart (k _ _ (X _ _ ho)) (wpAny_pure q))
    · cases hc
  ne := fun h tp dd its n sl X htp => by
    cases q : (Value.ref D == Value.ref tp) with
    | false => rfl
    | true =>
      have e : D = tp := Value.ref.inj (beq_iff_eq.mp q)
      subst e
      obtain ⟨cd, hc, _⟩ := any_some T.hdC
      unfold clsIn at hc
      split at hc
      · rename_i ho
        have z := (X _ _ ho).symm.trans htp
        cases z
      · cases hc
  ca := fun {prog w A E Q s} X I k => by
    obtain ⟨ox, od, I⟩ := I
    obtain ⟨hp, g, dr, t, os⟩ := s
    exact err_class T hp g dr t os X I k
end
section
variable {X : Cx}
/-- isinstance(e, c), e a kept exception, c one class -/
theorem call_isXo : CallR X (.builtin "isinstance") (fun xs H Q => ∃ (a D dd : Addr) (fs : List (Str × V)) (c : V) (u : Value) (b : Bool), xs = [.ref a, c] ∧ H a = some (Xo (.ref D) (some dd) a) ∧ H dd = some (.xd fs) ∧ Err X.K D ∧ ClsV c u ∧ PySem.W.kitOne X.K (.ref D) u = some b ∧ Q (.bl b) H) := by
  intro pins s σ H xs us Q I r h
  obtain ⟨a, D, dd, fs, c, u, b, rfl, ha, hd, T, cv, e, q⟩ := h
  obtain ⟨u1, u2, rfl, r1, r2⟩ := vals2 r
  cases r1
  have e2 := cv.eq r2
  subst e2
  obtain ⟨oe, vs, hg, hz, hdat⟩ := xo_at I.hok ha
  obtain ⟨mA, hns, _⟩ := (show ObjOk X.prog X.w H s.heap dd (.xd fs) from I.hok dd _ hd)
  obtain ⟨od, ho, _⟩ := lookIn_ns hns
  have nc : PySem.W.notCls oe = true := by
    unfold PySem.W.notCls
    rw [hdat]
  have J : PySem.W.InstAt s.heap a oe D (some od) := by
    refine ⟨hg, hz.1, nc, ?_⟩
    rw [hz.2]
    exact ho
  exact PySem.W.kia_one (kitx_err T) I.kIn ⟨oe, some od, J⟩ e (fun z => nomatch z) fun tk => ⟨.bl b, H, I.tok tk, rfl, q⟩
end
end So

namespace So
open PySem PySem.Spec PyProof.Rows L2
/-- C.m is a static method: its record at p, its def at g -/
structure Sta (K : PySem.W.Frag) (C : Addr) (mc : Value) (m : Str) (p g : Addr) : Prop where
  rd : PySem.W.readsIn K C mc = true
  ga : PySem.W.specialIn K (.ref C) "__getattribute__" = some (some (.builtin "type.__getattribute__"))
  at_ : PySem.W.findCls K (.ref C) mc m = some (.get (.builtin "staticmethod.__get__") (.ref p) .none (.ref C))
  rc : ∃ rest, PySem.W.recIn K p "staticmethod" = some (.ref g :: rest)
  kp : PySem.W.keepIn K (.ref g) = true
section
variable {X : Cx} {CX : CXT} {k : Nat} {C f p0 : Addr} {mc : Value} {fd : FuncData} {ps ks : List Str} {sp : Sp} {E : XK} {m : Str} {pos apos : Pos} {e o : Expr} {es : List Expr} {kws : List Keyword} {ta : TE} {t tk : TA}
theorem getsta_ok {pins : List (Addr × Obj)} {σ : L2.St} {H : Hp} {s : Shared} {pl : Sem Bool} {A : Around} {E' : Value → Shared → Prop} {Q : Value × List Value → Shared → Prop} (I : Inv X pins σ H s) (S : Sta X.K C mc m p0 f) (h : ∀ s', Inv X pins σ H s' → Q (.ref f, []) s') :
    wpAny (model X.prog X.w) A (getMethod (.ref C) m pl) Q E' s := by
  obtain ⟨rest, hp⟩ := S.rc
  refine PySem.W.method_cls I.kIn S.ga (PySem.W.cls_bind I.kIn S.rd S.at_ (wpAny_call (PySem.W.sm_get (s := { s with toks := s.toks + 1 }) I.kIn hp (PySem.W.handed_on rfl ?_))))
  exact h _ (I.tok _)
/-- C.m(e, ..), m static -/
theorem pe_sta {pl : Sem Bool} (he : PE X o ta) (S : Sta X.K C mc m p0 f) (F : FnOk X.prog X.w X.K X.mg X.base CX k f fd ps sp) (hr : Room k X.A) (hb : Binds X.K fd ps []) (hx : Passes CX X E) (ha : PA X (e :: es) t)
    (hst : starEach (e :: es) X.env = (false, eval e X.env) :: starEach es X.env := by rfl) (hpl : (backTo pos (starEach es X.env)).any (·.1) = false := by rfl)
    (ht : eval (.Call (.Attribute o m apos) (e :: es) [] pos) X.env = (do
      let ov ← eval o X.env
      standAt apos.atName
      let fx ← holding [ov] (getMethod ov m pl)
      callWith pos fx.1 fx.2 (backTo pos (starEach (e :: es) X.env)) (backToKw pos (keywordEach [] X.env))) := by rfl) :
    PE X (.Call (.Attribute o m apos) (e :: es) [] pos) (fun σ H Q => ta σ H fun x H1 => x = .ref C ∧ t σ H1 fun vs H2 => sp vs H2 Q E) := by
  constructor
  intro pins s σ H Q I h
  refine PySem.W.methodCall_KW (pl := pl) (thn (he.run pins s σ H _ I h) fun u s1 z => ?_) ht
  obtain ⟨x, H1, I1, rx, rfl, q⟩ := z
  cases rx
  refine getsta_ok I1 S fun s2 I2 => PySem.W.callWith_K (first := []) (h₀ := X.base) I2.ok.mod.kin S.kp (thn (ha.run pos pins s2 σ H1 _ I2 q) fun us s3 z => ?_) hst hpl
  obtain ⟨vs, H2, I3, r, q2⟩ := z
  refine ⟨I3.kIn, ?_⟩
  have q3 : sp (vs ++ []) H2 Q E := by
    rw [List.append_nil]
    exact q2
  exact run_fn F hr hb .nil hx I3 r q3
/-- C.m(k = v, ..), m static, keywords alone -/
theorem pe_staK {g : List Value → List Value → List Value} {gV : List V → List V → List V} {pl : Sem Bool} (he : PE X o ta) (S : Sta X.K C mc m p0 f) (F : FnOk X.prog X.w X.K X.mg X.base CX k f fd ps sp) (hr : Room k X.A) (hb : KBinds X.K fd ps ks g gV) (hx : Passes CX X E)
    (hkw : PK X kws tk) (hall : (backToKw pos (keywordEach kws X.env)).all (·.1.isSome) = true := by rfl) (hks : (backToKw pos (keywordEach kws X.env)).filterMap (·.1) = ks := by rfl)
    (hpl : ((backTo pos (starEach [] X.env)).any (·.1) || (backToKw pos (keywordEach kws X.env)).any (·.1.isNone)) = false := by rfl)
    (ht : eval (.Call (.Attribute o m apos) [] kws pos) X.env = (do
      let ov ← eval o X.env
      standAt apos.atName
      let fx ← holding [ov] (getMethod ov m pl)
      callWith pos fx.1 fx.2 (backTo pos (starEach [] X.env)) (backToKw pos (keywordEach kws X.env))) := by rfl) :
    PE X (.Call (.Attribute o m apos) [] kws pos) (fun σ H Q => ta σ H fun x H1 => x = .ref C ∧ tk σ H1 fun zs H2 => sp (gV [] zs) H2 Q E) := by
  constructor
  intro pins s σ H Q I h
  refine PySem.W.methodCall_KW (pl := pl) (thn (he.run pins s σ H _ I h) fun u s1 z => ?_) ht
  obtain ⟨x, H1, I1, rx, rfl, q⟩ := z
  cases rx
  refine getsta_ok I1 S fun s2 I2 => PySem.W.callWith_KW0 (first := []) (h₀ := X.base) I2.ok.mod.kin S.kp hall (thn (hkw.run pos pins s2 σ H1 _ I2 q) fun ws s3 z => ?_) hpl
  obtain ⟨zs, H2, I3, rz, q2⟩ := z
  refine ⟨I3.kIn, ?_⟩
  rw [hks]
  exact run_fnk (us := []) (vs := []) F hr hb hx I3 .nil rz q2
/-- ~o by an own __invert__ -/
theorem un_invOwn (F : FnOk X.prog X.w X.K X.mg X.base CX k f fd ps sp) (hs : PySem.W.findIn X.K (.ref C) "__invert__" = some (some (.ref f))) (hf : PySem.W.isFn X.K (.ref f) = true) (hb : Binds X.K fd ps []) (hx : Passes CX X E) (hr : Room k X.A) :
    UnR X (unaryOp .Invert) (fun x H Q => ∃ a dx fs, x = .ref a ∧ H a = some (.ins C dx fs) ∧ sp [.ref a] H Q E) := by
  intro pins s σ H x v Q I rx h
  obtain ⟨a, dx, fs, rfl, ha, q⟩ := h
  cases rx
  obtain ⟨mA, J, _⟩ := ins_get I.hok ha
  obtain ⟨od, J, _⟩ := J.look
  obtain ⟨m, hF⟩ := I.fr
  refine PySem.W.ksp_inv hF I.ok.mod.kin J hs hf ?_
  exact run_fn (us := [.ref a]) (vs := [.ref a]) F hr hb .nil hx I (.cons rfl .nil) q
end
end So

namespace So
open PySem PySem.Spec PyProof.Rows L2
/-! ### own errors with one field -/
/-- the __init__ of such an error: the field is what was passed -/
def spOneE (C : Addr) (n : Str) : Sp := fun vs H Q _ => ∃ (a : Addr) (v : V), vs = [.ref a, v] ∧ H a = some (exo a C none) ∧ ∀ dx, H dx = none → dx ≠ a → Q .non (upd (upd H dx (exd dx [(n, v)])) a (exo a C (some dx)))
/-- what the top says of such an error: its class at C, named x, its field n, its __init__ at f -/
structure OneE (K : PySem.W.Frag) (mg : Str → Option Value) (x n : Str) (C f : Addr) (fd : FuncData) : Prop where
  T : OexC K C
  iC : PySem.W.findIn K (.ref C) "__init__" = some (some (.ref f))
  tI : PySem.W.typeIn K (.ref f) = some (.type "function")
  mgC : mg x = some (.ref C)
  no : PySem.W.findIn K (.ref C) n = some none
  err : Err K C
  hb : Binds K fd ["self", n] []
/-- behind C(v) -/
theorem mkOne {C : Addr} {n : Str} {vs : List V} {v : V} {H1 : Hp} {Q : XK} (e : vs = [v]) (h : ∀ d H', Same H1 H' → H1 d = none → H' d = some (.xd [(n, v)]) → Q (.ref C) (some d) H') :
    vs.length ≤ 1000 ∧ ∀ a, H1 a = none → spOneE C n (.ref a :: (vs ++ [])) (upd H1 a (exo a C none))
      (fun v H2 => v = .non ∧ ∃ (d : Addr) (fs : List (Str × V)), H2 a = some (exo a C (some d)) ∧ H2 d = some (exd d fs) ∧ H1 d = none ∧ Q (.ref C) (some d) (upd (del H2 a) d (.xd fs))) (fun _ _ _ => False) := by
  subst e
  refine ⟨by show 1 ≤ 1000; decide, fun a ha => ⟨a, v, rfl, upd_same, fun dx hdx ne => ⟨rfl, dx, [(n, v)], upd_same, ?_, ?_, h dx _ (fun b o hb => ?_) ?_ upd_same⟩⟩⟩
  · rw [upd_ne ne, upd_same]
  · rw [upd_ne ne] at hdx
    exact hdx
  · rw [upd_ne ne] at hdx
    have hba : b ≠ a := ne_of_none hb ha
    have hbd : b ≠ dx := ne_of_none hb hdx
    rw [upd_ne hbd, del_ne hba, upd_ne hba, upd_ne hbd, upd_ne hba]
    exact hb
  · rw [upd_ne ne] at hdx
    exact hdx
section
variable {X : Cx} {x n : Str} {C f : Addr} {fd : FuncData} {ta : TA} {e : Expr} {p pos pos2 : Pos}
theorem pmk_one (O : OneE X.K X.mg x n C f fd) (F : FnOk X.prog X.w X.K X.mg X.base CX0 1 f fd ["self", n] (spOneE C n)) (hr : Room 2 X.A) (hg : Gl X x) (ha : PA X [e] ta)
    (hdb : (x == ("__debug__" : Str)) = false := by decide) (he : starEach [e] X.env = (false, eval e X.env) :: starEach [] X.env := by rfl) (hpl : (backTo pos (starEach [] X.env)).any (·.1) = false := by rfl) :
    PMk X (.Call (.Name x p) [e] [] pos) (tMkO C (spOneE C n) [] ta) :=
  pmk_oex O.T O.iC O.tI F hr O.hb .nil (fun _ _ _ _ _ _ _ h => h.elim) hg O.mgC ha hdb he hpl
/-- raise C(e) -/
theorem ps_raiseOne {W : WX} (O : OneE X.K X.mg x n C f fd) (F : FnOk X.prog X.w X.K X.mg X.base CX0 1 f fd ["self", n] (spOneE C n)) (hc : X.calm = true) (hr : Room 2 X.A) (tk : Takes X W) (hg : Gl X x) (ha : PA X [e] ta)
    (hdb : (x == ("__debug__" : Str)) = false := by decide) (he : starEach [e] X.env = (false, eval e X.env) :: starEach [] X.env := by rfl) (hpl : (backTo pos (starEach [] X.env)).any (·.1) = false := by rfl) :
    PS X (.Raise (some (.Call (.Name x p) [e] [] pos)) none pos2) (fun _ σ H => tMkO C (spOneE C n) [] ta σ H fun cls d H' => W cls d σ H') := ps_raise hc tk (pmk_one O F hr hg ha hdb he hpl)
end

/-! ### repr of data, of a tuple of a text and an empty dict -/
section
variable {X : Cx}
theorem call_reprT (hg : X.A.guards = some []) (hu : X.A.units + 64 < cLine) : CallR X (.builtin "repr") (fun xs H Q => ∃ (r a : Addr) (w : Str), xs = [.ref r] ∧ SqT X.K H r [.str w, .ref a] ∧ H a = some (.dK []) ∧ (PyData.tuple [.str w, .dict []]).shown.length ≤ sizeLine ∧ Q (.str (PyData.tuple [.str w, .dict []]).shown) H) := by
  intro pins s σ H xs us Q I r h
  obtain ⟨rr, a, w, rfl, ht, ha, hz, q⟩ := h
  obtain ⟨u, rfl, rv⟩ := vals1 r
  cases rv
  obtain ⟨its, rw', ⟨o, ho, hc, n, hd⟩, _⟩ := I.tuple ht
  obtain ⟨hz2, hsm, vs, hk, hD⟩ : ([] : List (Key × V)).length ≤ sizeLine ∧ (a == sysModules) = false ∧ ∃ vs, KV [] vs ∧ s.heap.DictOf (mixKind X.prog X.w) a vs := I.hok a _ ha
  obtain ⟨u1, u2, rfl, r1, r2⟩ := vals2 rw'
  obtain ⟨t1, rfl⟩ := r1
  cases r2
  obtain ⟨o2, es, ep, e1, e2, e3, _, e5, _⟩ := hD
  cases hk
  have es0 : es.toList = [] := by
    cases h : es.toList with
    | nil => rfl
    | cons y ys =>
      rw [h] at e5
      cases e5
  have rdD : Reads s.heap (.ref a) (.dict []) (a :: [] ++ []) := Reads.dict (kvs := []) e1 e2.1 e3 (by rw [es0]; exact ReadsAll.nil) (by rw [es0]; exact ReadsAll.nil)
  have rd : Reads s.heap (.ref rr) (.tuple [.str w, .dict []]) ([] ++ ((a :: [] ++ []) ++ [])) := Reads.tuple ho hc hd (ReadsAll.cons (Reads.str w t1) (ReadsAll.cons rdD ReadsAll.nil))
  refine repr_of_reads' rd rfl (fun _ z => ?_) hg (by show X.A.units + (2 + 1) < cLine; omega) (fun _ _ e => e) (fun h' t tk k => ?_) hz
  · have : sysModules = a := by simpa using z
    rw [this] at hsm
    simp at hsm
  · exact ⟨.str _, H, I.kept k, ⟨t, rfl⟩, q⟩
theorem CallR.or {b : Value} {r r' : List V → Hp → VK → Prop} (h : CallR X b r) (h' : CallR X b r') : CallR X b (fun xs H Q => r xs H Q ∨ r' xs H Q) := by
  intro pins s σ H xs us Q I rv q
  exact q.elim (h pins s σ H xs us Q I rv) (h' pins s σ H xs us Q I rv)
end
end So

namespace K15
open PySem PySem.Spec PyProof.Rows L2 So
/-! ### the text -/
def topS (i : Nat) : Stmt := PySem.Challenge.pw_soundtill_k15_rows_read.main.body.getD i (.Pass ⟨0, 0, 0, 0⟩)
abbrev sPen : Stmt := topS 45
abbrev sDraw : Stmt := topS 46
abbrev sPick : Stmt := topS 47
theorem scPen : FnScope ["_law_script"] ["_law_script"] (defScope sPen) := ⟨rfl, rfl, rfl, by decide +kernel, rfl, by decide +kernel, by decide +kernel⟩
theorem scDraw : FnScope ["_law_pen_here", "_law_many", "_law_digit", "_law_at", "_law_cell", "_law_great", "_law_mixed"] ["_law_pen_here", "_law_many"] (defScope sDraw) := ⟨rfl, rfl, rfl, by decide +kernel, rfl, by decide +kernel, by decide +kernel⟩
theorem scPick : FnScope ["_law_pen_here", "_law_some"] ["_law_pen_here", "_law_some"] (defScope sPick) := ⟨rfl, rfl, rfl, by decide +kernel, rfl, by decide +kernel, by decide +kernel⟩

/-! ### the pen -/
/-- the pen at p: the cells at l, how many were begun, what is left of a great one -/
structure Pen (H : Hp) (p l : Addr) (ns : List Int) (n : Nat) (g : Int) : Prop where
  pen : H p = some (.lst [.ref l, .int n, .int g])
  cells : H l = some (.lst (ns.map V.int))
  left : 0 ≤ g
/-- all that was tracked beside p is as it was -/
def Off (p : Addr) (H H' : Hp) : Prop := ∀ b o, b ≠ p → H b = some o → H' b = some o
theorem Off.refl {p : Addr} {H : Hp} : Off p H H := fun _ _ _ e => e
theorem Off.trans {p : Addr} {H H1 H2 : Hp} (a : Off p H H1) (b : Off p H1 H2) : Off p H H2 := fun c o n e => b c o n (a c o n e)
theorem Off.upd {p : Addr} {H H1 : Hp} {o : HO} (a : Off p H H1) : Off p H (upd H1 p o) := fun c u n e => by
  rw [upd_ne n]
  exact a c u n e
theorem Off.new {p q : Addr} {H H1 : Hp} {o : HO} (a : Off p H H1) (h : H1 q = none) : Off p H (L2.upd H1 q o) := fun c u n e => by
  have e1 := a c u n e
  rw [upd_ne (ne_of_none e1 h)]
  exact e1
theorem dp_ints {K : PySem.W.Frag} {H : Hp} : ∀ ns : List Int, DpAll K H (ns.map V.int) (ns.map PyData.int)
  | [] => .nil
  | n :: r => .cons (.int n) (dp_ints r)
theorem depth_ints : ∀ ns : List Int, PyData.depthAll (ns.map PyData.int) ≤ 1
  | [] => by simp [PyData.depthAll]
  | n :: r => by
    have h := depth_ints r
    simp only [List.map_cons, PyData.depthAll, PyData.depth]
    omega
theorem shaped_ints (ns : List Int) : SeqAt.shaped (.list (ns.map PyData.int)) = true := by
  unfold SeqAt.shaped
  rw [Bool.and_eq_true]
  have hd := depth_ints ns
  refine ⟨?_, decide_eq_true ?_⟩
  · show PyData.canLay0 _ = true
    simp only [PyData.canLay0]
    induction ns with
    | nil => rfl
    | cons a r ih => simpa [PyData.canLayAll0, PyData.canLay0] using ih (depth_ints r)
  · simp only [PyData.depth]
    omega
theorem Pen.apart {H : Hp} {p l : Addr} {ns : List Int} {n : Nat} {g : Int} (h : Pen H p l ns n g) : l ≠ p := by
  refine ne_of h.cells h.pen (fun z => ?_)
  injection z with z
  cases ns with
  | nil => cases z
  | cons a r => cases z
theorem eqv_nil (ds : List PyData) : PyData.eqv (.list ds) (.list []) = ds.isEmpty := by
  cases ds <;> simp [PyData.eqv, PyData.eqvAll]
section
variable {P : Program} {w : World} {K : PySem.W.Frag} {mg : Str → Option Value} {base : Heap}
def spDraw : Sp := fun vs H Q _ => ∃ (p l : Addr) (ns : List Int) (n : Nat) (g many : Int), vs = [.ref p, .int many] ∧ Pen H p l ns n g ∧ n < 1000000 ∧ 0 < many ∧ many.natAbs < 2 ^ 200 ∧
  ∀ (d : Int) (n' : Nat) (g' : Int) (H' : Hp), 0 ≤ d → d < many → n' ≤ n + 1 → Off p H H' → Pen H' p l ns n' g' → Q (.int d) H'
theorem ok_draw {f : Addr} {fd : FuncData} (F : Fun K "_law_draw" "_law_draw" sDraw f fd) (ml : mg "len" = none) (mi : mg "int" = none) (ma : mg "abs" = none) : FnOk P w K mg base CX0 1 f fd ["_law_pen_here", "_law_many"] spDraw := by
  refine F.ok scDraw (fun vs H Q E h => ?_) (fun cdv A outer s H vs Q E hr h => ?_)
  · obtain ⟨p, l, ns, n, g, many, rfl, _⟩ := h
    rfl
  · obtain ⟨p, l, ns, n, g, many, rfl, hp, hn, hm, hm2, q⟩ := h
    refine ⟨_, pss_cons (ps_if (pt_cmpR op_gt (pe_ix ix_list (pv 0) pe_int (fun _ _ => rfl)) pe_int (nomark _))
        (pss_cons (ps_set (i := 2) scDraw.nd rfl (.inl rfl) (pe_op op_mod (pe_callTy call_int1 (by rfl) mi (by decide +kernel) (pa_cons (pe_ix ix_list (pv 0) pe_int (fun _ _ => rfl)) pa_nil)) (pv 1)))
        (pss_cons (ps_asg (pe_op op_fdivW (pe_callTy call_int1 (by rfl) mi (by decide +kernel) (pa_cons (pe_ix ix_list (pv 0) pe_int (fun _ _ => rfl)) pa_nil)) (pv 1)) (pg_sub (pv 0) pe_int set_list))
        (pss_one (ps_ret (pv 2))))) pss_nil)
      (pss_cons (ps_set (i := 3) scDraw.nd rfl (.inl rfl) (pe_ix ix_list (pv 0) pe_int (fun _ _ => rfl)))
      (pss_cons (ps_asg (pe_op op_add (pv 3) pe_int) (pg_sub (pv 0) pe_int set_list))
      (pss_cons (ps_set (i := 4) scDraw.nd rfl (.inl rfl) (pe_op op_add (pe_op op_mul pe_int (pv 3)) pe_int))
      (C8.pss_cut (ps_if (pt_cmpR (op_neD (by have := hr.units; exact this)) (pe_ix ix_list (pv 0) pe_int (fun _ _ => rfl)) (pe_lst pa_nil) (nomark _))
        (pss_one (ps_set (i := 4) scDraw.nd rfl (.inl rfl) (pe_ix ix_list (pe_ix ix_list (pv 0) pe_int (fun _ _ => rfl)) (pe_op op_mod (pe_callTy call_int1 (by rfl) mi (by decide +kernel) (pa_cons (pv 3) pa_nil)) (pe_callB call_len_seq (by rfl) ml PySem.boot_len (pa_cons (pe_ix ix_list (pv 0) pe_int (fun _ _ => rfl)) pa_nil))) (fun _ _ => rfl)))) pss_nil)
      (pss_cons (ps_if (PW.pt (pw_and (pt_cmpR op_lt (pv 3) (pe_callB call_len_seq (by rfl) ml PySem.boot_len (pa_cons (pe_ix ix_list (pv 0) pe_int (fun _ _ => rfl)) pa_nil)) (nomark _))
            (pw_and1 (pt_cmpR op_ge (pe_callB call_abs (by rfl) ma (by decide +kernel) (pa_cons (pv 4) pa_nil)) (pe_op op_pow pe_int pe_int) (nomark _)))))
        (pss_cons (ps_set (i := 5) scDraw.nd rfl (.inl rfl) (pe_op op_add (pe_op op_mul pe_int (pe_op op_sub (pe_callB call_abs (by rfl) ma (by decide +kernel) (pa_cons (pv 4) pa_nil)) (pe_op op_pow pe_int pe_int)))
            (pe_callTy call_int1 (by rfl) mi (by decide +kernel) (pa_cons (pe_cmpR op_lt (pv 4) pe_int (nomark _)) pa_nil))))
        (pss_cons (ps_asg (pe_op op_fdivW (pe_callTy call_int1 (by rfl) mi (by decide +kernel) (pa_cons (pv 5) pa_nil)) (pv 1)) (pg_sub (pv 0) pe_int set_list))
        (pss_one (ps_ret (pe_op op_mod (pe_callTy call_int1 (by rfl) mi (by decide +kernel) (pa_cons (pv 5) pa_nil)) (pv 1)))))) pss_nil)
      (pss_cons (ps_set (i := 6) scDraw.nd rfl (.inl rfl) (pe_op op_mod (pe_callTy call_int1 (by rfl) mi (by decide +kernel) (pa_cons
          (pe_op op_pow (pe_op op_add (pe_op op_add (pe_op op_mod (pe_callTy call_int1 (by rfl) mi (by decide +kernel) (pa_cons (pv 4) pa_nil)) pe_int) (pe_op op_mul pe_int (pv 3))) pe_int) pe_int) pa_nil)) pe_int))
      (pss_cons (ps_set (i := 6) scDraw.nd rfl (.inl rfl) (pe_op op_mod (pe_callTy call_int1 (by rfl) mi (by decide +kernel) (pa_cons
          (pe_op op_pow (pe_op op_add (pe_op op_add (pe_op op_mul (pv 6) (pe_op op_add (pe_op op_mul pe_int (pv 3)) pe_int)) (pe_op op_mul (pe_op op_mul pe_int (pv 3)) (pv 3))) pe_int) pe_int) pa_nil)) pe_int))
      (pss_one (ps_ret (pe_op op_mod (pe_callTy call_int1 (by rfl) mi (by decide +kernel) (pa_cons (pe_op op_fdiv (pv 6) pe_int) pa_nil)) (pv 1))))))))))), ?_⟩
    have hP : SqL K H p [.ref l, .int n, .int g] := SqL.of hp.pen
    refine ⟨_, rfl, p, _, 2, _, rfl, rfl, hP, atI_nat (j := 2) rfl, _, _, rfl, rfl, _, rfl, ite2 (fun e => ?_) (fun e => ?_)⟩
    · refine ⟨_, rfl, p, _, 2, _, rfl, rfl, hP, atI_nat (j := 2) rfl, .inl ⟨_, rfl, _, rfl, _, _, rfl, rfl, hm, ?_⟩⟩
      refine ⟨_, rfl, p, _, 2, _, rfl, rfl, hP, atI_nat (j := 2) rfl, .inl ⟨_, rfl, _, rfl, _, _, rfl, rfl, wide_div hm hm2 (by decide) (by decide), _, rfl, p, _, 2, 2, rfl, rfl, hp.pen, rfl, ?_⟩⟩
      refine ⟨_, rfl, q _ n (g / many) _ (Int.emod_nonneg _ (Int.ne_of_gt hm)) (Int.emod_lt_of_pos _ hm) (by omega) Off.refl.upd ⟨upd_same, (upd_ne hp.apart).trans hp.cells, Int.ediv_nonneg hp.left (Int.le_of_lt hm)⟩⟩
    · refine ⟨_, rfl, p, _, 1, _, rfl, rfl, hP, atI_nat (j := 1) rfl, ?_⟩
      refine ⟨_, rfl, _, _, rfl, rfl, _, rfl, p, _, 1, 1, rfl, rfl, hp.pen, rfl, ?_⟩
      have hP1 : (upd H p (.lst [.ref l, .int (n + 1), .int g])) p = some (.lst [.ref l, .int (n + 1), .int g]) := upd_same
      have hL1 : (upd H p (.lst [.ref l, .int (n + 1), .int g])) l = some (.lst (ns.map V.int)) := (upd_ne hp.apart).trans hp.cells
      have hO1 : Off p H (upd H p (.lst [.ref l, .int (n + 1), .int g])) := Off.refl.upd
      refine ⟨_, rfl, _, _, rfl, rfl, .inl ⟨by decide, by decide⟩, _, _, rfl, rfl, ?_⟩
      refine ⟨fun σ' H2 => ∃ c : Int, σ' = [some (.ref p), some (.int many), none, some (.int n), some (.int c), none, none] ∧ H2 p = some (.lst [.ref l, .int (n + 1), .int g]) ∧ H2 l = some (.lst (ns.map V.int)) ∧ Off p H H2, ?_, ?_⟩
      · refine ⟨_, rfl, p, _, 0, _, rfl, rfl, SqL.of hP1, atI_nat (j := 0) rfl, Nat.zero_le _, fun z hz => ?_⟩
        have hP2 := (upd_ne (o := .lst []) (ne_of_none hP1 hz)).trans hP1
        have hL2 := (upd_ne (o := .lst []) (ne_of_none hL1 hz)).trans hL1
        refine ⟨.list (ns.map PyData.int), .list [], .lst (SqL.of hL2) (dp_ints ns), .lst (SqL.of upd_same) .nil, shaped_ints ns, by decide, _, rfl, ite2 (fun e1 => ?_) (fun e1 => ?_)⟩
        · rw [eqv_nil] at e1
          have hlen : 0 < ns.length := by
            cases ns with
            | nil => cases e1
            | cons a r => exact Nat.succ_pos _
          have hlt : n % ns.length < ns.length := Nat.mod_lt _ hlen
          refine ⟨_, rfl, p, _, 0, _, rfl, rfl, SqL.of hP2, atI_nat (j := 0) rfl, _, rfl, .inl ⟨_, rfl, _, rfl, p, _, 0, _, rfl, rfl, SqL.of hP2, atI_nat (j := 0) rfl, l, _, rfl, .inl (SqL.of hL2), _, _, rfl, rfl, (by rw [List.length_map]; omega), l, _, _, .int ns[n % ns.length], rfl, rfl, SqL.of hL2, ?_, ?_⟩⟩
          · have e2 : ((n : Int) % (((ns.map V.int).length : Nat) : Int)) = ((n % ns.length : Nat) : Int) := by
              rw [List.length_map]
              exact (Int.natCast_emod n ns.length).symm
            rw [e2]
            refine atI_nat ?_
            rw [List.getElem?_map, List.getElem?_eq_getElem hlt]
            rfl
          · exact ⟨_, rfl, hP2, hL2, hO1.new hz⟩
        · exact ⟨_, rfl, hP2, hL2, hO1.new hz⟩
      · rintro σ' H2 ⟨c, rfl, hP2, hL2, hO2⟩
        have hmix : ∀ t : Int, 0 ≤ t % many ∧ t % many < many := fun t => ⟨Int.emod_nonneg _ (Int.ne_of_gt hm), Int.emod_lt_of_pos _ hm⟩
        have bm : ∀ Y : Int, 0 ≤ Y % 2147483587 ∧ Y % 2147483587 < 2147483587 := fun Y => ⟨Int.emod_nonneg _ (by decide), Int.emod_lt_of_pos _ (by decide)⟩
        have bd : ∀ Y : Int, -(2 ^ 64) < Y % 2147483587 ∧ Y % 2147483587 < 2 ^ 64 := fun Y => by
          have := bm Y
          omega
        have key : ∀ Y : Int, ((Y % 2147483587) * (2 * (n : Int) + 73) + 53377 * (n : Int) * (n : Int) + 29).natAbs < 2 ^ 64 := by
          intro Y
          have b2 := bm Y
          revert b2
          generalize Y % 2147483587 = m1
          intro b2
          have b3 : 0 ≤ m1 * (2 * (n : Int) + 73) ∧ m1 * (2 * (n : Int) + 73) ≤ 2147483587 * 2000073 := ⟨Int.mul_nonneg b2.1 (by omega), Int.mul_le_mul (by omega) (by omega) (by omega) (by decide)⟩
          have b4 : 0 ≤ 53377 * (n : Int) * (n : Int) ∧ 53377 * (n : Int) * (n : Int) ≤ (53377 * 1000000) * 1000000 := ⟨Int.mul_nonneg (by omega) (by omega), Int.mul_le_mul (by omega) (by omega) (by omega) (by decide)⟩
          omega
        refine ⟨_, rfl, _, rfl, p, _, 0, _, rfl, rfl, SqL.of hP2, atI_nat (j := 0) rfl, l, _, rfl, .inl (SqL.of hL2), _, _, rfl, rfl, _, rfl, ite2 (fun e1 => ⟨_, rfl, _, rfl, _, _, rfl, rfl, ⟨by decide, by decide, by decide⟩, _, _, rfl, rfl, _, rfl, ite2 (fun e2 => ?great) (fun e2 => ?late)⟩) (fun e1 => ?small)⟩
        case great =>
          have e3 : (10 : Int) ^ (18 : Int).toNat ≤ (if c < 0 then -c else c) := of_decide_eq_true e2
          refine ⟨_, rfl, _, rfl, _, _, rfl, rfl, ⟨by decide, by decide, by decide⟩, _, _, rfl, rfl, _, _, rfl, rfl, .inl ⟨by decide, by decide⟩, _, rfl, _, _, rfl, rfl, .inr ⟨_, rfl, _, _, rfl, rfl, ?_⟩⟩
          have hG : ∀ k : Bool, 0 ≤ 2 * ((if c < 0 then -c else c) - (10 : Int) ^ (18 : Int).toNat) + (if k = true then (1 : Int) else 0) := by
            intro k
            have : (0 : Int) ≤ (if k = true then (1 : Int) else 0) := by cases k <;> decide
            omega
          have hG1 := hG (decide (c < 0))
          refine ⟨_, rfl, .inl ⟨_, rfl, _, rfl, _, _, rfl, rfl, wide_div hm hm2 (by decide) (by decide), _, rfl, p, _, 2, 2, rfl, rfl, hP2, rfl, ?_⟩⟩
          exact ⟨_, rfl, .inl ⟨_, rfl, _, rfl, _, _, rfl, rfl, hm, q _ (n + 1) _ _ (hmix _).1 (hmix _).2 (Nat.le_refl _) hO2.upd ⟨upd_same, (upd_ne (Pen.apart ⟨hP2, hL2, hp.left⟩)).trans hL2, Int.ediv_nonneg hG1 (Int.le_of_lt hm)⟩⟩⟩
        all_goals
          have b1 : 0 ≤ c % 2147483549 ∧ c % 2147483549 < 2147483549 := ⟨Int.emod_nonneg _ (by decide), Int.emod_lt_of_pos _ (by decide)⟩
          refine ⟨_, rfl, .inl ⟨_, rfl, _, _, rfl, rfl, (by decide : (0 : Int) < 2147483549), _, rfl, _, _, rfl, rfl, .inl ⟨by decide, by decide⟩, _, _, rfl, rfl, _, _, rfl, rfl, _, _, rfl, rfl, ⟨by decide, by decide, ?_⟩, .inl ⟨_, rfl, _, _, rfl, rfl, (by decide : (0 : Int) < 2147483587), ?_⟩⟩⟩
          · omega
          refine ⟨_, rfl, _, rfl, _, _, rfl, rfl, .inl ⟨by decide, by decide⟩, _, _, rfl, rfl, _, _, rfl, rfl, .inl (bd _), _, rfl, _, _, rfl, rfl, .inl ⟨by decide, by decide⟩, _, rfl, _, _, rfl, rfl, .inr ⟨?_, ?_⟩, _, _, rfl, rfl, _, _, rfl, rfl, _, _, rfl, rfl, ⟨by decide, by decide, key _⟩, .inl ⟨_, rfl, _, _, rfl, rfl, (by decide : (0 : Int) < 2147483629), ?_⟩⟩
          · omega
          · omega
          exact ⟨_, rfl, _, _, rfl, rfl, ⟨by decide, by decide⟩, .inl ⟨_, rfl, _, rfl, _, _, rfl, rfl, hm, q _ (n + 1) g H2 (hmix _).1 (hmix _).2 (Nat.le_refl _) hO2 ⟨hP2, hL2, hp.left⟩⟩⟩


/-- one of a list's things, one of a text's signs -/
def spPick (K : PySem.W.Frag) : Sp := fun vs H Q _ => ∃ (p l : Addr) (ns : List Int) (n : Nat) (g : Int) (y : V), vs = [.ref p, y] ∧ Pen H p l ns n g ∧ n < 1000000 ∧
  ((∃ (q : Addr) (xs : List V), y = .ref q ∧ q ≠ p ∧ H q = some (.lst xs) ∧ 0 < xs.length ∧ xs.length ≤ 1000 ∧
    ∀ (v : V) (n' : Nat) (g' : Int) (H' : Hp), v ∈ xs → n' ≤ n + 1 → Off p H H' → Pen H' p l ns n' g' → Q v H') ∨
   (∃ z : Str, y = .str z ∧ 0 < z.length ∧ z.length ≤ 1000 ∧
    ∀ (c : Nat) (n' : Nat) (g' : Int) (H' : Hp), c ∈ z.cps.toList → n' ≤ n + 1 → Off p H H' → Pen H' p l ns n' g' → Q (.str (⟨#[c]⟩)) H'))
theorem ok_pick {f fD : Addr} {fd fdD : FuncData} (F : Fun K "_law_pick" "_law_pick" sPick f fd) (ml : mg "len" = none) (FD : Fun K "_law_draw" "_law_draw" sDraw fD fdD) (bD : Binds K fdD ["_law_pen_here", "_law_many"] []) (gD : mg "_law_draw" = some (.ref fD))
    (GD : FnOk P w K mg base CX0 1 fD fdD ["_law_pen_here", "_law_many"] spDraw) : FnOk P w K mg base CX0 2 f fd ["_law_pen_here", "_law_some"] (spPick K) := by
  refine F.ok scPick (fun vs H Q E h => ?_) (fun cdv A outer s H vs Q E hr h => ?_)
  · obtain ⟨p, l, ns, n, g, y, rfl, _⟩ := h
    rfl
  · obtain ⟨p, l, ns, n, g, y, rfl, hp, hn, k⟩ := h
    refine ⟨_, pss_one (ps_ret (pe_ix (ix_list.or ix_str) (pv 1) (pe_call GD hr (by rfl) gD FD.kp bD .nil pass0 (pa_cons (pv 0) (pa_cons (pe_callB (So.CallR.or call_len_seq call_len_str) (by rfl) ml PySem.boot_len (pa_cons (pv 1) pa_nil)) pa_nil))) (fun _ _ => rfl))), ?_⟩
    rcases k with ⟨q, xs, rfl, hne, hq, h0, h1, k⟩ | ⟨z, rfl, h0, h1, k⟩
    · refine ⟨_, rfl, _, rfl, _, rfl, .inl ⟨q, _, rfl, .inl (SqL.of hq), p, l, ns, n, g, _, rfl, hp, hn, by omega, ?_, ?_⟩⟩
      · have : ((xs.length : Nat) : Int).natAbs = xs.length := Int.natAbs_natCast _
        rw [this]
        exact Nat.lt_of_le_of_lt h1 (by decide)
      · intro d n' g' H' d0 d1 hn' off pen
        obtain ⟨j, rfl⟩ : ∃ j : Nat, d = j := ⟨d.toNat, by omega⟩
        have hlt : j < xs.length := by omega
        exact .inl ⟨q, xs, j, xs[j], rfl, rfl, SqL.of (off q _ hne hq), atI_nat (List.getElem?_eq_getElem hlt), k _ n' g' H' (List.getElem_mem hlt) hn' off pen⟩
    · refine ⟨_, rfl, _, rfl, _, rfl, .inr ⟨z, rfl, Nat.le_trans h1 (by decide), p, l, ns, n, g, _, rfl, hp, hn, by omega, ?_, ?_⟩⟩
      · have : ((z.length : Nat) : Int).natAbs = z.length := Int.natAbs_natCast _
        rw [this]
        exact Nat.lt_of_le_of_lt h1 (by decide)
      · intro d n' g' H' d0 d1 hn' off pen
        obtain ⟨j, rfl⟩ : ∃ j : Nat, d = j := ⟨d.toNat, by omega⟩
        have hz : z.length = z.cps.toList.length := Array.length_toList.symm
        have hlt : j < z.cps.toList.length := by omega
        exact .inr ⟨z, j, z.cps.toList[j], rfl, rfl, Nat.le_trans h1 (by decide), atI_nat (List.getElem?_eq_getElem hlt), k _ n' g' H' (List.getElem_mem hlt) hn' off pen⟩
theorem Pen.new {H : Hp} {p l q : Addr} {ns : List Int} {n : Nat} {g : Int} {o : HO} (h : Pen H p l ns n g) (hq : H q = none) : Pen (upd H q o) p l ns n g :=
  ⟨(upd_ne (ne_of_none h.pen hq)).trans h.pen, (upd_ne (ne_of_none h.cells hq)).trans h.cells, h.left⟩
end
end K15

namespace K15
open PySem PySem.Spec PyProof.Rows L2 So
abbrev sWhole : Stmt := topS 14
abbrev sMoment : Stmt := topS 15
abbrev sName : Stmt := topS 16
abbrev sCheck : Stmt := topS 17
abbrev sWordOf : Stmt := topS 24
theorem scWhole : FnScope ["value"] ["value"] (defScope sWhole) := ⟨rfl, rfl, rfl, by decide +kernel, rfl, by decide +kernel, by decide +kernel⟩
theorem scMoment : FnScope ["value"] ["value"] (defScope sMoment) := ⟨rfl, rfl, rfl, by decide +kernel, rfl, by decide +kernel, by decide +kernel⟩
theorem scName : FnScope ["value", "sign"] ["value"] (defScope sName) := ⟨rfl, rfl, rfl, by decide +kernel, rfl, by decide +kernel, by decide +kernel⟩
theorem scCheck : FnScope ["value", "form"] ["value", "form"] (defScope sCheck) := ⟨rfl, rfl, rfl, by decide +kernel, rfl, by decide +kernel, by decide +kernel⟩
theorem scWordOf : FnScope ["value"] ["value"] (defScope sWordOf) := ⟨rfl, rfl, rfl, by decide +kernel, rfl, by decide +kernel, by decide +kernel⟩
/-! ### what a name is -/
def letters : Str := "abcdefghijklmnopqrstuvwxyz"
def digits : Str := "0123456789"
def noNames : List Str := ["begun", "setby", "found", "trusted", "passed", "failed", "agreed", "differed", "served", "backed", "sound", "unsound", "sure", "never", "open", "none", "record", "lot", "menu", "wanted"]
def isAln (c : Nat) : Bool := decide (c ∈ (letters ++ digits).cps.toList)
def isName (z : Str) : Bool := decide (1 ≤ z.length) && decide (z.length ≤ 8) && !(noNames.contains z) && decide (z.cps.toList.headD 0 ∈ letters.cps.toList) && z.cps.toList.all isAln
/-- the module's names that the words of the package read -/
structure Words (K : PySem.W.Frag) (mg : Str → Option Value) : Prop where
  greatest : ∃ t, mg "GREATEST" = some (.int 1000000000000000000000000000000 t)
  longest : ∃ t, mg "LONGEST_NAME" = some (.int 8 t)
  letters : ∃ t, mg "LETTERS" = some (.str letters t)
  digits : ∃ t, mg "DIGITS" = some (.str digits t)
  noNames : ∃ a, mg "NO_NAMES" = some (.ref a) ∧ ∀ H : Hp, SqT K H a (noNames.map V.str)
  isi : mg "isinstance" = none
  int : mg "int" = none
  bool : mg "bool" = none
  str : mg "str" = none
  len : mg "len" = none
  all : mg "all" = none
section
variable {P : Program} {w : World} {K : PySem.W.Frag} {mg : Str → Option Value} {base : Heap}
theorem kit_int_int : PySem.W.kitOne K (.type "int") (.type "int") = some true := kit_ty (by decide +kernel)
theorem kit_int_bool : PySem.W.kitOne K (.type "int") (.type "bool") = some false := kit_ty (by decide +kernel)
theorem kit_str_str : PySem.W.kitOne K (.type "str") (.type "str") = some true := kit_ty (by decide +kernel)
theorem kit_bool_bool : PySem.W.kitOne K (.type "bool") (.type "bool") = some true := kit_ty (by decide +kernel)

/-- the values that the law draws: what each is, by its type's name -/
inductive Gv (H : Hp) : V → String → Prop where
  | non : Gv H .non "NoneType"
  | bl (b : Bool) : Gv H (.bl b) "bool"
  | int (i : Int) : Gv H (.int i) "int"
  | str (z : Str) (h : z.length ≤ 2000) : Gv H (.str z) "str"
  | lst {a : Addr} {xs : List V} (e : H a = some (.lst xs)) : Gv H (.ref a) "list"
  | tup {a : Addr} {xs : List V} (e : H a = some (.tup xs)) : Gv H (.ref a) "tuple"
  | dK {a : Addr} {kvs : List (Key × V)} (e : H a = some (.dK kvs)) : Gv H (.ref a) "dict"
theorem Gv.ty {H : Hp} {v : V} {T : String} (h : Gv H v T) : TyX K H v (.type T) := by
  cases h with
  | non => exact .base .non
  | bl b => exact .base (.bl b)
  | int i => exact .base (.int i)
  | str z h => exact .base (.str z)
  | lst e => exact .base (.lst e)
  | tup e => exact .base (.tup e)
  | dK e => exact .base (.dK e)
theorem Gv.same {H H' : Hp} {v : V} {T : String} (h : Gv H v T) (s : Same H H') : Gv H' v T := by
  cases h with
  | non => exact .non
  | bl b => exact .bl b
  | int i => exact .int i
  | str z h => exact .str z h
  | lst e => exact .lst (s _ _ e)
  | tup e => exact .tup (s _ _ e)
  | dK e => exact .dK (s _ _ e)
theorem Gv.off {H H' : Hp} {v : V} {T : String} {p : Addr} (h : Gv H v T) (n : v ≠ .ref p) (s : Off p H H') : Gv H' v T := by
  cases h with
  | non => exact .non
  | bl b => exact .bl b
  | int i => exact .int i
  | str z h => exact .str z h
  | lst e => exact .lst (s _ _ (fun z => n (by rw [z])) e)
  | tup e => exact .tup (s _ _ (fun z => n (by rw [z])) e)
  | dK e => exact .dK (s _ _ (fun z => n (by rw [z])) e)
def gInt : V → Bool
  | .int _ => true
  | _ => false
def gMom : V → Bool
  | .int i => decide (0 ≤ i ∧ i ≤ 1000000000000000000000000000000)
  | _ => false
def gNam : V → Bool
  | .str z => isName z
  | _ => false
def gTru : V → Bool
  | .bl _ => true
  | _ => false
/-- what isinstance says of such a value and a built-in type -/
theorem Gv.kit {H : Hp} {v : V} {T : String} (h : Gv H v T) (c : String) (hc : c = "int" ∨ c = "bool" ∨ c = "str") : PySem.W.kitOne K (.type T) (.type c) = some (decide (T = c ∨ (T = "bool" ∧ c = "int"))) := by
  rcases hc with rfl | rfl | rfl <;> cases h <;> exact kit_ty (by decide +kernel)
/-- is_whole -/
def spWhole : Sp := fun vs H Q _ => ∃ (v : V) (T : String), vs = [v] ∧ Gv H v T ∧ Q (.bl (gInt v)) H
theorem ok_whole {f : Addr} {fd : FuncData} (F : Fun K "is_whole" "is_whole" sWhole f fd) (W : Words K mg) : FnOk P w K mg base CX0 1 f fd ["value"] spWhole := by
  refine F.ok scWhole (fun vs H Q E h => ?_) (fun cdv A outer s H vs Q E hr h => ?_)
  · obtain ⟨v, T, rfl, _⟩ := h
    rfl
  · obtain ⟨v, T, rfl, hv, q⟩ := h
    refine ⟨_, pss_one (ps_ret (pe_and (pe_callB call_isi (by rfl) W.isi (by decide +kernel) (pa_cons (pv 0) (pa_cons (pe_bltn (v := .ty "int") (by rfl) W.int (by decide +kernel) rfl) pa_nil)))
      (pe_one (pe_not (pe_callB call_isi (by rfl) W.isi (by decide +kernel) (pa_cons (pv 0) (pa_cons (pe_bltn (v := .ty "bool") (by rfl) W.bool (by decide +kernel) rfl) pa_nil))))))), ?_⟩
    refine ⟨_, rfl, _, _, _, _, _, rfl, .ty "int", hv.ty, hv.kit "int" (.inl rfl), _, rfl, ?_⟩
    cases hv with
    | int i =>
      refine iteT ?_
      exact ⟨_, rfl, _, _, _, _, false, rfl, .ty "bool", .base (.int i), kit_int_bool, _, rfl, q⟩
    | bl b =>
      refine iteT ?_
      exact ⟨_, rfl, _, _, _, _, true, rfl, .ty "bool", .base (.bl b), kit_bool_bool, _, rfl, q⟩
    | non => exact iteF q
    | str z h => exact iteF q
    | lst e => exact iteF q
    | tup e => exact iteF q
    | dK e => exact iteF q
/-- is_moment -/
def spMoment : Sp := fun vs H Q _ => ∃ (v : V) (T : String), vs = [v] ∧ Gv H v T ∧ Q (.bl (gMom v)) H
theorem ok_moment {f fW : Addr} {fd fdW : FuncData} (F : Fun K "is_moment" "is_moment" sMoment f fd) (W : Words K mg) (FW : Fun K "is_whole" "is_whole" sWhole fW fdW) (bW : Binds K fdW ["value"] []) (gW : mg "is_whole" = some (.ref fW)) :
    FnOk P w K mg base CX0 2 f fd ["value"] spMoment := by
  have GW : FnOk P w K mg base CX0 1 fW fdW ["value"] spWhole := ok_whole FW W
  refine F.ok scMoment (fun vs H Q E h => ?_) (fun cdv A outer s H vs Q E hr h => ?_)
  · obtain ⟨v, T, rfl, _⟩ := h
    rfl
  · obtain ⟨v, T, rfl, hv, q⟩ := h
    obtain ⟨tG, hG⟩ := W.greatest
    refine ⟨_, pss_one (ps_ret (pe_and (pe_call GW hr (by rfl) gW FW.kp bW .nil pass0 (pa_cons (pv 0) pa_nil)) (pe_one (pe_chain op_le op_le pe_int (pv 0) (pe_glob (v := .int 1000000000000000000000000000000) rfl hG ⟨_, rfl⟩))))), ?_⟩
    refine ⟨_, rfl, v, T, rfl, hv, gInt v, rfl, ?_⟩
    cases hv with
    | int i =>
      refine iteT ?_
      refine ⟨_, rfl, _, _, rfl, rfl, _, rfl, ite2 (fun e => ?_) (fun e => ?_)⟩
      · have e' : 0 ≤ i := of_decide_eq_true e
        refine ⟨_, _, rfl, rfl, ?_⟩
        have : gMom (.int i) = decide (i ≤ 1000000000000000000000000000000) := by simp [gMom, e']
        rw [this] at q
        exact q
      · have e' : ¬ 0 ≤ i := fun z => e (decide_eq_true z)
        have : gMom (.int i) = false := by simp [gMom, e']
        rw [this] at q
        exact q
    | bl b => exact iteF q
    | non => exact iteF q
    | str z h => exact iteF q
    | lst e => exact iteF q
    | tup e => exact iteF q
    | dK e => exact iteF q

theorem inV_strs (z : Str) : ∀ l : List Str, inV (.str z) (l.map V.str) = l.contains z
  | [] => rfl
  | x :: r => by
    have h := inV_strs z r
    have e : eqV (.str x) (.str z) = (z == x) := Bool.beq_comm (a := x) (b := z)
    show (eqV (.str x) (.str z) || inV (.str z) (r.map V.str)) = _
    rw [h, e, List.contains_cons]
theorem flat_strs (l : List Str) : (l.map V.str).all flatV = true := by
  rw [List.all_map]
  exact List.all_eq_true.mpr fun _ _ => rfl
theorem Same.over {H H1 : Hp} {D : Addr} {o : HO} (s : Same H H1) (h : H D = none) : Same H (upd H1 D o) := fun b u e => by
  rw [upd_ne (ne_of_none e h)]
  exact s b u e
/-- is_name -/
def spName : Sp := fun vs H Q _ => ∃ (v : V) (T : String), vs = [v] ∧ Gv H v T ∧ ∀ H', Same H H' → Q (.bl (gNam v)) H'
theorem ok_name {f : Addr} {fd : FuncData} (F : Fun K "is_name" "is_name" sName f fd) (W : Words K mg) : FnOk P w K mg base CX0 1 f fd ["value"] spName := by
  refine F.ok scName (fun vs H Q E h => ?_) (fun cdv A outer s H vs Q E hr h => ?_)
  · obtain ⟨v, T, rfl, _⟩ := h
    rfl
  · obtain ⟨v, T, rfl, hv, q⟩ := h
    obtain ⟨tL, hL⟩ := W.longest
    obtain ⟨tA, hA⟩ := W.letters
    obtain ⟨tD, hD⟩ := W.digits
    obtain ⟨aN, gN, hN⟩ := W.noNames
    have gA : ∀ {X : Cx}, X.mg = mg → True := fun _ => trivial
    refine ⟨_, pss_cons (ps_if (PW.pt (pw_or (pt_not (pt_val (pe_callB call_isi (by rfl) W.isi (by decide +kernel) (pa_cons (pv 0) (pa_cons (pe_bltn (v := .ty "str") (by rfl) W.str (by decide +kernel) rfl) pa_nil)))))
        (pw_or (pt_not (pt_chain op_le op_le pe_int (pe_callB call_len_str (by rfl) W.len PySem.boot_len (pa_cons (pv 0) pa_nil)) (pe_glob (v := .int 8) rfl hL ⟨_, rfl⟩)))
          (pw_or1 (pt_cmpR op_in_seq (pv 0) (pe_glob (v := .ref aN) rfl gN rfl) (by rfl))))))
        (pss_one (ps_ret pe_bl)) pss_nil)
      (pss_one (ps_ret (pe_and (pe_cmpR op_in_sign (pe_ix ix_str (pv 0) pe_int (fun _ _ => rfl)) (pe_glob (v := .str letters) rfl hA ⟨_, rfl⟩) (by rfl))
        (pe_one (pe_callB (cr_all rfl) (by rfl) W.all (by decide +kernel) (pa_cons (pe_lc (own := [("sign", 1)]) (g := gName 1) (tt := tYes) rfl scName.nd (pi_str (pv 0)) (blkOk_by (N := ["value", "sign"]) (sc := defScope sName) (by decide +kernel))
          (fun _ _ _ _ _ => pg_name (i := 1) scName.nd rfl (Or.inl rfl)) (fun _ _ _ _ _ => pts_nil)
          (fun _ _ _ _ _ => pe_cmpR op_in_sign (pv 1) (pe_op op_add_str (pe_glob (v := .str letters) rfl hA ⟨_, rfl⟩) (pe_glob (v := .str digits) rfl hD ⟨_, rfl⟩)) (by rfl))) pa_nil)))))), ?_⟩
    refine ⟨_, rfl, _, _, _, _, _, rfl, .ty "str", hv.ty, hv.kit "str" (.inr (.inr rfl)), _, rfl, ?_⟩
    cases hv with
    | non => exact iteT (q H (Same.refl H))
    | bl b => exact iteT (q H (Same.refl H))
    | int i => exact iteT (q H (Same.refl H))
    | lst e => exact iteT (q H (Same.refl H))
    | tup e => exact iteT (q H (Same.refl H))
    | dK e => exact iteT (q H (Same.refl H))
    | str z hz => ?_
    have q : ∀ H', Same H H' → Q (.bl (isName z)) H' := q
    have hzl : z.length ≤ sizeLine := Nat.le_trans hz (by decide)
    refine iteF ?_
    have no : isName z = false → Q (.bl false) H := fun e => by
      have := q H (Same.refl H)
      rw [e] at this
      exact this
    refine ⟨_, rfl, _, rfl, hzl, _, _, rfl, rfl, _, rfl, ite2 (fun c1 => ?_) (fun c1 => ⟨_, rfl, iteT (no ?_)⟩)⟩
    case refine_2 =>
      have c1' : ¬ (1 : Int) ≤ ((z.length : Nat) : Int) := fun e => c1 (decide_eq_true e)
      unfold isName
      rw [show decide (1 ≤ z.length) = false from decide_eq_false (by omega)]
      rfl
    have c1' : (1 : Int) ≤ ((z.length : Nat) : Int) := of_decide_eq_true c1
    refine ⟨_, _, rfl, rfl, _, rfl, ?_⟩
    by_cases c2 : ((z.length : Nat) : Int) ≤ 8
    case neg =>
      rw [decide_eq_false c2]
      refine iteT (no ?_)
      unfold isName
      rw [show decide (z.length ≤ 8) = false from decide_eq_false (by omega), Bool.and_false]
      rfl
    rw [decide_eq_true c2]
    refine iteF ⟨_, rfl, aN, _, rfl, .inr (hN H), rfl, flat_strs _, ?_⟩
    refine ⟨_, rfl, ?_⟩
    rw [show inV (.str z) (noNames.map V.str) = noNames.contains z from inV_strs z noNames]
    cases c3 : noNames.contains z with
    | true =>
      refine iteT (no ?_)
      unfold isName
      rw [c3, Bool.not_true, Bool.and_false]
      rfl
    | false =>
      refine iteF ?_
      have hz0 : 0 < z.cps.toList.length := by
        have : z.length = z.cps.toList.length := Array.length_toList.symm
        omega
      obtain ⟨c0, cr, hc⟩ : ∃ c0 cr, z.cps.toList = c0 :: cr := by
        cases e : z.cps.toList with
        | nil => rw [e] at hz0; cases hz0
        | cons a r => exact ⟨a, r, rfl⟩
      have e1 : decide (1 ≤ z.length) = true := decide_eq_true (by omega)
      have e2 : decide (z.length ≤ 8) = true := decide_eq_true (by omega)
      have e3 : isName z = (decide (c0 ∈ letters.cps.toList) && z.cps.toList.all isAln) := by
        unfold isName
        rw [e1, e2, c3, hc]
        rfl
      refine ⟨_, rfl, _, _, c0, rfl, rfl, hzl, ?_, _, _, rfl, rfl, _, rfl, ite2 (fun c4 => ?_) (fun c4 => ?_)⟩
      · rw [hc]
        exact atI_nat (j := 0) rfl
      · refine ⟨_, rfl, _, rfl, fun D hD => lc_it walk_str (fun i H' => H' D = some (.lst ((z.cps.toList.take i).map fun c => V.bl (isAln c))) ∧ Same H H') ⟨?_, ?_⟩ (fun _ _ _ _ => trivial) ?_ ?_⟩
        · exact upd_same
        · exact Same.over (Same.refl H) hD
        · rintro i x H1 H2 hi ⟨h1, s1⟩ ⟨rfl, c, hc1, rfl⟩
          have hc2 : z.cps.toList[i]? = some c := by
            rw [Array.getElem?_toList]
            exact hc1
          refine ⟨rfl, _, rfl, _, _, rfl, rfl, by decide, c, _, rfl, rfl, _, h1, ?_, ?_, Same.over s1 hD⟩
          · rw [List.length_map, List.length_take]
            have : z.cps.toList.length = z.length := Array.length_toList
            exact Nat.lt_of_le_of_lt (Nat.le_trans (Nat.min_le_right _ _) (by omega)) (by decide : 2000 < sizeLine)
          · rw [upd_same, List.take_add_one, hc2, List.map_append]
            rfl
        · rintro H1 ⟨h1, s1⟩
          refine ⟨D, z.cps.toList.map isAln, rfl, SqL.of ?_, ?_⟩
          · rw [h1, List.take_of_length_le (by rw [Array.length_toList]; exact Nat.le_refl _), List.map_map]
            rfl
          · have := q H1 s1
            rw [e3, show decide (c0 ∈ letters.cps.toList) = true from c4, Bool.true_and] at this
            rw [List.all_map]
            exact this
      · refine no ?_
        rw [e3]
        have : decide (c0 ∈ letters.cps.toList) = false := by
          cases h : decide (c0 ∈ letters.cps.toList) with
          | true => exact absurd h c4
          | false => rfl
        rw [this]
        rfl
end
end K15

namespace K15
open PySem PySem.Spec PyProof.Rows L2 So
abbrev sEN : Stmt := inClass (topS 3) 0
abbrev sEM : Stmt := inClass (topS 4) 0
abbrev sES : Stmt := inClass (topS 5) 0
theorem scEN : FnScope ["self", "name"] ["self", "name"] (defScope sEN) := ⟨rfl, rfl, rfl, by decide +kernel, rfl, by decide +kernel, by decide +kernel⟩
theorem scEM : FnScope ["self", "moment"] ["self", "moment"] (defScope sEM) := ⟨rfl, rfl, rfl, by decide +kernel, rfl, by decide +kernel, by decide +kernel⟩
theorem scES : FnScope ["self", "value"] ["self", "value"] (defScope sES) := ⟨rfl, rfl, rfl, by decide +kernel, rfl, by decide +kernel, by decide +kernel⟩
section
variable {P : Program} {w : World} {K : PySem.W.Frag} {mg : Str → Option Value} {base : Heap}
theorem ok_eN {C f : Addr} {fd : FuncData} (F : Fun K "__init__" "BadName.__init__" sEN f fd) (O : OneE K mg "BadName" "name" C f fd) : FnOk P w K mg base CX0 1 f fd ["self", "name"] (spOneE C "name") := by
  refine F.ok scEN (fun vs H Q E h => ?_) (fun cdv A outer s H vs Q E hr h => ?_)
  · obtain ⟨a, v, rfl, _⟩ := h
    rfl
  · obtain ⟨a, v, rfl, ha, q⟩ := h
    exact ⟨_, pss_one (ps_ost (pv 0) (pv 1)), _, rfl, _, rfl, a, C, rfl, O.T, O.no, .inl ⟨ha, fun dx h n => q dx h n⟩⟩
theorem ok_eM {C f : Addr} {fd : FuncData} (F : Fun K "__init__" "BadMoment.__init__" sEM f fd) (O : OneE K mg "BadMoment" "moment" C f fd) : FnOk P w K mg base CX0 1 f fd ["self", "moment"] (spOneE C "moment") := by
  refine F.ok scEM (fun vs H Q E h => ?_) (fun cdv A outer s H vs Q E hr h => ?_)
  · obtain ⟨a, v, rfl, _⟩ := h
    rfl
  · obtain ⟨a, v, rfl, ha, q⟩ := h
    exact ⟨_, pss_one (ps_ost (pv 0) (pv 1)), _, rfl, _, rfl, a, C, rfl, O.T, O.no, .inl ⟨ha, fun dx h n => q dx h n⟩⟩
theorem ok_eS {C f : Addr} {fd : FuncData} (F : Fun K "__init__" "BadSaying.__init__" sES f fd) (O : OneE K mg "BadSaying" "value" C f fd) : FnOk P w K mg base CX0 1 f fd ["self", "value"] (spOneE C "value") := by
  refine F.ok scES (fun vs H Q E h => ?_) (fun cdv A outer s H vs Q E hr h => ?_)
  · obtain ⟨a, v, rfl, _⟩ := h
    rfl
  · obtain ⟨a, v, rfl, ha, q⟩ := h
    exact ⟨_, pss_one (ps_ost (pv 0) (pv 1)), _, rfl, _, rfl, a, C, rfl, O.T, O.no, .inl ⟨ha, fun dx h n => q dx h n⟩⟩
/-- the three errors of arguments -/
structure Errs (K : PySem.W.Frag) (mg : Str → Option Value) (CN CM CS : Addr) : Prop where
  n : ∃ (f : Addr) (fd : FuncData), OneE K mg "BadName" "name" CN f fd ∧ Fun K "__init__" "BadName.__init__" sEN f fd
  m : ∃ (f : Addr) (fd : FuncData), OneE K mg "BadMoment" "moment" CM f fd ∧ Fun K "__init__" "BadMoment.__init__" sEM f fd
  s : ∃ (f : Addr) (fd : FuncData), OneE K mg "BadSaying" "value" CS f fd ∧ Fun K "__init__" "BadSaying.__init__" sES f fd
def gBeg : V → Bool
  | .int i => decide (1 ≤ i ∧ i ≤ 1000000000000000000000000000000)
  | _ => false
/-- the forms: whether a value has it, the class and the field of the error where not -/
def Form (CN CM CS : Addr) (form : Str) (v : V) (ok : Bool) (C : Addr) (fl : Str) : Prop :=
  (form = "name" ∧ ok = gNam v ∧ C = CN ∧ fl = "name") ∨ (form = "moment" ∧ ok = gMom v ∧ C = CM ∧ fl = "moment") ∨ (form = "beginning" ∧ ok = gBeg v ∧ C = CM ∧ fl = "moment") ∨ (form = "truth" ∧ ok = gTru v ∧ C = CS ∧ fl = "value")
theorem notS {a b : Str} (h : a ≠ b) : ¬ (decide (V.str a = V.str b) = true) := fun e => h (V.str.inj (of_decide_eq_true e))
def spCheck (CN CM CS : Addr) : Sp := fun vs H Q E => ∃ (v : V) (T : String) (form : Str) (ok : Bool) (C : Addr) (fl : Str), vs = [v, .str form] ∧ Gv H v T ∧ Form CN CM CS form v ok C fl ∧
  (ok = true → ∀ H', Same H H' → Q .non H') ∧ (ok = false → ∀ d H', Same H H' → H' d = some (.xd [(fl, v)]) → E (.ref C) (some d) H')
theorem ok_check {CN CM CS f fM fN : Addr} {fd fdM fdN : FuncData} (F : Fun K "check_form" "check_form" sCheck f fd) (W : Words K mg) (R : Errs K mg CN CM CS) (FM : Fun K "is_moment" "is_moment" sMoment fM fdM) (bM : Binds K fdM ["value"] []) (gM : mg "is_moment" = some (.ref fM))
    (GM : FnOk P w K mg base CX0 2 fM fdM ["value"] spMoment) (FN : Fun K "is_name" "is_name" sName fN fdN) (bN : Binds K fdN ["value"] []) (gN : mg "is_name" = some (.ref fN)) (GN : FnOk P w K mg base CX0 1 fN fdN ["value"] spName) :
    FnOk P w K mg base (L2.CX P w) 3 f fd ["value", "form"] (spCheck CN CM CS) := by
  obtain ⟨f1, fd1, O1, F1⟩ := R.n
  obtain ⟨f2, fd2, O2, F2⟩ := R.m
  obtain ⟨f3, fd3, O3, F3⟩ := R.s
  have G1 : FnOk P w K mg base CX0 1 f1 fd1 ["self", "name"] (spOneE CN "name") := ok_eN F1 O1
  have G2 : FnOk P w K mg base CX0 1 f2 fd2 ["self", "moment"] (spOneE CM "moment") := ok_eM F2 O2
  have G3 : FnOk P w K mg base CX0 1 f3 fd3 ["self", "value"] (spOneE CS "value") := ok_eS F3 O3
  refine F.okX scCheck (fun vs H Q E h => ?_) (fun cdv A outer s H vs Q E hr h => ?_)
  · obtain ⟨v, T, form, ok, C, fl, rfl, _⟩ := h
    rfl
  · obtain ⟨v, T, form, ok, C, fl, rfl, hv, hf, qy, qn⟩ := h
    have hr1 : Room 1 _ := hr.mono (by decide)
    refine ⟨_, pss_cons (ps_if (PW.pt (pw_and (pt_cmpR op_eq (pv 1) pe_str (nomark _)) (pw_and1 (pt_not (pt_val (pe_call GN hr1 (by rfl) gN FN.kp bN .nil pass0 (pa_cons (pv 0) pa_nil))))))) (pss_one (ps_raiseOne O1 G1 rfl hr (takes_of rfl rfl rfl rfl) (by rfl) (pa_cons (pv 0) pa_nil))) pss_nil)
      (pss_cons (ps_if (PW.pt (pw_and (pt_cmpR op_eq (pv 1) pe_str (nomark _)) (pw_and1 (pt_not (pt_val (pe_call GM hr (by rfl) gM FM.kp bM .nil pass0 (pa_cons (pv 0) pa_nil))))))) (pss_one (ps_raiseOne O2 G2 rfl hr (takes_of rfl rfl rfl rfl) (by rfl) (pa_cons (pv 0) pa_nil))) pss_nil)
      (pss_cons (ps_if (PW.pt (pw_and (pt_cmpR op_eq (pv 1) pe_str (nomark _)) (pw_and1 (pt_not (PW.pt (pw_and (pt_val (pe_call GM hr (by rfl) gM FM.kp bM .nil pass0 (pa_cons (pv 0) pa_nil))) (pw_and1 (pt_cmpR op_gt (pv 0) pe_int (nomark _))))))))) (pss_one (ps_raiseOne O2 G2 rfl hr (takes_of rfl rfl rfl rfl) (by rfl) (pa_cons (pv 0) pa_nil))) pss_nil)
      (pss_one (ps_if (PW.pt (pw_and (pt_cmpR op_eq (pv 1) pe_str (nomark _)) (pw_and1 (pt_not (pt_val (pe_callB call_isi (by rfl) W.isi (by decide +kernel) (pa_cons (pv 0) (pa_cons (pe_bltn (v := .ty "bool") (by rfl) W.bool (by decide +kernel) rfl) pa_nil))))))))
        (pss_one (ps_raiseOne O3 G3 rfl hr (takes_of rfl rfl rfl rfl) (by rfl) (pa_cons (pv 0) pa_nil))) pss_nil)))), ?_⟩
    rcases hf with ⟨rfl, rfl, rfl, rfl⟩ | ⟨rfl, rfl, rfl, rfl⟩ | ⟨rfl, rfl, rfl, rfl⟩ | ⟨rfl, rfl, rfl, rfl⟩
    · refine ⟨_, rfl, rfl, _, rfl, ite2 (fun _ => ?_) (fun e => absurd (decide_eq_true rfl) e)⟩
      refine ⟨_, rfl, v, T, rfl, hv, fun H1 s1 => ⟨_, rfl, ?_⟩⟩
      cases hg : gNam v with
      | true =>
        refine iteF ?_
        refine ⟨_, rfl, rfl, _, rfl, ite2 (fun e => absurd e (notS (by decide +kernel))) (fun _ => ?_)⟩
        refine ⟨_, rfl, rfl, _, rfl, ite2 (fun e => absurd e (notS (by decide +kernel))) (fun _ => ?_)⟩
        refine ⟨_, rfl, rfl, _, rfl, ite2 (fun e => absurd e (notS (by decide +kernel))) (fun _ => ?_)⟩
        exact qy hg H1 s1
      | false =>
        refine iteT ?_
        exact ⟨_, rfl, mkOne rfl fun d H' s2 _ e => qn hg d H' (s1.trans s2) e⟩
    · refine ⟨_, rfl, rfl, _, rfl, ite2 (fun e => absurd e (notS (by decide +kernel))) (fun _ => ?_)⟩
      refine ⟨_, rfl, rfl, _, rfl, ite2 (fun _ => ?_) (fun e => absurd (decide_eq_true rfl) e)⟩
      refine ⟨_, rfl, v, T, rfl, hv, _, rfl, ?_⟩
      cases hg : gMom v with
      | true =>
        refine iteF ?_
        refine ⟨_, rfl, rfl, _, rfl, ite2 (fun e => absurd e (notS (by decide +kernel))) (fun _ => ?_)⟩
        refine ⟨_, rfl, rfl, _, rfl, ite2 (fun e => absurd e (notS (by decide +kernel))) (fun _ => ?_)⟩
        exact qy hg H (Same.refl H)
      | false =>
        refine iteT ?_
        exact ⟨_, rfl, mkOne rfl fun d H' s2 _ e => qn hg d H' s2 e⟩
    · refine ⟨_, rfl, rfl, _, rfl, ite2 (fun e => absurd e (notS (by decide +kernel))) (fun _ => ?_)⟩
      refine ⟨_, rfl, rfl, _, rfl, ite2 (fun e => absurd e (notS (by decide +kernel))) (fun _ => ?_)⟩
      refine ⟨_, rfl, rfl, _, rfl, ite2 (fun _ => ?_) (fun e => absurd (decide_eq_true rfl) e)⟩
      refine ⟨_, rfl, v, T, rfl, hv, _, rfl, ?_⟩
      have no : gBeg v = false → tMkO C (spOneE C "moment") [] (tCons (tVar 0) tNil) [some v, some (.str "beginning")] H fun cls d H' => E cls d H' := fun e =>
        ⟨_, rfl, mkOne rfl fun d H' s2 _ e2 => qn e d H' s2 e2⟩
      cases hg : gMom v with
      | true =>
        refine iteT ?_
        obtain ⟨i, rfl⟩ : ∃ i, v = .int i := by
          cases v with
          | int i => exact ⟨i, rfl⟩
          | _ => cases hg
        have hi : 0 ≤ i ∧ i ≤ 1000000000000000000000000000000 := of_decide_eq_true hg
        refine ⟨_, rfl, _, _, rfl, rfl, _, rfl, ?_⟩
        by_cases z : 0 < i
        · rw [show decide (i > 0) = true from decide_eq_true z]
          refine iteF ?_
          refine ⟨_, rfl, rfl, _, rfl, ite2 (fun e => absurd e (notS (by decide +kernel))) (fun _ => ?_)⟩
          exact qy (decide_eq_true ⟨by omega, hi.2⟩) H (Same.refl H)
        · rw [show decide (i > 0) = false from decide_eq_false z]
          refine iteT ?_
          exact no (decide_eq_false (by omega))
      | false =>
        refine iteF (iteT (no ?_))
        cases v with
        | int i =>
          have : ¬ (0 ≤ i ∧ i ≤ 1000000000000000000000000000000) := of_decide_eq_false hg
          exact decide_eq_false (by omega)
        | _ => rfl
    · refine ⟨_, rfl, rfl, _, rfl, ite2 (fun e => absurd e (notS (by decide +kernel))) (fun _ => ?_)⟩
      refine ⟨_, rfl, rfl, _, rfl, ite2 (fun e => absurd e (notS (by decide +kernel))) (fun _ => ?_)⟩
      refine ⟨_, rfl, rfl, _, rfl, ite2 (fun e => absurd e (notS (by decide +kernel))) (fun _ => ?_)⟩
      refine ⟨_, rfl, rfl, _, rfl, ite2 (fun _ => ?_) (fun e => absurd (decide_eq_true rfl) e)⟩
      refine ⟨_, rfl, _, _, _, _, _, rfl, .ty "bool", hv.ty, hv.kit "bool" (.inr (.inl rfl)), _, rfl, ?_⟩
      have no : gTru v = false → tMkO C (spOneE C "value") [] (tCons (tVar 0) tNil) [some v, some (.str "truth")] H fun cls d H' => E cls d H' := fun e =>
        ⟨_, rfl, mkOne rfl fun d H' s2 _ e2 => qn e d H' s2 e2⟩
      cases hv with
      | bl b => exact iteF (qy rfl H (Same.refl H))
      | non => exact iteT (no rfl)
      | int i => exact iteT (no rfl)
      | str z h => exact iteT (no rfl)
      | lst e => exact iteT (no rfl)
      | tup e => exact iteT (no rfl)
      | dK e => exact iteT (no rfl)
end
end K15

namespace K15
open PySem PySem.Spec PyProof.Rows L2 So
abbrev sLName : Stmt := topS 49
abbrev sWords : Stmt := topS 48
theorem scLName : FnScope ["_law_pen_here", "_law_letters", "_law_made_here", "_law_k"] ["_law_pen_here"] (defScope sLName) := ⟨rfl, rfl, rfl, by decide +kernel, rfl, by decide +kernel, by decide +kernel⟩
theorem scWords : FnScope ["_law_some"] [] (defScope sWords) := ⟨rfl, rfl, rfl, by decide +kernel, rfl, by decide +kernel, by decide +kernel⟩
theorem cut63 (xs : List V) : cutV xs none (some 63) = xs.take 63 := by
  unfold cutV
  rw [HT.sIx_none, show HT.sIx xs.length xs.length (some 63) = min 63 xs.length from HT.sIx_nat xs.length xs.length 63]
  simp
theorem same_upd0 {H : Hp} {p : Addr} {o : HO} (h : H p = none) : Same H (upd H p o) := Same.over (Same.refl H) h
theorem same3 {H : Hp} {a b c : Addr} {o1 o2 o3 : HO} (ha : H a = none) (hb : upd H a o1 b = none) (hc : upd (upd H a o1) b o2 c = none) : Same H (upd (upd (upd H a o1) b o2) c o3) ∧ H c = none :=
  have s2 := (same_upd0 (o := o1) ha).trans (same_upd0 (o := o2) hb)
  ⟨s2.trans (same_upd0 hc), s2.free hc⟩
section
variable {P : Program} {w : World} {K : PySem.W.Frag} {mg : Str → Option Value} {base : Heap}
def spPen (K : PySem.W.Frag) : Sp := fun vs H Q _ => ∃ (a : Addr) (ns : List Int), vs = [.ref a] ∧ SqL K H a (ns.map V.int) ∧ ∀ (H' : Hp) (p l : Addr) (ns' : List Int), Same H H' → Pen H' p l ns' 0 0 → Q (.ref p) H'
theorem ok_pen {f : Addr} {fd : FuncData} (F : Fun K "_law_pen" "_law_pen" sPen f fd) (ml : mg "list" = none) : FnOk P w K mg base CX0 1 f fd ["_law_script"] (spPen K) := by
  refine F.ok scPen (fun vs H Q E h => ?_) (fun cdv A outer s H vs Q E hr h => ?_)
  · obtain ⟨a, ns, rfl, _⟩ := h
    rfl
  · obtain ⟨a, ns, rfl, hS, q⟩ := h
    refine ⟨_, pss_one (ps_ret (pe_lst (pa_cons (pe_callTy call_list_of (by rfl) ml (by decide +kernel) (pa_cons (pe_slice sl_list (pv 0) po_none (po_some pe_int)) pa_nil)) (pa_cons pe_int (pa_cons pe_int pa_nil))))), ?_⟩
    refine ⟨_, rfl, 63, rfl, a, ns.map V.int, rfl, hS, fun c hc => ?_⟩
    rw [cut63, ← List.map_take]
    refine ⟨c, _, rfl, .inl (SqL.of upd_same), fun l hl => ?_⟩
    refine ⟨by show 3 ≤ sizeLine; decide, fun p hp => ?_⟩
    have s1 : Same H (upd (upd (upd H c (.lst ((ns.take 63).map V.int))) l (.lst ((ns.take 63).map V.int))) p (.lst [.ref l, .int 0, .int 0])) := by
      refine ((same_upd0 hc).trans (same_upd0 hl)).trans (same_upd0 hp)
    have nlp : l ≠ p := fun e => by
      rw [e, upd_same] at hp
      cases hp
    exact q _ p l (ns.take 63) s1 ⟨upd_same, (upd_ne nlp).trans upd_same, Int.le_refl 0⟩
/-- the words that are no names -/
def spWords : Sp := fun vs H Q _ => vs = [] ∧ ∀ (H' : Hp) (a : Addr), Same H H' → H a = none → H' a = some (.lst (noNames.map V.str)) → Q (.ref a) H'
theorem ok_words {f : Addr} {fd : FuncData} (F : Fun K "_law_words" "_law_words" sWords f fd) : FnOk P w K mg base CX0 1 f fd [] spWords := by
  refine F.ok scWords (fun vs H Q E h => ?_) (fun cdv A outer s H vs Q E hr h => ?_)
  · obtain ⟨rfl, _⟩ := h
    rfl
  · obtain ⟨rfl, q⟩ := h
    refine ⟨_, (pss_cons (ps_set (i := 0) scWords.nd rfl (.inl rfl) (pe_lst (pa_cons pe_str (pa_cons pe_str (pa_cons pe_str (pa_cons pe_str (pa_cons pe_str (pa_cons pe_str (pa_cons pe_str (pa_cons pe_str (pa_cons pe_str (pa_cons pe_str pa_nil))))))))))))
      (pss_one (ps_ret (pe_op op_cat (pv 0) (pe_lst (pa_cons pe_str (pa_cons pe_str (pa_cons pe_str (pa_cons pe_str (pa_cons pe_str (pa_cons pe_str (pa_cons pe_str (pa_cons pe_str (pa_cons pe_str (pa_cons pe_str pa_nil))))))))))))))), ?_⟩
    refine ⟨by show 10 ≤ sizeLine; decide, fun a ha => ?_⟩
    refine ⟨_, rfl, by show 10 ≤ sizeLine; decide, fun b hb => ?_⟩
    refine ⟨a, b, _, _, rfl, rfl, (upd_ne (ne_of_none upd_same hb)).trans upd_same, upd_same, by show 20 ≤ sizeLine; decide, fun c hc => ?_⟩
    exact q _ c (same3 ha hb hc).1 (same3 (o3 := .lst []) ha hb hc).2 upd_same
/-- what is being written of a name -/
def Nm (z : Str) (k : Nat) : Prop := 1 ≤ z.length ∧ z.length ≤ k ∧ z.cps.toList.headD 0 ∈ letters.cps.toList ∧ z.cps.toList.all isAln = true
theorem Nm.one {c : Nat} (h : c ∈ letters.cps.toList) : Nm ⟨#[c]⟩ 1 := by
  refine ⟨Nat.le_refl _, Nat.le_refl _, h, ?_⟩
  have : isAln c = true := decide_eq_true (by
    show c ∈ (letters.cps ++ digits.cps).toList
    rw [Array.toList_append]
    exact List.mem_append_left _ h)
  simp [this]
theorem Nm.more {z : Str} {k c : Nat} (h : Nm z k) (hc : c ∈ (letters ++ digits).cps.toList) : Nm (z ++ ⟨#[c]⟩) (k + 1) := by
  obtain ⟨h1, h2, h3, h4⟩ := h
  have e : (z ++ (⟨#[c]⟩ : Str)).cps.toList = z.cps.toList ++ [c] := Array.toList_append
  have el : (z ++ (⟨#[c]⟩ : Str)).length = z.length + 1 := by
    show (z ++ (⟨#[c]⟩ : Str)).cps.size = z.cps.size + 1
    rw [← Array.length_toList, e, List.length_append, Array.length_toList]
    rfl
  refine ⟨by omega, by omega, ?_, ?_⟩
  · rw [e]
    cases q : z.cps.toList with
    | nil =>
      have : z.length = z.cps.toList.length := Array.length_toList.symm
      rw [q] at this
      simp at this
      omega
    | cons a r =>
      rw [q] at h3
      exact h3
  · rw [e, List.all_append, h4]
    simp [isAln, hc]
theorem Nm.name {z : Str} (h : Nm z 8) (hn : noNames.contains z = false) : isName z = true := by
  obtain ⟨h1, h2, h3, h4⟩ := h
  unfold isName
  rw [decide_eq_true h1, decide_eq_true h2, hn, decide_eq_true h3, h4]
  rfl
theorem x_name : ∀ z ∈ noNames, isName (("x" : Str) ++ cutS z (some 1) none) = true := by decide +kernel
theorem x_len : ∀ z ∈ noNames, ("x" : Str).length + (cutS z (some 1) none).length ≤ 100 := by decide +kernel
theorem len_noNames : ∀ z ∈ noNames, z.length ≤ 8 := by decide +kernel
/-- a drawn name -/
def spLName : Sp := fun vs H Q _ => ∃ (p l : Addr) (ns : List Int) (n : Nat) (g : Int), vs = [.ref p] ∧ Pen H p l ns n g ∧ n < 999000 ∧
  ∀ (z : Str) (n' : Nat) (g' : Int) (H' : Hp), isName z = true → n' ≤ n + 9 → Off p H H' → Pen H' p l ns n' g' → Q (.str z) H'
theorem ok_lname {f fP fW : Addr} {fd fdP fdW : FuncData} (F : Fun K "_law_name" "_law_name" sLName f fd) (mr : mg "range" = none) (FP : Fun K "_law_pick" "_law_pick" sPick fP fdP) (bP : Binds K fdP ["_law_pen_here", "_law_some"] []) (gP : mg "_law_pick" = some (.ref fP))
    (GP : FnOk P w K mg base CX0 2 fP fdP ["_law_pen_here", "_law_some"] (spPick K)) (FW : Fun K "_law_words" "_law_words" sWords fW fdW) (bW : Binds K fdW [] []) (gW : mg "_law_words" = some (.ref fW)) (GW : FnOk P w K mg base CX0 1 fW fdW [] spWords) :
    FnOk P w K mg base CX0 3 f fd ["_law_pen_here"] spLName := by
  refine F.ok scLName (fun vs H Q E h => ?_) (fun cdv A outer s H vs Q E hr h => ?_)
  · obtain ⟨p, l, ns, n, g, rfl, _⟩ := h
    rfl
  · obtain ⟨p, l, ns, n, g, rfl, hp, hn, k⟩ := h
    have hr1 : Room 1 _ := hr.mono (by decide)
    refine ⟨_, pss_cons (ps_set (i := 1) scLName.nd rfl (.inl rfl) pe_str)
      (pss_cons (ps_set (i := 2) scLName.nd rfl (.inl rfl) (pe_call GP hr (by rfl) gP FP.kp bP .nil pass0 (pa_cons (pv 0) (pa_cons (pv 1) pa_nil))))
      (pss_cons (ps_for PassesOwn.never rfl (pi_range1 (by rfl) mr (pa_cons (pe_call GP hr (by rfl) gP FP.kp bP .nil pass0 (pa_cons (pv 0) (pa_cons (pe_lst (pa_cons pe_int (pa_cons pe_int (pa_cons pe_int (pa_cons pe_int (pa_cons pe_int pa_nil)))))) pa_nil))) pa_nil)) (pg_name (i := 3) scLName.nd rfl (Or.inl rfl))
        (pss_one (ps_set (i := 2) scLName.nd rfl (.inl rfl) (pe_op op_add_str (pv 2) (pe_call GP hr (by rfl) gP FP.kp bP .nil pass0 (pa_cons (pv 0) (pa_cons (pe_op op_add_str (pv 1) pe_str) pa_nil)))))))
      (pss_one (ps_ret (pe_ifExp (pt_cmpR op_notIn_seq (pv 2) (pe_call0 GW hr1 (by rfl) gW FW.kp bW .nil pass0) (by rfl)) (pv 2) (pe_op op_add_str pe_str (pe_slice sl_str (pv 2) (po_some pe_int) po_none))))))), ?_⟩
    have s26 : (0 : Nat) < letters.length ∧ letters.length ≤ 1000 := by decide +kernel
    have s36 : (0 : Nat) < (letters ++ digits).length ∧ (letters ++ digits).length ≤ 1000 ∧ letters.length + digits.length ≤ sizeLine := by decide +kernel
    refine ⟨_, rfl, _, rfl, p, l, ns, n, g, _, rfl, hp, by omega, .inr ⟨_, rfl, s26.1, s26.2, fun c n1 g1 H1 hc hn1 off1 pen1 => ?_⟩⟩
    refine ⟨_, rfl, (by show 5 ≤ sizeLine; decide), fun q1 hq1 => ?_⟩
    refine ⟨p, l, ns, n1, g1, _, rfl, pen1.new hq1, by omega, .inl ⟨q1, _, rfl, (ne_of_none pen1.pen hq1).symm, upd_same, (by show 0 < 5; decide), (by show 5 ≤ 1000; decide), fun v n2 g2 H2 hv hn2 off2 pen2 => ?_⟩⟩
    obtain ⟨r, hr7, rfl⟩ : ∃ r : Nat, r ≤ 7 ∧ v = .int r := by
      simp only [List.mem_cons, List.not_mem_nil, or_false] at hv
      rcases hv with h | h | h | h | h <;> subst h
      · exact ⟨0, by decide, rfl⟩
      · exact ⟨0, by decide, rfl⟩
      · exact ⟨1, by decide, rfl⟩
      · exact ⟨2, by decide, rfl⟩
      · exact ⟨7, by decide, rfl⟩
    have off12 : Off p H H2 := Off.trans (off1.new hq1) off2
    refine ⟨r, rfl, by omega, by omega, for_range (n := r) (fun i σ' H' => ∃ (z : Str) (x : Option V) (n' : Nat) (g' : Int), σ' = [some (.ref p), some (.str letters), some (.str z), x] ∧ Nm z (i + 1) ∧ n' ≤ n + 2 + i ∧ Off p H H' ∧ Pen H' p l ns n' g') ⟨_, none, n2, g2, rfl, Nm.one hc, by omega, off12, pen2⟩ ?_ ?_⟩
    · rintro i σ' H3 hi ⟨z, x, n3, g3, rfl, hz, hn3, off3, pen3⟩
      refine ⟨_, rfl, _, rfl, _, rfl, _, _, rfl, rfl, s36.2.2, p, l, ns, n3, g3, _, rfl, pen3, by omega, .inr ⟨_, rfl, s36.1, s36.2.1, fun c' n4 g4 H4 hc' hn4 off4 pen4 => ?_⟩⟩
      refine ⟨z, _, rfl, rfl, ?_, ?_⟩
      · have := hz.2.1
        show z.length + 1 ≤ sizeLine
        exact Nat.le_trans (by omega : z.length + 1 ≤ 100) (by decide)
      · exact ⟨_, _, n4, g4, rfl, hz.more hc', by omega, off3.trans off4, pen4⟩
    · rintro σ' H3 ⟨z, x, n3, g3, rfl, hz, hn3, off3, pen3⟩
      have hz8 : Nm z 8 := ⟨hz.1, by have := hz.2.1; omega, hz.2.2⟩
      refine ⟨_, rfl, rfl, fun H4 aW s4 hW hH4 => ?_⟩
      have pen4 : Pen H4 p l ns n3 g3 := ⟨s4 _ _ pen3.pen, s4 _ _ pen3.cells, pen3.left⟩
      have off4 : Off p H H4 := off3.trans fun b o _ e => s4 b o e
      refine ⟨aW, _, rfl, .inl (SqL.of hH4), rfl, flat_strs _, _, rfl, ?_⟩
      rw [show inV (.str z) (noNames.map V.str) = noNames.contains z from inV_strs z noNames]
      cases c3 : noNames.contains z with
      | false =>
        refine iteT ?_
        exact ⟨_, rfl, k z n3 g3 H4 (hz8.name c3) (by omega) off4 pen4⟩
      | true =>
        refine iteF ?_
        have hm : z ∈ noNames := by simpa using c3
        refine ⟨_, rfl, 1, rfl, z, rfl, ?_, _, _, rfl, rfl, ?_, k _ n3 g3 H4 (x_name z hm) (by omega) off4 pen4⟩
        · have := len_noNames z hm
          exact Nat.le_trans (by omega : z.length ≤ 100) (by decide)
        · exact Nat.le_trans (x_len z hm) (by decide)
end
end K15

/-! enumerate(a tuple) as what a for goes through -/
namespace So
open PySem PySem.Spec PyProof.Rows L2
/-- enumerate(v): what pyIter of v makes, in an enumerate's cell -/
theorem enum_new1 {v : Value} {o : Obj} {Hp0 : Heap → Prop} (B : Begins v o Hp0) : Meets (Builtin.«enumerate.__new__» ⟨[.type "enumerate", v], []⟩) (fun _ R s => Hp0 s.heap ∧
    R (.ok (.ret (.ref (s.heap.push o).objs.size))) { s with heap := (s.heap.push o).push { cls := .type "enumerate", data := .fields #[.none, .bool false, .ref s.heap.objs.size, rawInt 0, .none, .none] } }) :=
  .of_wp fun prog w A R s h => by
    obtain ⟨hp, g, d, tk, os⟩ := s
    obtain ⟨h1, h⟩ := h
    have hsub := sub_enumerate
    have q1 : ∀ {A' : Around} {E : Value → Shared → Prop} {Q : Value → Shared → Prop}, Q (.ref hp.objs.size) ⟨hp.push o, g, d, tk, os⟩ → wpAny (model prog w) A' (pyIter v) Q E ⟨hp, g, d, tk, os⟩ :=
      fun q => B.iter prog w _ _ ⟨hp, g, d, tk, os⟩ _ h1 q
    wp_walk using q1
    refine wpAny_stack_any fun st => wpAny_pure ?_
    split
    · rename_i c _ _ _ _ _
      cases (c == Value.type "enumerate") <;> (wp_walk using q1; exact ⟨_, rfl, h⟩)
    · wp_walk using q1
      exact ⟨_, rfl, h⟩
/-- behind the last item -/
theorem enum_endT {prog : Program} {w : World} {A : Around} {E : Value → Shared → Prop} {s : Shared} {e it a : Addr} {i : Int} {j : Nat} {items : Array Value} {old : Value} {Q : Option Value → Shared → Prop} (hh : A.handled = none) (he : IsEnum s.heap e it i old)
    (hit : s.heap.IsTupleIter it a j) (ht : s.heap.IsTuple a items) (hx : items[j]? = none) (hQ : ∀ h', Heap.ExtBut it s.heap h' → Q none { s with heap := h' }) : wpAny (model prog w) A (pyNext (.ref e)) Q E s := by
  have hT : s.TypeIs (.ref e) "enumerate" := ⟨_, he, rfl⟩
  unfold pyNext
  refine wpAny_bind (wpAny_attempt (wpAny_callSpecial?_slot (name := Str.ofString "__next__") hT PySem.F.slot_enumerate_next (wpAny_call_entry PySem.F.slot_enumerate_next hT PySem.F.entry_enumerate_next ?_ (PySem.F.args_enumerate_next_1 _))))
  show wpAny _ _ (field (.ref e) 2 >>= _) _ _ _
  refine wpAny_bind (wpAny_field he rfl (x := .ref it) rfl (wpAny_bind (wpAny_nextOf_tuple_end (A := A.in1) hh hit ht hx fun h' x he' hx' => ?_)))
  obtain ⟨o, ho, hc⟩ := hx'
  exact wpAny_bind (wpAny_isInstance (T := "StopIteration") (b := true) ⟨o, ho, hc⟩ isSubtype_stop (wpAny_pure (hQ _ he')))
/-- the tuple at a, each item in a new pair with its index -/
def IteT (K : PySem.W.Frag) (a : Addr) : It :=
  ⟨fun i H => ∃ (xs : List V) (x : V), SqT K H a xs ∧ xs[i]? = some x, fun i H v H' => ∃ T x, v = .ref T ∧ H T = none ∧ H' = upd H T (.tup [.int (i : Nat), x]) ∧ ∀ xs, SqT K H a xs → xs[i]? = some x, fun i H => ∃ xs : List V, SqT K H a xs ∧ xs.length ≤ i⟩
theorem walk_enumT {K : PySem.W.Frag} {a : Addr} {xs : List V} : Walk (IteT K a) xs.length (fun H => SqT K H a xs) (YPair (fun i => some (.int (i : Nat))) (fun i => xs[i]?)) := by
  refine ⟨fun i _ hi q => ⟨xs, xs[i], q, by simp [hi]⟩, fun _ q => ⟨xs, q, Nat.le_refl _⟩, fun i H v H' _ q y => ?_⟩
  obtain ⟨T, x, h1, h2, h3, h4⟩ := y
  exact ⟨T, .int (i : Nat), x, h1, h2, h3, rfl, h4 xs q⟩
theorem turn_enumT {P : Program} {w : World} {K : PySem.W.Frag} {elts : List Expr} {kk : Nat} {tpos : Pos} (a e it : Addr) :
    Turn P w K (.Tuple elts kk tpos) (IteT K a) [e, it] e (fun i h => (∃ old, IsEnum h e it ((i : Nat) : Int) old) ∧ h.IsTupleIter it a i ∧ e ≠ it ∧ a ≠ it ∧ a ≠ e) where
  mem := by simp
  obj := fun i h st b hb => by
    obtain ⟨⟨old, he⟩, ⟨o, ho, hc, hd⟩, _⟩ := st
    have e' : b = e ∨ b = it := by simpa using hb
    rcases e' with z | z
    · rw [z]
      exact ⟨_, he, fun v q => nomatch q⟩
    · rw [z]
      exact ⟨o, ho, fun v q => by rw [hd] at q; cases q⟩
  keep := fun i h h' st k => by
    obtain ⟨⟨old, he⟩, hi, ne⟩ := st
    exact ⟨⟨old, k e (by simp) _ he⟩, hi.at fun o q => k it (by simp) o q, ne⟩
  item := by
    intro X hP hw hK hc i pins s σ H E I hf st hg
    subst hP hw hK
    obtain ⟨⟨old, he⟩, hit, ne, nai, nae⟩ := st
    obtain ⟨xs, x, hq, hx⟩ := hg
    obtain ⟨its, rv, p, hz⟩ := I.tuple hq
    obtain ⟨u, hu, ru⟩ := rv.get hx
    have hel : e < s.heap.objs.size := Heap.lt_size he
    have hil : it < s.heap.objs.size := by
      obtain ⟨_, q, _⟩ := hit
      exact Heap.lt_size q
    have hT0 : s.heap.IsTuple a its.toArray := p
    have hi : i < its.toArray.size := by
      have := (List.getElem?_eq_some_iff.mp hu).1
      simpa using this
    refine wpAny_pyNext_enum_itemD (Draws.tuple (A := X.A.in1) (show X.A.in1.handled = none from I.ok.hd hc) it a nai its.toArray) he ⟨hit, hT0⟩ hi ne (by simp [ne, Ne.symm nae]) fun x' h' tk hp ho hst hT hsz hk => ?_
    have ex : x' = u := by
      have h1 : its.toArray[i]? = some x' := hp
      have h2 : its.toArray[i]? = some u := by simpa using hu
      exact Option.some.inj (h1.symm.trans h2)
    subst ex
    refine ⟨_, rfl, wpAny_letOwnedTupleGo_enum (s := { s with heap := h', toks := tk + 1 }) ho fun h'' he' sb => ?_⟩
    have hT2 : h''.get? s.heap.objs.size = some { cls := .type "tuple", data := .seq #[.int i tk, x'] } := (sb.2 _ (Nat.ne_of_gt hel)).trans hT
    have new : ObjOk X.prog X.w (upd H s.heap.objs.size (.tup [.int (i : Nat), x])) h'' s.heap.objs.size (.tup [.int (i : Nat), x]) :=
      ⟨by show 2 ≤ sizeLine; decide, [.int i tk, x'], .cons ⟨_, rfl⟩ (.cons ru .nil), ⟨_, hT2, rfl, _, rfl⟩⟩
    have I1 : Inv X pins σ (upd H s.heap.objs.size (.tup [.int (i : Nat), x])) { s with heap := h'', toks := tk + 1 } :=
      I.turnedNew (ch := [e, it]) (fun b ob hb q => (sb.2 b (fun z => hb (by simp [z]))).trans (hk b ob (fun z => hb (by simp [z])) (fun z => hb (by simp [z])) q)) hf (Nat.le_refl _) new
    refine ⟨.ref s.heap.objs.size, _, I1, rfl, ⟨_, x, rfl, I.hok.fresh (Nat.le_refl _), rfl, fun ys hy => by rw [I.tuple_inj hy hq]; exact hx⟩, ⟨⟨x', ?_⟩, hst.1.at fun o q => (sb.2 it (Ne.symm ne)).trans q, ne, nai, nae⟩, fun b hb => ?_⟩
    · have e1 : ((i + 1 : Nat) : Int) = (i : Int) + 1 := by omega
      rw [e1]
      exact he'
    · have hb' : b < s.heap.objs.size := by
        have e' : b = e ∨ b = it := by simpa using hb
        rcases e' with z | z
        · rw [z]
          exact hel
        · rw [z]
          exact hil
      rw [upd_ne (Nat.ne_of_lt hb')]
      exact (hf b hb).1
  done := by
    intro X hP hw hK hc i pins s σ H E I hf st hg
    subst hP hw hK
    obtain ⟨⟨old, he⟩, hit, ne, nai, nae⟩ := st
    obtain ⟨xs, hq, hx⟩ := hg
    obtain ⟨its, rv, p, hz⟩ := I.tuple hq
    obtain ⟨f0, f1, f2, f3, f4, f5⟩ := hf it (by simp)
    have hl := rv.length
    exact enum_endT (I.ok.hd hc) he hit (show s.heap.IsTuple a its.toArray from p) (by simp; omega) fun h' eb => ⟨rfl, I.turned (t' := s.toks) (fun b o hb q => eb b o hb q) f0 f1 f3 f4 f5⟩
  self := fun A i s Q E st h => by
    obtain ⟨⟨_, he⟩, _⟩ := st
    exact wpAny_pyIter_enum he h
def iEnumT (K : PySem.W.Frag) (ta : TA) : TI := fun σ H R => ta σ H fun vs H1 => ∃ a xs, vs = [.ref a] ∧ SqT K H1 a xs ∧ R (IteT K a) H1
theorem pi_enumT {X : Cx} {e : Expr} {ta : TA} {p pos tpos : Pos} {elts : List Expr} {kk : Nat} (hg : Gl X "enumerate") (hm : X.mg "enumerate" = none) (ha : PA X [e] ta) (hs : starEach [e] X.env = [(false, eval e X.env)] := by rfl) :
    PI X (.Tuple elts kk tpos) (.Call (.Name "enumerate" p) [e] [] pos) (iEnumT X.K ta) := by
  refine ⟨fun pins s σ H R I h => ?_⟩
  refine Call_ (ld_blt I hg hm boot_enumerate (PyProof.Rows.callWith_type1 (thn (ha.run pos pins s σ H _ I h) fun us s1 ⟨vs, H1, I1, r1, q1⟩ => ?_) hs rfl))
  obtain ⟨a, xs, rfl, hq, q⟩ := q1
  obtain ⟨u, rfl, ru⟩ := vals1 r1
  obtain rfl : u = Value.ref a := ru
  obtain ⟨its, rv, p', hz⟩ := I1.tuple hq
  have ht : s1.heap.IsTuple a its.toArray := p'
  have al : a < s1.heap.objs.size := by
    obtain ⟨o, ho, _⟩ := ht
    exact Heap.lt_size ho
  have sz : (s1.heap.push { cls := .type "tuple_iterator", data := .fields #[.ref a, .int 0 0] }).objs.size = s1.heap.objs.size + 1 := Heap.size_push ..
  refine callType_new PySem.F.called_enumerate (by decide) (PySem.F.typeCall_enumerate_1 _) (PySem.F.newCall_enumerate_1 _) (fun obj => PySem.F.args_object_init_2 obj _) PySem.F.entry_enumerate_new (enum_new1 (begins_tuple a its.toArray)) ⟨ht, ?_⟩
  show _ ∧ _
  rw [sz]
  have he : IsEnum ((s1.heap.push { cls := .type "tuple_iterator", data := .fields #[.ref a, .int 0 0] }).push { cls := .type "enumerate", data := .fields #[.none, .bool false, .ref s1.heap.objs.size, rawInt 0, .none, .none] }) (s1.heap.objs.size + 1) s1.heap.objs.size 0 .none := by
    have := Heap.get?_push_size (s1.heap.push { cls := .type "tuple_iterator", data := .fields #[.ref a, .int 0 0] }) (o := { cls := .type "enumerate", data := .fields #[.none, .bool false, .ref s1.heap.objs.size, rawInt 0, .none, .none] }) rfl
    rw [sz] at this
    exact this
  refine ⟨⟨_, he, rfl⟩, wpAny_pyIter_enum he ?_⟩
  have I2 : Inv X pins σ H1 { s1 with heap := (s1.heap.push { cls := .type "tuple_iterator", data := .fields #[.ref a, .int 0 0] }).push { cls := .type "enumerate", data := .fields #[.none, .bool false, .ref s1.heap.objs.size, rawInt 0, .none, .none] } } :=
    I1.kept (t' := s1.toks) fun b o x => Heap.get?_push_of_some _ (Heap.get?_push_of_some _ x)
  refine ⟨s1.heap.objs.size + 1, [s1.heap.objs.size + 1, s1.heap.objs.size], _, _, H1, rfl, I2, turn_enumT a (s1.heap.objs.size + 1) s1.heap.objs.size, ⟨⟨.none, he⟩, ⟨_, Heap.get?_push_of_some _ (Heap.get?_push_size _ rfl), rfl, rfl⟩, Nat.succ_ne_self _, Nat.ne_of_lt al, Nat.ne_of_lt (Nat.lt_succ_of_lt al)⟩, fun b hb => ?_, q⟩
  have e' : b = s1.heap.objs.size + 1 ∨ b = s1.heap.objs.size := by simpa using hb
  have hle : s1.heap.objs.size ≤ b := by
    rcases e' with z | z
    · rw [z]
      exact Nat.le_add_right _ _
    · rw [z]
      exact Nat.le_refl _
  exact I1.fpOk hle (I1.hok.fresh hle)
end So

/-! a method whose body is the one row super().m(..) -/
namespace So
open PySem PySem.Spec PyProof.Rows L2
/-- the env of a def that closes over its class's cell -/
abbrev envS (qual : Str) (scope : Scope) (L f : Addr) (cd : Value) (cc : Addr) : Env := PySem.W.ksEnv qual scope L f cd cc
def cxS (CX : CXT) (P : Program) (w : World) (K : PySem.W.Frag) (mg : Str → Option Value) (base : Heap) (N : List Str) (qual : Str) (scope : Scope) (f : Addr) (cd : Value) (cc : Addr) (A : Around) (outer : List Env) (s : Shared) (H : Hp) (E : XK) : Cx where
  prog := P
  w := w
  K := K
  mg := mg
  base := base
  A := A.deeper (envS qual scope s.heap.objs.size f cd cc)
  N := N
  s_0 := s
  H_0 := H
  env := envS qual scope s.heap.objs.size f cd cc
  outer := outer
  stack := envS qual scope s.heap.objs.size f cd cc :: outer
  ex := []
  calm := true
  fn := fun _ => false
  pn := []
  xe := fun e s' => wpAny (model P w) (A.deeper (envS qual scope s.heap.objs.size f cd cc)) (leaving (envS qual scope s.heap.objs.size f cd cc) e) (fun _ s'' => CX outer H s E e s'') (fun e' s'' => CX outer H s E e' s'') s'
/-- the names of such a def: all of them parameters, super and its class beside -/
structure SupScope (ps : List Str) (sc : Scope) : Prop where
  kind : sc.kind = .function
  co : sc.isCoroutine = false
  gen : sc.isGenerator = false
  nd : ps.Nodup
  par : ∀ x ∈ ps, sc.names.lookup x = some .local
  nocell : ∀ y ∈ sc.names, y.2 ≠ .cell
  free : ∀ y, sc.names.lookup y = some .free → y = "__class__"
  sup : sc.names.lookup ("super" : Str) = some .globalImplicit
  cls : sc.names.lookup ("__class__" : Str) = some .free
section
variable {CX : CXT} {P : Program} {w : World} {K : PySem.W.Frag} {mg : Str → Option Value} {base : Heap} {ps : List Str} {qual : Str} {scope : Scope} {f cc D : Addr} {cd : Value} {A : Around} {outer : List Env} {s : Shared} {H : Hp} {E : XK} {us : List Value} {vs : List V} {h₀ : Heap} {tk : Nat}
theorem zip_sub : ∀ (ps : List Str) (us : List Value), ((ps.zip us).map Prod.fst).Sublist ps
  | [], _ => by simp
  | p :: r, [] => by simp
  | p :: r, u :: t => by
    rw [List.zip_cons_cons, List.map_cons]
    exact (zip_sub r t).cons_cons p
theorem bindL_rev {qual : Str} {L f : Addr} {cd : Value} {x : Str} {v : Value} {us : List Value} {i : Nat} (nd : ps.Nodup) (h1 : ps[i]? = some x) (h2 : us[i]? = some v) : (ps.zip us).reverse.lookup x = some v := by
  have hm : (x, v) ∈ ps.zip us := by
    refine List.mem_of_getElem? (i := i) ?_
    rw [List.getElem?_zip_eq_some]
    exact ⟨h1, h2⟩
  have nd2 : ((ps.zip us).reverse.map Prod.fst).Nodup := by
    rw [List.map_reverse]
    have n0 : ((ps.zip us).map Prod.fst).Nodup := nd.sublist (zip_sub ps us)
    show List.Pairwise (· ≠ ·) _
    rw [List.pairwise_reverse]
    exact List.Pairwise.imp (fun h => Ne.symm h) n0
  have hm2 : (x, v) ∈ (ps.zip us).reverse := List.mem_reverse.mpr hm
  revert hm2 nd2
  generalize (ps.zip us).reverse = l
  intro nd2 hm2
  induction l with
  | nil => cases hm2
  | cons p r ih =>
    obtain ⟨y, u⟩ := p
    rw [List.map_cons, List.nodup_cons] at nd2
    rcases List.mem_cons.mp hm2 with e | e
    · cases e
      simp [List.lookup]
    · have ne : x ≠ y := fun z => nd2.1 (by
        rw [← z]
        exact List.mem_map.mpr ⟨_, e, rfl⟩)
      have : (x == y) = false := by simp [ne]
      rw [List.lookup_cons, this]
      exact ih nd2.2 e
theorem inv_sup (S : SupScope ps scope) (hd : A.handled = none) (e0 : Env0 P w K mg base A outer s H) (hl : vs.length = ps.length) (r : Vals vs us) {cl : Value} {cld : Option Addr} {csl : Array (Option Value)} (hcell : K.lookup cc = some ⟨cl, cld, .cell (some (.ref D)), csl⟩)
    (hns : h₀.Ns s.heap.objs.size (fun x => (ps.zip us).reverse.lookup x)) (hk : ∀ b o, s.heap.get? b = some o → h₀.get? b = some o) :
    Inv (cxS CX P w K mg base ps qual scope f cd cc A outer s H E) [] (L2.start ps vs) H { s with heap := h₀, toks := tk } := by
  have KX : K.In base := e0.mod.kin
  have cb := KX _ _ hcell
  have noA : ∀ b : Addr, b ∉ (cxS CX P w K mg base ps qual scope f cd cc A outer s H E).ex := fun b z => absurd (show b ∈ ([] : List Addr) from z) (by simp)
  have lk : ∀ {x : Str} {c : Addr}, List.lookup x [(("__class__" : Str), cc)] = some c → x = "__class__" ∧ c = cc := fun {x c} h => by
    by_cases e : x = "__class__"
    · subst e
      simp [List.lookup] at h
      exact ⟨rfl, h.symm⟩
    · have : (x == ("__class__" : Str)) = false := by simp [e]
      rw [List.lookup_cons, this] at h
      cases h
  refine ⟨⟨e0.mod, S.kind, rfl, rfl, Nat.le_refl _, fun y z c h1 h2 => ?_, fun y hy => ?_, fun y c h _ => (by cases h), fun _ => hd, Around.frames_deeper e0.frames, .inr ⟨rfl, rfl⟩, fun b z => absurd z (noA b), e0.bs, e0.bsz, fun b _ _ => noA b, fun b z => absurd z (noA b), e0.funs, e0.frf⟩,
    rfl, e0.bare, Un.kept hk, ⟨_, hns, fun i y v h1 h2 h3 => ?_⟩, fun y c h => ?_, e0.hok.fresh (Nat.le_refl _), fun y c h => ?_, fun p hp => absurd (show p ∈ ([] : List (Addr × Obj)) from hp) (by simp), e0.hok.kept hk, ?_⟩
  · exact (lk h1).1.trans (lk h2).1.symm
  · have hy : scope.names.lookup y = some .cell ∨ scope.names.lookup y = some .free := hy
    rcases hy with hy | hy
    · exact absurd rfl (S.nocell _ (PySem.mem_of_lookup hy))
    · rw [S.free y hy]
      exact ⟨cc, by show List.lookup _ [_] = _; simp [List.lookup]⟩
  · unfold L2.start at h2
    rw [hl, Nat.sub_self, List.replicate_zero, List.append_nil, List.getElem?_map] at h2
    obtain ⟨v', e1, e2⟩ : ∃ v', vs[i]? = some v' ∧ some v' = some v := by
      cases e : vs[i]? with
      | none => rw [e] at h2; cases h2
      | some a => rw [e] at h2; exact ⟨a, rfl, Option.some.inj h2⟩
    cases e2
    obtain ⟨u, hu, rv⟩ := r.get e1
    exact ⟨u, rv, .inl ⟨S.par y (List.mem_of_getElem? h1), bindL_rev (qual := qual) (L := 0) (f := 0) (cd := cd) S.nd h1 hu⟩⟩
  · obtain ⟨_, rfl⟩ := lk h
    exact ⟨_, ⟨_, hk _ _ (e0.bs _ _ cb).1, rfl⟩⟩
  · obtain ⟨_, rfl⟩ := lk h
    exact (e0.bs _ _ cb).2
  · unfold L2.start
    show _ = ps.length
    rw [List.length_append, List.length_map, List.length_replicate]
    omega
/-- what the written part says of such a def -/
structure SupFn (K : PySem.W.Frag) (P : Program) (name qual : Str) (params : Arguments) (body : List Stmt) (scope : Scope) (D cc f : Addr) (cd : Value) (fd : FuncData) : Prop where
  ex : ∃ (oc : Value) (od : Option Addr) (kV doc pm : Value) (an : Option Addr) (ct : Value) (osl : Array (Option Value)), fd = PySem.W.ksFn name qual params body scope .none kV doc pm an cd ct cc ∧ K.lookup f = some ⟨oc, od, .func fd, osl⟩ ∧ PySem.W.codeIn K cd qual = true
  kp : PySem.W.keepIn K (.ref f) = true
  cell : ∃ (cl : Value) (cld : Option Addr) (csl : Array (Option Value)), K.lookup cc = some ⟨cl, cld, .cell (some (.ref D)), csl⟩
  code : ∃ (cda : Addr) (ccl : Value) (cdd : Option Addr) (vs : Array Value) (ccs : Array (Option Value)) (file : Str) (tf : Tok), cd = .ref cda ∧ K.lookup cda = some ⟨ccl, cdd, .fields vs, ccs⟩ ∧ vs[2]? = some (.str file tf) ∧ ((P.main.file : Str) == file) = true
  top : (P.main.scope.names.lookup ("super" : Str)).isSome = false
  opq : PySem.W.nsIn K PySem.cStatics "thirdparty.any" = some none
  cls : ∃ cdD, PySem.W.clsIn K D = some cdD
theorem ok_super {k : Nat} {name self m : Str} {params : Arguments} {e : Expr} {es : List Expr} {p0 p1 pa pc pe : Pos} {fd fd2 : FuncData} {f2 C : Addr} {ps2 : List Str} {sp2 : Sp} {t : TA} {cd : Value}
    (F : SupFn K P name qual params [.Expr (.Call (.Attribute (.Call (.Name "super" p0) [] [] p1) m pa) (e :: es) [] pc) pe] scope D cc f cd fd) (S : SupScope ps scope) (hps : ps.head? = some self) (hpar : (params.posonlyargs ++ params.args).head?.map (·.arg) = some self)
    (hsup : mg "super" = none) (sub : PySem.W.mroIn K C (.ref D) = some true) (hcl : ∃ cdC, PySem.W.clsIn K C = some cdC) (hm : PySem.W.ks_superIn K C D m = some (some (.ref f2))) (ht : PySem.W.typeIn K (.ref f2) = some (.type "function")) (hfn : PySem.W.fnIn K f2 = true) (hmc : (m == ("__class__" : Str)) = false)
    (F2 : FnOk P w K mg base (L2.CX P w) k f2 fd2 ps2 sp2) (b2 : Binds K fd2 ps2 [])
    (ha : ∀ A outer s H E, PA (cxS (L2.CX P w) P w K mg base ps qual scope f cd cc A outer s H E) (e :: es) t)
    (hst : ∀ env, starEach (e :: es) env = (false, eval e env) :: starEach es env) (hpl : ∀ env, (backTo pc (starEach es env)).any (·.1) = false)
    (hsw : ∀ env, swapsWith (.Call (.Attribute (.Call (.Name "super" p0) [] [] p1) m pa) (e :: es) [] pc) none pe.line env = pure false)
    {pl : Env → Sem Bool} (hev : ∀ env, eval (.Call (.Attribute (.Call (.Name "super" p0) [] [] p1) m pa) (e :: es) [] pc) env = (do
      let ov ← attributeBase (.Call (.Name "super" p0) [] [] p1) m env (eval (.Call (.Name "super" p0) [] [] p1) env)
      standAt pa.atName
      let (f, first) ← holding [ov] (getMethod ov m (pl env))
      callWith pc f first (backTo pc (starEach (e :: es) env)) [])) :
    FnOk P w K mg base (L2.CX P w) (k + 1) f fd ps (fun vs H Q E => vs.length = ps.length ∧ ∃ (x dx : Addr) (fs : List (Str × V)) (rest : List V), vs = .ref x :: rest ∧ H x = some (.ins C dx fs) ∧ t (L2.start ps vs) H fun zs H' => sp2 (.ref x :: zs) H' (fun _ H'' => Q .non H'') E) := by
  refine ⟨fun _ _ _ _ h => h.1, fun A outer s H args us vs Q E hr e0 hb r hsp => ?_⟩
  obtain ⟨hl, x, dx, fs, rest, rfl, hx, hsp⟩ := hsp
  obtain ⟨oc, od, kV, doc, pm, an, ct, osl, rfl, lk, hcd⟩ := F.ex
  obtain ⟨cl, cld, csl, hcell⟩ := F.cell
  obtain ⟨cda, ccl, cdd, fv, ccs, file, tf, rfl, hcode, hvs, hfile⟩ := F.code
  obtain ⟨cdD, hD⟩ := F.cls
  have KX : K.In s.heap := e0.mod.kin.keeps fun b o e => (e0.bs b o e).1
  have lim : s.heap.NoLimit := e0.mod.nolimit.keeps fun b o e => (e0.bs b o e).1
  refine PySem.ks_codeAny_call_defAt (binds := ps.zip us) hr.depth (KX _ _ lk) rfl lim (PySem.W.codeRec_of KX hcd) rfl hb S.nocell (fun y hy => S.par y.1 (List.of_mem_zip (a := y.1) (b := y.2) hy).1) (fun h₀ hns hk => ?_) S.co S.gen S.kind
  have I := inv_sup (CX := L2.CX P w) (P := P) (w := w) (mg := mg) (qual := qual) (f := f) (cd := .ref cda) (A := A) (outer := outer) (E := E) (tk := s.toks + (ps.zip us).length) S hr.hd e0 hl r hcell hns hk
  obtain ⟨ar, har, hself⟩ : ∃ ar, (params.posonlyargs ++ params.args).head? = some ar ∧ ar.arg = self := by
    cases e1 : (params.posonlyargs ++ params.args).head? with
    | none => rw [e1] at hpar; cases hpar
    | some ar => rw [e1] at hpar; exact ⟨ar, rfl, Option.some.inj hpar⟩
  have K0 : K.In h₀ := KX.keeps hk
  obtain ⟨oD, hD1, hD2⟩ : ∃ oD, h₀.get? D = some oD ∧ oD.data = .cls cdD := by
    unfold PySem.W.clsIn at hD
    split at hD
    · rename_i c d cd' sl ho
      cases hD
      exact ⟨_, K0 _ _ ho, rfl⟩
    · cases hD
  refine PySem.ks_wpAt_execs_cons (PySem.ks_wpAt_Expr_any (PySem.ks_wpAt_MethodCall ?_ (hev _)) (hi := by show (scope.kind == .module && _) = false; rw [S.kind]; rfl) (hs := hsw _))
  refine PySem.ks_wpAt_super_base S.sup S.cls hmc rfl (K0 _ _ lk) rfl har rfl (K0 _ _ hcode) rfl hvs hfile F.top ?_
  obtain ⟨mb, hb1, hb2⟩ := I.mod.blt
  refine PySem.W.ks_loadName_global S.kind S.sup (Calls.loadGlobal_builtin (I.mod.glob.keeps I.bk) hsup (hb1.keeps I.bk) ((hb2 "super" (by decide)).trans PyProof.Rows.Boot.«super») ⟨rfl, ?_⟩)
  refine wpAny_loadName_free S.kind S.cls (c := cc) (by rfl) ⟨_, K0 _ _ hcell, rfl⟩ ?_
  obtain ⟨u0, us', rfl, r1, r2⟩ : ∃ u0 us', us = u0 :: us' ∧ RelV (.ref x) u0 ∧ Vals rest us' := by
    cases r with
    | cons r1 r2 => exact ⟨_, _, rfl, r1, r2⟩
  obtain rfl : u0 = .ref x := r1
  have hp0 : ps[0]? = some ar.arg := by
    rw [hself, ← hps]
    cases ps <;> rfl
  refine wpAny_loadName_local S.kind (S.par _ (List.mem_of_getElem? hp0)) hns (bindL_rev (qual := qual) (L := 0) (f := 0) (cd := .none) S.nd hp0 (by rfl)) ?_
  refine PySem.ks_wpAny_isType_cls hD1 hD2 ⟨rfl, ?_⟩
  obtain ⟨mA, J, _⟩ := ins_get I.hok hx
  obtain ⟨odx, J, _⟩ := J.look
  obtain ⟨cdC, hC⟩ := hcl
  refine PySem.ks_wpAny_call_super hD1 hD2 J.at_ J.cls (fun c e => ?_) (PySem.W.looks_mroIn K0 sub) (fun h1 ho1 k1 => ?_)
  · have := J.no
    unfold PySem.W.notCls at this
    rw [e] at this
    exact Bool.noConfusion this
  have I1 := I.kept (t' := s.toks + (ps.zip (Value.ref x :: us')).length) k1
  have K1 : K.In h1 := K0.keeps k1
  have J1 := (ins_get I1.hok hx)
  obtain ⟨of2, hof, hofc⟩ : ∃ of, h1.get? f2 = some of ∧ of.cls = .type "function" := by
    have ht' : (K.lookup f2).map (·.cls) = some (.type "function") := ht
    cases z : K.lookup f2 with
    | none => rw [z] at ht'; cases ht'
    | some of => rw [z] at ht'; exact ⟨of, K1 _ _ z, Option.some.inj ht'⟩
  have hm' : PySem.W.alongIn K m ((cdC.mro.dropWhile (· != .ref D)).drop 1) = some (some (.ref f2)) := by
    unfold PySem.W.ks_superIn at hm
    rw [hC] at hm
    exact hm
  refine PySem.ks_wpAny_getMethod_super ho1 (PySem.W.looks_opaque K1 F.opq) (l₀ := cdC.mro) ?_ rfl K1 hm' hof hofc (PySem.W.ks_ne K0 J hC) hmc ?_
  · exact fun A Q E s k q => wpAny_bind ((PySem.W.looks_clsIn K1 hC) A _ E s k (wpAny_pure q))
  have hf0 : H h1.objs.size = none := I1.hok.fresh (Nat.le_refl _)
  have hfp := I1.fpOk (Nat.le_refl _) hf0
  have hget : (h1.push (PySem.W.methodObj (.ref f2) (.ref x))).get? h1.objs.size = some (PySem.W.methodObj (.ref f2) (.ref x)) := Heap.get?_push_at rfl rfl
  have I2 := I1.kept (h' := h1.push (PySem.W.methodObj (.ref f2) (.ref x))) (t' := s.toks + (ps.zip (Value.ref x :: us')).length + 1) (fun b o e => Heap.get?_push_of_some _ e)
  have I3 : Inv (cxS (L2.CX P w) P w K mg base ps qual scope f (.ref cda) cc A outer s H E) [(h1.objs.size, PySem.W.methodObj (.ref f2) (.ref x))] _ H _ := I2.pins_of fun p hp => by
    rw [List.mem_singleton.mp hp]
    exact ⟨hget, hf0, hfp.2.1, hfp.2.2.1, fun v z => nomatch z⟩
  have hX : Passes (L2.CX P w) (cxS (L2.CX P w) P w K mg base ps qual scope f (.ref cda) cc A outer s H E) E := passes_call (takes_of rfl rfl rfl rfl) (fun _ _ _ _ h => h)
  have hnb : base.get? h1.objs.size = none := by
    cases z : base.get? h1.objs.size with
    | none => rfl
    | some o => exact absurd (Heap.lt_size (k1 _ _ (hk _ _ (e0.bs _ _ z).1))) (Nat.lt_irrefl _)
  refine PySem.W.callWith_M (K := K) (h₀ := base) (L := s.heap.objs.size) (news := [(h1.objs.size, PySem.W.methodObj (.ref f2) (.ref x))]) e0.mod.kin (fun p hp => by rw [List.mem_singleton.mp hp]; exact ⟨hget, hfp.2.1, hnb⟩) (List.mem_singleton.mpr rfl) hfn ?_ (hst _) (hpl _)
  refine thn ((ha A outer s H E).run pc _ _ _ H _ I3 hsp) fun us2 s2 ⟨zs, H2, I4, rz, q2⟩ => ?_
  have hq := (I4.pin _ (List.mem_append_right _ (List.mem_singleton.mpr rfl))).1
  refine ⟨⟨hq, I4.kIn⟩, ?_⟩
  have r3 : Vals (.ref x :: zs) (.ref x :: us2) := .cons rfl rz
  have hl2 : (Value.ref x :: us2).length = ps2.length := by rw [← r3.length]; exact F2.len _ _ _ _ q2
  refine wpAny_call (PySem.W.method_call hq (codeAny_mono (F2.run _ _ s2 H2 ⟨.ref x :: us2, []⟩ (.ref x :: us2) (.ref x :: zs) _ E (hr.deeper _) I4.env0 (by have := b2 s2 (.ref x :: us2) I4.kIn (by rw [List.append_nil]; exact hl2); rw [List.append_nil] at this; exact this) r3 q2) fun r s' hq' => ?_))
  cases r with
  | error e => exact hX _ _ H2 s2 e s' I4 hq'
  | ok fl =>
    cases fl with
    | ret u =>
      obtain ⟨v, H', J', rv, q3⟩ := I4.after hq'
      exact wpAt_of_wpAny (wpAny_pure ⟨.non, H', J'.os, J'.bare, J'.base, J'.hok, rfl, q3⟩)
    | next => exact False.elim hq'
    | brk => exact False.elim hq'
    | cont => exact False.elim hq'
end
end So

namespace K15
open PySem PySem.Spec PyProof.Rows L2 So
abbrev sChecked : Stmt := topS 27
abbrev checkedN : List Str := ["kind", "told", "value", "form"]
theorem scChecked : FnScope checkedN ["kind", "told"] (defScope sChecked) := ⟨rfl, rfl, rfl, by decide +kernel, rfl, by decide +kernel, by decide +kernel⟩
/-- zip of two tuples, walked -/
theorem walk_zipT {K : PySem.W.Frag} {a b : Addr} {xs ys : List V} {n : Nat} (hn : n = min xs.length ys.length) : Walk (RZ.ItzT K a b) n (fun H => SqT K H a xs ∧ SqT K H b ys) (YPair (fun i => xs[i]?) (fun i => ys[i]?)) := by
  subst hn
  refine ⟨fun i _ hi q => ?_, fun _ q => ⟨xs, ys, q.1, q.2, by omega⟩, fun i H v H' _ q y => ?_⟩
  · have h1 : i < xs.length := by omega
    have h2 : i < ys.length := by omega
    exact ⟨xs, ys, xs[i], ys[i], q.1, q.2, by simp [h1], by simp [h2]⟩
  · obtain ⟨T, x, z, h1, h2, h3, h4, h5⟩ := y
    exact ⟨T, x, z, h1, h2, h3, h4 xs q.1, h5 ys q.2⟩
/-- the forms of a kind's arguments -/
def formsOf (kind : Str) : List Str :=
  if kind = "begun" then ["name", "beginning"] else if kind = "setby" then ["name", "beginning", "name"] else if kind = "found" then ["name", "moment", "truth"] else if kind = "trusted" then ["name"]
  else if kind = "passed" ∨ kind = "failed" then ["name", "moment", "name"] else ["name", "moment", "name", "moment"]
def kinds : List Str := ["begun", "setby", "found", "trusted", "passed", "failed", "agreed", "differed", "served", "backed"]
def okF (form : Str) (v : V) : Bool := if form = "name" then gNam v else if form = "moment" then gMom v else if form = "beginning" then gBeg v else gTru v
/-- the first value that has not its form: the error's class, the field, the value -/
def badL (CN CM CS : Addr) : List (V × Str) → Option (Addr × Str × V)
  | [] => none
  | (v, f) :: r => if okF f v = true then badL CN CM CS r else some (if f = "name" then (CN, "name", v) else if f = "truth" then (CS, "value", v) else (CM, "moment", v))
theorem badL_at {CN CM CS : Addr} {v : V} {f : Str} : ∀ {l : List (V × Str)} {i : Nat}, badL CN CM CS (l.take i) = none → l[i]? = some (v, f) → (okF f v = true → badL CN CM CS (l.take (i + 1)) = none) ∧ (okF f v = false → badL CN CM CS l = some (if f = "name" then (CN, ("name" : Str), v) else if f = "truth" then (CS, ("value" : Str), v) else (CM, ("moment" : Str), v)))
  | [], _, _, e => by simp at e
  | p :: r, 0, _, e => by
    have e : p = (v, f) := by simpa using e
    subst e
    refine ⟨fun h => ?_, fun h => ?_⟩
    · show badL CN CM CS [(v, f)] = none
      unfold badL
      rw [if_pos h]
      rfl
    · unfold badL
      rw [if_neg (by rw [h]; exact Bool.false_ne_true)]
  | (v', f') :: r, i + 1, h, e => by
    have h : badL CN CM CS ((v', f') :: r.take i) = none := h
    unfold badL at h
    split at h
    · rename_i c
      obtain ⟨a, b⟩ := badL_at (l := r) (i := i) h (by simpa using e)
      refine ⟨fun z => ?_, fun z => ?_⟩
      · show badL CN CM CS ((v', f') :: r.take (i + 1)) = none
        unfold badL
        rw [if_pos c]
        exact a z
      · unfold badL
        rw [if_pos c]
        exact b z
    · cases h
theorem forms_in : ∀ kind ∈ kinds, ∀ f ∈ formsOf kind, f ∈ (["name", "moment", "beginning", "truth"] : List Str) := by decide +kernel
theorem form_of {CN CM CS : Addr} {f : Str} {v : V} (h : f ∈ (["name", "moment", "beginning", "truth"] : List Str)) : ∃ C fl, Form CN CM CS f v (okF f v) C fl ∧ (if f = "name" then (CN, ("name" : Str), v) else if f = "truth" then (CS, "value", v) else (CM, "moment", v)) = (C, fl, v) := by
  simp only [List.mem_cons, List.not_mem_nil, or_false] at h
  rcases h with h | h | h | h <;> subst h
  · exact ⟨CN, "name", .inl ⟨rfl, rfl, rfl, rfl⟩, rfl⟩
  · exact ⟨CM, "moment", .inr (.inl ⟨rfl, rfl, rfl, rfl⟩), rfl⟩
  · exact ⟨CM, "moment", .inr (.inr (.inl ⟨rfl, rfl, rfl, rfl⟩)), rfl⟩
  · exact ⟨CS, "value", .inr (.inr (.inr ⟨rfl, rfl, rfl, rfl⟩)), rfl⟩
section
variable {P : Program} {w : World} {K : PySem.W.Frag} {mg : Str → Option Value} {base : Heap}
/-- what the top says of the table of forms, at aF -/
structure Forms (K : PySem.W.Frag) (w : World) (mg : Str → Option Value) (aF : Addr) : Prop where
  mgF : mg "FORMS" = some (.ref aF)
  tab : ∀ kind ∈ kinds, ∃ ft, KDct K w aF kind (.ref ft) ∧ ∀ H, SqT K H ft ((formsOf kind).map V.str)
  zip : mg "zip" = none
/-- both ways out of what looks at these values -/
def WaysL (CN CM CS : Addr) (l : List (V × Str)) (H : Hp) (E : XK) (q : Prop) : Prop :=
  (badL CN CM CS l = none → q) ∧ ∀ C fl v, badL CN CM CS l = some (C, fl, v) → ∀ d H', Same H H' → H' d = some (.xd [(fl, v)]) → E (.ref C) (some d) H'
def spChecked (CN CM CS : Addr) : Sp := fun vs H Q E => ∃ (kind : Str) (tt : Addr) (xs : List V), vs = [.str kind, .ref tt] ∧ kind ∈ kinds ∧ H tt = some (.tup xs) ∧ xs.length = (formsOf kind).length ∧ (∀ x ∈ xs, ∃ T, Gv H x T) ∧
  WaysL CN CM CS (xs.zip (formsOf kind)) H E (∀ H', Same H H' → Q (.ref tt) H')
theorem ok_checked {CN CM CS f fC aF : Addr} {fd fdC : FuncData} (F : Fun K "checked" "checked" sChecked f fd) (T : Forms K w mg aF) (FC : Fun K "check_form" "check_form" sCheck fC fdC) (bC : Binds K fdC ["value", "form"] []) (gC : mg "check_form" = some (.ref fC))
    (GC : FnOk P w K mg base (L2.CX P w) 3 fC fdC ["value", "form"] (spCheck CN CM CS)) : FnOk P w K mg base (L2.CX P w) 4 f fd ["kind", "told"] (spChecked CN CM CS) := by
  refine F.okX scChecked (fun vs H Q E h => ?_) (fun cdv A outer s H vs Q E hr h => ?_)
  · obtain ⟨_, _, _, rfl, _⟩ := h
    rfl
  · obtain ⟨kind, tt, xs, rfl, hk, ht, hl, hg, qy, qn⟩ := h
    obtain ⟨ft, hd, hft⟩ := T.tab kind hk
    have hfo := forms_in kind hk
    refine ⟨_, pss_cons (ps_for PassesOwn.leaving rfl (RZ.pi_zipA (by rfl) T.zip (pa_cons (pv 1) (pa_cons (pe_ix ix_kdict (pe_glob (v := .ref aF) rfl T.mgF rfl) (pv 0) (fun _ _ => rfl)) pa_nil))) (pg_tup rfl (pgs_cons (pg_name (i := 2) scChecked.nd rfl (Or.inl rfl)) (pgs_cons (pg_name (i := 3) scChecked.nd rfl (Or.inl rfl)) pgs_nil)))
        (pss_one (ps_expr (pe_call GC hr (by rfl) gC FC.kp bC .nil (passes_call (takes_of rfl rfl rfl rfl) (fun _ _ _ _ h => h)) (pa_cons (pv 2) (pa_cons (pv 3) pa_nil))))))
      (pss_one (ps_ret (pv 1))), ?_⟩
    generalize formsOf kind = fo at hl hft hfo qy qn
    refine ⟨_, rfl, _, rfl, aF, kind, .ref ft, rfl, rfl, hd, tt, ft, xs, fo.map V.str, rfl, .inr ⟨SqT.of ht, hft _, ?_⟩⟩
    refine for_it (walk_zipT rfl) (fun i σ H' => (∃ x2 x3, σ = [some (.str kind), some (.ref tt), x2, x3]) ∧ Same H H' ∧ badL CN CM CS ((xs.zip fo).take i) = none) ⟨⟨none, none, rfl⟩, Same.refl _, rfl⟩ (fun _ _ _ _ y => ⟨SqT.of (y.2.1 _ _ ht), hft _⟩) ?_ ?_
    · rintro i x σ H2 H3 hi ⟨⟨x2, x3, rfl⟩, s2, hb⟩ ⟨T0, u, y, rfl, hT0, rfl, hu, hy⟩
      have s3 := s2.trans (same_upd0 (o := .tup [u, y]) hT0)
      replace hy : (fo.map V.str)[i]? = some y := hy
      rw [List.getElem?_map] at hy
      obtain ⟨fm, hfm, rfl⟩ : ∃ fm, fo[i]? = some fm ∧ y = .str fm := by
        cases e : fo[i]? with
        | none => rw [e] at hy; cases hy
        | some m => rw [e] at hy; exact ⟨m, rfl, (Option.some.inj hy).symm⟩
      replace hu : xs[i]? = some u := hu
      obtain ⟨Tu, hgu⟩ := hg u (List.mem_of_getElem? hu)
      have hz : (xs.zip fo)[i]? = some (u, fm) := by
        rw [List.getElem?_zip_eq_some]
        exact ⟨hu, hfm⟩
      obtain ⟨C, fl, hF, he⟩ := form_of (CN := CN) (CM := CM) (CS := CS) (v := u) (hfo fm (List.mem_of_getElem? hfm))
      obtain ⟨b1, b2⟩ := badL_at hb hz
      refine ⟨T0, _, rfl, SqT.of upd_same, rfl, _, _, rfl, _, _, rfl, rfl, ?_⟩
      refine ⟨_, rfl, _, rfl, u, Tu, fm, _, C, fl, rfl, hgu.same s3, hF, fun g H4 s4 => ⟨⟨_, _, rfl⟩, s3.trans s4, b1 g⟩, fun g d H4 s4 e => ?_⟩
      exact qn C fl u (by rw [b2 g, he]) d H4 (s3.trans s4) e
    · rintro σ H2 ⟨⟨x2, x3, rfl⟩, s2, hb⟩
      refine ⟨_, rfl, qy ?_ H2 s2⟩
      rw [List.take_of_length_le (by rw [List.length_zip, List.length_map]; exact Nat.le_refl _)] at hb
      exact hb
end
end K15

namespace K15
open PySem PySem.Spec PyProof.Rows L2 So
theorem lenC {n : Str} {v : V} {fs : List (Str × V)} {k : Nat} (h : fs.length ≤ k) : (putF n v fs).length ≤ k + 1 := Nat.le_trans (length_putF _ _ _) (Nat.succ_le_succ h)
section
variable {P : Program} {w : World} {K : PySem.W.Frag} {mg : Str → Option Value} {base : Heap}
/-- what the top says of a row's class -/
structure RowC (K : PySem.W.Frag) (C : Addr) (l : List Str) : Prop where
  cl : Cls K C
  no : ∀ n ∈ l, NoAttr K C n
/-- the names of a row's arguments -/
def attrsOf (kind : Str) : List Str := if kind = "begun" then ["tool", "moment"] else if kind = "found" then ["tool", "moment", "is_sound"] else if kind = "trusted" then ["tool"] else if kind = "setby" ∨ kind = "passed" ∨ kind = "failed" then ["tool", "moment", "by"] else ["one", "moment", "other", "later"]
/-- the methods of rows are no fields -/
abbrev methR : List Str := ["renamed", "pairs", "_excluded", "_told_as", "tools", "moments", "begins", "read"]
def NoM (fs : List (Str × V)) : Prop := ∀ m ∈ methR, fs.lookup m = none
theorem NoM.nil : NoM [] := fun _ _ => rfl
theorem NoM.put {fs : List (Str × V)} {n : Str} {v : V} (h : NoM fs) (hn : n ∉ methR) : NoM (putF n v fs) := fun m hm => by
  rw [lookup_putF, if_neg (fun z : m = n => hn (by rw [← z]; exact hm))]
  exact h m hm
/-- what a row keeps -/
def Told (kind : Str) (xs : List V) (H : Hp) (fs : List (Str × V)) : Prop := fs.lookup ("kind" : Str) = some (V.str kind) ∧ (∃ tp, fs.lookup ("_told" : Str) = some (.ref tp) ∧ H tp = some (.tup xs)) ∧ (∀ q ∈ (attrsOf kind).zip xs, fs.lookup q.1 = some q.2) ∧ NoM fs
theorem attrs_begun : attrsOf "begun" = (["tool", "moment"] : List Str) := by decide +kernel
theorem attrs_setby : attrsOf "setby" = (["tool", "moment", "by"] : List Str) := by decide +kernel
theorem attrs_found : attrsOf "found" = (["tool", "moment", "is_sound"] : List Str) := by decide +kernel
theorem attrs_trusted : attrsOf "trusted" = (["tool"] : List Str) := by decide +kernel
theorem attrs_passed : attrsOf "passed" = (["tool", "moment", "by"] : List Str) := by decide +kernel
theorem attrs_failed : attrsOf "failed" = (["tool", "moment", "by"] : List Str) := by decide +kernel
theorem attrs_meet : ∀ kind ∈ (["agreed", "differed", "served", "backed"] : List Str), attrsOf kind = (["one", "moment", "other", "later"] : List Str) := by decide +kernel
def spRow (CN CM CS C : Addr) (kind : Str) : Sp := fun vs H Q E => ∃ (x dx : Addr) (xs : List V), vs = .ref x :: xs ∧ H x = some (.ins C dx []) ∧ xs.length = (formsOf kind).length ∧ (∀ y ∈ xs, ∃ T, Gv H y T) ∧
  WaysL CN CM CS (xs.zip (formsOf kind)) H E (∀ H' fs, Off x H H' → H' x = some (.ins C dx fs) → Told kind xs H' fs → Q .non H')
abbrev sBegun : Stmt := inClass (topS 32) 0
theorem scBegun : FnScope ["self", "tool", "moment"] ["self", "tool", "moment"] (defScope sBegun) := ⟨rfl, rfl, rfl, by decide +kernel, rfl, by decide +kernel, by decide +kernel⟩
theorem ok_Begun {CN CM CS C f fK : Addr} {fd fdK : FuncData} (F : Fun K "__init__" "Begun.__init__" sBegun f fd) (T : RowC K C ["_told", "kind", "tool", "moment"]) (FK : Fun K "checked" "checked" sChecked fK fdK) (bK : Binds K fdK ["kind", "told"] []) (gK : mg "checked" = some (.ref fK))
    (GK : FnOk P w K mg base (L2.CX P w) 4 fK fdK ["kind", "told"] (spChecked CN CM CS)) : FnOk P w K mg base (L2.CX P w) 5 f fd ["self", "tool", "moment"] (spRow CN CM CS C "begun") := by
  refine F.okX scBegun (fun vs H Q E h => ?_) (fun cdv A outer s H vs Q E hr h => ?_)
  · obtain ⟨x, dx, xs, rfl, _, hl, _⟩ := h
    show xs.length + 1 = 3
    have : (formsOf "begun").length = 2 := by decide +kernel
    omega
  · obtain ⟨x, dx, xs, rfl, hx, hl, hg, qy, qn⟩ := h
    have hkin : ("begun" : Str) ∈ kinds := by decide +kernel
    have hl4 : (formsOf "begun").length = 2 := by decide +kernel
    obtain ⟨v0, v1, rfl⟩ : ∃ v0 v1, xs = [v0, v1] := by
      rw [hl4] at hl
      match xs, hl with
      | [v0, v1], _ => exact ⟨_, _, rfl⟩
    have no := T.no
    simp only [List.forall_mem_cons] at no
    obtain ⟨n0, n1, n2, n3, _⟩ := no
    refine ⟨_, pss_cons (ps_fld (pv 0) (pe_call GK hr (by rfl) gK FK.kp bK .nil (passes_call (takes_of rfl rfl rfl rfl) (fun _ _ _ _ h => h)) (pa_cons pe_str (pa_cons (pe_tup (pa_cons (pv 1) (pa_cons (pv 2) pa_nil))) pa_nil))) rfl)
      (pss_cons (ps_fld (pv 0) pe_str rfl)
      (pss_cons (ps_fld (pv 0) (pv 1) rfl) (pss_one (ps_fld (pv 0) (pv 2) rfl)))), ?_⟩
    refine ⟨_, rfl, _, rfl, by show 2 ≤ sizeLine; decide, fun tp htp => ?_⟩
    have s1 := same_upd0 (o := .tup [v0, v1]) htp
    refine ⟨"begun", tp, [v0, v1], rfl, hkin, upd_same, hl, (fun y hy => (hg y hy).elim fun T h => ⟨T, h.same s1⟩), fun gd H2 s2 => ?_, fun C' fl v g d H' s e => qn C' fl v g d H' (s1.trans s) e⟩
    have hx2 := s2 _ _ (s1 _ _ hx)
    have s12 := s1.trans s2
    refine ⟨_, rfl, x, C, dx, [], rfl, hx2, T.cl, n0, by show 0 < 1000; decide, ?_⟩
    refine ⟨_, rfl, x, C, dx, _, rfl, upd_same, T.cl, n1, Nat.lt_of_le_of_lt (lenC (Nat.le_refl 0)) (by decide), ?_⟩
    refine ⟨_, rfl, _, rfl, x, C, dx, _, rfl, upd_same, T.cl, n2, Nat.lt_of_le_of_lt (lenC (lenC (Nat.le_refl 0))) (by decide), ?_⟩
    refine ⟨_, rfl, _, rfl, x, C, dx, _, rfl, upd_same, T.cl, n3, Nat.lt_of_le_of_lt (lenC (lenC (lenC (Nat.le_refl 0)))) (by decide), ?_⟩
    refine qy gd _ _ (fun c o nc e => ?_) upd_same ?_
    · rw [upd_ne nc, upd_ne nc, upd_ne nc, upd_ne nc]
      exact s12 c o e
    · have ntp : tp ≠ x := fun z => by rw [z, hx] at htp; cases htp
      have etp := s2 _ _ (show (upd H tp (.tup _)) tp = _ from upd_same)
      refine ⟨?_, ⟨tp, ?_, ?_⟩, ?_, (by repeat (first | exact NoM.nil | refine NoM.put ?_ (by decide +kernel)))⟩
      · simp only [lookup_putF, show ¬ (("kind" : Str) = "_told") by decide +kernel, show ¬ (("kind" : Str) = "tool") by decide +kernel, show ¬ (("kind" : Str) = "moment") by decide +kernel, show ¬ (("kind" : Str) = "by") by decide +kernel, show ¬ (("kind" : Str) = "is_sound") by decide +kernel, show ¬ (("kind" : Str) = "one") by decide +kernel, show ¬ (("kind" : Str) = "other") by decide +kernel, show ¬ (("kind" : Str) = "later") by decide +kernel, show ¬ (("_told" : Str) = "kind") by decide +kernel, show ¬ (("_told" : Str) = "tool") by decide +kernel, show ¬ (("_told" : Str) = "moment") by decide +kernel, show ¬ (("_told" : Str) = "by") by decide +kernel, show ¬ (("_told" : Str) = "is_sound") by decide +kernel, show ¬ (("_told" : Str) = "one") by decide +kernel, show ¬ (("_told" : Str) = "other") by decide +kernel, show ¬ (("_told" : Str) = "later") by decide +kernel, show ¬ (("tool" : Str) = "kind") by decide +kernel, show ¬ (("tool" : Str) = "_told") by decide +kernel, show ¬ (("tool" : Str) = "moment") by decide +kernel, show ¬ (("tool" : Str) = "by") by decide +kernel, show ¬ (("tool" : Str) = "is_sound") by decide +kernel, show ¬ (("tool" : Str) = "one") by decide +kernel, show ¬ (("tool" : Str) = "other") by decide +kernel, show ¬ (("tool" : Str) = "later") by decide +kernel, show ¬ (("moment" : Str) = "kind") by decide +kernel, show ¬ (("moment" : Str) = "_told") by decide +kernel, show ¬ (("moment" : Str) = "tool") by decide +kernel, show ¬ (("moment" : Str) = "by") by decide +kernel, show ¬ (("moment" : Str) = "is_sound") by decide +kernel, show ¬ (("moment" : Str) = "one") by decide +kernel, show ¬ (("moment" : Str) = "other") by decide +kernel, show ¬ (("moment" : Str) = "later") by decide +kernel, show ¬ (("by" : Str) = "kind") by decide +kernel, show ¬ (("by" : Str) = "_told") by decide +kernel, show ¬ (("by" : Str) = "tool") by decide +kernel, show ¬ (("by" : Str) = "moment") by decide +kernel, show ¬ (("by" : Str) = "is_sound") by decide +kernel, show ¬ (("by" : Str) = "one") by decide +kernel, show ¬ (("by" : Str) = "other") by decide +kernel, show ¬ (("by" : Str) = "later") by decide +kernel, show ¬ (("is_sound" : Str) = "kind") by decide +kernel, show ¬ (("is_sound" : Str) = "_told") by decide +kernel, show ¬ (("is_sound" : Str) = "tool") by decide +kernel, show ¬ (("is_sound" : Str) = "moment") by decide +kernel, show ¬ (("is_sound" : Str) = "by") by decide +kernel, show ¬ (("is_sound" : Str) = "one") by decide +kernel, show ¬ (("is_sound" : Str) = "other") by decide +kernel, show ¬ (("is_sound" : Str) = "later") by decide +kernel, show ¬ (("one" : Str) = "kind") by decide +kernel, show ¬ (("one" : Str) = "_told") by decide +kernel, show ¬ (("one" : Str) = "tool") by decide +kernel, show ¬ (("one" : Str) = "moment") by decide +kernel, show ¬ (("one" : Str) = "by") by decide +kernel, show ¬ (("one" : Str) = "is_sound") by decide +kernel, show ¬ (("one" : Str) = "other") by decide +kernel, show ¬ (("one" : Str) = "later") by decide +kernel, show ¬ (("other" : Str) = "kind") by decide +kernel, show ¬ (("other" : Str) = "_told") by decide +kernel, show ¬ (("other" : Str) = "tool") by decide +kernel, show ¬ (("other" : Str) = "moment") by decide +kernel, show ¬ (("other" : Str) = "by") by decide +kernel, show ¬ (("other" : Str) = "is_sound") by decide +kernel, show ¬ (("other" : Str) = "one") by decide +kernel, show ¬ (("other" : Str) = "later") by decide +kernel, show ¬ (("later" : Str) = "kind") by decide +kernel, show ¬ (("later" : Str) = "_told") by decide +kernel, show ¬ (("later" : Str) = "tool") by decide +kernel, show ¬ (("later" : Str) = "moment") by decide +kernel, show ¬ (("later" : Str) = "by") by decide +kernel, show ¬ (("later" : Str) = "is_sound") by decide +kernel, show ¬ (("later" : Str) = "one") by decide +kernel, show ¬ (("later" : Str) = "other") by decide +kernel, if_true, if_false]
      · simp only [lookup_putF, show ¬ (("kind" : Str) = "_told") by decide +kernel, show ¬ (("kind" : Str) = "tool") by decide +kernel, show ¬ (("kind" : Str) = "moment") by decide +kernel, show ¬ (("kind" : Str) = "by") by decide +kernel, show ¬ (("kind" : Str) = "is_sound") by decide +kernel, show ¬ (("kind" : Str) = "one") by decide +kernel, show ¬ (("kind" : Str) = "other") by decide +kernel, show ¬ (("kind" : Str) = "later") by decide +kernel, show ¬ (("_told" : Str) = "kind") by decide +kernel, show ¬ (("_told" : Str) = "tool") by decide +kernel, show ¬ (("_told" : Str) = "moment") by decide +kernel, show ¬ (("_told" : Str) = "by") by decide +kernel, show ¬ (("_told" : Str) = "is_sound") by decide +kernel, show ¬ (("_told" : Str) = "one") by decide +kernel, show ¬ (("_told" : Str) = "other") by decide +kernel, show ¬ (("_told" : Str) = "later") by decide +kernel, show ¬ (("tool" : Str) = "kind") by decide +kernel, show ¬ (("tool" : Str) = "_told") by decide +kernel, show ¬ (("tool" : Str) = "moment") by decide +kernel, show ¬ (("tool" : Str) = "by") by decide +kernel, show ¬ (("tool" : Str) = "is_sound") by decide +kernel, show ¬ (("tool" : Str) = "one") by decide +kernel, show ¬ (("tool" : Str) = "other") by decide +kernel, show ¬ (("tool" : Str) = "later") by decide +kernel, show ¬ (("moment" : Str) = "kind") by decide +kernel, show ¬ (("moment" : Str) = "_told") by decide +kernel, show ¬ (("moment" : Str) = "tool") by decide +kernel, show ¬ (("moment" : Str) = "by") by decide +kernel, show ¬ (("moment" : Str) = "is_sound") by decide +kernel, show ¬ (("moment" : Str) = "one") by decide +kernel, show ¬ (("moment" : Str) = "other") by decide +kernel, show ¬ (("moment" : Str) = "later") by decide +kernel, show ¬ (("by" : Str) = "kind") by decide +kernel, show ¬ (("by" : Str) = "_told") by decide +kernel, show ¬ (("by" : Str) = "tool") by decide +kernel, show ¬ (("by" : Str) = "moment") by decide +kernel, show ¬ (("by" : Str) = "is_sound") by decide +kernel, show ¬ (("by" : Str) = "one") by decide +kernel, show ¬ (("by" : Str) = "other") by decide +kernel, show ¬ (("by" : Str) = "later") by decide +kernel, show ¬ (("is_sound" : Str) = "kind") by decide +kernel, show ¬ (("is_sound" : Str) = "_told") by decide +kernel, show ¬ (("is_sound" : Str) = "tool") by decide +kernel, show ¬ (("is_sound" : Str) = "moment") by decide +kernel, show ¬ (("is_sound" : Str) = "by") by decide +kernel, show ¬ (("is_sound" : Str) = "one") by decide +kernel, show ¬ (("is_sound" : Str) = "other") by decide +kernel, show ¬ (("is_sound" : Str) = "later") by decide +kernel, show ¬ (("one" : Str) = "kind") by decide +kernel, show ¬ (("one" : Str) = "_told") by decide +kernel, show ¬ (("one" : Str) = "tool") by decide +kernel, show ¬ (("one" : Str) = "moment") by decide +kernel, show ¬ (("one" : Str) = "by") by decide +kernel, show ¬ (("one" : Str) = "is_sound") by decide +kernel, show ¬ (("one" : Str) = "other") by decide +kernel, show ¬ (("one" : Str) = "later") by decide +kernel, show ¬ (("other" : Str) = "kind") by decide +kernel, show ¬ (("other" : Str) = "_told") by decide +kernel, show ¬ (("other" : Str) = "tool") by decide +kernel, show ¬ (("other" : Str) = "moment") by decide +kernel, show ¬ (("other" : Str) = "by") by decide +kernel, show ¬ (("other" : Str) = "is_sound") by decide +kernel, show ¬ (("other" : Str) = "one") by decide +kernel, show ¬ (("other" : Str) = "later") by decide +kernel, show ¬ (("later" : Str) = "kind") by decide +kernel, show ¬ (("later" : Str) = "_told") by decide +kernel, show ¬ (("later" : Str) = "tool") by decide +kernel, show ¬ (("later" : Str) = "moment") by decide +kernel, show ¬ (("later" : Str) = "by") by decide +kernel, show ¬ (("later" : Str) = "is_sound") by decide +kernel, show ¬ (("later" : Str) = "one") by decide +kernel, show ¬ (("later" : Str) = "other") by decide +kernel, if_true, if_false]
      · repeat rw [upd_ne ntp]
        exact etp
      · rw [attrs_begun]
        simp only [List.zip_cons_cons, List.zip_nil_right, List.forall_mem_cons]
        refine ⟨(by simp only [lookup_putF, show ¬ (("kind" : Str) = "_told") by decide +kernel, show ¬ (("kind" : Str) = "tool") by decide +kernel, show ¬ (("kind" : Str) = "moment") by decide +kernel, show ¬ (("kind" : Str) = "by") by decide +kernel, show ¬ (("kind" : Str) = "is_sound") by decide +kernel, show ¬ (("kind" : Str) = "one") by decide +kernel, show ¬ (("kind" : Str) = "other") by decide +kernel, show ¬ (("kind" : Str) = "later") by decide +kernel, show ¬ (("_told" : Str) = "kind") by decide +kernel, show ¬ (("_told" : Str) = "tool") by decide +kernel, show ¬ (("_told" : Str) = "moment") by decide +kernel, show ¬ (("_told" : Str) = "by") by decide +kernel, show ¬ (("_told" : Str) = "is_sound") by decide +kernel, show ¬ (("_told" : Str) = "one") by decide +kernel, show ¬ (("_told" : Str) = "other") by decide +kernel, show ¬ (("_told" : Str) = "later") by decide +kernel, show ¬ (("tool" : Str) = "kind") by decide +kernel, show ¬ (("tool" : Str) = "_told") by decide +kernel, show ¬ (("tool" : Str) = "moment") by decide +kernel, show ¬ (("tool" : Str) = "by") by decide +kernel, show ¬ (("tool" : Str) = "is_sound") by decide +kernel, show ¬ (("tool" : Str) = "one") by decide +kernel, show ¬ (("tool" : Str) = "other") by decide +kernel, show ¬ (("tool" : Str) = "later") by decide +kernel, show ¬ (("moment" : Str) = "kind") by decide +kernel, show ¬ (("moment" : Str) = "_told") by decide +kernel, show ¬ (("moment" : Str) = "tool") by decide +kernel, show ¬ (("moment" : Str) = "by") by decide +kernel, show ¬ (("moment" : Str) = "is_sound") by decide +kernel, show ¬ (("moment" : Str) = "one") by decide +kernel, show ¬ (("moment" : Str) = "other") by decide +kernel, show ¬ (("moment" : Str) = "later") by decide +kernel, show ¬ (("by" : Str) = "kind") by decide +kernel, show ¬ (("by" : Str) = "_told") by decide +kernel, show ¬ (("by" : Str) = "tool") by decide +kernel, show ¬ (("by" : Str) = "moment") by decide +kernel, show ¬ (("by" : Str) = "is_sound") by decide +kernel, show ¬ (("by" : Str) = "one") by decide +kernel, show ¬ (("by" : Str) = "other") by decide +kernel, show ¬ (("by" : Str) = "later") by decide +kernel, show ¬ (("is_sound" : Str) = "kind") by decide +kernel, show ¬ (("is_sound" : Str) = "_told") by decide +kernel, show ¬ (("is_sound" : Str) = "tool") by decide +kernel, show ¬ (("is_sound" : Str) = "moment") by decide +kernel, show ¬ (("is_sound" : Str) = "by") by decide +kernel, show ¬ (("is_sound" : Str) = "one") by decide +kernel, show ¬ (("is_sound" : Str) = "other") by decide +kernel, show ¬ (("is_sound" : Str) = "later") by decide +kernel, show ¬ (("one" : Str) = "kind") by decide +kernel, show ¬ (("one" : Str) = "_told") by decide +kernel, show ¬ (("one" : Str) = "tool") by decide +kernel, show ¬ (("one" : Str) = "moment") by decide +kernel, show ¬ (("one" : Str) = "by") by decide +kernel, show ¬ (("one" : Str) = "is_sound") by decide +kernel, show ¬ (("one" : Str) = "other") by decide +kernel, show ¬ (("one" : Str) = "later") by decide +kernel, show ¬ (("other" : Str) = "kind") by decide +kernel, show ¬ (("other" : Str) = "_told") by decide +kernel, show ¬ (("other" : Str) = "tool") by decide +kernel, show ¬ (("other" : Str) = "moment") by decide +kernel, show ¬ (("other" : Str) = "by") by decide +kernel, show ¬ (("other" : Str) = "is_sound") by decide +kernel, show ¬ (("other" : Str) = "one") by decide +kernel, show ¬ (("other" : Str) = "later") by decide +kernel, show ¬ (("later" : Str) = "kind") by decide +kernel, show ¬ (("later" : Str) = "_told") by decide +kernel, show ¬ (("later" : Str) = "tool") by decide +kernel, show ¬ (("later" : Str) = "moment") by decide +kernel, show ¬ (("later" : Str) = "by") by decide +kernel, show ¬ (("later" : Str) = "is_sound") by decide +kernel, show ¬ (("later" : Str) = "one") by decide +kernel, show ¬ (("later" : Str) = "other") by decide +kernel, if_true, if_false]), (by simp only [lookup_putF, show ¬ (("kind" : Str) = "_told") by decide +kernel, show ¬ (("kind" : Str) = "tool") by decide +kernel, show ¬ (("kind" : Str) = "moment") by decide +kernel, show ¬ (("kind" : Str) = "by") by decide +kernel, show ¬ (("kind" : Str) = "is_sound") by decide +kernel, show ¬ (("kind" : Str) = "one") by decide +kernel, show ¬ (("kind" : Str) = "other") by decide +kernel, show ¬ (("kind" : Str) = "later") by decide +kernel, show ¬ (("_told" : Str) = "kind") by decide +kernel, show ¬ (("_told" : Str) = "tool") by decide +kernel, show ¬ (("_told" : Str) = "moment") by decide +kernel, show ¬ (("_told" : Str) = "by") by decide +kernel, show ¬ (("_told" : Str) = "is_sound") by decide +kernel, show ¬ (("_told" : Str) = "one") by decide +kernel, show ¬ (("_told" : Str) = "other") by decide +kernel, show ¬ (("_told" : Str) = "later") by decide +kernel, show ¬ (("tool" : Str) = "kind") by decide +kernel, show ¬ (("tool" : Str) = "_told") by decide +kernel, show ¬ (("tool" : Str) = "moment") by decide +kernel, show ¬ (("tool" : Str) = "by") by decide +kernel, show ¬ (("tool" : Str) = "is_sound") by decide +kernel, show ¬ (("tool" : Str) = "one") by decide +kernel, show ¬ (("tool" : Str) = "other") by decide +kernel, show ¬ (("tool" : Str) = "later") by decide +kernel, show ¬ (("moment" : Str) = "kind") by decide +kernel, show ¬ (("moment" : Str) = "_told") by decide +kernel, show ¬ (("moment" : Str) = "tool") by decide +kernel, show ¬ (("moment" : Str) = "by") by decide +kernel, show ¬ (("moment" : Str) = "is_sound") by decide +kernel, show ¬ (("moment" : Str) = "one") by decide +kernel, show ¬ (("moment" : Str) = "other") by decide +kernel, show ¬ (("moment" : Str) = "later") by decide +kernel, show ¬ (("by" : Str) = "kind") by decide +kernel, show ¬ (("by" : Str) = "_told") by decide +kernel, show ¬ (("by" : Str) = "tool") by decide +kernel, show ¬ (("by" : Str) = "moment") by decide +kernel, show ¬ (("by" : Str) = "is_sound") by decide +kernel, show ¬ (("by" : Str) = "one") by decide +kernel, show ¬ (("by" : Str) = "other") by decide +kernel, show ¬ (("by" : Str) = "later") by decide +kernel, show ¬ (("is_sound" : Str) = "kind") by decide +kernel, show ¬ (("is_sound" : Str) = "_told") by decide +kernel, show ¬ (("is_sound" : Str) = "tool") by decide +kernel, show ¬ (("is_sound" : Str) = "moment") by decide +kernel, show ¬ (("is_sound" : Str) = "by") by decide +kernel, show ¬ (("is_sound" : Str) = "one") by decide +kernel, show ¬ (("is_sound" : Str) = "other") by decide +kernel, show ¬ (("is_sound" : Str) = "later") by decide +kernel, show ¬ (("one" : Str) = "kind") by decide +kernel, show ¬ (("one" : Str) = "_told") by decide +kernel, show ¬ (("one" : Str) = "tool") by decide +kernel, show ¬ (("one" : Str) = "moment") by decide +kernel, show ¬ (("one" : Str) = "by") by decide +kernel, show ¬ (("one" : Str) = "is_sound") by decide +kernel, show ¬ (("one" : Str) = "other") by decide +kernel, show ¬ (("one" : Str) = "later") by decide +kernel, show ¬ (("other" : Str) = "kind") by decide +kernel, show ¬ (("other" : Str) = "_told") by decide +kernel, show ¬ (("other" : Str) = "tool") by decide +kernel, show ¬ (("other" : Str) = "moment") by decide +kernel, show ¬ (("other" : Str) = "by") by decide +kernel, show ¬ (("other" : Str) = "is_sound") by decide +kernel, show ¬ (("other" : Str) = "one") by decide +kernel, show ¬ (("other" : Str) = "later") by decide +kernel, show ¬ (("later" : Str) = "kind") by decide +kernel, show ¬ (("later" : Str) = "_told") by decide +kernel, show ¬ (("later" : Str) = "tool") by decide +kernel, show ¬ (("later" : Str) = "moment") by decide +kernel, show ¬ (("later" : Str) = "by") by decide +kernel, show ¬ (("later" : Str) = "is_sound") by decide +kernel, show ¬ (("later" : Str) = "one") by decide +kernel, show ¬ (("later" : Str) = "other") by decide +kernel, if_true, if_false]), fun _ h => nomatch h⟩
abbrev sSetBy : Stmt := inClass (topS 33) 0
theorem scSetBy : FnScope ["self", "tool", "moment", "by"] ["self", "tool", "moment", "by"] (defScope sSetBy) := ⟨rfl, rfl, rfl, by decide +kernel, rfl, by decide +kernel, by decide +kernel⟩
theorem ok_SetBy {CN CM CS C f fK : Addr} {fd fdK : FuncData} (F : Fun K "__init__" "SetBy.__init__" sSetBy f fd) (T : RowC K C ["_told", "kind", "tool", "moment", "by"]) (FK : Fun K "checked" "checked" sChecked fK fdK) (bK : Binds K fdK ["kind", "told"] []) (gK : mg "checked" = some (.ref fK))
    (GK : FnOk P w K mg base (L2.CX P w) 4 fK fdK ["kind", "told"] (spChecked CN CM CS)) : FnOk P w K mg base (L2.CX P w) 5 f fd ["self", "tool", "moment", "by"] (spRow CN CM CS C "setby") := by
  refine F.okX scSetBy (fun vs H Q E h => ?_) (fun cdv A outer s H vs Q E hr h => ?_)
  · obtain ⟨x, dx, xs, rfl, _, hl, _⟩ := h
    show xs.length + 1 = 4
    have : (formsOf "setby").length = 3 := by decide +kernel
    omega
  · obtain ⟨x, dx, xs, rfl, hx, hl, hg, qy, qn⟩ := h
    have hkin : ("setby" : Str) ∈ kinds := by decide +kernel
    have hl4 : (formsOf "setby").length = 3 := by decide +kernel
    obtain ⟨v0, v1, v2, rfl⟩ : ∃ v0 v1 v2, xs = [v0, v1, v2] := by
      rw [hl4] at hl
      match xs, hl with
      | [v0, v1, v2], _ => exact ⟨_, _, _, rfl⟩
    have no := T.no
    simp only [List.forall_mem_cons] at no
    obtain ⟨n0, n1, n2, n3, n4, _⟩ := no
    refine ⟨_, pss_cons (ps_fld (pv 0) (pe_call GK hr (by rfl) gK FK.kp bK .nil (passes_call (takes_of rfl rfl rfl rfl) (fun _ _ _ _ h => h)) (pa_cons pe_str (pa_cons (pe_tup (pa_cons (pv 1) (pa_cons (pv 2) (pa_cons (pv 3) pa_nil)))) pa_nil))) rfl)
      (pss_cons (ps_fld (pv 0) pe_str rfl)
      (pss_cons (ps_fld (pv 0) (pv 1) rfl) (pss_cons (ps_fld (pv 0) (pv 2) rfl) (pss_one (ps_fld (pv 0) (pv 3) rfl))))), ?_⟩
    refine ⟨_, rfl, _, rfl, _, rfl, by show 3 ≤ sizeLine; decide, fun tp htp => ?_⟩
    have s1 := same_upd0 (o := .tup [v0, v1, v2]) htp
    refine ⟨"setby", tp, [v0, v1, v2], rfl, hkin, upd_same, hl, (fun y hy => (hg y hy).elim fun T h => ⟨T, h.same s1⟩), fun gd H2 s2 => ?_, fun C' fl v g d H' s e => qn C' fl v g d H' (s1.trans s) e⟩
    have hx2 := s2 _ _ (s1 _ _ hx)
    have s12 := s1.trans s2
    refine ⟨_, rfl, x, C, dx, [], rfl, hx2, T.cl, n0, by show 0 < 1000; decide, ?_⟩
    refine ⟨_, rfl, x, C, dx, _, rfl, upd_same, T.cl, n1, Nat.lt_of_le_of_lt (lenC (Nat.le_refl 0)) (by decide), ?_⟩
    refine ⟨_, rfl, _, rfl, x, C, dx, _, rfl, upd_same, T.cl, n2, Nat.lt_of_le_of_lt (lenC (lenC (Nat.le_refl 0))) (by decide), ?_⟩
    refine ⟨_, rfl, _, rfl, x, C, dx, _, rfl, upd_same, T.cl, n3, Nat.lt_of_le_of_lt (lenC (lenC (lenC (Nat.le_refl 0)))) (by decide), ?_⟩
    refine ⟨_, rfl, _, rfl, x, C, dx, _, rfl, upd_same, T.cl, n4, Nat.lt_of_le_of_lt (lenC (lenC (lenC (lenC (Nat.le_refl 0))))) (by decide), ?_⟩
    refine qy gd _ _ (fun c o nc e => ?_) upd_same ?_
    · rw [upd_ne nc, upd_ne nc, upd_ne nc, upd_ne nc, upd_ne nc]
      exact s12 c o e
    · have ntp : tp ≠ x := fun z => by rw [z, hx] at htp; cases htp
      have etp := s2 _ _ (show (upd H tp (.tup _)) tp = _ from upd_same)
      refine ⟨?_, ⟨tp, ?_, ?_⟩, ?_, (by repeat (first | exact NoM.nil | refine NoM.put ?_ (by decide +kernel)))⟩
      · simp only [lookup_putF, show ¬ (("kind" : Str) = "_told") by decide +kernel, show ¬ (("kind" : Str) = "tool") by decide +kernel, show ¬ (("kind" : Str) = "moment") by decide +kernel, show ¬ (("kind" : Str) = "by") by decide +kernel, show ¬ (("kind" : Str) = "is_sound") by decide +kernel, show ¬ (("kind" : Str) = "one") by decide +kernel, show ¬ (("kind" : Str) = "other") by decide +kernel, show ¬ (("kind" : Str) = "later") by decide +kernel, show ¬ (("_told" : Str) = "kind") by decide +kernel, show ¬ (("_told" : Str) = "tool") by decide +kernel, show ¬ (("_told" : Str) = "moment") by decide +kernel, show ¬ (("_told" : Str) = "by") by decide +kernel, show ¬ (("_told" : Str) = "is_sound") by decide +kernel, show ¬ (("_told" : Str) = "one") by decide +kernel, show ¬ (("_told" : Str) = "other") by decide +kernel, show ¬ (("_told" : Str) = "later") by decide +kernel, show ¬ (("tool" : Str) = "kind") by decide +kernel, show ¬ (("tool" : Str) = "_told") by decide +kernel, show ¬ (("tool" : Str) = "moment") by decide +kernel, show ¬ (("tool" : Str) = "by") by decide +kernel, show ¬ (("tool" : Str) = "is_sound") by decide +kernel, show ¬ (("tool" : Str) = "one") by decide +kernel, show ¬ (("tool" : Str) = "other") by decide +kernel, show ¬ (("tool" : Str) = "later") by decide +kernel, show ¬ (("moment" : Str) = "kind") by decide +kernel, show ¬ (("moment" : Str) = "_told") by decide +kernel, show ¬ (("moment" : Str) = "tool") by decide +kernel, show ¬ (("moment" : Str) = "by") by decide +kernel, show ¬ (("moment" : Str) = "is_sound") by decide +kernel, show ¬ (("moment" : Str) = "one") by decide +kernel, show ¬ (("moment" : Str) = "other") by decide +kernel, show ¬ (("moment" : Str) = "later") by decide +kernel, show ¬ (("by" : Str) = "kind") by decide +kernel, show ¬ (("by" : Str) = "_told") by decide +kernel, show ¬ (("by" : Str) = "tool") by decide +kernel, show ¬ (("by" : Str) = "moment") by decide +kernel, show ¬ (("by" : Str) = "is_sound") by decide +kernel, show ¬ (("by" : Str) = "one") by decide +kernel, show ¬ (("by" : Str) = "other") by decide +kernel, show ¬ (("by" : Str) = "later") by decide +kernel, show ¬ (("is_sound" : Str) = "kind") by decide +kernel, show ¬ (("is_sound" : Str) = "_told") by decide +kernel, show ¬ (("is_sound" : Str) = "tool") by decide +kernel, show ¬ (("is_sound" : Str) = "moment") by decide +kernel, show ¬ (("is_sound" : Str) = "by") by decide +kernel, show ¬ (("is_sound" : Str) = "one") by decide +kernel, show ¬ (("is_sound" : Str) = "other") by decide +kernel, show ¬ (("is_sound" : Str) = "later") by decide +kernel, show ¬ (("one" : Str) = "kind") by decide +kernel, show ¬ (("one" : Str) = "_told") by decide +kernel, show ¬ (("one" : Str) = "tool") by decide +kernel, show ¬ (("one" : Str) = "moment") by decide +kernel, show ¬ (("one" : Str) = "by") by decide +kernel, show ¬ (("one" : Str) = "is_sound") by decide +kernel, show ¬ (("one" : Str) = "other") by decide +kernel, show ¬ (("one" : Str) = "later") by decide +kernel, show ¬ (("other" : Str) = "kind") by decide +kernel, show ¬ (("other" : Str) = "_told") by decide +kernel, show ¬ (("other" : Str) = "tool") by decide +kernel, show ¬ (("other" : Str) = "moment") by decide +kernel, show ¬ (("other" : Str) = "by") by decide +kernel, show ¬ (("other" : Str) = "is_sound") by decide +kernel, show ¬ (("other" : Str) = "one") by decide +kernel, show ¬ (("other" : Str) = "later") by decide +kernel, show ¬ (("later" : Str) = "kind") by decide +kernel, show ¬ (("later" : Str) = "_told") by decide +kernel, show ¬ (("later" : Str) = "tool") by decide +kernel, show ¬ (("later" : Str) = "moment") by decide +kernel, show ¬ (("later" : Str) = "by") by decide +kernel, show ¬ (("later" : Str) = "is_sound") by decide +kernel, show ¬ (("later" : Str) = "one") by decide +kernel, show ¬ (("later" : Str) = "other") by decide +kernel, if_true, if_false]
      · simp only [lookup_putF, show ¬ (("kind" : Str) = "_told") by decide +kernel, show ¬ (("kind" : Str) = "tool") by decide +kernel, show ¬ (("kind" : Str) = "moment") by decide +kernel, show ¬ (("kind" : Str) = "by") by decide +kernel, show ¬ (("kind" : Str) = "is_sound") by decide +kernel, show ¬ (("kind" : Str) = "one") by decide +kernel, show ¬ (("kind" : Str) = "other") by decide +kernel, show ¬ (("kind" : Str) = "later") by decide +kernel, show ¬ (("_told" : Str) = "kind") by decide +kernel, show ¬ (("_told" : Str) = "tool") by decide +kernel, show ¬ (("_told" : Str) = "moment") by decide +kernel, show ¬ (("_told" : Str) = "by") by decide +kernel, show ¬ (("_told" : Str) = "is_sound") by decide +kernel, show ¬ (("_told" : Str) = "one") by decide +kernel, show ¬ (("_told" : Str) = "other") by decide +kernel, show ¬ (("_told" : Str) = "later") by decide +kernel, show ¬ (("tool" : Str) = "kind") by decide +kernel, show ¬ (("tool" : Str) = "_told") by decide +kernel, show ¬ (("tool" : Str) = "moment") by decide +kernel, show ¬ (("tool" : Str) = "by") by decide +kernel, show ¬ (("tool" : Str) = "is_sound") by decide +kernel, show ¬ (("tool" : Str) = "one") by decide +kernel, show ¬ (("tool" : Str) = "other") by decide +kernel, show ¬ (("tool" : Str) = "later") by decide +kernel, show ¬ (("moment" : Str) = "kind") by decide +kernel, show ¬ (("moment" : Str) = "_told") by decide +kernel, show ¬ (("moment" : Str) = "tool") by decide +kernel, show ¬ (("moment" : Str) = "by") by decide +kernel, show ¬ (("moment" : Str) = "is_sound") by decide +kernel, show ¬ (("moment" : Str) = "one") by decide +kernel, show ¬ (("moment" : Str) = "other") by decide +kernel, show ¬ (("moment" : Str) = "later") by decide +kernel, show ¬ (("by" : Str) = "kind") by decide +kernel, show ¬ (("by" : Str) = "_told") by decide +kernel, show ¬ (("by" : Str) = "tool") by decide +kernel, show ¬ (("by" : Str) = "moment") by decide +kernel, show ¬ (("by" : Str) = "is_sound") by decide +kernel, show ¬ (("by" : Str) = "one") by decide +kernel, show ¬ (("by" : Str) = "other") by decide +kernel, show ¬ (("by" : Str) = "later") by decide +kernel, show ¬ (("is_sound" : Str) = "kind") by decide +kernel, show ¬ (("is_sound" : Str) = "_told") by decide +kernel, show ¬ (("is_sound" : Str) = "tool") by decide +kernel, show ¬ (("is_sound" : Str) = "moment") by decide +kernel, show ¬ (("is_sound" : Str) = "by") by decide +kernel, show ¬ (("is_sound" : Str) = "one") by decide +kernel, show ¬ (("is_sound" : Str) = "other") by decide +kernel, show ¬ (("is_sound" : Str) = "later") by decide +kernel, show ¬ (("one" : Str) = "kind") by decide +kernel, show ¬ (("one" : Str) = "_told") by decide +kernel, show ¬ (("one" : Str) = "tool") by decide +kernel, show ¬ (("one" : Str) = "moment") by decide +kernel, show ¬ (("one" : Str) = "by") by decide +kernel, show ¬ (("one" : Str) = "is_sound") by decide +kernel, show ¬ (("one" : Str) = "other") by decide +kernel, show ¬ (("one" : Str) = "later") by decide +kernel, show ¬ (("other" : Str) = "kind") by decide +kernel, show ¬ (("other" : Str) = "_told") by decide +kernel, show ¬ (("other" : Str) = "tool") by decide +kernel, show ¬ (("other" : Str) = "moment") by decide +kernel, show ¬ (("other" : Str) = "by") by decide +kernel, show ¬ (("other" : Str) = "is_sound") by decide +kernel, show ¬ (("other" : Str) = "one") by decide +kernel, show ¬ (("other" : Str) = "later") by decide +kernel, show ¬ (("later" : Str) = "kind") by decide +kernel, show ¬ (("later" : Str) = "_told") by decide +kernel, show ¬ (("later" : Str) = "tool") by decide +kernel, show ¬ (("later" : Str) = "moment") by decide +kernel, show ¬ (("later" : Str) = "by") by decide +kernel, show ¬ (("later" : Str) = "is_sound") by decide +kernel, show ¬ (("later" : Str) = "one") by decide +kernel, show ¬ (("later" : Str) = "other") by decide +kernel, if_true, if_false]
      · repeat rw [upd_ne ntp]
        exact etp
      · rw [attrs_setby]
        simp only [List.zip_cons_cons, List.zip_nil_right, List.forall_mem_cons]
        refine ⟨(by simp only [lookup_putF, show ¬ (("kind" : Str) = "_told") by decide +kernel, show ¬ (("kind" : Str) = "tool") by decide +kernel, show ¬ (("kind" : Str) = "moment") by decide +kernel, show ¬ (("kind" : Str) = "by") by decide +kernel, show ¬ (("kind" : Str) = "is_sound") by decide +kernel, show ¬ (("kind" : Str) = "one") by decide +kernel, show ¬ (("kind" : Str) = "other") by decide +kernel, show ¬ (("kind" : Str) = "later") by decide +kernel, show ¬ (("_told" : Str) = "kind") by decide +kernel, show ¬ (("_told" : Str) = "tool") by decide +kernel, show ¬ (("_told" : Str) = "moment") by decide +kernel, show ¬ (("_told" : Str) = "by") by decide +kernel, show ¬ (("_told" : Str) = "is_sound") by decide +kernel, show ¬ (("_told" : Str) = "one") by decide +kernel, show ¬ (("_told" : Str) = "other") by decide +kernel, show ¬ (("_told" : Str) = "later") by decide +kernel, show ¬ (("tool" : Str) = "kind") by decide +kernel, show ¬ (("tool" : Str) = "_told") by decide +kernel, show ¬ (("tool" : Str) = "moment") by decide +kernel, show ¬ (("tool" : Str) = "by") by decide +kernel, show ¬ (("tool" : Str) = "is_sound") by decide +kernel, show ¬ (("tool" : Str) = "one") by decide +kernel, show ¬ (("tool" : Str) = "other") by decide +kernel, show ¬ (("tool" : Str) = "later") by decide +kernel, show ¬ (("moment" : Str) = "kind") by decide +kernel, show ¬ (("moment" : Str) = "_told") by decide +kernel, show ¬ (("moment" : Str) = "tool") by decide +kernel, show ¬ (("moment" : Str) = "by") by decide +kernel, show ¬ (("moment" : Str) = "is_sound") by decide +kernel, show ¬ (("moment" : Str) = "one") by decide +kernel, show ¬ (("moment" : Str) = "other") by decide +kernel, show ¬ (("moment" : Str) = "later") by decide +kernel, show ¬ (("by" : Str) = "kind") by decide +kernel, show ¬ (("by" : Str) = "_told") by decide +kernel, show ¬ (("by" : Str) = "tool") by decide +kernel, show ¬ (("by" : Str) = "moment") by decide +kernel, show ¬ (("by" : Str) = "is_sound") by decide +kernel, show ¬ (("by" : Str) = "one") by decide +kernel, show ¬ (("by" : Str) = "other") by decide +kernel, show ¬ (("by" : Str) = "later") by decide +kernel, show ¬ (("is_sound" : Str) = "kind") by decide +kernel, show ¬ (("is_sound" : Str) = "_told") by decide +kernel, show ¬ (("is_sound" : Str) = "tool") by decide +kernel, show ¬ (("is_sound" : Str) = "moment") by decide +kernel, show ¬ (("is_sound" : Str) = "by") by decide +kernel, show ¬ (("is_sound" : Str) = "one") by decide +kernel, show ¬ (("is_sound" : Str) = "other") by decide +kernel, show ¬ (("is_sound" : Str) = "later") by decide +kernel, show ¬ (("one" : Str) = "kind") by decide +kernel, show ¬ (("one" : Str) = "_told") by decide +kernel, show ¬ (("one" : Str) = "tool") by decide +kernel, show ¬ (("one" : Str) = "moment") by decide +kernel, show ¬ (("one" : Str) = "by") by decide +kernel, show ¬ (("one" : Str) = "is_sound") by decide +kernel, show ¬ (("one" : Str) = "other") by decide +kernel, show ¬ (("one" : Str) = "later") by decide +kernel, show ¬ (("other" : Str) = "kind") by decide +kernel, show ¬ (("other" : Str) = "_told") by decide +kernel, show ¬ (("other" : Str) = "tool") by decide +kernel, show ¬ (("other" : Str) = "moment") by decide +kernel, show ¬ (("other" : Str) = "by") by decide +kernel, show ¬ (("other" : Str) = "is_sound") by decide +kernel, show ¬ (("other" : Str) = "one") by decide +kernel, show ¬ (("other" : Str) = "later") by decide +kernel, show ¬ (("later" : Str) = "kind") by decide +kernel, show ¬ (("later" : Str) = "_told") by decide +kernel, show ¬ (("later" : Str) = "tool") by decide +kernel, show ¬ (("later" : Str) = "moment") by decide +kernel, show ¬ (("later" : Str) = "by") by decide +kernel, show ¬ (("later" : Str) = "is_sound") by decide +kernel, show ¬ (("later" : Str) = "one") by decide +kernel, show ¬ (("later" : Str) = "other") by decide +kernel, if_true, if_false]), (by simp only [lookup_putF, show ¬ (("kind" : Str) = "_told") by decide +kernel, show ¬ (("kind" : Str) = "tool") by decide +kernel, show ¬ (("kind" : Str) = "moment") by decide +kernel, show ¬ (("kind" : Str) = "by") by decide +kernel, show ¬ (("kind" : Str) = "is_sound") by decide +kernel, show ¬ (("kind" : Str) = "one") by decide +kernel, show ¬ (("kind" : Str) = "other") by decide +kernel, show ¬ (("kind" : Str) = "later") by decide +kernel, show ¬ (("_told" : Str) = "kind") by decide +kernel, show ¬ (("_told" : Str) = "tool") by decide +kernel, show ¬ (("_told" : Str) = "moment") by decide +kernel, show ¬ (("_told" : Str) = "by") by decide +kernel, show ¬ (("_told" : Str) = "is_sound") by decide +kernel, show ¬ (("_told" : Str) = "one") by decide +kernel, show ¬ (("_told" : Str) = "other") by decide +kernel, show ¬ (("_told" : Str) = "later") by decide +kernel, show ¬ (("tool" : Str) = "kind") by decide +kernel, show ¬ (("tool" : Str) = "_told") by decide +kernel, show ¬ (("tool" : Str) = "moment") by decide +kernel, show ¬ (("tool" : Str) = "by") by decide +kernel, show ¬ (("tool" : Str) = "is_sound") by decide +kernel, show ¬ (("tool" : Str) = "one") by decide +kernel, show ¬ (("tool" : Str) = "other") by decide +kernel, show ¬ (("tool" : Str) = "later") by decide +kernel, show ¬ (("moment" : Str) = "kind") by decide +kernel, show ¬ (("moment" : Str) = "_told") by decide +kernel, show ¬ (("moment" : Str) = "tool") by decide +kernel, show ¬ (("moment" : Str) = "by") by decide +kernel, show ¬ (("moment" : Str) = "is_sound") by decide +kernel, show ¬ (("moment" : Str) = "one") by decide +kernel, show ¬ (("moment" : Str) = "other") by decide +kernel, show ¬ (("moment" : Str) = "later") by decide +kernel, show ¬ (("by" : Str) = "kind") by decide +kernel, show ¬ (("by" : Str) = "_told") by decide +kernel, show ¬ (("by" : Str) = "tool") by decide +kernel, show ¬ (("by" : Str) = "moment") by decide +kernel, show ¬ (("by" : Str) = "is_sound") by decide +kernel, show ¬ (("by" : Str) = "one") by decide +kernel, show ¬ (("by" : Str) = "other") by decide +kernel, show ¬ (("by" : Str) = "later") by decide +kernel, show ¬ (("is_sound" : Str) = "kind") by decide +kernel, show ¬ (("is_sound" : Str) = "_told") by decide +kernel, show ¬ (("is_sound" : Str) = "tool") by decide +kernel, show ¬ (("is_sound" : Str) = "moment") by decide +kernel, show ¬ (("is_sound" : Str) = "by") by decide +kernel, show ¬ (("is_sound" : Str) = "one") by decide +kernel, show ¬ (("is_sound" : Str) = "other") by decide +kernel, show ¬ (("is_sound" : Str) = "later") by decide +kernel, show ¬ (("one" : Str) = "kind") by decide +kernel, show ¬ (("one" : Str) = "_told") by decide +kernel, show ¬ (("one" : Str) = "tool") by decide +kernel, show ¬ (("one" : Str) = "moment") by decide +kernel, show ¬ (("one" : Str) = "by") by decide +kernel, show ¬ (("one" : Str) = "is_sound") by decide +kernel, show ¬ (("one" : Str) = "other") by decide +kernel, show ¬ (("one" : Str) = "later") by decide +kernel, show ¬ (("other" : Str) = "kind") by decide +kernel, show ¬ (("other" : Str) = "_told") by decide +kernel, show ¬ (("other" : Str) = "tool") by decide +kernel, show ¬ (("other" : Str) = "moment") by decide +kernel, show ¬ (("other" : Str) = "by") by decide +kernel, show ¬ (("other" : Str) = "is_sound") by decide +kernel, show ¬ (("other" : Str) = "one") by decide +kernel, show ¬ (("other" : Str) = "later") by decide +kernel, show ¬ (("later" : Str) = "kind") by decide +kernel, show ¬ (("later" : Str) = "_told") by decide +kernel, show ¬ (("later" : Str) = "tool") by decide +kernel, show ¬ (("later" : Str) = "moment") by decide +kernel, show ¬ (("later" : Str) = "by") by decide +kernel, show ¬ (("later" : Str) = "is_sound") by decide +kernel, show ¬ (("later" : Str) = "one") by decide +kernel, show ¬ (("later" : Str) = "other") by decide +kernel, if_true, if_false]), (by simp only [lookup_putF, show ¬ (("kind" : Str) = "_told") by decide +kernel, show ¬ (("kind" : Str) = "tool") by decide +kernel, show ¬ (("kind" : Str) = "moment") by decide +kernel, show ¬ (("kind" : Str) = "by") by decide +kernel, show ¬ (("kind" : Str) = "is_sound") by decide +kernel, show ¬ (("kind" : Str) = "one") by decide +kernel, show ¬ (("kind" : Str) = "other") by decide +kernel, show ¬ (("kind" : Str) = "later") by decide +kernel, show ¬ (("_told" : Str) = "kind") by decide +kernel, show ¬ (("_told" : Str) = "tool") by decide +kernel, show ¬ (("_told" : Str) = "moment") by decide +kernel, show ¬ (("_told" : Str) = "by") by decide +kernel, show ¬ (("_told" : Str) = "is_sound") by decide +kernel, show ¬ (("_told" : Str) = "one") by decide +kernel, show ¬ (("_told" : Str) = "other") by decide +kernel, show ¬ (("_told" : Str) = "later") by decide +kernel, show ¬ (("tool" : Str) = "kind") by decide +kernel, show ¬ (("tool" : Str) = "_told") by decide +kernel, show ¬ (("tool" : Str) = "moment") by decide +kernel, show ¬ (("tool" : Str) = "by") by decide +kernel, show ¬ (("tool" : Str) = "is_sound") by decide +kernel, show ¬ (("tool" : Str) = "one") by decide +kernel, show ¬ (("tool" : Str) = "other") by decide +kernel, show ¬ (("tool" : Str) = "later") by decide +kernel, show ¬ (("moment" : Str) = "kind") by decide +kernel, show ¬ (("moment" : Str) = "_told") by decide +kernel, show ¬ (("moment" : Str) = "tool") by decide +kernel, show ¬ (("moment" : Str) = "by") by decide +kernel, show ¬ (("moment" : Str) = "is_sound") by decide +kernel, show ¬ (("moment" : Str) = "one") by decide +kernel, show ¬ (("moment" : Str) = "other") by decide +kernel, show ¬ (("moment" : Str) = "later") by decide +kernel, show ¬ (("by" : Str) = "kind") by decide +kernel, show ¬ (("by" : Str) = "_told") by decide +kernel, show ¬ (("by" : Str) = "tool") by decide +kernel, show ¬ (("by" : Str) = "moment") by decide +kernel, show ¬ (("by" : Str) = "is_sound") by decide +kernel, show ¬ (("by" : Str) = "one") by decide +kernel, show ¬ (("by" : Str) = "other") by decide +kernel, show ¬ (("by" : Str) = "later") by decide +kernel, show ¬ (("is_sound" : Str) = "kind") by decide +kernel, show ¬ (("is_sound" : Str) = "_told") by decide +kernel, show ¬ (("is_sound" : Str) = "tool") by decide +kernel, show ¬ (("is_sound" : Str) = "moment") by decide +kernel, show ¬ (("is_sound" : Str) = "by") by decide +kernel, show ¬ (("is_sound" : Str) = "one") by decide +kernel, show ¬ (("is_sound" : Str) = "other") by decide +kernel, show ¬ (("is_sound" : Str) = "later") by decide +kernel, show ¬ (("one" : Str) = "kind") by decide +kernel, show ¬ (("one" : Str) = "_told") by decide +kernel, show ¬ (("one" : Str) = "tool") by decide +kernel, show ¬ (("one" : Str) = "moment") by decide +kernel, show ¬ (("one" : Str) = "by") by decide +kernel, show ¬ (("one" : Str) = "is_sound") by decide +kernel, show ¬ (("one" : Str) = "other") by decide +kernel, show ¬ (("one" : Str) = "later") by decide +kernel, show ¬ (("other" : Str) = "kind") by decide +kernel, show ¬ (("other" : Str) = "_told") by decide +kernel, show ¬ (("other" : Str) = "tool") by decide +kernel, show ¬ (("other" : Str) = "moment") by decide +kernel, show ¬ (("other" : Str) = "by") by decide +kernel, show ¬ (("other" : Str) = "is_sound") by decide +kernel, show ¬ (("other" : Str) = "one") by decide +kernel, show ¬ (("other" : Str) = "later") by decide +kernel, show ¬ (("later" : Str) = "kind") by decide +kernel, show ¬ (("later" : Str) = "_told") by decide +kernel, show ¬ (("later" : Str) = "tool") by decide +kernel, show ¬ (("later" : Str) = "moment") by decide +kernel, show ¬ (("later" : Str) = "by") by decide +kernel, show ¬ (("later" : Str) = "is_sound") by decide +kernel, show ¬ (("later" : Str) = "one") by decide +kernel, show ¬ (("later" : Str) = "other") by decide +kernel, if_true, if_false]), fun _ h => nomatch h⟩
abbrev sFound : Stmt := inClass (topS 34) 0
theorem scFound : FnScope ["self", "tool", "moment", "is_sound"] ["self", "tool", "moment", "is_sound"] (defScope sFound) := ⟨rfl, rfl, rfl, by decide +kernel, rfl, by decide +kernel, by decide +kernel⟩
theorem ok_Found {CN CM CS C f fK : Addr} {fd fdK : FuncData} (F : Fun K "__init__" "Found.__init__" sFound f fd) (T : RowC K C ["_told", "kind", "tool", "moment", "is_sound"]) (FK : Fun K "checked" "checked" sChecked fK fdK) (bK : Binds K fdK ["kind", "told"] []) (gK : mg "checked" = some (.ref fK))
    (GK : FnOk P w K mg base (L2.CX P w) 4 fK fdK ["kind", "told"] (spChecked CN CM CS)) : FnOk P w K mg base (L2.CX P w) 5 f fd ["self", "tool", "moment", "is_sound"] (spRow CN CM CS C "found") := by
  refine F.okX scFound (fun vs H Q E h => ?_) (fun cdv A outer s H vs Q E hr h => ?_)
  · obtain ⟨x, dx, xs, rfl, _, hl, _⟩ := h
    show xs.length + 1 = 4
    have : (formsOf "found").length = 3 := by decide +kernel
    omega
  · obtain ⟨x, dx, xs, rfl, hx, hl, hg, qy, qn⟩ := h
    have hkin : ("found" : Str) ∈ kinds := by decide +kernel
    have hl4 : (formsOf "found").length = 3 := by decide +kernel
    obtain ⟨v0, v1, v2, rfl⟩ : ∃ v0 v1 v2, xs = [v0, v1, v2] := by
      rw [hl4] at hl
      match xs, hl with
      | [v0, v1, v2], _ => exact ⟨_, _, _, rfl⟩
    have no := T.no
    simp only [List.forall_mem_cons] at no
    obtain ⟨n0, n1, n2, n3, n4, _⟩ := no
    refine ⟨_, pss_cons (ps_fld (pv 0) (pe_call GK hr (by rfl) gK FK.kp bK .nil (passes_call (takes_of rfl rfl rfl rfl) (fun _ _ _ _ h => h)) (pa_cons pe_str (pa_cons (pe_tup (pa_cons (pv 1) (pa_cons (pv 2) (pa_cons (pv 3) pa_nil)))) pa_nil))) rfl)
      (pss_cons (ps_fld (pv 0) pe_str rfl)
      (pss_cons (ps_fld (pv 0) (pv 1) rfl) (pss_cons (ps_fld (pv 0) (pv 2) rfl) (pss_one (ps_fld (pv 0) (pv 3) rfl))))), ?_⟩
    refine ⟨_, rfl, _, rfl, _, rfl, by show 3 ≤ sizeLine; decide, fun tp htp => ?_⟩
    have s1 := same_upd0 (o := .tup [v0, v1, v2]) htp
    refine ⟨"found", tp, [v0, v1, v2], rfl, hkin, upd_same, hl, (fun y hy => (hg y hy).elim fun T h => ⟨T, h.same s1⟩), fun gd H2 s2 => ?_, fun C' fl v g d H' s e => qn C' fl v g d H' (s1.trans s) e⟩
    have hx2 := s2 _ _ (s1 _ _ hx)
    have s12 := s1.trans s2
    refine ⟨_, rfl, x, C, dx, [], rfl, hx2, T.cl, n0, by show 0 < 1000; decide, ?_⟩
    refine ⟨_, rfl, x, C, dx, _, rfl, upd_same, T.cl, n1, Nat.lt_of_le_of_lt (lenC (Nat.le_refl 0)) (by decide), ?_⟩
    refine ⟨_, rfl, _, rfl, x, C, dx, _, rfl, upd_same, T.cl, n2, Nat.lt_of_le_of_lt (lenC (lenC (Nat.le_refl 0))) (by decide), ?_⟩
    refine ⟨_, rfl, _, rfl, x, C, dx, _, rfl, upd_same, T.cl, n3, Nat.lt_of_le_of_lt (lenC (lenC (lenC (Nat.le_refl 0)))) (by decide), ?_⟩
    refine ⟨_, rfl, _, rfl, x, C, dx, _, rfl, upd_same, T.cl, n4, Nat.lt_of_le_of_lt (lenC (lenC (lenC (lenC (Nat.le_refl 0))))) (by decide), ?_⟩
    refine qy gd _ _ (fun c o nc e => ?_) upd_same ?_
    · rw [upd_ne nc, upd_ne nc, upd_ne nc, upd_ne nc, upd_ne nc]
      exact s12 c o e
    · have ntp : tp ≠ x := fun z => by rw [z, hx] at htp; cases htp
      have etp := s2 _ _ (show (upd H tp (.tup _)) tp = _ from upd_same)
      refine ⟨?_, ⟨tp, ?_, ?_⟩, ?_, (by repeat (first | exact NoM.nil | refine NoM.put ?_ (by decide +kernel)))⟩
      · simp only [lookup_putF, show ¬ (("kind" : Str) = "_told") by decide +kernel, show ¬ (("kind" : Str) = "tool") by decide +kernel, show ¬ (("kind" : Str) = "moment") by decide +kernel, show ¬ (("kind" : Str) = "by") by decide +kernel, show ¬ (("kind" : Str) = "is_sound") by decide +kernel, show ¬ (("kind" : Str) = "one") by decide +kernel, show ¬ (("kind" : Str) = "other") by decide +kernel, show ¬ (("kind" : Str) = "later") by decide +kernel, show ¬ (("_told" : Str) = "kind") by decide +kernel, show ¬ (("_told" : Str) = "tool") by decide +kernel, show ¬ (("_told" : Str) = "moment") by decide +kernel, show ¬ (("_told" : Str) = "by") by decide +kernel, show ¬ (("_told" : Str) = "is_sound") by decide +kernel, show ¬ (("_told" : Str) = "one") by decide +kernel, show ¬ (("_told" : Str) = "other") by decide +kernel, show ¬ (("_told" : Str) = "later") by decide +kernel, show ¬ (("tool" : Str) = "kind") by decide +kernel, show ¬ (("tool" : Str) = "_told") by decide +kernel, show ¬ (("tool" : Str) = "moment") by decide +kernel, show ¬ (("tool" : Str) = "by") by decide +kernel, show ¬ (("tool" : Str) = "is_sound") by decide +kernel, show ¬ (("tool" : Str) = "one") by decide +kernel, show ¬ (("tool" : Str) = "other") by decide +kernel, show ¬ (("tool" : Str) = "later") by decide +kernel, show ¬ (("moment" : Str) = "kind") by decide +kernel, show ¬ (("moment" : Str) = "_told") by decide +kernel, show ¬ (("moment" : Str) = "tool") by decide +kernel, show ¬ (("moment" : Str) = "by") by decide +kernel, show ¬ (("moment" : Str) = "is_sound") by decide +kernel, show ¬ (("moment" : Str) = "one") by decide +kernel, show ¬ (("moment" : Str) = "other") by decide +kernel, show ¬ (("moment" : Str) = "later") by decide +kernel, show ¬ (("by" : Str) = "kind") by decide +kernel, show ¬ (("by" : Str) = "_told") by decide +kernel, show ¬ (("by" : Str) = "tool") by decide +kernel, show ¬ (("by" : Str) = "moment") by decide +kernel, show ¬ (("by" : Str) = "is_sound") by decide +kernel, show ¬ (("by" : Str) = "one") by decide +kernel, show ¬ (("by" : Str) = "other") by decide +kernel, show ¬ (("by" : Str) = "later") by decide +kernel, show ¬ (("is_sound" : Str) = "kind") by decide +kernel, show ¬ (("is_sound" : Str) = "_told") by decide +kernel, show ¬ (("is_sound" : Str) = "tool") by decide +kernel, show ¬ (("is_sound" : Str) = "moment") by decide +kernel, show ¬ (("is_sound" : Str) = "by") by decide +kernel, show ¬ (("is_sound" : Str) = "one") by decide +kernel, show ¬ (("is_sound" : Str) = "other") by decide +kernel, show ¬ (("is_sound" : Str) = "later") by decide +kernel, show ¬ (("one" : Str) = "kind") by decide +kernel, show ¬ (("one" : Str) = "_told") by decide +kernel, show ¬ (("one" : Str) = "tool") by decide +kernel, show ¬ (("one" : Str) = "moment") by decide +kernel, show ¬ (("one" : Str) = "by") by decide +kernel, show ¬ (("one" : Str) = "is_sound") by decide +kernel, show ¬ (("one" : Str) = "other") by decide +kernel, show ¬ (("one" : Str) = "later") by decide +kernel, show ¬ (("other" : Str) = "kind") by decide +kernel, show ¬ (("other" : Str) = "_told") by decide +kernel, show ¬ (("other" : Str) = "tool") by decide +kernel, show ¬ (("other" : Str) = "moment") by decide +kernel, show ¬ (("other" : Str) = "by") by decide +kernel, show ¬ (("other" : Str) = "is_sound") by decide +kernel, show ¬ (("other" : Str) = "one") by decide +kernel, show ¬ (("other" : Str) = "later") by decide +kernel, show ¬ (("later" : Str) = "kind") by decide +kernel, show ¬ (("later" : Str) = "_told") by decide +kernel, show ¬ (("later" : Str) = "tool") by decide +kernel, show ¬ (("later" : Str) = "moment") by decide +kernel, show ¬ (("later" : Str) = "by") by decide +kernel, show ¬ (("later" : Str) = "is_sound") by decide +kernel, show ¬ (("later" : Str) = "one") by decide +kernel, show ¬ (("later" : Str) = "other") by decide +kernel, if_true, if_false]
      · simp only [lookup_putF, show ¬ (("kind" : Str) = "_told") by decide +kernel, show ¬ (("kind" : Str) = "tool") by decide +kernel, show ¬ (("kind" : Str) = "moment") by decide +kernel, show ¬ (("kind" : Str) = "by") by decide +kernel, show ¬ (("kind" : Str) = "is_sound") by decide +kernel, show ¬ (("kind" : Str) = "one") by decide +kernel, show ¬ (("kind" : Str) = "other") by decide +kernel, show ¬ (("kind" : Str) = "later") by decide +kernel, show ¬ (("_told" : Str) = "kind") by decide +kernel, show ¬ (("_told" : Str) = "tool") by decide +kernel, show ¬ (("_told" : Str) = "moment") by decide +kernel, show ¬ (("_told" : Str) = "by") by decide +kernel, show ¬ (("_told" : Str) = "is_sound") by decide +kernel, show ¬ (("_told" : Str) = "one") by decide +kernel, show ¬ (("_told" : Str) = "other") by decide +kernel, show ¬ (("_told" : Str) = "later") by decide +kernel, show ¬ (("tool" : Str) = "kind") by decide +kernel, show ¬ (("tool" : Str) = "_told") by decide +kernel, show ¬ (("tool" : Str) = "moment") by decide +kernel, show ¬ (("tool" : Str) = "by") by decide +kernel, show ¬ (("tool" : Str) = "is_sound") by decide +kernel, show ¬ (("tool" : Str) = "one") by decide +kernel, show ¬ (("tool" : Str) = "other") by decide +kernel, show ¬ (("tool" : Str) = "later") by decide +kernel, show ¬ (("moment" : Str) = "kind") by decide +kernel, show ¬ (("moment" : Str) = "_told") by decide +kernel, show ¬ (("moment" : Str) = "tool") by decide +kernel, show ¬ (("moment" : Str) = "by") by decide +kernel, show ¬ (("moment" : Str) = "is_sound") by decide +kernel, show ¬ (("moment" : Str) = "one") by decide +kernel, show ¬ (("moment" : Str) = "other") by decide +kernel, show ¬ (("moment" : Str) = "later") by decide +kernel, show ¬ (("by" : Str) = "kind") by decide +kernel, show ¬ (("by" : Str) = "_told") by decide +kernel, show ¬ (("by" : Str) = "tool") by decide +kernel, show ¬ (("by" : Str) = "moment") by decide +kernel, show ¬ (("by" : Str) = "is_sound") by decide +kernel, show ¬ (("by" : Str) = "one") by decide +kernel, show ¬ (("by" : Str) = "other") by decide +kernel, show ¬ (("by" : Str) = "later") by decide +kernel, show ¬ (("is_sound" : Str) = "kind") by decide +kernel, show ¬ (("is_sound" : Str) = "_told") by decide +kernel, show ¬ (("is_sound" : Str) = "tool") by decide +kernel, show ¬ (("is_sound" : Str) = "moment") by decide +kernel, show ¬ (("is_sound" : Str) = "by") by decide +kernel, show ¬ (("is_sound" : Str) = "one") by decide +kernel, show ¬ (("is_sound" : Str) = "other") by decide +kernel, show ¬ (("is_sound" : Str) = "later") by decide +kernel, show ¬ (("one" : Str) = "kind") by decide +kernel, show ¬ (("one" : Str) = "_told") by decide +kernel, show ¬ (("one" : Str) = "tool") by decide +kernel, show ¬ (("one" : Str) = "moment") by decide +kernel, show ¬ (("one" : Str) = "by") by decide +kernel, show ¬ (("one" : Str) = "is_sound") by decide +kernel, show ¬ (("one" : Str) = "other") by decide +kernel, show ¬ (("one" : Str) = "later") by decide +kernel, show ¬ (("other" : Str) = "kind") by decide +kernel, show ¬ (("other" : Str) = "_told") by decide +kernel, show ¬ (("other" : Str) = "tool") by decide +kernel, show ¬ (("other" : Str) = "moment") by decide +kernel, show ¬ (("other" : Str) = "by") by decide +kernel, show ¬ (("other" : Str) = "is_sound") by decide +kernel, show ¬ (("other" : Str) = "one") by decide +kernel, show ¬ (("other" : Str) = "later") by decide +kernel, show ¬ (("later" : Str) = "kind") by decide +kernel, show ¬ (("later" : Str) = "_told") by decide +kernel, show ¬ (("later" : Str) = "tool") by decide +kernel, show ¬ (("later" : Str) = "moment") by decide +kernel, show ¬ (("later" : Str) = "by") by decide +kernel, show ¬ (("later" : Str) = "is_sound") by decide +kernel, show ¬ (("later" : Str) = "one") by decide +kernel, show ¬ (("later" : Str) = "other") by decide +kernel, if_true, if_false]
      · repeat rw [upd_ne ntp]
        exact etp
      · rw [attrs_found]
        simp only [List.zip_cons_cons, List.zip_nil_right, List.forall_mem_cons]
        refine ⟨(by simp only [lookup_putF, show ¬ (("kind" : Str) = "_told") by decide +kernel, show ¬ (("kind" : Str) = "tool") by decide +kernel, show ¬ (("kind" : Str) = "moment") by decide +kernel, show ¬ (("kind" : Str) = "by") by decide +kernel, show ¬ (("kind" : Str) = "is_sound") by decide +kernel, show ¬ (("kind" : Str) = "one") by decide +kernel, show ¬ (("kind" : Str) = "other") by decide +kernel, show ¬ (("kind" : Str) = "later") by decide +kernel, show ¬ (("_told" : Str) = "kind") by decide +kernel, show ¬ (("_told" : Str) = "tool") by decide +kernel, show ¬ (("_told" : Str) = "moment") by decide +kernel, show ¬ (("_told" : Str) = "by") by decide +kernel, show ¬ (("_told" : Str) = "is_sound") by decide +kernel, show ¬ (("_told" : Str) = "one") by decide +kernel, show ¬ (("_told" : Str) = "other") by decide +kernel, show ¬ (("_told" : Str) = "later") by decide +kernel, show ¬ (("tool" : Str) = "kind") by decide +kernel, show ¬ (("tool" : Str) = "_told") by decide +kernel, show ¬ (("tool" : Str) = "moment") by decide +kernel, show ¬ (("tool" : Str) = "by") by decide +kernel, show ¬ (("tool" : Str) = "is_sound") by decide +kernel, show ¬ (("tool" : Str) = "one") by decide +kernel, show ¬ (("tool" : Str) = "other") by decide +kernel, show ¬ (("tool" : Str) = "later") by decide +kernel, show ¬ (("moment" : Str) = "kind") by decide +kernel, show ¬ (("moment" : Str) = "_told") by decide +kernel, show ¬ (("moment" : Str) = "tool") by decide +kernel, show ¬ (("moment" : Str) = "by") by decide +kernel, show ¬ (("moment" : Str) = "is_sound") by decide +kernel, show ¬ (("moment" : Str) = "one") by decide +kernel, show ¬ (("moment" : Str) = "other") by decide +kernel, show ¬ (("moment" : Str) = "later") by decide +kernel, show ¬ (("by" : Str) = "kind") by decide +kernel, show ¬ (("by" : Str) = "_told") by decide +kernel, show ¬ (("by" : Str) = "tool") by decide +kernel, show ¬ (("by" : Str) = "moment") by decide +kernel, show ¬ (("by" : Str) = "is_sound") by decide +kernel, show ¬ (("by" : Str) = "one") by decide +kernel, show ¬ (("by" : Str) = "other") by decide +kernel, show ¬ (("by" : Str) = "later") by decide +kernel, show ¬ (("is_sound" : Str) = "kind") by decide +kernel, show ¬ (("is_sound" : Str) = "_told") by decide +kernel, show ¬ (("is_sound" : Str) = "tool") by decide +kernel, show ¬ (("is_sound" : Str) = "moment") by decide +kernel, show ¬ (("is_sound" : Str) = "by") by decide +kernel, show ¬ (("is_sound" : Str) = "one") by decide +kernel, show ¬ (("is_sound" : Str) = "other") by decide +kernel, show ¬ (("is_sound" : Str) = "later") by decide +kernel, show ¬ (("one" : Str) = "kind") by decide +kernel, show ¬ (("one" : Str) = "_told") by decide +kernel, show ¬ (("one" : Str) = "tool") by decide +kernel, show ¬ (("one" : Str) = "moment") by decide +kernel, show ¬ (("one" : Str) = "by") by decide +kernel, show ¬ (("one" : Str) = "is_sound") by decide +kernel, show ¬ (("one" : Str) = "other") by decide +kernel, show ¬ (("one" : Str) = "later") by decide +kernel, show ¬ (("other" : Str) = "kind") by decide +kernel, show ¬ (("other" : Str) = "_told") by decide +kernel, show ¬ (("other" : Str) = "tool") by decide +kernel, show ¬ (("other" : Str) = "moment") by decide +kernel, show ¬ (("other" : Str) = "by") by decide +kernel, show ¬ (("other" : Str) = "is_sound") by decide +kernel, show ¬ (("other" : Str) = "one") by decide +kernel, show ¬ (("other" : Str) = "later") by decide +kernel, show ¬ (("later" : Str) = "kind") by decide +kernel, show ¬ (("later" : Str) = "_told") by decide +kernel, show ¬ (("later" : Str) = "tool") by decide +kernel, show ¬ (("later" : Str) = "moment") by decide +kernel, show ¬ (("later" : Str) = "by") by decide +kernel, show ¬ (("later" : Str) = "is_sound") by decide +kernel, show ¬ (("later" : Str) = "one") by decide +kernel, show ¬ (("later" : Str) = "other") by decide +kernel, if_true, if_false]), (by simp only [lookup_putF, show ¬ (("kind" : Str) = "_told") by decide +kernel, show ¬ (("kind" : Str) = "tool") by decide +kernel, show ¬ (("kind" : Str) = "moment") by decide +kernel, show ¬ (("kind" : Str) = "by") by decide +kernel, show ¬ (("kind" : Str) = "is_sound") by decide +kernel, show ¬ (("kind" : Str) = "one") by decide +kernel, show ¬ (("kind" : Str) = "other") by decide +kernel, show ¬ (("kind" : Str) = "later") by decide +kernel, show ¬ (("_told" : Str) = "kind") by decide +kernel, show ¬ (("_told" : Str) = "tool") by decide +kernel, show ¬ (("_told" : Str) = "moment") by decide +kernel, show ¬ (("_told" : Str) = "by") by decide +kernel, show ¬ (("_told" : Str) = "is_sound") by decide +kernel, show ¬ (("_told" : Str) = "one") by decide +kernel, show ¬ (("_told" : Str) = "other") by decide +kernel, show ¬ (("_told" : Str) = "later") by decide +kernel, show ¬ (("tool" : Str) = "kind") by decide +kernel, show ¬ (("tool" : Str) = "_told") by decide +kernel, show ¬ (("tool" : Str) = "moment") by decide +kernel, show ¬ (("tool" : Str) = "by") by decide +kernel, show ¬ (("tool" : Str) = "is_sound") by decide +kernel, show ¬ (("tool" : Str) = "one") by decide +kernel, show ¬ (("tool" : Str) = "other") by decide +kernel, show ¬ (("tool" : Str) = "later") by decide +kernel, show ¬ (("moment" : Str) = "kind") by decide +kernel, show ¬ (("moment" : Str) = "_told") by decide +kernel, show ¬ (("moment" : Str) = "tool") by decide +kernel, show ¬ (("moment" : Str) = "by") by decide +kernel, show ¬ (("moment" : Str) = "is_sound") by decide +kernel, show ¬ (("moment" : Str) = "one") by decide +kernel, show ¬ (("moment" : Str) = "other") by decide +kernel, show ¬ (("moment" : Str) = "later") by decide +kernel, show ¬ (("by" : Str) = "kind") by decide +kernel, show ¬ (("by" : Str) = "_told") by decide +kernel, show ¬ (("by" : Str) = "tool") by decide +kernel, show ¬ (("by" : Str) = "moment") by decide +kernel, show ¬ (("by" : Str) = "is_sound") by decide +kernel, show ¬ (("by" : Str) = "one") by decide +kernel, show ¬ (("by" : Str) = "other") by decide +kernel, show ¬ (("by" : Str) = "later") by decide +kernel, show ¬ (("is_sound" : Str) = "kind") by decide +kernel, show ¬ (("is_sound" : Str) = "_told") by decide +kernel, show ¬ (("is_sound" : Str) = "tool") by decide +kernel, show ¬ (("is_sound" : Str) = "moment") by decide +kernel, show ¬ (("is_sound" : Str) = "by") by decide +kernel, show ¬ (("is_sound" : Str) = "one") by decide +kernel, show ¬ (("is_sound" : Str) = "other") by decide +kernel, show ¬ (("is_sound" : Str) = "later") by decide +kernel, show ¬ (("one" : Str) = "kind") by decide +kernel, show ¬ (("one" : Str) = "_told") by decide +kernel, show ¬ (("one" : Str) = "tool") by decide +kernel, show ¬ (("one" : Str) = "moment") by decide +kernel, show ¬ (("one" : Str) = "by") by decide +kernel, show ¬ (("one" : Str) = "is_sound") by decide +kernel, show ¬ (("one" : Str) = "other") by decide +kernel, show ¬ (("one" : Str) = "later") by decide +kernel, show ¬ (("other" : Str) = "kind") by decide +kernel, show ¬ (("other" : Str) = "_told") by decide +kernel, show ¬ (("other" : Str) = "tool") by decide +kernel, show ¬ (("other" : Str) = "moment") by decide +kernel, show ¬ (("other" : Str) = "by") by decide +kernel, show ¬ (("other" : Str) = "is_sound") by decide +kernel, show ¬ (("other" : Str) = "one") by decide +kernel, show ¬ (("other" : Str) = "later") by decide +kernel, show ¬ (("later" : Str) = "kind") by decide +kernel, show ¬ (("later" : Str) = "_told") by decide +kernel, show ¬ (("later" : Str) = "tool") by decide +kernel, show ¬ (("later" : Str) = "moment") by decide +kernel, show ¬ (("later" : Str) = "by") by decide +kernel, show ¬ (("later" : Str) = "is_sound") by decide +kernel, show ¬ (("later" : Str) = "one") by decide +kernel, show ¬ (("later" : Str) = "other") by decide +kernel, if_true, if_false]), (by simp only [lookup_putF, show ¬ (("kind" : Str) = "_told") by decide +kernel, show ¬ (("kind" : Str) = "tool") by decide +kernel, show ¬ (("kind" : Str) = "moment") by decide +kernel, show ¬ (("kind" : Str) = "by") by decide +kernel, show ¬ (("kind" : Str) = "is_sound") by decide +kernel, show ¬ (("kind" : Str) = "one") by decide +kernel, show ¬ (("kind" : Str) = "other") by decide +kernel, show ¬ (("kind" : Str) = "later") by decide +kernel, show ¬ (("_told" : Str) = "kind") by decide +kernel, show ¬ (("_told" : Str) = "tool") by decide +kernel, show ¬ (("_told" : Str) = "moment") by decide +kernel, show ¬ (("_told" : Str) = "by") by decide +kernel, show ¬ (("_told" : Str) = "is_sound") by decide +kernel, show ¬ (("_told" : Str) = "one") by decide +kernel, show ¬ (("_told" : Str) = "other") by decide +kernel, show ¬ (("_told" : Str) = "later") by decide +kernel, show ¬ (("tool" : Str) = "kind") by decide +kernel, show ¬ (("tool" : Str) = "_told") by decide +kernel, show ¬ (("tool" : Str) = "moment") by decide +kernel, show ¬ (("tool" : Str) = "by") by decide +kernel, show ¬ (("tool" : Str) = "is_sound") by decide +kernel, show ¬ (("tool" : Str) = "one") by decide +kernel, show ¬ (("tool" : Str) = "other") by decide +kernel, show ¬ (("tool" : Str) = "later") by decide +kernel, show ¬ (("moment" : Str) = "kind") by decide +kernel, show ¬ (("moment" : Str) = "_told") by decide +kernel, show ¬ (("moment" : Str) = "tool") by decide +kernel, show ¬ (("moment" : Str) = "by") by decide +kernel, show ¬ (("moment" : Str) = "is_sound") by decide +kernel, show ¬ (("moment" : Str) = "one") by decide +kernel, show ¬ (("moment" : Str) = "other") by decide +kernel, show ¬ (("moment" : Str) = "later") by decide +kernel, show ¬ (("by" : Str) = "kind") by decide +kernel, show ¬ (("by" : Str) = "_told") by decide +kernel, show ¬ (("by" : Str) = "tool") by decide +kernel, show ¬ (("by" : Str) = "moment") by decide +kernel, show ¬ (("by" : Str) = "is_sound") by decide +kernel, show ¬ (("by" : Str) = "one") by decide +kernel, show ¬ (("by" : Str) = "other") by decide +kernel, show ¬ (("by" : Str) = "later") by decide +kernel, show ¬ (("is_sound" : Str) = "kind") by decide +kernel, show ¬ (("is_sound" : Str) = "_told") by decide +kernel, show ¬ (("is_sound" : Str) = "tool") by decide +kernel, show ¬ (("is_sound" : Str) = "moment") by decide +kernel, show ¬ (("is_sound" : Str) = "by") by decide +kernel, show ¬ (("is_sound" : Str) = "one") by decide +kernel, show ¬ (("is_sound" : Str) = "other") by decide +kernel, show ¬ (("is_sound" : Str) = "later") by decide +kernel, show ¬ (("one" : Str) = "kind") by decide +kernel, show ¬ (("one" : Str) = "_told") by decide +kernel, show ¬ (("one" : Str) = "tool") by decide +kernel, show ¬ (("one" : Str) = "moment") by decide +kernel, show ¬ (("one" : Str) = "by") by decide +kernel, show ¬ (("one" : Str) = "is_sound") by decide +kernel, show ¬ (("one" : Str) = "other") by decide +kernel, show ¬ (("one" : Str) = "later") by decide +kernel, show ¬ (("other" : Str) = "kind") by decide +kernel, show ¬ (("other" : Str) = "_told") by decide +kernel, show ¬ (("other" : Str) = "tool") by decide +kernel, show ¬ (("other" : Str) = "moment") by decide +kernel, show ¬ (("other" : Str) = "by") by decide +kernel, show ¬ (("other" : Str) = "is_sound") by decide +kernel, show ¬ (("other" : Str) = "one") by decide +kernel, show ¬ (("other" : Str) = "later") by decide +kernel, show ¬ (("later" : Str) = "kind") by decide +kernel, show ¬ (("later" : Str) = "_told") by decide +kernel, show ¬ (("later" : Str) = "tool") by decide +kernel, show ¬ (("later" : Str) = "moment") by decide +kernel, show ¬ (("later" : Str) = "by") by decide +kernel, show ¬ (("later" : Str) = "is_sound") by decide +kernel, show ¬ (("later" : Str) = "one") by decide +kernel, show ¬ (("later" : Str) = "other") by decide +kernel, if_true, if_false]), fun _ h => nomatch h⟩
abbrev sTrusted : Stmt := inClass (topS 35) 0
theorem scTrusted : FnScope ["self", "tool"] ["self", "tool"] (defScope sTrusted) := ⟨rfl, rfl, rfl, by decide +kernel, rfl, by decide +kernel, by decide +kernel⟩
theorem ok_Trusted {CN CM CS C f fK : Addr} {fd fdK : FuncData} (F : Fun K "__init__" "Trusted.__init__" sTrusted f fd) (T : RowC K C ["_told", "kind", "tool"]) (FK : Fun K "checked" "checked" sChecked fK fdK) (bK : Binds K fdK ["kind", "told"] []) (gK : mg "checked" = some (.ref fK))
    (GK : FnOk P w K mg base (L2.CX P w) 4 fK fdK ["kind", "told"] (spChecked CN CM CS)) : FnOk P w K mg base (L2.CX P w) 5 f fd ["self", "tool"] (spRow CN CM CS C "trusted") := by
  refine F.okX scTrusted (fun vs H Q E h => ?_) (fun cdv A outer s H vs Q E hr h => ?_)
  · obtain ⟨x, dx, xs, rfl, _, hl, _⟩ := h
    show xs.length + 1 = 2
    have : (formsOf "trusted").length = 1 := by decide +kernel
    omega
  · obtain ⟨x, dx, xs, rfl, hx, hl, hg, qy, qn⟩ := h
    have hkin : ("trusted" : Str) ∈ kinds := by decide +kernel
    have hl4 : (formsOf "trusted").length = 1 := by decide +kernel
    obtain ⟨v0, rfl⟩ : ∃ v0, xs = [v0] := by
      rw [hl4] at hl
      match xs, hl with
      | [v0], _ => exact ⟨_, rfl⟩
    have no := T.no
    simp only [List.forall_mem_cons] at no
    obtain ⟨n0, n1, n2, _⟩ := no
    refine ⟨_, pss_cons (ps_fld (pv 0) (pe_call GK hr (by rfl) gK FK.kp bK .nil (passes_call (takes_of rfl rfl rfl rfl) (fun _ _ _ _ h => h)) (pa_cons pe_str (pa_cons (pe_tup (pa_cons (pv 1) pa_nil)) pa_nil))) rfl)
      (pss_cons (ps_fld (pv 0) pe_str rfl)
      (pss_one (ps_fld (pv 0) (pv 1) rfl))), ?_⟩
    refine ⟨_, rfl, by show 1 ≤ sizeLine; decide, fun tp htp => ?_⟩
    have s1 := same_upd0 (o := .tup [v0]) htp
    refine ⟨"trusted", tp, [v0], rfl, hkin, upd_same, hl, (fun y hy => (hg y hy).elim fun T h => ⟨T, h.same s1⟩), fun gd H2 s2 => ?_, fun C' fl v g d H' s e => qn C' fl v g d H' (s1.trans s) e⟩
    have hx2 := s2 _ _ (s1 _ _ hx)
    have s12 := s1.trans s2
    refine ⟨_, rfl, x, C, dx, [], rfl, hx2, T.cl, n0, by show 0 < 1000; decide, ?_⟩
    refine ⟨_, rfl, x, C, dx, _, rfl, upd_same, T.cl, n1, Nat.lt_of_le_of_lt (lenC (Nat.le_refl 0)) (by decide), ?_⟩
    refine ⟨_, rfl, _, rfl, x, C, dx, _, rfl, upd_same, T.cl, n2, Nat.lt_of_le_of_lt (lenC (lenC (Nat.le_refl 0))) (by decide), ?_⟩
    refine qy gd _ _ (fun c o nc e => ?_) upd_same ?_
    · rw [upd_ne nc, upd_ne nc, upd_ne nc]
      exact s12 c o e
    · have ntp : tp ≠ x := fun z => by rw [z, hx] at htp; cases htp
      have etp := s2 _ _ (show (upd H tp (.tup _)) tp = _ from upd_same)
      refine ⟨?_, ⟨tp, ?_, ?_⟩, ?_, (by repeat (first | exact NoM.nil | refine NoM.put ?_ (by decide +kernel)))⟩
      · simp only [lookup_putF, show ¬ (("kind" : Str) = "_told") by decide +kernel, show ¬ (("kind" : Str) = "tool") by decide +kernel, show ¬ (("kind" : Str) = "moment") by decide +kernel, show ¬ (("kind" : Str) = "by") by decide +kernel, show ¬ (("kind" : Str) = "is_sound") by decide +kernel, show ¬ (("kind" : Str) = "one") by decide +kernel, show ¬ (("kind" : Str) = "other") by decide +kernel, show ¬ (("kind" : Str) = "later") by decide +kernel, show ¬ (("_told" : Str) = "kind") by decide +kernel, show ¬ (("_told" : Str) = "tool") by decide +kernel, show ¬ (("_told" : Str) = "moment") by decide +kernel, show ¬ (("_told" : Str) = "by") by decide +kernel, show ¬ (("_told" : Str) = "is_sound") by decide +kernel, show ¬ (("_told" : Str) = "one") by decide +kernel, show ¬ (("_told" : Str) = "other") by decide +kernel, show ¬ (("_told" : Str) = "later") by decide +kernel, show ¬ (("tool" : Str) = "kind") by decide +kernel, show ¬ (("tool" : Str) = "_told") by decide +kernel, show ¬ (("tool" : Str) = "moment") by decide +kernel, show ¬ (("tool" : Str) = "by") by decide +kernel, show ¬ (("tool" : Str) = "is_sound") by decide +kernel, show ¬ (("tool" : Str) = "one") by decide +kernel, show ¬ (("tool" : Str) = "other") by decide +kernel, show ¬ (("tool" : Str) = "later") by decide +kernel, show ¬ (("moment" : Str) = "kind") by decide +kernel, show ¬ (("moment" : Str) = "_told") by decide +kernel, show ¬ (("moment" : Str) = "tool") by decide +kernel, show ¬ (("moment" : Str) = "by") by decide +kernel, show ¬ (("moment" : Str) = "is_sound") by decide +kernel, show ¬ (("moment" : Str) = "one") by decide +kernel, show ¬ (("moment" : Str) = "other") by decide +kernel, show ¬ (("moment" : Str) = "later") by decide +kernel, show ¬ (("by" : Str) = "kind") by decide +kernel, show ¬ (("by" : Str) = "_told") by decide +kernel, show ¬ (("by" : Str) = "tool") by decide +kernel, show ¬ (("by" : Str) = "moment") by decide +kernel, show ¬ (("by" : Str) = "is_sound") by decide +kernel, show ¬ (("by" : Str) = "one") by decide +kernel, show ¬ (("by" : Str) = "other") by decide +kernel, show ¬ (("by" : Str) = "later") by decide +kernel, show ¬ (("is_sound" : Str) = "kind") by decide +kernel, show ¬ (("is_sound" : Str) = "_told") by decide +kernel, show ¬ (("is_sound" : Str) = "tool") by decide +kernel, show ¬ (("is_sound" : Str) = "moment") by decide +kernel, show ¬ (("is_sound" : Str) = "by") by decide +kernel, show ¬ (("is_sound" : Str) = "one") by decide +kernel, show ¬ (("is_sound" : Str) = "other") by decide +kernel, show ¬ (("is_sound" : Str) = "later") by decide +kernel, show ¬ (("one" : Str) = "kind") by decide +kernel, show ¬ (("one" : Str) = "_told") by decide +kernel, show ¬ (("one" : Str) = "tool") by decide +kernel, show ¬ (("one" : Str) = "moment") by decide +kernel, show ¬ (("one" : Str) = "by") by decide +kernel, show ¬ (("one" : Str) = "is_sound") by decide +kernel, show ¬ (("one" : Str) = "other") by decide +kernel, show ¬ (("one" : Str) = "later") by decide +kernel, show ¬ (("other" : Str) = "kind") by decide +kernel, show ¬ (("other" : Str) = "_told") by decide +kernel, show ¬ (("other" : Str) = "tool") by decide +kernel, show ¬ (("other" : Str) = "moment") by decide +kernel, show ¬ (("other" : Str) = "by") by decide +kernel, show ¬ (("other" : Str) = "is_sound") by decide +kernel, show ¬ (("other" : Str) = "one") by decide +kernel, show ¬ (("other" : Str) = "later") by decide +kernel, show ¬ (("later" : Str) = "kind") by decide +kernel, show ¬ (("later" : Str) = "_told") by decide +kernel, show ¬ (("later" : Str) = "tool") by decide +kernel, show ¬ (("later" : Str) = "moment") by decide +kernel, show ¬ (("later" : Str) = "by") by decide +kernel, show ¬ (("later" : Str) = "is_sound") by decide +kernel, show ¬ (("later" : Str) = "one") by decide +kernel, show ¬ (("later" : Str) = "other") by decide +kernel, if_true, if_false]
      · simp only [lookup_putF, show ¬ (("kind" : Str) = "_told") by decide +kernel, show ¬ (("kind" : Str) = "tool") by decide +kernel, show ¬ (("kind" : Str) = "moment") by decide +kernel, show ¬ (("kind" : Str) = "by") by decide +kernel, show ¬ (("kind" : Str) = "is_sound") by decide +kernel, show ¬ (("kind" : Str) = "one") by decide +kernel, show ¬ (("kind" : Str) = "other") by decide +kernel, show ¬ (("kind" : Str) = "later") by decide +kernel, show ¬ (("_told" : Str) = "kind") by decide +kernel, show ¬ (("_told" : Str) = "tool") by decide +kernel, show ¬ (("_told" : Str) = "moment") by decide +kernel, show ¬ (("_told" : Str) = "by") by decide +kernel, show ¬ (("_told" : Str) = "is_sound") by decide +kernel, show ¬ (("_told" : Str) = "one") by decide +kernel, show ¬ (("_told" : Str) = "other") by decide +kernel, show ¬ (("_told" : Str) = "later") by decide +kernel, show ¬ (("tool" : Str) = "kind") by decide +kernel, show ¬ (("tool" : Str) = "_told") by decide +kernel, show ¬ (("tool" : Str) = "moment") by decide +kernel, show ¬ (("tool" : Str) = "by") by decide +kernel, show ¬ (("tool" : Str) = "is_sound") by decide +kernel, show ¬ (("tool" : Str) = "one") by decide +kernel, show ¬ (("tool" : Str) = "other") by decide +kernel, show ¬ (("tool" : Str) = "later") by decide +kernel, show ¬ (("moment" : Str) = "kind") by decide +kernel, show ¬ (("moment" : Str) = "_told") by decide +kernel, show ¬ (("moment" : Str) = "tool") by decide +kernel, show ¬ (("moment" : Str) = "by") by decide +kernel, show ¬ (("moment" : Str) = "is_sound") by decide +kernel, show ¬ (("moment" : Str) = "one") by decide +kernel, show ¬ (("moment" : Str) = "other") by decide +kernel, show ¬ (("moment" : Str) = "later") by decide +kernel, show ¬ (("by" : Str) = "kind") by decide +kernel, show ¬ (("by" : Str) = "_told") by decide +kernel, show ¬ (("by" : Str) = "tool") by decide +kernel, show ¬ (("by" : Str) = "moment") by decide +kernel, show ¬ (("by" : Str) = "is_sound") by decide +kernel, show ¬ (("by" : Str) = "one") by decide +kernel, show ¬ (("by" : Str) = "other") by decide +kernel, show ¬ (("by" : Str) = "later") by decide +kernel, show ¬ (("is_sound" : Str) = "kind") by decide +kernel, show ¬ (("is_sound" : Str) = "_told") by decide +kernel, show ¬ (("is_sound" : Str) = "tool") by decide +kernel, show ¬ (("is_sound" : Str) = "moment") by decide +kernel, show ¬ (("is_sound" : Str) = "by") by decide +kernel, show ¬ (("is_sound" : Str) = "one") by decide +kernel, show ¬ (("is_sound" : Str) = "other") by decide +kernel, show ¬ (("is_sound" : Str) = "later") by decide +kernel, show ¬ (("one" : Str) = "kind") by decide +kernel, show ¬ (("one" : Str) = "_told") by decide +kernel, show ¬ (("one" : Str) = "tool") by decide +kernel, show ¬ (("one" : Str) = "moment") by decide +kernel, show ¬ (("one" : Str) = "by") by decide +kernel, show ¬ (("one" : Str) = "is_sound") by decide +kernel, show ¬ (("one" : Str) = "other") by decide +kernel, show ¬ (("one" : Str) = "later") by decide +kernel, show ¬ (("other" : Str) = "kind") by decide +kernel, show ¬ (("other" : Str) = "_told") by decide +kernel, show ¬ (("other" : Str) = "tool") by decide +kernel, show ¬ (("other" : Str) = "moment") by decide +kernel, show ¬ (("other" : Str) = "by") by decide +kernel, show ¬ (("other" : Str) = "is_sound") by decide +kernel, show ¬ (("other" : Str) = "one") by decide +kernel, show ¬ (("other" : Str) = "later") by decide +kernel, show ¬ (("later" : Str) = "kind") by decide +kernel, show ¬ (("later" : Str) = "_told") by decide +kernel, show ¬ (("later" : Str) = "tool") by decide +kernel, show ¬ (("later" : Str) = "moment") by decide +kernel, show ¬ (("later" : Str) = "by") by decide +kernel, show ¬ (("later" : Str) = "is_sound") by decide +kernel, show ¬ (("later" : Str) = "one") by decide +kernel, show ¬ (("later" : Str) = "other") by decide +kernel, if_true, if_false]
      · repeat rw [upd_ne ntp]
        exact etp
      · rw [attrs_trusted]
        simp only [List.zip_cons_cons, List.zip_nil_right, List.forall_mem_cons]
        refine ⟨(by simp only [lookup_putF, show ¬ (("kind" : Str) = "_told") by decide +kernel, show ¬ (("kind" : Str) = "tool") by decide +kernel, show ¬ (("kind" : Str) = "moment") by decide +kernel, show ¬ (("kind" : Str) = "by") by decide +kernel, show ¬ (("kind" : Str) = "is_sound") by decide +kernel, show ¬ (("kind" : Str) = "one") by decide +kernel, show ¬ (("kind" : Str) = "other") by decide +kernel, show ¬ (("kind" : Str) = "later") by decide +kernel, show ¬ (("_told" : Str) = "kind") by decide +kernel, show ¬ (("_told" : Str) = "tool") by decide +kernel, show ¬ (("_told" : Str) = "moment") by decide +kernel, show ¬ (("_told" : Str) = "by") by decide +kernel, show ¬ (("_told" : Str) = "is_sound") by decide +kernel, show ¬ (("_told" : Str) = "one") by decide +kernel, show ¬ (("_told" : Str) = "other") by decide +kernel, show ¬ (("_told" : Str) = "later") by decide +kernel, show ¬ (("tool" : Str) = "kind") by decide +kernel, show ¬ (("tool" : Str) = "_told") by decide +kernel, show ¬ (("tool" : Str) = "moment") by decide +kernel, show ¬ (("tool" : Str) = "by") by decide +kernel, show ¬ (("tool" : Str) = "is_sound") by decide +kernel, show ¬ (("tool" : Str) = "one") by decide +kernel, show ¬ (("tool" : Str) = "other") by decide +kernel, show ¬ (("tool" : Str) = "later") by decide +kernel, show ¬ (("moment" : Str) = "kind") by decide +kernel, show ¬ (("moment" : Str) = "_told") by decide +kernel, show ¬ (("moment" : Str) = "tool") by decide +kernel, show ¬ (("moment" : Str) = "by") by decide +kernel, show ¬ (("moment" : Str) = "is_sound") by decide +kernel, show ¬ (("moment" : Str) = "one") by decide +kernel, show ¬ (("moment" : Str) = "other") by decide +kernel, show ¬ (("moment" : Str) = "later") by decide +kernel, show ¬ (("by" : Str) = "kind") by decide +kernel, show ¬ (("by" : Str) = "_told") by decide +kernel, show ¬ (("by" : Str) = "tool") by decide +kernel, show ¬ (("by" : Str) = "moment") by decide +kernel, show ¬ (("by" : Str) = "is_sound") by decide +kernel, show ¬ (("by" : Str) = "one") by decide +kernel, show ¬ (("by" : Str) = "other") by decide +kernel, show ¬ (("by" : Str) = "later") by decide +kernel, show ¬ (("is_sound" : Str) = "kind") by decide +kernel, show ¬ (("is_sound" : Str) = "_told") by decide +kernel, show ¬ (("is_sound" : Str) = "tool") by decide +kernel, show ¬ (("is_sound" : Str) = "moment") by decide +kernel, show ¬ (("is_sound" : Str) = "by") by decide +kernel, show ¬ (("is_sound" : Str) = "one") by decide +kernel, show ¬ (("is_sound" : Str) = "other") by decide +kernel, show ¬ (("is_sound" : Str) = "later") by decide +kernel, show ¬ (("one" : Str) = "kind") by decide +kernel, show ¬ (("one" : Str) = "_told") by decide +kernel, show ¬ (("one" : Str) = "tool") by decide +kernel, show ¬ (("one" : Str) = "moment") by decide +kernel, show ¬ (("one" : Str) = "by") by decide +kernel, show ¬ (("one" : Str) = "is_sound") by decide +kernel, show ¬ (("one" : Str) = "other") by decide +kernel, show ¬ (("one" : Str) = "later") by decide +kernel, show ¬ (("other" : Str) = "kind") by decide +kernel, show ¬ (("other" : Str) = "_told") by decide +kernel, show ¬ (("other" : Str) = "tool") by decide +kernel, show ¬ (("other" : Str) = "moment") by decide +kernel, show ¬ (("other" : Str) = "by") by decide +kernel, show ¬ (("other" : Str) = "is_sound") by decide +kernel, show ¬ (("other" : Str) = "one") by decide +kernel, show ¬ (("other" : Str) = "later") by decide +kernel, show ¬ (("later" : Str) = "kind") by decide +kernel, show ¬ (("later" : Str) = "_told") by decide +kernel, show ¬ (("later" : Str) = "tool") by decide +kernel, show ¬ (("later" : Str) = "moment") by decide +kernel, show ¬ (("later" : Str) = "by") by decide +kernel, show ¬ (("later" : Str) = "is_sound") by decide +kernel, show ¬ (("later" : Str) = "one") by decide +kernel, show ¬ (("later" : Str) = "other") by decide +kernel, if_true, if_false]), fun _ h => nomatch h⟩
abbrev sPassed : Stmt := inClass (topS 36) 0
theorem scPassed : FnScope ["self", "tool", "moment", "by"] ["self", "tool", "moment", "by"] (defScope sPassed) := ⟨rfl, rfl, rfl, by decide +kernel, rfl, by decide +kernel, by decide +kernel⟩
theorem ok_Passed {CN CM CS C f fK : Addr} {fd fdK : FuncData} (F : Fun K "__init__" "Passed.__init__" sPassed f fd) (T : RowC K C ["_told", "kind", "tool", "moment", "by"]) (FK : Fun K "checked" "checked" sChecked fK fdK) (bK : Binds K fdK ["kind", "told"] []) (gK : mg "checked" = some (.ref fK))
    (GK : FnOk P w K mg base (L2.CX P w) 4 fK fdK ["kind", "told"] (spChecked CN CM CS)) : FnOk P w K mg base (L2.CX P w) 5 f fd ["self", "tool", "moment", "by"] (spRow CN CM CS C "passed") := by
  refine F.okX scPassed (fun vs H Q E h => ?_) (fun cdv A outer s H vs Q E hr h => ?_)
  · obtain ⟨x, dx, xs, rfl, _, hl, _⟩ := h
    show xs.length + 1 = 4
    have : (formsOf "passed").length = 3 := by decide +kernel
    omega
  · obtain ⟨x, dx, xs, rfl, hx, hl, hg, qy, qn⟩ := h
    have hkin : ("passed" : Str) ∈ kinds := by decide +kernel
    have hl4 : (formsOf "passed").length = 3 := by decide +kernel
    obtain ⟨v0, v1, v2, rfl⟩ : ∃ v0 v1 v2, xs = [v0, v1, v2] := by
      rw [hl4] at hl
      match xs, hl with
      | [v0, v1, v2], _ => exact ⟨_, _, _, rfl⟩
    have no := T.no
    simp only [List.forall_mem_cons] at no
    obtain ⟨n0, n1, n2, n3, n4, _⟩ := no
    refine ⟨_, pss_cons (ps_fld (pv 0) (pe_call GK hr (by rfl) gK FK.kp bK .nil (passes_call (takes_of rfl rfl rfl rfl) (fun _ _ _ _ h => h)) (pa_cons pe_str (pa_cons (pe_tup (pa_cons (pv 1) (pa_cons (pv 2) (pa_cons (pv 3) pa_nil)))) pa_nil))) rfl)
      (pss_cons (ps_fld (pv 0) pe_str rfl)
      (pss_cons (ps_fld (pv 0) (pv 1) rfl) (pss_cons (ps_fld (pv 0) (pv 2) rfl) (pss_one (ps_fld (pv 0) (pv 3) rfl))))), ?_⟩
    refine ⟨_, rfl, _, rfl, _, rfl, by show 3 ≤ sizeLine; decide, fun tp htp => ?_⟩
    have s1 := same_upd0 (o := .tup [v0, v1, v2]) htp
    refine ⟨"passed", tp, [v0, v1, v2], rfl, hkin, upd_same, hl, (fun y hy => (hg y hy).elim fun T h => ⟨T, h.same s1⟩), fun gd H2 s2 => ?_, fun C' fl v g d H' s e => qn C' fl v g d H' (s1.trans s) e⟩
    have hx2 := s2 _ _ (s1 _ _ hx)
    have s12 := s1.trans s2
    refine ⟨_, rfl, x, C, dx, [], rfl, hx2, T.cl, n0, by show 0 < 1000; decide, ?_⟩
    refine ⟨_, rfl, x, C, dx, _, rfl, upd_same, T.cl, n1, Nat.lt_of_le_of_lt (lenC (Nat.le_refl 0)) (by decide), ?_⟩
    refine ⟨_, rfl, _, rfl, x, C, dx, _, rfl, upd_same, T.cl, n2, Nat.lt_of_le_of_lt (lenC (lenC (Nat.le_refl 0))) (by decide), ?_⟩
    refine ⟨_, rfl, _, rfl, x, C, dx, _, rfl, upd_same, T.cl, n3, Nat.lt_of_le_of_lt (lenC (lenC (lenC (Nat.le_refl 0)))) (by decide), ?_⟩
    refine ⟨_, rfl, _, rfl, x, C, dx, _, rfl, upd_same, T.cl, n4, Nat.lt_of_le_of_lt (lenC (lenC (lenC (lenC (Nat.le_refl 0))))) (by decide), ?_⟩
    refine qy gd _ _ (fun c o nc e => ?_) upd_same ?_
    · rw [upd_ne nc, upd_ne nc, upd_ne nc, upd_ne nc, upd_ne nc]
      exact s12 c o e
    · have ntp : tp ≠ x := fun z => by rw [z, hx] at htp; cases htp
      have etp := s2 _ _ (show (upd H tp (.tup _)) tp = _ from upd_same)
      refine ⟨?_, ⟨tp, ?_, ?_⟩, ?_, (by repeat (first | exact NoM.nil | refine NoM.put ?_ (by decide +kernel)))⟩
      · simp only [lookup_putF, show ¬ (("kind" : Str) = "_told") by decide +kernel, show ¬ (("kind" : Str) = "tool") by decide +kernel, show ¬ (("kind" : Str) = "moment") by decide +kernel, show ¬ (("kind" : Str) = "by") by decide +kernel, show ¬ (("kind" : Str) = "is_sound") by decide +kernel, show ¬ (("kind" : Str) = "one") by decide +kernel, show ¬ (("kind" : Str) = "other") by decide +kernel, show ¬ (("kind" : Str) = "later") by decide +kernel, show ¬ (("_told" : Str) = "kind") by decide +kernel, show ¬ (("_told" : Str) = "tool") by decide +kernel, show ¬ (("_told" : Str) = "moment") by decide +kernel, show ¬ (("_told" : Str) = "by") by decide +kernel, show ¬ (("_told" : Str) = "is_sound") by decide +kernel, show ¬ (("_told" : Str) = "one") by decide +kernel, show ¬ (("_told" : Str) = "other") by decide +kernel, show ¬ (("_told" : Str) = "later") by decide +kernel, show ¬ (("tool" : Str) = "kind") by decide +kernel, show ¬ (("tool" : Str) = "_told") by decide +kernel, show ¬ (("tool" : Str) = "moment") by decide +kernel, show ¬ (("tool" : Str) = "by") by decide +kernel, show ¬ (("tool" : Str) = "is_sound") by decide +kernel, show ¬ (("tool" : Str) = "one") by decide +kernel, show ¬ (("tool" : Str) = "other") by decide +kernel, show ¬ (("tool" : Str) = "later") by decide +kernel, show ¬ (("moment" : Str) = "kind") by decide +kernel, show ¬ (("moment" : Str) = "_told") by decide +kernel, show ¬ (("moment" : Str) = "tool") by decide +kernel, show ¬ (("moment" : Str) = "by") by decide +kernel, show ¬ (("moment" : Str) = "is_sound") by decide +kernel, show ¬ (("moment" : Str) = "one") by decide +kernel, show ¬ (("moment" : Str) = "other") by decide +kernel, show ¬ (("moment" : Str) = "later") by decide +kernel, show ¬ (("by" : Str) = "kind") by decide +kernel, show ¬ (("by" : Str) = "_told") by decide +kernel, show ¬ (("by" : Str) = "tool") by decide +kernel, show ¬ (("by" : Str) = "moment") by decide +kernel, show ¬ (("by" : Str) = "is_sound") by decide +kernel, show ¬ (("by" : Str) = "one") by decide +kernel, show ¬ (("by" : Str) = "other") by decide +kernel, show ¬ (("by" : Str) = "later") by decide +kernel, show ¬ (("is_sound" : Str) = "kind") by decide +kernel, show ¬ (("is_sound" : Str) = "_told") by decide +kernel, show ¬ (("is_sound" : Str) = "tool") by decide +kernel, show ¬ (("is_sound" : Str) = "moment") by decide +kernel, show ¬ (("is_sound" : Str) = "by") by decide +kernel, show ¬ (("is_sound" : Str) = "one") by decide +kernel, show ¬ (("is_sound" : Str) = "other") by decide +kernel, show ¬ (("is_sound" : Str) = "later") by decide +kernel, show ¬ (("one" : Str) = "kind") by decide +kernel, show ¬ (("one" : Str) = "_told") by decide +kernel, show ¬ (("one" : Str) = "tool") by decide +kernel, show ¬ (("one" : Str) = "moment") by decide +kernel, show ¬ (("one" : Str) = "by") by decide +kernel, show ¬ (("one" : Str) = "is_sound") by decide +kernel, show ¬ (("one" : Str) = "other") by decide +kernel, show ¬ (("one" : Str) = "later") by decide +kernel, show ¬ (("other" : Str) = "kind") by decide +kernel, show ¬ (("other" : Str) = "_told") by decide +kernel, show ¬ (("other" : Str) = "tool") by decide +kernel, show ¬ (("other" : Str) = "moment") by decide +kernel, show ¬ (("other" : Str) = "by") by decide +kernel, show ¬ (("other" : Str) = "is_sound") by decide +kernel, show ¬ (("other" : Str) = "one") by decide +kernel, show ¬ (("other" : Str) = "later") by decide +kernel, show ¬ (("later" : Str) = "kind") by decide +kernel, show ¬ (("later" : Str) = "_told") by decide +kernel, show ¬ (("later" : Str) = "tool") by decide +kernel, show ¬ (("later" : Str) = "moment") by decide +kernel, show ¬ (("later" : Str) = "by") by decide +kernel, show ¬ (("later" : Str) = "is_sound") by decide +kernel, show ¬ (("later" : Str) = "one") by decide +kernel, show ¬ (("later" : Str) = "other") by decide +kernel, if_true, if_false]
      · simp only [lookup_putF, show ¬ (("kind" : Str) = "_told") by decide +kernel, show ¬ (("kind" : Str) = "tool") by decide +kernel, show ¬ (("kind" : Str) = "moment") by decide +kernel, show ¬ (("kind" : Str) = "by") by decide +kernel, show ¬ (("kind" : Str) = "is_sound") by decide +kernel, show ¬ (("kind" : Str) = "one") by decide +kernel, show ¬ (("kind" : Str) = "other") by decide +kernel, show ¬ (("kind" : Str) = "later") by decide +kernel, show ¬ (("_told" : Str) = "kind") by decide +kernel, show ¬ (("_told" : Str) = "tool") by decide +kernel, show ¬ (("_told" : Str) = "moment") by decide +kernel, show ¬ (("_told" : Str) = "by") by decide +kernel, show ¬ (("_told" : Str) = "is_sound") by decide +kernel, show ¬ (("_told" : Str) = "one") by decide +kernel, show ¬ (("_told" : Str) = "other") by decide +kernel, show ¬ (("_told" : Str) = "later") by decide +kernel, show ¬ (("tool" : Str) = "kind") by decide +kernel, show ¬ (("tool" : Str) = "_told") by decide +kernel, show ¬ (("tool" : Str) = "moment") by decide +kernel, show ¬ (("tool" : Str) = "by") by decide +kernel, show ¬ (("tool" : Str) = "is_sound") by decide +kernel, show ¬ (("tool" : Str) = "one") by decide +kernel, show ¬ (("tool" : Str) = "other") by decide +kernel, show ¬ (("tool" : Str) = "later") by decide +kernel, show ¬ (("moment" : Str) = "kind") by decide +kernel, show ¬ (("moment" : Str) = "_told") by decide +kernel, show ¬ (("moment" : Str) = "tool") by decide +kernel, show ¬ (("moment" : Str) = "by") by decide +kernel, show ¬ (("moment" : Str) = "is_sound") by decide +kernel, show ¬ (("moment" : Str) = "one") by decide +kernel, show ¬ (("moment" : Str) = "other") by decide +kernel, show ¬ (("moment" : Str) = "later") by decide +kernel, show ¬ (("by" : Str) = "kind") by decide +kernel, show ¬ (("by" : Str) = "_told") by decide +kernel, show ¬ (("by" : Str) = "tool") by decide +kernel, show ¬ (("by" : Str) = "moment") by decide +kernel, show ¬ (("by" : Str) = "is_sound") by decide +kernel, show ¬ (("by" : Str) = "one") by decide +kernel, show ¬ (("by" : Str) = "other") by decide +kernel, show ¬ (("by" : Str) = "later") by decide +kernel, show ¬ (("is_sound" : Str) = "kind") by decide +kernel, show ¬ (("is_sound" : Str) = "_told") by decide +kernel, show ¬ (("is_sound" : Str) = "tool") by decide +kernel, show ¬ (("is_sound" : Str) = "moment") by decide +kernel, show ¬ (("is_sound" : Str) = "by") by decide +kernel, show ¬ (("is_sound" : Str) = "one") by decide +kernel, show ¬ (("is_sound" : Str) = "other") by decide +kernel, show ¬ (("is_sound" : Str) = "later") by decide +kernel, show ¬ (("one" : Str) = "kind") by decide +kernel, show ¬ (("one" : Str) = "_told") by decide +kernel, show ¬ (("one" : Str) = "tool") by decide +kernel, show ¬ (("one" : Str) = "moment") by decide +kernel, show ¬ (("one" : Str) = "by") by decide +kernel, show ¬ (("one" : Str) = "is_sound") by decide +kernel, show ¬ (("one" : Str) = "other") by decide +kernel, show ¬ (("one" : Str) = "later") by decide +kernel, show ¬ (("other" : Str) = "kind") by decide +kernel, show ¬ (("other" : Str) = "_told") by decide +kernel, show ¬ (("other" : Str) = "tool") by decide +kernel, show ¬ (("other" : Str) = "moment") by decide +kernel, show ¬ (("other" : Str) = "by") by decide +kernel, show ¬ (("other" : Str) = "is_sound") by decide +kernel, show ¬ (("other" : Str) = "one") by decide +kernel, show ¬ (("other" : Str) = "later") by decide +kernel, show ¬ (("later" : Str) = "kind") by decide +kernel, show ¬ (("later" : Str) = "_told") by decide +kernel, show ¬ (("later" : Str) = "tool") by decide +kernel, show ¬ (("later" : Str) = "moment") by decide +kernel, show ¬ (("later" : Str) = "by") by decide +kernel, show ¬ (("later" : Str) = "is_sound") by decide +kernel, show ¬ (("later" : Str) = "one") by decide +kernel, show ¬ (("later" : Str) = "other") by decide +kernel, if_true, if_false]
      · repeat rw [upd_ne ntp]
        exact etp
      · rw [attrs_passed]
        simp only [List.zip_cons_cons, List.zip_nil_right, List.forall_mem_cons]
        refine ⟨(by simp only [lookup_putF, show ¬ (("kind" : Str) = "_told") by decide +kernel, show ¬ (("kind" : Str) = "tool") by decide +kernel, show ¬ (("kind" : Str) = "moment") by decide +kernel, show ¬ (("kind" : Str) = "by") by decide +kernel, show ¬ (("kind" : Str) = "is_sound") by decide +kernel, show ¬ (("kind" : Str) = "one") by decide +kernel, show ¬ (("kind" : Str) = "other") by decide +kernel, show ¬ (("kind" : Str) = "later") by decide +kernel, show ¬ (("_told" : Str) = "kind") by decide +kernel, show ¬ (("_told" : Str) = "tool") by decide +kernel, show ¬ (("_told" : Str) = "moment") by decide +kernel, show ¬ (("_told" : Str) = "by") by decide +kernel, show ¬ (("_told" : Str) = "is_sound") by decide +kernel, show ¬ (("_told" : Str) = "one") by decide +kernel, show ¬ (("_told" : Str) = "other") by decide +kernel, show ¬ (("_told" : Str) = "later") by decide +kernel, show ¬ (("tool" : Str) = "kind") by decide +kernel, show ¬ (("tool" : Str) = "_told") by decide +kernel, show ¬ (("tool" : Str) = "moment") by decide +kernel, show ¬ (("tool" : Str) = "by") by decide +kernel, show ¬ (("tool" : Str) = "is_sound") by decide +kernel, show ¬ (("tool" : Str) = "one") by decide +kernel, show ¬ (("tool" : Str) = "other") by decide +kernel, show ¬ (("tool" : Str) = "later") by decide +kernel, show ¬ (("moment" : Str) = "kind") by decide +kernel, show ¬ (("moment" : Str) = "_told") by decide +kernel, show ¬ (("moment" : Str) = "tool") by decide +kernel, show ¬ (("moment" : Str) = "by") by decide +kernel, show ¬ (("moment" : Str) = "is_sound") by decide +kernel, show ¬ (("moment" : Str) = "one") by decide +kernel, show ¬ (("moment" : Str) = "other") by decide +kernel, show ¬ (("moment" : Str) = "later") by decide +kernel, show ¬ (("by" : Str) = "kind") by decide +kernel, show ¬ (("by" : Str) = "_told") by decide +kernel, show ¬ (("by" : Str) = "tool") by decide +kernel, show ¬ (("by" : Str) = "moment") by decide +kernel, show ¬ (("by" : Str) = "is_sound") by decide +kernel, show ¬ (("by" : Str) = "one") by decide +kernel, show ¬ (("by" : Str) = "other") by decide +kernel, show ¬ (("by" : Str) = "later") by decide +kernel, show ¬ (("is_sound" : Str) = "kind") by decide +kernel, show ¬ (("is_sound" : Str) = "_told") by decide +kernel, show ¬ (("is_sound" : Str) = "tool") by decide +kernel, show ¬ (("is_sound" : Str) = "moment") by decide +kernel, show ¬ (("is_sound" : Str) = "by") by decide +kernel, show ¬ (("is_sound" : Str) = "one") by decide +kernel, show ¬ (("is_sound" : Str) = "other") by decide +kernel, show ¬ (("is_sound" : Str) = "later") by decide +kernel, show ¬ (("one" : Str) = "kind") by decide +kernel, show ¬ (("one" : Str) = "_told") by decide +kernel, show ¬ (("one" : Str) = "tool") by decide +kernel, show ¬ (("one" : Str) = "moment") by decide +kernel, show ¬ (("one" : Str) = "by") by decide +kernel, show ¬ (("one" : Str) = "is_sound") by decide +kernel, show ¬ (("one" : Str) = "other") by decide +kernel, show ¬ (("one" : Str) = "later") by decide +kernel, show ¬ (("other" : Str) = "kind") by decide +kernel, show ¬ (("other" : Str) = "_told") by decide +kernel, show ¬ (("other" : Str) = "tool") by decide +kernel, show ¬ (("other" : Str) = "moment") by decide +kernel, show ¬ (("other" : Str) = "by") by decide +kernel, show ¬ (("other" : Str) = "is_sound") by decide +kernel, show ¬ (("other" : Str) = "one") by decide +kernel, show ¬ (("other" : Str) = "later") by decide +kernel, show ¬ (("later" : Str) = "kind") by decide +kernel, show ¬ (("later" : Str) = "_told") by decide +kernel, show ¬ (("later" : Str) = "tool") by decide +kernel, show ¬ (("later" : Str) = "moment") by decide +kernel, show ¬ (("later" : Str) = "by") by decide +kernel, show ¬ (("later" : Str) = "is_sound") by decide +kernel, show ¬ (("later" : Str) = "one") by decide +kernel, show ¬ (("later" : Str) = "other") by decide +kernel, if_true, if_false]), (by simp only [lookup_putF, show ¬ (("kind" : Str) = "_told") by decide +kernel, show ¬ (("kind" : Str) = "tool") by decide +kernel, show ¬ (("kind" : Str) = "moment") by decide +kernel, show ¬ (("kind" : Str) = "by") by decide +kernel, show ¬ (("kind" : Str) = "is_sound") by decide +kernel, show ¬ (("kind" : Str) = "one") by decide +kernel, show ¬ (("kind" : Str) = "other") by decide +kernel, show ¬ (("kind" : Str) = "later") by decide +kernel, show ¬ (("_told" : Str) = "kind") by decide +kernel, show ¬ (("_told" : Str) = "tool") by decide +kernel, show ¬ (("_told" : Str) = "moment") by decide +kernel, show ¬ (("_told" : Str) = "by") by decide +kernel, show ¬ (("_told" : Str) = "is_sound") by decide +kernel, show ¬ (("_told" : Str) = "one") by decide +kernel, show ¬ (("_told" : Str) = "other") by decide +kernel, show ¬ (("_told" : Str) = "later") by decide +kernel, show ¬ (("tool" : Str) = "kind") by decide +kernel, show ¬ (("tool" : Str) = "_told") by decide +kernel, show ¬ (("tool" : Str) = "moment") by decide +kernel, show ¬ (("tool" : Str) = "by") by decide +kernel, show ¬ (("tool" : Str) = "is_sound") by decide +kernel, show ¬ (("tool" : Str) = "one") by decide +kernel, show ¬ (("tool" : Str) = "other") by decide +kernel, show ¬ (("tool" : Str) = "later") by decide +kernel, show ¬ (("moment" : Str) = "kind") by decide +kernel, show ¬ (("moment" : Str) = "_told") by decide +kernel, show ¬ (("moment" : Str) = "tool") by decide +kernel, show ¬ (("moment" : Str) = "by") by decide +kernel, show ¬ (("moment" : Str) = "is_sound") by decide +kernel, show ¬ (("moment" : Str) = "one") by decide +kernel, show ¬ (("moment" : Str) = "other") by decide +kernel, show ¬ (("moment" : Str) = "later") by decide +kernel, show ¬ (("by" : Str) = "kind") by decide +kernel, show ¬ (("by" : Str) = "_told") by decide +kernel, show ¬ (("by" : Str) = "tool") by decide +kernel, show ¬ (("by" : Str) = "moment") by decide +kernel, show ¬ (("by" : Str) = "is_sound") by decide +kernel, show ¬ (("by" : Str) = "one") by decide +kernel, show ¬ (("by" : Str) = "other") by decide +kernel, show ¬ (("by" : Str) = "later") by decide +kernel, show ¬ (("is_sound" : Str) = "kind") by decide +kernel, show ¬ (("is_sound" : Str) = "_told") by decide +kernel, show ¬ (("is_sound" : Str) = "tool") by decide +kernel, show ¬ (("is_sound" : Str) = "moment") by decide +kernel, show ¬ (("is_sound" : Str) = "by") by decide +kernel, show ¬ (("is_sound" : Str) = "one") by decide +kernel, show ¬ (("is_sound" : Str) = "other") by decide +kernel, show ¬ (("is_sound" : Str) = "later") by decide +kernel, show ¬ (("one" : Str) = "kind") by decide +kernel, show ¬ (("one" : Str) = "_told") by decide +kernel, show ¬ (("one" : Str) = "tool") by decide +kernel, show ¬ (("one" : Str) = "moment") by decide +kernel, show ¬ (("one" : Str) = "by") by decide +kernel, show ¬ (("one" : Str) = "is_sound") by decide +kernel, show ¬ (("one" : Str) = "other") by decide +kernel, show ¬ (("one" : Str) = "later") by decide +kernel, show ¬ (("other" : Str) = "kind") by decide +kernel, show ¬ (("other" : Str) = "_told") by decide +kernel, show ¬ (("other" : Str) = "tool") by decide +kernel, show ¬ (("other" : Str) = "moment") by decide +kernel, show ¬ (("other" : Str) = "by") by decide +kernel, show ¬ (("other" : Str) = "is_sound") by decide +kernel, show ¬ (("other" : Str) = "one") by decide +kernel, show ¬ (("other" : Str) = "later") by decide +kernel, show ¬ (("later" : Str) = "kind") by decide +kernel, show ¬ (("later" : Str) = "_told") by decide +kernel, show ¬ (("later" : Str) = "tool") by decide +kernel, show ¬ (("later" : Str) = "moment") by decide +kernel, show ¬ (("later" : Str) = "by") by decide +kernel, show ¬ (("later" : Str) = "is_sound") by decide +kernel, show ¬ (("later" : Str) = "one") by decide +kernel, show ¬ (("later" : Str) = "other") by decide +kernel, if_true, if_false]), (by simp only [lookup_putF, show ¬ (("kind" : Str) = "_told") by decide +kernel, show ¬ (("kind" : Str) = "tool") by decide +kernel, show ¬ (("kind" : Str) = "moment") by decide +kernel, show ¬ (("kind" : Str) = "by") by decide +kernel, show ¬ (("kind" : Str) = "is_sound") by decide +kernel, show ¬ (("kind" : Str) = "one") by decide +kernel, show ¬ (("kind" : Str) = "other") by decide +kernel, show ¬ (("kind" : Str) = "later") by decide +kernel, show ¬ (("_told" : Str) = "kind") by decide +kernel, show ¬ (("_told" : Str) = "tool") by decide +kernel, show ¬ (("_told" : Str) = "moment") by decide +kernel, show ¬ (("_told" : Str) = "by") by decide +kernel, show ¬ (("_told" : Str) = "is_sound") by decide +kernel, show ¬ (("_told" : Str) = "one") by decide +kernel, show ¬ (("_told" : Str) = "other") by decide +kernel, show ¬ (("_told" : Str) = "later") by decide +kernel, show ¬ (("tool" : Str) = "kind") by decide +kernel, show ¬ (("tool" : Str) = "_told") by decide +kernel, show ¬ (("tool" : Str) = "moment") by decide +kernel, show ¬ (("tool" : Str) = "by") by decide +kernel, show ¬ (("tool" : Str) = "is_sound") by decide +kernel, show ¬ (("tool" : Str) = "one") by decide +kernel, show ¬ (("tool" : Str) = "other") by decide +kernel, show ¬ (("tool" : Str) = "later") by decide +kernel, show ¬ (("moment" : Str) = "kind") by decide +kernel, show ¬ (("moment" : Str) = "_told") by decide +kernel, show ¬ (("moment" : Str) = "tool") by decide +kernel, show ¬ (("moment" : Str) = "by") by decide +kernel, show ¬ (("moment" : Str) = "is_sound") by decide +kernel, show ¬ (("moment" : Str) = "one") by decide +kernel, show ¬ (("moment" : Str) = "other") by decide +kernel, show ¬ (("moment" : Str) = "later") by decide +kernel, show ¬ (("by" : Str) = "kind") by decide +kernel, show ¬ (("by" : Str) = "_told") by decide +kernel, show ¬ (("by" : Str) = "tool") by decide +kernel, show ¬ (("by" : Str) = "moment") by decide +kernel, show ¬ (("by" : Str) = "is_sound") by decide +kernel, show ¬ (("by" : Str) = "one") by decide +kernel, show ¬ (("by" : Str) = "other") by decide +kernel, show ¬ (("by" : Str) = "later") by decide +kernel, show ¬ (("is_sound" : Str) = "kind") by decide +kernel, show ¬ (("is_sound" : Str) = "_told") by decide +kernel, show ¬ (("is_sound" : Str) = "tool") by decide +kernel, show ¬ (("is_sound" : Str) = "moment") by decide +kernel, show ¬ (("is_sound" : Str) = "by") by decide +kernel, show ¬ (("is_sound" : Str) = "one") by decide +kernel, show ¬ (("is_sound" : Str) = "other") by decide +kernel, show ¬ (("is_sound" : Str) = "later") by decide +kernel, show ¬ (("one" : Str) = "kind") by decide +kernel, show ¬ (("one" : Str) = "_told") by decide +kernel, show ¬ (("one" : Str) = "tool") by decide +kernel, show ¬ (("one" : Str) = "moment") by decide +kernel, show ¬ (("one" : Str) = "by") by decide +kernel, show ¬ (("one" : Str) = "is_sound") by decide +kernel, show ¬ (("one" : Str) = "other") by decide +kernel, show ¬ (("one" : Str) = "later") by decide +kernel, show ¬ (("other" : Str) = "kind") by decide +kernel, show ¬ (("other" : Str) = "_told") by decide +kernel, show ¬ (("other" : Str) = "tool") by decide +kernel, show ¬ (("other" : Str) = "moment") by decide +kernel, show ¬ (("other" : Str) = "by") by decide +kernel, show ¬ (("other" : Str) = "is_sound") by decide +kernel, show ¬ (("other" : Str) = "one") by decide +kernel, show ¬ (("other" : Str) = "later") by decide +kernel, show ¬ (("later" : Str) = "kind") by decide +kernel, show ¬ (("later" : Str) = "_told") by decide +kernel, show ¬ (("later" : Str) = "tool") by decide +kernel, show ¬ (("later" : Str) = "moment") by decide +kernel, show ¬ (("later" : Str) = "by") by decide +kernel, show ¬ (("later" : Str) = "is_sound") by decide +kernel, show ¬ (("later" : Str) = "one") by decide +kernel, show ¬ (("later" : Str) = "other") by decide +kernel, if_true, if_false]), fun _ h => nomatch h⟩
abbrev sFailed : Stmt := inClass (topS 37) 0
theorem scFailed : FnScope ["self", "tool", "moment", "by"] ["self", "tool", "moment", "by"] (defScope sFailed) := ⟨rfl, rfl, rfl, by decide +kernel, rfl, by decide +kernel, by decide +kernel⟩
theorem ok_Failed {CN CM CS C f fK : Addr} {fd fdK : FuncData} (F : Fun K "__init__" "Failed.__init__" sFailed f fd) (T : RowC K C ["_told", "kind", "tool", "moment", "by"]) (FK : Fun K "checked" "checked" sChecked fK fdK) (bK : Binds K fdK ["kind", "told"] []) (gK : mg "checked" = some (.ref fK))
    (GK : FnOk P w K mg base (L2.CX P w) 4 fK fdK ["kind", "told"] (spChecked CN CM CS)) : FnOk P w K mg base (L2.CX P w) 5 f fd ["self", "tool", "moment", "by"] (spRow CN CM CS C "failed") := by
  refine F.okX scFailed (fun vs H Q E h => ?_) (fun cdv A outer s H vs Q E hr h => ?_)
  · obtain ⟨x, dx, xs, rfl, _, hl, _⟩ := h
    show xs.length + 1 = 4
    have : (formsOf "failed").length = 3 := by decide +kernel
    omega
  · obtain ⟨x, dx, xs, rfl, hx, hl, hg, qy, qn⟩ := h
    have hkin : ("failed" : Str) ∈ kinds := by decide +kernel
    have hl4 : (formsOf "failed").length = 3 := by decide +kernel
    obtain ⟨v0, v1, v2, rfl⟩ : ∃ v0 v1 v2, xs = [v0, v1, v2] := by
      rw [hl4] at hl
      match xs, hl with
      | [v0, v1, v2], _ => exact ⟨_, _, _, rfl⟩
    have no := T.no
    simp only [List.forall_mem_cons] at no
    obtain ⟨n0, n1, n2, n3, n4, _⟩ := no
    refine ⟨_, pss_cons (ps_fld (pv 0) (pe_call GK hr (by rfl) gK FK.kp bK .nil (passes_call (takes_of rfl rfl rfl rfl) (fun _ _ _ _ h => h)) (pa_cons pe_str (pa_cons (pe_tup (pa_cons (pv 1) (pa_cons (pv 2) (pa_cons (pv 3) pa_nil)))) pa_nil))) rfl)
      (pss_cons (ps_fld (pv 0) pe_str rfl)
      (pss_cons (ps_fld (pv 0) (pv 1) rfl) (pss_cons (ps_fld (pv 0) (pv 2) rfl) (pss_one (ps_fld (pv 0) (pv 3) rfl))))), ?_⟩
    refine ⟨_, rfl, _, rfl, _, rfl, by show 3 ≤ sizeLine; decide, fun tp htp => ?_⟩
    have s1 := same_upd0 (o := .tup [v0, v1, v2]) htp
    refine ⟨"failed", tp, [v0, v1, v2], rfl, hkin, upd_same, hl, (fun y hy => (hg y hy).elim fun T h => ⟨T, h.same s1⟩), fun gd H2 s2 => ?_, fun C' fl v g d H' s e => qn C' fl v g d H' (s1.trans s) e⟩
    have hx2 := s2 _ _ (s1 _ _ hx)
    have s12 := s1.trans s2
    refine ⟨_, rfl, x, C, dx, [], rfl, hx2, T.cl, n0, by show 0 < 1000; decide, ?_⟩
    refine ⟨_, rfl, x, C, dx, _, rfl, upd_same, T.cl, n1, Nat.lt_of_le_of_lt (lenC (Nat.le_refl 0)) (by decide), ?_⟩
    refine ⟨_, rfl, _, rfl, x, C, dx, _, rfl, upd_same, T.cl, n2, Nat.lt_of_le_of_lt (lenC (lenC (Nat.le_refl 0))) (by decide), ?_⟩
    refine ⟨_, rfl, _, rfl, x, C, dx, _, rfl, upd_same, T.cl, n3, Nat.lt_of_le_of_lt (lenC (lenC (lenC (Nat.le_refl 0)))) (by decide), ?_⟩
    refine ⟨_, rfl, _, rfl, x, C, dx, _, rfl, upd_same, T.cl, n4, Nat.lt_of_le_of_lt (lenC (lenC (lenC (lenC (Nat.le_refl 0))))) (by decide), ?_⟩
    refine qy gd _ _ (fun c o nc e => ?_) upd_same ?_
    · rw [upd_ne nc, upd_ne nc, upd_ne nc, upd_ne nc, upd_ne nc]
      exact s12 c o e
    · have ntp : tp ≠ x := fun z => by rw [z, hx] at htp; cases htp
      have etp := s2 _ _ (show (upd H tp (.tup _)) tp = _ from upd_same)
      refine ⟨?_, ⟨tp, ?_, ?_⟩, ?_, (by repeat (first | exact NoM.nil | refine NoM.put ?_ (by decide +kernel)))⟩
      · simp only [lookup_putF, show ¬ (("kind" : Str) = "_told") by decide +kernel, show ¬ (("kind" : Str) = "tool") by decide +kernel, show ¬ (("kind" : Str) = "moment") by decide +kernel, show ¬ (("kind" : Str) = "by") by decide +kernel, show ¬ (("kind" : Str) = "is_sound") by decide +kernel, show ¬ (("kind" : Str) = "one") by decide +kernel, show ¬ (("kind" : Str) = "other") by decide +kernel, show ¬ (("kind" : Str) = "later") by decide +kernel, show ¬ (("_told" : Str) = "kind") by decide +kernel, show ¬ (("_told" : Str) = "tool") by decide +kernel, show ¬ (("_told" : Str) = "moment") by decide +kernel, show ¬ (("_told" : Str) = "by") by decide +kernel, show ¬ (("_told" : Str) = "is_sound") by decide +kernel, show ¬ (("_told" : Str) = "one") by decide +kernel, show ¬ (("_told" : Str) = "other") by decide +kernel, show ¬ (("_told" : Str) = "later") by decide +kernel, show ¬ (("tool" : Str) = "kind") by decide +kernel, show ¬ (("tool" : Str) = "_told") by decide +kernel, show ¬ (("tool" : Str) = "moment") by decide +kernel, show ¬ (("tool" : Str) = "by") by decide +kernel, show ¬ (("tool" : Str) = "is_sound") by decide +kernel, show ¬ (("tool" : Str) = "one") by decide +kernel, show ¬ (("tool" : Str) = "other") by decide +kernel, show ¬ (("tool" : Str) = "later") by decide +kernel, show ¬ (("moment" : Str) = "kind") by decide +kernel, show ¬ (("moment" : Str) = "_told") by decide +kernel, show ¬ (("moment" : Str) = "tool") by decide +kernel, show ¬ (("moment" : Str) = "by") by decide +kernel, show ¬ (("moment" : Str) = "is_sound") by decide +kernel, show ¬ (("moment" : Str) = "one") by decide +kernel, show ¬ (("moment" : Str) = "other") by decide +kernel, show ¬ (("moment" : Str) = "later") by decide +kernel, show ¬ (("by" : Str) = "kind") by decide +kernel, show ¬ (("by" : Str) = "_told") by decide +kernel, show ¬ (("by" : Str) = "tool") by decide +kernel, show ¬ (("by" : Str) = "moment") by decide +kernel, show ¬ (("by" : Str) = "is_sound") by decide +kernel, show ¬ (("by" : Str) = "one") by decide +kernel, show ¬ (("by" : Str) = "other") by decide +kernel, show ¬ (("by" : Str) = "later") by decide +kernel, show ¬ (("is_sound" : Str) = "kind") by decide +kernel, show ¬ (("is_sound" : Str) = "_told") by decide +kernel, show ¬ (("is_sound" : Str) = "tool") by decide +kernel, show ¬ (("is_sound" : Str) = "moment") by decide +kernel, show ¬ (("is_sound" : Str) = "by") by decide +kernel, show ¬ (("is_sound" : Str) = "one") by decide +kernel, show ¬ (("is_sound" : Str) = "other") by decide +kernel, show ¬ (("is_sound" : Str) = "later") by decide +kernel, show ¬ (("one" : Str) = "kind") by decide +kernel, show ¬ (("one" : Str) = "_told") by decide +kernel, show ¬ (("one" : Str) = "tool") by decide +kernel, show ¬ (("one" : Str) = "moment") by decide +kernel, show ¬ (("one" : Str) = "by") by decide +kernel, show ¬ (("one" : Str) = "is_sound") by decide +kernel, show ¬ (("one" : Str) = "other") by decide +kernel, show ¬ (("one" : Str) = "later") by decide +kernel, show ¬ (("other" : Str) = "kind") by decide +kernel, show ¬ (("other" : Str) = "_told") by decide +kernel, show ¬ (("other" : Str) = "tool") by decide +kernel, show ¬ (("other" : Str) = "moment") by decide +kernel, show ¬ (("other" : Str) = "by") by decide +kernel, show ¬ (("other" : Str) = "is_sound") by decide +kernel, show ¬ (("other" : Str) = "one") by decide +kernel, show ¬ (("other" : Str) = "later") by decide +kernel, show ¬ (("later" : Str) = "kind") by decide +kernel, show ¬ (("later" : Str) = "_told") by decide +kernel, show ¬ (("later" : Str) = "tool") by decide +kernel, show ¬ (("later" : Str) = "moment") by decide +kernel, show ¬ (("later" : Str) = "by") by decide +kernel, show ¬ (("later" : Str) = "is_sound") by decide +kernel, show ¬ (("later" : Str) = "one") by decide +kernel, show ¬ (("later" : Str) = "other") by decide +kernel, if_true, if_false]
      · simp only [lookup_putF, show ¬ (("kind" : Str) = "_told") by decide +kernel, show ¬ (("kind" : Str) = "tool") by decide +kernel, show ¬ (("kind" : Str) = "moment") by decide +kernel, show ¬ (("kind" : Str) = "by") by decide +kernel, show ¬ (("kind" : Str) = "is_sound") by decide +kernel, show ¬ (("kind" : Str) = "one") by decide +kernel, show ¬ (("kind" : Str) = "other") by decide +kernel, show ¬ (("kind" : Str) = "later") by decide +kernel, show ¬ (("_told" : Str) = "kind") by decide +kernel, show ¬ (("_told" : Str) = "tool") by decide +kernel, show ¬ (("_told" : Str) = "moment") by decide +kernel, show ¬ (("_told" : Str) = "by") by decide +kernel, show ¬ (("_told" : Str) = "is_sound") by decide +kernel, show ¬ (("_told" : Str) = "one") by decide +kernel, show ¬ (("_told" : Str) = "other") by decide +kernel, show ¬ (("_told" : Str) = "later") by decide +kernel, show ¬ (("tool" : Str) = "kind") by decide +kernel, show ¬ (("tool" : Str) = "_told") by decide +kernel, show ¬ (("tool" : Str) = "moment") by decide +kernel, show ¬ (("tool" : Str) = "by") by decide +kernel, show ¬ (("tool" : Str) = "is_sound") by decide +kernel, show ¬ (("tool" : Str) = "one") by decide +kernel, show ¬ (("tool" : Str) = "other") by decide +kernel, show ¬ (("tool" : Str) = "later") by decide +kernel, show ¬ (("moment" : Str) = "kind") by decide +kernel, show ¬ (("moment" : Str) = "_told") by decide +kernel, show ¬ (("moment" : Str) = "tool") by decide +kernel, show ¬ (("moment" : Str) = "by") by decide +kernel, show ¬ (("moment" : Str) = "is_sound") by decide +kernel, show ¬ (("moment" : Str) = "one") by decide +kernel, show ¬ (("moment" : Str) = "other") by decide +kernel, show ¬ (("moment" : Str) = "later") by decide +kernel, show ¬ (("by" : Str) = "kind") by decide +kernel, show ¬ (("by" : Str) = "_told") by decide +kernel, show ¬ (("by" : Str) = "tool") by decide +kernel, show ¬ (("by" : Str) = "moment") by decide +kernel, show ¬ (("by" : Str) = "is_sound") by decide +kernel, show ¬ (("by" : Str) = "one") by decide +kernel, show ¬ (("by" : Str) = "other") by decide +kernel, show ¬ (("by" : Str) = "later") by decide +kernel, show ¬ (("is_sound" : Str) = "kind") by decide +kernel, show ¬ (("is_sound" : Str) = "_told") by decide +kernel, show ¬ (("is_sound" : Str) = "tool") by decide +kernel, show ¬ (("is_sound" : Str) = "moment") by decide +kernel, show ¬ (("is_sound" : Str) = "by") by decide +kernel, show ¬ (("is_sound" : Str) = "one") by decide +kernel, show ¬ (("is_sound" : Str) = "other") by decide +kernel, show ¬ (("is_sound" : Str) = "later") by decide +kernel, show ¬ (("one" : Str) = "kind") by decide +kernel, show ¬ (("one" : Str) = "_told") by decide +kernel, show ¬ (("one" : Str) = "tool") by decide +kernel, show ¬ (("one" : Str) = "moment") by decide +kernel, show ¬ (("one" : Str) = "by") by decide +kernel, show ¬ (("one" : Str) = "is_sound") by decide +kernel, show ¬ (("one" : Str) = "other") by decide +kernel, show ¬ (("one" : Str) = "later") by decide +kernel, show ¬ (("other" : Str) = "kind") by decide +kernel, show ¬ (("other" : Str) = "_told") by decide +kernel, show ¬ (("other" : Str) = "tool") by decide +kernel, show ¬ (("other" : Str) = "moment") by decide +kernel, show ¬ (("other" : Str) = "by") by decide +kernel, show ¬ (("other" : Str) = "is_sound") by decide +kernel, show ¬ (("other" : Str) = "one") by decide +kernel, show ¬ (("other" : Str) = "later") by decide +kernel, show ¬ (("later" : Str) = "kind") by decide +kernel, show ¬ (("later" : Str) = "_told") by decide +kernel, show ¬ (("later" : Str) = "tool") by decide +kernel, show ¬ (("later" : Str) = "moment") by decide +kernel, show ¬ (("later" : Str) = "by") by decide +kernel, show ¬ (("later" : Str) = "is_sound") by decide +kernel, show ¬ (("later" : Str) = "one") by decide +kernel, show ¬ (("later" : Str) = "other") by decide +kernel, if_true, if_false]
      · repeat rw [upd_ne ntp]
        exact etp
      · rw [attrs_failed]
        simp only [List.zip_cons_cons, List.zip_nil_right, List.forall_mem_cons]
        refine ⟨(by simp only [lookup_putF, show ¬ (("kind" : Str) = "_told") by decide +kernel, show ¬ (("kind" : Str) = "tool") by decide +kernel, show ¬ (("kind" : Str) = "moment") by decide +kernel, show ¬ (("kind" : Str) = "by") by decide +kernel, show ¬ (("kind" : Str) = "is_sound") by decide +kernel, show ¬ (("kind" : Str) = "one") by decide +kernel, show ¬ (("kind" : Str) = "other") by decide +kernel, show ¬ (("kind" : Str) = "later") by decide +kernel, show ¬ (("_told" : Str) = "kind") by decide +kernel, show ¬ (("_told" : Str) = "tool") by decide +kernel, show ¬ (("_told" : Str) = "moment") by decide +kernel, show ¬ (("_told" : Str) = "by") by decide +kernel, show ¬ (("_told" : Str) = "is_sound") by decide +kernel, show ¬ (("_told" : Str) = "one") by decide +kernel, show ¬ (("_told" : Str) = "other") by decide +kernel, show ¬ (("_told" : Str) = "later") by decide +kernel, show ¬ (("tool" : Str) = "kind") by decide +kernel, show ¬ (("tool" : Str) = "_told") by decide +kernel, show ¬ (("tool" : Str) = "moment") by decide +kernel, show ¬ (("tool" : Str) = "by") by decide +kernel, show ¬ (("tool" : Str) = "is_sound") by decide +kernel, show ¬ (("tool" : Str) = "one") by decide +kernel, show ¬ (("tool" : Str) = "other") by decide +kernel, show ¬ (("tool" : Str) = "later") by decide +kernel, show ¬ (("moment" : Str) = "kind") by decide +kernel, show ¬ (("moment" : Str) = "_told") by decide +kernel, show ¬ (("moment" : Str) = "tool") by decide +kernel, show ¬ (("moment" : Str) = "by") by decide +kernel, show ¬ (("moment" : Str) = "is_sound") by decide +kernel, show ¬ (("moment" : Str) = "one") by decide +kernel, show ¬ (("moment" : Str) = "other") by decide +kernel, show ¬ (("moment" : Str) = "later") by decide +kernel, show ¬ (("by" : Str) = "kind") by decide +kernel, show ¬ (("by" : Str) = "_told") by decide +kernel, show ¬ (("by" : Str) = "tool") by decide +kernel, show ¬ (("by" : Str) = "moment") by decide +kernel, show ¬ (("by" : Str) = "is_sound") by decide +kernel, show ¬ (("by" : Str) = "one") by decide +kernel, show ¬ (("by" : Str) = "other") by decide +kernel, show ¬ (("by" : Str) = "later") by decide +kernel, show ¬ (("is_sound" : Str) = "kind") by decide +kernel, show ¬ (("is_sound" : Str) = "_told") by decide +kernel, show ¬ (("is_sound" : Str) = "tool") by decide +kernel, show ¬ (("is_sound" : Str) = "moment") by decide +kernel, show ¬ (("is_sound" : Str) = "by") by decide +kernel, show ¬ (("is_sound" : Str) = "one") by decide +kernel, show ¬ (("is_sound" : Str) = "other") by decide +kernel, show ¬ (("is_sound" : Str) = "later") by decide +kernel, show ¬ (("one" : Str) = "kind") by decide +kernel, show ¬ (("one" : Str) = "_told") by decide +kernel, show ¬ (("one" : Str) = "tool") by decide +kernel, show ¬ (("one" : Str) = "moment") by decide +kernel, show ¬ (("one" : Str) = "by") by decide +kernel, show ¬ (("one" : Str) = "is_sound") by decide +kernel, show ¬ (("one" : Str) = "other") by decide +kernel, show ¬ (("one" : Str) = "later") by decide +kernel, show ¬ (("other" : Str) = "kind") by decide +kernel, show ¬ (("other" : Str) = "_told") by decide +kernel, show ¬ (("other" : Str) = "tool") by decide +kernel, show ¬ (("other" : Str) = "moment") by decide +kernel, show ¬ (("other" : Str) = "by") by decide +kernel, show ¬ (("other" : Str) = "is_sound") by decide +kernel, show ¬ (("other" : Str) = "one") by decide +kernel, show ¬ (("other" : Str) = "later") by decide +kernel, show ¬ (("later" : Str) = "kind") by decide +kernel, show ¬ (("later" : Str) = "_told") by decide +kernel, show ¬ (("later" : Str) = "tool") by decide +kernel, show ¬ (("later" : Str) = "moment") by decide +kernel, show ¬ (("later" : Str) = "by") by decide +kernel, show ¬ (("later" : Str) = "is_sound") by decide +kernel, show ¬ (("later" : Str) = "one") by decide +kernel, show ¬ (("later" : Str) = "other") by decide +kernel, if_true, if_false]), (by simp only [lookup_putF, show ¬ (("kind" : Str) = "_told") by decide +kernel, show ¬ (("kind" : Str) = "tool") by decide +kernel, show ¬ (("kind" : Str) = "moment") by decide +kernel, show ¬ (("kind" : Str) = "by") by decide +kernel, show ¬ (("kind" : Str) = "is_sound") by decide +kernel, show ¬ (("kind" : Str) = "one") by decide +kernel, show ¬ (("kind" : Str) = "other") by decide +kernel, show ¬ (("kind" : Str) = "later") by decide +kernel, show ¬ (("_told" : Str) = "kind") by decide +kernel, show ¬ (("_told" : Str) = "tool") by decide +kernel, show ¬ (("_told" : Str) = "moment") by decide +kernel, show ¬ (("_told" : Str) = "by") by decide +kernel, show ¬ (("_told" : Str) = "is_sound") by decide +kernel, show ¬ (("_told" : Str) = "one") by decide +kernel, show ¬ (("_told" : Str) = "other") by decide +kernel, show ¬ (("_told" : Str) = "later") by decide +kernel, show ¬ (("tool" : Str) = "kind") by decide +kernel, show ¬ (("tool" : Str) = "_told") by decide +kernel, show ¬ (("tool" : Str) = "moment") by decide +kernel, show ¬ (("tool" : Str) = "by") by decide +kernel, show ¬ (("tool" : Str) = "is_sound") by decide +kernel, show ¬ (("tool" : Str) = "one") by decide +kernel, show ¬ (("tool" : Str) = "other") by decide +kernel, show ¬ (("tool" : Str) = "later") by decide +kernel, show ¬ (("moment" : Str) = "kind") by decide +kernel, show ¬ (("moment" : Str) = "_told") by decide +kernel, show ¬ (("moment" : Str) = "tool") by decide +kernel, show ¬ (("moment" : Str) = "by") by decide +kernel, show ¬ (("moment" : Str) = "is_sound") by decide +kernel, show ¬ (("moment" : Str) = "one") by decide +kernel, show ¬ (("moment" : Str) = "other") by decide +kernel, show ¬ (("moment" : Str) = "later") by decide +kernel, show ¬ (("by" : Str) = "kind") by decide +kernel, show ¬ (("by" : Str) = "_told") by decide +kernel, show ¬ (("by" : Str) = "tool") by decide +kernel, show ¬ (("by" : Str) = "moment") by decide +kernel, show ¬ (("by" : Str) = "is_sound") by decide +kernel, show ¬ (("by" : Str) = "one") by decide +kernel, show ¬ (("by" : Str) = "other") by decide +kernel, show ¬ (("by" : Str) = "later") by decide +kernel, show ¬ (("is_sound" : Str) = "kind") by decide +kernel, show ¬ (("is_sound" : Str) = "_told") by decide +kernel, show ¬ (("is_sound" : Str) = "tool") by decide +kernel, show ¬ (("is_sound" : Str) = "moment") by decide +kernel, show ¬ (("is_sound" : Str) = "by") by decide +kernel, show ¬ (("is_sound" : Str) = "one") by decide +kernel, show ¬ (("is_sound" : Str) = "other") by decide +kernel, show ¬ (("is_sound" : Str) = "later") by decide +kernel, show ¬ (("one" : Str) = "kind") by decide +kernel, show ¬ (("one" : Str) = "_told") by decide +kernel, show ¬ (("one" : Str) = "tool") by decide +kernel, show ¬ (("one" : Str) = "moment") by decide +kernel, show ¬ (("one" : Str) = "by") by decide +kernel, show ¬ (("one" : Str) = "is_sound") by decide +kernel, show ¬ (("one" : Str) = "other") by decide +kernel, show ¬ (("one" : Str) = "later") by decide +kernel, show ¬ (("other" : Str) = "kind") by decide +kernel, show ¬ (("other" : Str) = "_told") by decide +kernel, show ¬ (("other" : Str) = "tool") by decide +kernel, show ¬ (("other" : Str) = "moment") by decide +kernel, show ¬ (("other" : Str) = "by") by decide +kernel, show ¬ (("other" : Str) = "is_sound") by decide +kernel, show ¬ (("other" : Str) = "one") by decide +kernel, show ¬ (("other" : Str) = "later") by decide +kernel, show ¬ (("later" : Str) = "kind") by decide +kernel, show ¬ (("later" : Str) = "_told") by decide +kernel, show ¬ (("later" : Str) = "tool") by decide +kernel, show ¬ (("later" : Str) = "moment") by decide +kernel, show ¬ (("later" : Str) = "by") by decide +kernel, show ¬ (("later" : Str) = "is_sound") by decide +kernel, show ¬ (("later" : Str) = "one") by decide +kernel, show ¬ (("later" : Str) = "other") by decide +kernel, if_true, if_false]), (by simp only [lookup_putF, show ¬ (("kind" : Str) = "_told") by decide +kernel, show ¬ (("kind" : Str) = "tool") by decide +kernel, show ¬ (("kind" : Str) = "moment") by decide +kernel, show ¬ (("kind" : Str) = "by") by decide +kernel, show ¬ (("kind" : Str) = "is_sound") by decide +kernel, show ¬ (("kind" : Str) = "one") by decide +kernel, show ¬ (("kind" : Str) = "other") by decide +kernel, show ¬ (("kind" : Str) = "later") by decide +kernel, show ¬ (("_told" : Str) = "kind") by decide +kernel, show ¬ (("_told" : Str) = "tool") by decide +kernel, show ¬ (("_told" : Str) = "moment") by decide +kernel, show ¬ (("_told" : Str) = "by") by decide +kernel, show ¬ (("_told" : Str) = "is_sound") by decide +kernel, show ¬ (("_told" : Str) = "one") by decide +kernel, show ¬ (("_told" : Str) = "other") by decide +kernel, show ¬ (("_told" : Str) = "later") by decide +kernel, show ¬ (("tool" : Str) = "kind") by decide +kernel, show ¬ (("tool" : Str) = "_told") by decide +kernel, show ¬ (("tool" : Str) = "moment") by decide +kernel, show ¬ (("tool" : Str) = "by") by decide +kernel, show ¬ (("tool" : Str) = "is_sound") by decide +kernel, show ¬ (("tool" : Str) = "one") by decide +kernel, show ¬ (("tool" : Str) = "other") by decide +kernel, show ¬ (("tool" : Str) = "later") by decide +kernel, show ¬ (("moment" : Str) = "kind") by decide +kernel, show ¬ (("moment" : Str) = "_told") by decide +kernel, show ¬ (("moment" : Str) = "tool") by decide +kernel, show ¬ (("moment" : Str) = "by") by decide +kernel, show ¬ (("moment" : Str) = "is_sound") by decide +kernel, show ¬ (("moment" : Str) = "one") by decide +kernel, show ¬ (("moment" : Str) = "other") by decide +kernel, show ¬ (("moment" : Str) = "later") by decide +kernel, show ¬ (("by" : Str) = "kind") by decide +kernel, show ¬ (("by" : Str) = "_told") by decide +kernel, show ¬ (("by" : Str) = "tool") by decide +kernel, show ¬ (("by" : Str) = "moment") by decide +kernel, show ¬ (("by" : Str) = "is_sound") by decide +kernel, show ¬ (("by" : Str) = "one") by decide +kernel, show ¬ (("by" : Str) = "other") by decide +kernel, show ¬ (("by" : Str) = "later") by decide +kernel, show ¬ (("is_sound" : Str) = "kind") by decide +kernel, show ¬ (("is_sound" : Str) = "_told") by decide +kernel, show ¬ (("is_sound" : Str) = "tool") by decide +kernel, show ¬ (("is_sound" : Str) = "moment") by decide +kernel, show ¬ (("is_sound" : Str) = "by") by decide +kernel, show ¬ (("is_sound" : Str) = "one") by decide +kernel, show ¬ (("is_sound" : Str) = "other") by decide +kernel, show ¬ (("is_sound" : Str) = "later") by decide +kernel, show ¬ (("one" : Str) = "kind") by decide +kernel, show ¬ (("one" : Str) = "_told") by decide +kernel, show ¬ (("one" : Str) = "tool") by decide +kernel, show ¬ (("one" : Str) = "moment") by decide +kernel, show ¬ (("one" : Str) = "by") by decide +kernel, show ¬ (("one" : Str) = "is_sound") by decide +kernel, show ¬ (("one" : Str) = "other") by decide +kernel, show ¬ (("one" : Str) = "later") by decide +kernel, show ¬ (("other" : Str) = "kind") by decide +kernel, show ¬ (("other" : Str) = "_told") by decide +kernel, show ¬ (("other" : Str) = "tool") by decide +kernel, show ¬ (("other" : Str) = "moment") by decide +kernel, show ¬ (("other" : Str) = "by") by decide +kernel, show ¬ (("other" : Str) = "is_sound") by decide +kernel, show ¬ (("other" : Str) = "one") by decide +kernel, show ¬ (("other" : Str) = "later") by decide +kernel, show ¬ (("later" : Str) = "kind") by decide +kernel, show ¬ (("later" : Str) = "_told") by decide +kernel, show ¬ (("later" : Str) = "tool") by decide +kernel, show ¬ (("later" : Str) = "moment") by decide +kernel, show ¬ (("later" : Str) = "by") by decide +kernel, show ¬ (("later" : Str) = "is_sound") by decide +kernel, show ¬ (("later" : Str) = "one") by decide +kernel, show ¬ (("later" : Str) = "other") by decide +kernel, if_true, if_false]), fun _ h => nomatch h⟩
abbrev sMeeting : Stmt := inClass (topS 31) 0
theorem scMeeting : FnScope ["self", "kind", "one", "moment", "other", "later"] ["self", "kind", "one", "moment", "other", "later"] (defScope sMeeting) := ⟨rfl, rfl, rfl, by decide +kernel, rfl, by decide +kernel, by decide +kernel⟩
def spMeet (CN CM CS C : Addr) : Sp := fun vs H Q E => ∃ (x dx : Addr) (kind : Str) (xs : List V), vs = .ref x :: .str kind :: xs ∧ kind ∈ (["agreed", "differed", "served", "backed"] : List Str) ∧ H x = some (.ins C dx []) ∧ xs.length = (formsOf kind).length ∧ (∀ y ∈ xs, ∃ T, Gv H y T) ∧
  WaysL CN CM CS (xs.zip (formsOf kind)) H E (∀ H' fs, Off x H H' → H' x = some (.ins C dx fs) → Told kind xs H' fs → Q .non H')
theorem meet_in : ∀ kind ∈ (["agreed", "differed", "served", "backed"] : List Str), kind ∈ kinds ∧ (formsOf kind).length = 4 := by decide +kernel
theorem ok_Meeting {CN CM CS C f fK : Addr} {fd fdK : FuncData} (F : Fun K "__init__" "Meeting.__init__" sMeeting f fd) (T : RowC K C ["_told", "kind", "one", "moment", "other", "later"]) (FK : Fun K "checked" "checked" sChecked fK fdK) (bK : Binds K fdK ["kind", "told"] []) (gK : mg "checked" = some (.ref fK))
    (GK : FnOk P w K mg base (L2.CX P w) 4 fK fdK ["kind", "told"] (spChecked CN CM CS)) : FnOk P w K mg base (L2.CX P w) 5 f fd ["self", "kind", "one", "moment", "other", "later"] (spMeet CN CM CS C) := by
  refine F.okX scMeeting (fun vs H Q E h => ?_) (fun cdv A outer s H vs Q E hr h => ?_)
  · obtain ⟨x, dx, kind, xs, rfl, hk, _, hl, _⟩ := h
    rw [(meet_in kind hk).2] at hl
    show xs.length + 1 + 1 = 6
    omega
  · obtain ⟨x, dx, kind, xs, rfl, hk, hx, hl, hg, qy, qn⟩ := h
    have hkin := (meet_in kind hk).1
    have hl4 := (meet_in kind hk).2
    obtain ⟨v0, v1, v2, v3, rfl⟩ : ∃ v0 v1 v2 v3, xs = [v0, v1, v2, v3] := by
      rw [hl4] at hl
      match xs, hl with
      | [v0, v1, v2, v3], _ => exact ⟨_, _, _, _, rfl⟩
    have no := T.no
    simp only [List.forall_mem_cons] at no
    obtain ⟨n0, n1, n2, n3, n4, n5, _⟩ := no
    refine ⟨_, pss_cons (ps_fld (pv 0) (pe_call GK hr (by rfl) gK FK.kp bK .nil (passes_call (takes_of rfl rfl rfl rfl) (fun _ _ _ _ h => h)) (pa_cons (pv 1) (pa_cons (pe_tup (pa_cons (pv 2) (pa_cons (pv 3) (pa_cons (pv 4) (pa_cons (pv 5) pa_nil))))) pa_nil))) rfl)
      (pss_cons (ps_fld (pv 0) (pv 1) rfl)
      (pss_cons (ps_fld (pv 0) (pv 2) rfl) (pss_cons (ps_fld (pv 0) (pv 3) rfl) (pss_cons (ps_fld (pv 0) (pv 4) rfl) (pss_one (ps_fld (pv 0) (pv 5) rfl)))))), ?_⟩
    refine ⟨_, rfl, _, rfl, _, rfl, _, rfl, _, rfl, by show 4 ≤ sizeLine; decide, fun tp htp => ?_⟩
    have s1 := same_upd0 (o := .tup [v0, v1, v2, v3]) htp
    refine ⟨kind, tp, [v0, v1, v2, v3], rfl, hkin, upd_same, hl, (fun y hy => (hg y hy).elim fun T h => ⟨T, h.same s1⟩), fun gd H2 s2 => ?_, fun C' fl v g d H' s e => qn C' fl v g d H' (s1.trans s) e⟩
    have hx2 := s2 _ _ (s1 _ _ hx)
    have s12 := s1.trans s2
    refine ⟨_, rfl, x, C, dx, [], rfl, hx2, T.cl, n0, by show 0 < 1000; decide, ?_⟩
    refine ⟨_, rfl, _, rfl, x, C, dx, _, rfl, upd_same, T.cl, n1, Nat.lt_of_le_of_lt (lenC (Nat.le_refl 0)) (by decide), ?_⟩
    refine ⟨_, rfl, _, rfl, x, C, dx, _, rfl, upd_same, T.cl, n2, Nat.lt_of_le_of_lt (lenC (lenC (Nat.le_refl 0))) (by decide), ?_⟩
    refine ⟨_, rfl, _, rfl, x, C, dx, _, rfl, upd_same, T.cl, n3, Nat.lt_of_le_of_lt (lenC (lenC (lenC (Nat.le_refl 0)))) (by decide), ?_⟩
    refine ⟨_, rfl, _, rfl, x, C, dx, _, rfl, upd_same, T.cl, n4, Nat.lt_of_le_of_lt (lenC (lenC (lenC (lenC (Nat.le_refl 0))))) (by decide), ?_⟩
    refine ⟨_, rfl, _, rfl, x, C, dx, _, rfl, upd_same, T.cl, n5, Nat.lt_of_le_of_lt (lenC (lenC (lenC (lenC (lenC (Nat.le_refl 0)))))) (by decide), ?_⟩
    refine qy gd _ _ (fun c o nc e => ?_) upd_same ?_
    · rw [upd_ne nc, upd_ne nc, upd_ne nc, upd_ne nc, upd_ne nc, upd_ne nc]
      exact s12 c o e
    · have ntp : tp ≠ x := fun z => by rw [z, hx] at htp; cases htp
      have etp := s2 _ _ (show (upd H tp (.tup _)) tp = _ from upd_same)
      refine ⟨?_, ⟨tp, ?_, ?_⟩, ?_, (by repeat (first | exact NoM.nil | refine NoM.put ?_ (by decide +kernel)))⟩
      · simp only [lookup_putF, show ¬ (("kind" : Str) = "_told") by decide +kernel, show ¬ (("kind" : Str) = "tool") by decide +kernel, show ¬ (("kind" : Str) = "moment") by decide +kernel, show ¬ (("kind" : Str) = "by") by decide +kernel, show ¬ (("kind" : Str) = "is_sound") by decide +kernel, show ¬ (("kind" : Str) = "one") by decide +kernel, show ¬ (("kind" : Str) = "other") by decide +kernel, show ¬ (("kind" : Str) = "later") by decide +kernel, show ¬ (("_told" : Str) = "kind") by decide +kernel, show ¬ (("_told" : Str) = "tool") by decide +kernel, show ¬ (("_told" : Str) = "moment") by decide +kernel, show ¬ (("_told" : Str) = "by") by decide +kernel, show ¬ (("_told" : Str) = "is_sound") by decide +kernel, show ¬ (("_told" : Str) = "one") by decide +kernel, show ¬ (("_told" : Str) = "other") by decide +kernel, show ¬ (("_told" : Str) = "later") by decide +kernel, show ¬ (("tool" : Str) = "kind") by decide +kernel, show ¬ (("tool" : Str) = "_told") by decide +kernel, show ¬ (("tool" : Str) = "moment") by decide +kernel, show ¬ (("tool" : Str) = "by") by decide +kernel, show ¬ (("tool" : Str) = "is_sound") by decide +kernel, show ¬ (("tool" : Str) = "one") by decide +kernel, show ¬ (("tool" : Str) = "other") by decide +kernel, show ¬ (("tool" : Str) = "later") by decide +kernel, show ¬ (("moment" : Str) = "kind") by decide +kernel, show ¬ (("moment" : Str) = "_told") by decide +kernel, show ¬ (("moment" : Str) = "tool") by decide +kernel, show ¬ (("moment" : Str) = "by") by decide +kernel, show ¬ (("moment" : Str) = "is_sound") by decide +kernel, show ¬ (("moment" : Str) = "one") by decide +kernel, show ¬ (("moment" : Str) = "other") by decide +kernel, show ¬ (("moment" : Str) = "later") by decide +kernel, show ¬ (("by" : Str) = "kind") by decide +kernel, show ¬ (("by" : Str) = "_told") by decide +kernel, show ¬ (("by" : Str) = "tool") by decide +kernel, show ¬ (("by" : Str) = "moment") by decide +kernel, show ¬ (("by" : Str) = "is_sound") by decide +kernel, show ¬ (("by" : Str) = "one") by decide +kernel, show ¬ (("by" : Str) = "other") by decide +kernel, show ¬ (("by" : Str) = "later") by decide +kernel, show ¬ (("is_sound" : Str) = "kind") by decide +kernel, show ¬ (("is_sound" : Str) = "_told") by decide +kernel, show ¬ (("is_sound" : Str) = "tool") by decide +kernel, show ¬ (("is_sound" : Str) = "moment") by decide +kernel, show ¬ (("is_sound" : Str) = "by") by decide +kernel, show ¬ (("is_sound" : Str) = "one") by decide +kernel, show ¬ (("is_sound" : Str) = "other") by decide +kernel, show ¬ (("is_sound" : Str) = "later") by decide +kernel, show ¬ (("one" : Str) = "kind") by decide +kernel, show ¬ (("one" : Str) = "_told") by decide +kernel, show ¬ (("one" : Str) = "tool") by decide +kernel, show ¬ (("one" : Str) = "moment") by decide +kernel, show ¬ (("one" : Str) = "by") by decide +kernel, show ¬ (("one" : Str) = "is_sound") by decide +kernel, show ¬ (("one" : Str) = "other") by decide +kernel, show ¬ (("one" : Str) = "later") by decide +kernel, show ¬ (("other" : Str) = "kind") by decide +kernel, show ¬ (("other" : Str) = "_told") by decide +kernel, show ¬ (("other" : Str) = "tool") by decide +kernel, show ¬ (("other" : Str) = "moment") by decide +kernel, show ¬ (("other" : Str) = "by") by decide +kernel, show ¬ (("other" : Str) = "is_sound") by decide +kernel, show ¬ (("other" : Str) = "one") by decide +kernel, show ¬ (("other" : Str) = "later") by decide +kernel, show ¬ (("later" : Str) = "kind") by decide +kernel, show ¬ (("later" : Str) = "_told") by decide +kernel, show ¬ (("later" : Str) = "tool") by decide +kernel, show ¬ (("later" : Str) = "moment") by decide +kernel, show ¬ (("later" : Str) = "by") by decide +kernel, show ¬ (("later" : Str) = "is_sound") by decide +kernel, show ¬ (("later" : Str) = "one") by decide +kernel, show ¬ (("later" : Str) = "other") by decide +kernel, if_true, if_false]
      · simp only [lookup_putF, show ¬ (("kind" : Str) = "_told") by decide +kernel, show ¬ (("kind" : Str) = "tool") by decide +kernel, show ¬ (("kind" : Str) = "moment") by decide +kernel, show ¬ (("kind" : Str) = "by") by decide +kernel, show ¬ (("kind" : Str) = "is_sound") by decide +kernel, show ¬ (("kind" : Str) = "one") by decide +kernel, show ¬ (("kind" : Str) = "other") by decide +kernel, show ¬ (("kind" : Str) = "later") by decide +kernel, show ¬ (("_told" : Str) = "kind") by decide +kernel, show ¬ (("_told" : Str) = "tool") by decide +kernel, show ¬ (("_told" : Str) = "moment") by decide +kernel, show ¬ (("_told" : Str) = "by") by decide +kernel, show ¬ (("_told" : Str) = "is_sound") by decide +kernel, show ¬ (("_told" : Str) = "one") by decide +kernel, show ¬ (("_told" : Str) = "other") by decide +kernel, show ¬ (("_told" : Str) = "later") by decide +kernel, show ¬ (("tool" : Str) = "kind") by decide +kernel, show ¬ (("tool" : Str) = "_told") by decide +kernel, show ¬ (("tool" : Str) = "moment") by decide +kernel, show ¬ (("tool" : Str) = "by") by decide +kernel, show ¬ (("tool" : Str) = "is_sound") by decide +kernel, show ¬ (("tool" : Str) = "one") by decide +kernel, show ¬ (("tool" : Str) = "other") by decide +kernel, show ¬ (("tool" : Str) = "later") by decide +kernel, show ¬ (("moment" : Str) = "kind") by decide +kernel, show ¬ (("moment" : Str) = "_told") by decide +kernel, show ¬ (("moment" : Str) = "tool") by decide +kernel, show ¬ (("moment" : Str) = "by") by decide +kernel, show ¬ (("moment" : Str) = "is_sound") by decide +kernel, show ¬ (("moment" : Str) = "one") by decide +kernel, show ¬ (("moment" : Str) = "other") by decide +kernel, show ¬ (("moment" : Str) = "later") by decide +kernel, show ¬ (("by" : Str) = "kind") by decide +kernel, show ¬ (("by" : Str) = "_told") by decide +kernel, show ¬ (("by" : Str) = "tool") by decide +kernel, show ¬ (("by" : Str) = "moment") by decide +kernel, show ¬ (("by" : Str) = "is_sound") by decide +kernel, show ¬ (("by" : Str) = "one") by decide +kernel, show ¬ (("by" : Str) = "other") by decide +kernel, show ¬ (("by" : Str) = "later") by decide +kernel, show ¬ (("is_sound" : Str) = "kind") by decide +kernel, show ¬ (("is_sound" : Str) = "_told") by decide +kernel, show ¬ (("is_sound" : Str) = "tool") by decide +kernel, show ¬ (("is_sound" : Str) = "moment") by decide +kernel, show ¬ (("is_sound" : Str) = "by") by decide +kernel, show ¬ (("is_sound" : Str) = "one") by decide +kernel, show ¬ (("is_sound" : Str) = "other") by decide +kernel, show ¬ (("is_sound" : Str) = "later") by decide +kernel, show ¬ (("one" : Str) = "kind") by decide +kernel, show ¬ (("one" : Str) = "_told") by decide +kernel, show ¬ (("one" : Str) = "tool") by decide +kernel, show ¬ (("one" : Str) = "moment") by decide +kernel, show ¬ (("one" : Str) = "by") by decide +kernel, show ¬ (("one" : Str) = "is_sound") by decide +kernel, show ¬ (("one" : Str) = "other") by decide +kernel, show ¬ (("one" : Str) = "later") by decide +kernel, show ¬ (("other" : Str) = "kind") by decide +kernel, show ¬ (("other" : Str) = "_told") by decide +kernel, show ¬ (("other" : Str) = "tool") by decide +kernel, show ¬ (("other" : Str) = "moment") by decide +kernel, show ¬ (("other" : Str) = "by") by decide +kernel, show ¬ (("other" : Str) = "is_sound") by decide +kernel, show ¬ (("other" : Str) = "one") by decide +kernel, show ¬ (("other" : Str) = "later") by decide +kernel, show ¬ (("later" : Str) = "kind") by decide +kernel, show ¬ (("later" : Str) = "_told") by decide +kernel, show ¬ (("later" : Str) = "tool") by decide +kernel, show ¬ (("later" : Str) = "moment") by decide +kernel, show ¬ (("later" : Str) = "by") by decide +kernel, show ¬ (("later" : Str) = "is_sound") by decide +kernel, show ¬ (("later" : Str) = "one") by decide +kernel, show ¬ (("later" : Str) = "other") by decide +kernel, if_true, if_false]
      · repeat rw [upd_ne ntp]
        exact etp
      · rw [attrs_meet kind hk]
        simp only [List.zip_cons_cons, List.zip_nil_right, List.forall_mem_cons]
        refine ⟨(by simp only [lookup_putF, show ¬ (("kind" : Str) = "_told") by decide +kernel, show ¬ (("kind" : Str) = "tool") by decide +kernel, show ¬ (("kind" : Str) = "moment") by decide +kernel, show ¬ (("kind" : Str) = "by") by decide +kernel, show ¬ (("kind" : Str) = "is_sound") by decide +kernel, show ¬ (("kind" : Str) = "one") by decide +kernel, show ¬ (("kind" : Str) = "other") by decide +kernel, show ¬ (("kind" : Str) = "later") by decide +kernel, show ¬ (("_told" : Str) = "kind") by decide +kernel, show ¬ (("_told" : Str) = "tool") by decide +kernel, show ¬ (("_told" : Str) = "moment") by decide +kernel, show ¬ (("_told" : Str) = "by") by decide +kernel, show ¬ (("_told" : Str) = "is_sound") by decide +kernel, show ¬ (("_told" : Str) = "one") by decide +kernel, show ¬ (("_told" : Str) = "other") by decide +kernel, show ¬ (("_told" : Str) = "later") by decide +kernel, show ¬ (("tool" : Str) = "kind") by decide +kernel, show ¬ (("tool" : Str) = "_told") by decide +kernel, show ¬ (("tool" : Str) = "moment") by decide +kernel, show ¬ (("tool" : Str) = "by") by decide +kernel, show ¬ (("tool" : Str) = "is_sound") by decide +kernel, show ¬ (("tool" : Str) = "one") by decide +kernel, show ¬ (("tool" : Str) = "other") by decide +kernel, show ¬ (("tool" : Str) = "later") by decide +kernel, show ¬ (("moment" : Str) = "kind") by decide +kernel, show ¬ (("moment" : Str) = "_told") by decide +kernel, show ¬ (("moment" : Str) = "tool") by decide +kernel, show ¬ (("moment" : Str) = "by") by decide +kernel, show ¬ (("moment" : Str) = "is_sound") by decide +kernel, show ¬ (("moment" : Str) = "one") by decide +kernel, show ¬ (("moment" : Str) = "other") by decide +kernel, show ¬ (("moment" : Str) = "later") by decide +kernel, show ¬ (("by" : Str) = "kind") by decide +kernel, show ¬ (("by" : Str) = "_told") by decide +kernel, show ¬ (("by" : Str) = "tool") by decide +kernel, show ¬ (("by" : Str) = "moment") by decide +kernel, show ¬ (("by" : Str) = "is_sound") by decide +kernel, show ¬ (("by" : Str) = "one") by decide +kernel, show ¬ (("by" : Str) = "other") by decide +kernel, show ¬ (("by" : Str) = "later") by decide +kernel, show ¬ (("is_sound" : Str) = "kind") by decide +kernel, show ¬ (("is_sound" : Str) = "_told") by decide +kernel, show ¬ (("is_sound" : Str) = "tool") by decide +kernel, show ¬ (("is_sound" : Str) = "moment") by decide +kernel, show ¬ (("is_sound" : Str) = "by") by decide +kernel, show ¬ (("is_sound" : Str) = "one") by decide +kernel, show ¬ (("is_sound" : Str) = "other") by decide +kernel, show ¬ (("is_sound" : Str) = "later") by decide +kernel, show ¬ (("one" : Str) = "kind") by decide +kernel, show ¬ (("one" : Str) = "_told") by decide +kernel, show ¬ (("one" : Str) = "tool") by decide +kernel, show ¬ (("one" : Str) = "moment") by decide +kernel, show ¬ (("one" : Str) = "by") by decide +kernel, show ¬ (("one" : Str) = "is_sound") by decide +kernel, show ¬ (("one" : Str) = "other") by decide +kernel, show ¬ (("one" : Str) = "later") by decide +kernel, show ¬ (("other" : Str) = "kind") by decide +kernel, show ¬ (("other" : Str) = "_told") by decide +kernel, show ¬ (("other" : Str) = "tool") by decide +kernel, show ¬ (("other" : Str) = "moment") by decide +kernel, show ¬ (("other" : Str) = "by") by decide +kernel, show ¬ (("other" : Str) = "is_sound") by decide +kernel, show ¬ (("other" : Str) = "one") by decide +kernel, show ¬ (("other" : Str) = "later") by decide +kernel, show ¬ (("later" : Str) = "kind") by decide +kernel, show ¬ (("later" : Str) = "_told") by decide +kernel, show ¬ (("later" : Str) = "tool") by decide +kernel, show ¬ (("later" : Str) = "moment") by decide +kernel, show ¬ (("later" : Str) = "by") by decide +kernel, show ¬ (("later" : Str) = "is_sound") by decide +kernel, show ¬ (("later" : Str) = "one") by decide +kernel, show ¬ (("later" : Str) = "other") by decide +kernel, if_true, if_false]), (by simp only [lookup_putF, show ¬ (("kind" : Str) = "_told") by decide +kernel, show ¬ (("kind" : Str) = "tool") by decide +kernel, show ¬ (("kind" : Str) = "moment") by decide +kernel, show ¬ (("kind" : Str) = "by") by decide +kernel, show ¬ (("kind" : Str) = "is_sound") by decide +kernel, show ¬ (("kind" : Str) = "one") by decide +kernel, show ¬ (("kind" : Str) = "other") by decide +kernel, show ¬ (("kind" : Str) = "later") by decide +kernel, show ¬ (("_told" : Str) = "kind") by decide +kernel, show ¬ (("_told" : Str) = "tool") by decide +kernel, show ¬ (("_told" : Str) = "moment") by decide +kernel, show ¬ (("_told" : Str) = "by") by decide +kernel, show ¬ (("_told" : Str) = "is_sound") by decide +kernel, show ¬ (("_told" : Str) = "one") by decide +kernel, show ¬ (("_told" : Str) = "other") by decide +kernel, show ¬ (("_told" : Str) = "later") by decide +kernel, show ¬ (("tool" : Str) = "kind") by decide +kernel, show ¬ (("tool" : Str) = "_told") by decide +kernel, show ¬ (("tool" : Str) = "moment") by decide +kernel, show ¬ (("tool" : Str) = "by") by decide +kernel, show ¬ (("tool" : Str) = "is_sound") by decide +kernel, show ¬ (("tool" : Str) = "one") by decide +kernel, show ¬ (("tool" : Str) = "other") by decide +kernel, show ¬ (("tool" : Str) = "later") by decide +kernel, show ¬ (("moment" : Str) = "kind") by decide +kernel, show ¬ (("moment" : Str) = "_told") by decide +kernel, show ¬ (("moment" : Str) = "tool") by decide +kernel, show ¬ (("moment" : Str) = "by") by decide +kernel, show ¬ (("moment" : Str) = "is_sound") by decide +kernel, show ¬ (("moment" : Str) = "one") by decide +kernel, show ¬ (("moment" : Str) = "other") by decide +kernel, show ¬ (("moment" : Str) = "later") by decide +kernel, show ¬ (("by" : Str) = "kind") by decide +kernel, show ¬ (("by" : Str) = "_told") by decide +kernel, show ¬ (("by" : Str) = "tool") by decide +kernel, show ¬ (("by" : Str) = "moment") by decide +kernel, show ¬ (("by" : Str) = "is_sound") by decide +kernel, show ¬ (("by" : Str) = "one") by decide +kernel, show ¬ (("by" : Str) = "other") by decide +kernel, show ¬ (("by" : Str) = "later") by decide +kernel, show ¬ (("is_sound" : Str) = "kind") by decide +kernel, show ¬ (("is_sound" : Str) = "_told") by decide +kernel, show ¬ (("is_sound" : Str) = "tool") by decide +kernel, show ¬ (("is_sound" : Str) = "moment") by decide +kernel, show ¬ (("is_sound" : Str) = "by") by decide +kernel, show ¬ (("is_sound" : Str) = "one") by decide +kernel, show ¬ (("is_sound" : Str) = "other") by decide +kernel, show ¬ (("is_sound" : Str) = "later") by decide +kernel, show ¬ (("one" : Str) = "kind") by decide +kernel, show ¬ (("one" : Str) = "_told") by decide +kernel, show ¬ (("one" : Str) = "tool") by decide +kernel, show ¬ (("one" : Str) = "moment") by decide +kernel, show ¬ (("one" : Str) = "by") by decide +kernel, show ¬ (("one" : Str) = "is_sound") by decide +kernel, show ¬ (("one" : Str) = "other") by decide +kernel, show ¬ (("one" : Str) = "later") by decide +kernel, show ¬ (("other" : Str) = "kind") by decide +kernel, show ¬ (("other" : Str) = "_told") by decide +kernel, show ¬ (("other" : Str) = "tool") by decide +kernel, show ¬ (("other" : Str) = "moment") by decide +kernel, show ¬ (("other" : Str) = "by") by decide +kernel, show ¬ (("other" : Str) = "is_sound") by decide +kernel, show ¬ (("other" : Str) = "one") by decide +kernel, show ¬ (("other" : Str) = "later") by decide +kernel, show ¬ (("later" : Str) = "kind") by decide +kernel, show ¬ (("later" : Str) = "_told") by decide +kernel, show ¬ (("later" : Str) = "tool") by decide +kernel, show ¬ (("later" : Str) = "moment") by decide +kernel, show ¬ (("later" : Str) = "by") by decide +kernel, show ¬ (("later" : Str) = "is_sound") by decide +kernel, show ¬ (("later" : Str) = "one") by decide +kernel, show ¬ (("later" : Str) = "other") by decide +kernel, if_true, if_false]), (by simp only [lookup_putF, show ¬ (("kind" : Str) = "_told") by decide +kernel, show ¬ (("kind" : Str) = "tool") by decide +kernel, show ¬ (("kind" : Str) = "moment") by decide +kernel, show ¬ (("kind" : Str) = "by") by decide +kernel, show ¬ (("kind" : Str) = "is_sound") by decide +kernel, show ¬ (("kind" : Str) = "one") by decide +kernel, show ¬ (("kind" : Str) = "other") by decide +kernel, show ¬ (("kind" : Str) = "later") by decide +kernel, show ¬ (("_told" : Str) = "kind") by decide +kernel, show ¬ (("_told" : Str) = "tool") by decide +kernel, show ¬ (("_told" : Str) = "moment") by decide +kernel, show ¬ (("_told" : Str) = "by") by decide +kernel, show ¬ (("_told" : Str) = "is_sound") by decide +kernel, show ¬ (("_told" : Str) = "one") by decide +kernel, show ¬ (("_told" : Str) = "other") by decide +kernel, show ¬ (("_told" : Str) = "later") by decide +kernel, show ¬ (("tool" : Str) = "kind") by decide +kernel, show ¬ (("tool" : Str) = "_told") by decide +kernel, show ¬ (("tool" : Str) = "moment") by decide +kernel, show ¬ (("tool" : Str) = "by") by decide +kernel, show ¬ (("tool" : Str) = "is_sound") by decide +kernel, show ¬ (("tool" : Str) = "one") by decide +kernel, show ¬ (("tool" : Str) = "other") by decide +kernel, show ¬ (("tool" : Str) = "later") by decide +kernel, show ¬ (("moment" : Str) = "kind") by decide +kernel, show ¬ (("moment" : Str) = "_told") by decide +kernel, show ¬ (("moment" : Str) = "tool") by decide +kernel, show ¬ (("moment" : Str) = "by") by decide +kernel, show ¬ (("moment" : Str) = "is_sound") by decide +kernel, show ¬ (("moment" : Str) = "one") by decide +kernel, show ¬ (("moment" : Str) = "other") by decide +kernel, show ¬ (("moment" : Str) = "later") by decide +kernel, show ¬ (("by" : Str) = "kind") by decide +kernel, show ¬ (("by" : Str) = "_told") by decide +kernel, show ¬ (("by" : Str) = "tool") by decide +kernel, show ¬ (("by" : Str) = "moment") by decide +kernel, show ¬ (("by" : Str) = "is_sound") by decide +kernel, show ¬ (("by" : Str) = "one") by decide +kernel, show ¬ (("by" : Str) = "other") by decide +kernel, show ¬ (("by" : Str) = "later") by decide +kernel, show ¬ (("is_sound" : Str) = "kind") by decide +kernel, show ¬ (("is_sound" : Str) = "_told") by decide +kernel, show ¬ (("is_sound" : Str) = "tool") by decide +kernel, show ¬ (("is_sound" : Str) = "moment") by decide +kernel, show ¬ (("is_sound" : Str) = "by") by decide +kernel, show ¬ (("is_sound" : Str) = "one") by decide +kernel, show ¬ (("is_sound" : Str) = "other") by decide +kernel, show ¬ (("is_sound" : Str) = "later") by decide +kernel, show ¬ (("one" : Str) = "kind") by decide +kernel, show ¬ (("one" : Str) = "_told") by decide +kernel, show ¬ (("one" : Str) = "tool") by decide +kernel, show ¬ (("one" : Str) = "moment") by decide +kernel, show ¬ (("one" : Str) = "by") by decide +kernel, show ¬ (("one" : Str) = "is_sound") by decide +kernel, show ¬ (("one" : Str) = "other") by decide +kernel, show ¬ (("one" : Str) = "later") by decide +kernel, show ¬ (("other" : Str) = "kind") by decide +kernel, show ¬ (("other" : Str) = "_told") by decide +kernel, show ¬ (("other" : Str) = "tool") by decide +kernel, show ¬ (("other" : Str) = "moment") by decide +kernel, show ¬ (("other" : Str) = "by") by decide +kernel, show ¬ (("other" : Str) = "is_sound") by decide +kernel, show ¬ (("other" : Str) = "one") by decide +kernel, show ¬ (("other" : Str) = "later") by decide +kernel, show ¬ (("later" : Str) = "kind") by decide +kernel, show ¬ (("later" : Str) = "_told") by decide +kernel, show ¬ (("later" : Str) = "tool") by decide +kernel, show ¬ (("later" : Str) = "moment") by decide +kernel, show ¬ (("later" : Str) = "by") by decide +kernel, show ¬ (("later" : Str) = "is_sound") by decide +kernel, show ¬ (("later" : Str) = "one") by decide +kernel, show ¬ (("later" : Str) = "other") by decide +kernel, if_true, if_false]), (by simp only [lookup_putF, show ¬ (("kind" : Str) = "_told") by decide +kernel, show ¬ (("kind" : Str) = "tool") by decide +kernel, show ¬ (("kind" : Str) = "moment") by decide +kernel, show ¬ (("kind" : Str) = "by") by decide +kernel, show ¬ (("kind" : Str) = "is_sound") by decide +kernel, show ¬ (("kind" : Str) = "one") by decide +kernel, show ¬ (("kind" : Str) = "other") by decide +kernel, show ¬ (("kind" : Str) = "later") by decide +kernel, show ¬ (("_told" : Str) = "kind") by decide +kernel, show ¬ (("_told" : Str) = "tool") by decide +kernel, show ¬ (("_told" : Str) = "moment") by decide +kernel, show ¬ (("_told" : Str) = "by") by decide +kernel, show ¬ (("_told" : Str) = "is_sound") by decide +kernel, show ¬ (("_told" : Str) = "one") by decide +kernel, show ¬ (("_told" : Str) = "other") by decide +kernel, show ¬ (("_told" : Str) = "later") by decide +kernel, show ¬ (("tool" : Str) = "kind") by decide +kernel, show ¬ (("tool" : Str) = "_told") by decide +kernel, show ¬ (("tool" : Str) = "moment") by decide +kernel, show ¬ (("tool" : Str) = "by") by decide +kernel, show ¬ (("tool" : Str) = "is_sound") by decide +kernel, show ¬ (("tool" : Str) = "one") by decide +kernel, show ¬ (("tool" : Str) = "other") by decide +kernel, show ¬ (("tool" : Str) = "later") by decide +kernel, show ¬ (("moment" : Str) = "kind") by decide +kernel, show ¬ (("moment" : Str) = "_told") by decide +kernel, show ¬ (("moment" : Str) = "tool") by decide +kernel, show ¬ (("moment" : Str) = "by") by decide +kernel, show ¬ (("moment" : Str) = "is_sound") by decide +kernel, show ¬ (("moment" : Str) = "one") by decide +kernel, show ¬ (("moment" : Str) = "other") by decide +kernel, show ¬ (("moment" : Str) = "later") by decide +kernel, show ¬ (("by" : Str) = "kind") by decide +kernel, show ¬ (("by" : Str) = "_told") by decide +kernel, show ¬ (("by" : Str) = "tool") by decide +kernel, show ¬ (("by" : Str) = "moment") by decide +kernel, show ¬ (("by" : Str) = "is_sound") by decide +kernel, show ¬ (("by" : Str) = "one") by decide +kernel, show ¬ (("by" : Str) = "other") by decide +kernel, show ¬ (("by" : Str) = "later") by decide +kernel, show ¬ (("is_sound" : Str) = "kind") by decide +kernel, show ¬ (("is_sound" : Str) = "_told") by decide +kernel, show ¬ (("is_sound" : Str) = "tool") by decide +kernel, show ¬ (("is_sound" : Str) = "moment") by decide +kernel, show ¬ (("is_sound" : Str) = "by") by decide +kernel, show ¬ (("is_sound" : Str) = "one") by decide +kernel, show ¬ (("is_sound" : Str) = "other") by decide +kernel, show ¬ (("is_sound" : Str) = "later") by decide +kernel, show ¬ (("one" : Str) = "kind") by decide +kernel, show ¬ (("one" : Str) = "_told") by decide +kernel, show ¬ (("one" : Str) = "tool") by decide +kernel, show ¬ (("one" : Str) = "moment") by decide +kernel, show ¬ (("one" : Str) = "by") by decide +kernel, show ¬ (("one" : Str) = "is_sound") by decide +kernel, show ¬ (("one" : Str) = "other") by decide +kernel, show ¬ (("one" : Str) = "later") by decide +kernel, show ¬ (("other" : Str) = "kind") by decide +kernel, show ¬ (("other" : Str) = "_told") by decide +kernel, show ¬ (("other" : Str) = "tool") by decide +kernel, show ¬ (("other" : Str) = "moment") by decide +kernel, show ¬ (("other" : Str) = "by") by decide +kernel, show ¬ (("other" : Str) = "is_sound") by decide +kernel, show ¬ (("other" : Str) = "one") by decide +kernel, show ¬ (("other" : Str) = "later") by decide +kernel, show ¬ (("later" : Str) = "kind") by decide +kernel, show ¬ (("later" : Str) = "_told") by decide +kernel, show ¬ (("later" : Str) = "tool") by decide +kernel, show ¬ (("later" : Str) = "moment") by decide +kernel, show ¬ (("later" : Str) = "by") by decide +kernel, show ¬ (("later" : Str) = "is_sound") by decide +kernel, show ¬ (("later" : Str) = "one") by decide +kernel, show ¬ (("later" : Str) = "other") by decide +kernel, if_true, if_false]), fun _ h => nomatch h⟩
end
end K15

namespace K15
open PySem PySem.Spec PyProof.Rows L2 So
abbrev sAgreed : Stmt := inClass (topS 38) 0
abbrev sDiffered : Stmt := inClass (topS 39) 0
abbrev sServed : Stmt := inClass (topS 40) 0
abbrev sBacked : Stmt := inClass (topS 41) 0
abbrev metN : List Str := ["self", "one", "moment", "other", "later"]
def supB (sc : Scope) : Bool := decide (sc.kind = .function) && !sc.isCoroutine && !sc.isGenerator && metN.all (fun x => decide (sc.names.lookup x = some .local)) && sc.names.all (fun y => !decide (y.2 = .cell)) && sc.names.all (fun y => !decide (y.2 = .free) || decide (y.1 = "__class__"))
  && decide (sc.names.lookup ("super" : Str) = some .globalImplicit) && decide (sc.names.lookup ("__class__" : Str) = some .free)
theorem supB_ok {sc : Scope} (h : supB sc = true) : SupScope metN sc := by
  unfold supB at h
  simp only [Bool.and_eq_true, Bool.not_eq_true', decide_eq_true_eq, List.all_eq_true, Bool.or_eq_true, decide_eq_false_iff_not] at h
  obtain ⟨⟨⟨⟨⟨⟨⟨h1, h2⟩, h3⟩, h4⟩, h5⟩, h6⟩, h7⟩, h8⟩ := h
  refine ⟨h1, h2, h3, by decide +kernel, h4, h5, fun y hy => ?_, h7, h8⟩
  rcases h6 (y, .free) (PySem.mem_of_lookup hy) with z | z
  · exact absurd rfl z
  · exact z
section
variable {P : Program} {w : World} {K : PySem.W.Frag} {mg : Str → Option Value} {base : Heap}
theorem ok_Agreed {CN CM CS C D cc f fM : Addr} {cd : Value} {fd fdM : FuncData} (F : SupFn K P "__init__" "Agreed.__init__" (defArgs sAgreed) (defBody sAgreed) (defScope sAgreed) D cc f cd fd) (hsup : mg "super" = none) (sub : PySem.W.mroIn K C (.ref D) = some true) (hcl : ∃ cdC, PySem.W.clsIn K C = some cdC)
    (hm : PySem.W.ks_superIn K C D "__init__" = some (some (.ref fM))) (ht : PySem.W.typeIn K (.ref fM) = some (.type "function")) (hfn : PySem.W.fnIn K fM = true) (bM : Binds K fdM ["self", "kind", "one", "moment", "other", "later"] []) (GM : FnOk P w K mg base (L2.CX P w) 5 fM fdM ["self", "kind", "one", "moment", "other", "later"] (spMeet CN CM CS C)) :
    FnOk P w K mg base (L2.CX P w) 6 f fd metN (spRow CN CM CS C "agreed") := by
  have hl4 : (formsOf "agreed").length = 4 := by decide +kernel
  refine (ok_super (C := C) (ps := metN) F (supB_ok (by decide +kernel)) rfl (by rfl) hsup sub hcl hm ht hfn (by decide +kernel) GM bM (fun A outer s H E => pa_cons pe_str (pa_cons (pv 1) (pa_cons (pv 2) (pa_cons (pv 3) (pa_cons (pv 4) pa_nil))))) (fun _ => rfl) (fun _ => rfl) (fun _ => rfl) (fun _ => rfl)).imp fun vs H Q E h => ?_
  obtain ⟨x, dx, xs, rfl, hx, hl, hg, qw⟩ := h
  obtain ⟨v0, v1, v2, v3, rfl⟩ : ∃ v0 v1 v2 v3, xs = [v0, v1, v2, v3] := by
    rw [hl4] at hl
    match xs, hl with
    | [v0, v1, v2, v3], _ => exact ⟨_, _, _, _, rfl⟩
  exact ⟨rfl, x, dx, [], [v0, v1, v2, v3], rfl, hx, _, rfl, _, rfl, _, rfl, _, rfl, x, dx, "agreed", [v0, v1, v2, v3], rfl, by decide +kernel, hx, hl, hg, qw⟩
theorem ok_Differed {CN CM CS C D cc f fM : Addr} {cd : Value} {fd fdM : FuncData} (F : SupFn K P "__init__" "Differed.__init__" (defArgs sDiffered) (defBody sDiffered) (defScope sDiffered) D cc f cd fd) (hsup : mg "super" = none) (sub : PySem.W.mroIn K C (.ref D) = some true) (hcl : ∃ cdC, PySem.W.clsIn K C = some cdC)
    (hm : PySem.W.ks_superIn K C D "__init__" = some (some (.ref fM))) (ht : PySem.W.typeIn K (.ref fM) = some (.type "function")) (hfn : PySem.W.fnIn K fM = true) (bM : Binds K fdM ["self", "kind", "one", "moment", "other", "later"] []) (GM : FnOk P w K mg base (L2.CX P w) 5 fM fdM ["self", "kind", "one", "moment", "other", "later"] (spMeet CN CM CS C)) :
    FnOk P w K mg base (L2.CX P w) 6 f fd metN (spRow CN CM CS C "differed") := by
  have hl4 : (formsOf "differed").length = 4 := by decide +kernel
  refine (ok_super (C := C) (ps := metN) F (supB_ok (by decide +kernel)) rfl (by rfl) hsup sub hcl hm ht hfn (by decide +kernel) GM bM (fun A outer s H E => pa_cons pe_str (pa_cons (pv 1) (pa_cons (pv 2) (pa_cons (pv 3) (pa_cons (pv 4) pa_nil))))) (fun _ => rfl) (fun _ => rfl) (fun _ => rfl) (fun _ => rfl)).imp fun vs H Q E h => ?_
  obtain ⟨x, dx, xs, rfl, hx, hl, hg, qw⟩ := h
  obtain ⟨v0, v1, v2, v3, rfl⟩ : ∃ v0 v1 v2 v3, xs = [v0, v1, v2, v3] := by
    rw [hl4] at hl
    match xs, hl with
    | [v0, v1, v2, v3], _ => exact ⟨_, _, _, _, rfl⟩
  exact ⟨rfl, x, dx, [], [v0, v1, v2, v3], rfl, hx, _, rfl, _, rfl, _, rfl, _, rfl, x, dx, "differed", [v0, v1, v2, v3], rfl, by decide +kernel, hx, hl, hg, qw⟩
theorem ok_Served {CN CM CS C D cc f fM : Addr} {cd : Value} {fd fdM : FuncData} (F : SupFn K P "__init__" "Served.__init__" (defArgs sServed) (defBody sServed) (defScope sServed) D cc f cd fd) (hsup : mg "super" = none) (sub : PySem.W.mroIn K C (.ref D) = some true) (hcl : ∃ cdC, PySem.W.clsIn K C = some cdC)
    (hm : PySem.W.ks_superIn K C D "__init__" = some (some (.ref fM))) (ht : PySem.W.typeIn K (.ref fM) = some (.type "function")) (hfn : PySem.W.fnIn K fM = true) (bM : Binds K fdM ["self", "kind", "one", "moment", "other", "later"] []) (GM : FnOk P w K mg base (L2.CX P w) 5 fM fdM ["self", "kind", "one", "moment", "other", "later"] (spMeet CN CM CS C)) :
    FnOk P w K mg base (L2.CX P w) 6 f fd metN (spRow CN CM CS C "served") := by
  have hl4 : (formsOf "served").length = 4 := by decide +kernel
  refine (ok_super (C := C) (ps := metN) F (supB_ok (by decide +kernel)) rfl (by rfl) hsup sub hcl hm ht hfn (by decide +kernel) GM bM (fun A outer s H E => pa_cons pe_str (pa_cons (pv 1) (pa_cons (pv 2) (pa_cons (pv 3) (pa_cons (pv 4) pa_nil))))) (fun _ => rfl) (fun _ => rfl) (fun _ => rfl) (fun _ => rfl)).imp fun vs H Q E h => ?_
  obtain ⟨x, dx, xs, rfl, hx, hl, hg, qw⟩ := h
  obtain ⟨v0, v1, v2, v3, rfl⟩ : ∃ v0 v1 v2 v3, xs = [v0, v1, v2, v3] := by
    rw [hl4] at hl
    match xs, hl with
    | [v0, v1, v2, v3], _ => exact ⟨_, _, _, _, rfl⟩
  exact ⟨rfl, x, dx, [], [v0, v1, v2, v3], rfl, hx, _, rfl, _, rfl, _, rfl, _, rfl, x, dx, "served", [v0, v1, v2, v3], rfl, by decide +kernel, hx, hl, hg, qw⟩
theorem ok_Backed {CN CM CS C D cc f fM : Addr} {cd : Value} {fd fdM : FuncData} (F : SupFn K P "__init__" "Backed.__init__" (defArgs sBacked) (defBody sBacked) (defScope sBacked) D cc f cd fd) (hsup : mg "super" = none) (sub : PySem.W.mroIn K C (.ref D) = some true) (hcl : ∃ cdC, PySem.W.clsIn K C = some cdC)
    (hm : PySem.W.ks_superIn K C D "__init__" = some (some (.ref fM))) (ht : PySem.W.typeIn K (.ref fM) = some (.type "function")) (hfn : PySem.W.fnIn K fM = true) (bM : Binds K fdM ["self", "kind", "one", "moment", "other", "later"] []) (GM : FnOk P w K mg base (L2.CX P w) 5 fM fdM ["self", "kind", "one", "moment", "other", "later"] (spMeet CN CM CS C)) :
    FnOk P w K mg base (L2.CX P w) 6 f fd metN (spRow CN CM CS C "backed") := by
  have hl4 : (formsOf "backed").length = 4 := by decide +kernel
  refine (ok_super (C := C) (ps := metN) F (supB_ok (by decide +kernel)) rfl (by rfl) hsup sub hcl hm ht hfn (by decide +kernel) GM bM (fun A outer s H E => pa_cons pe_str (pa_cons (pv 1) (pa_cons (pv 2) (pa_cons (pv 3) (pa_cons (pv 4) pa_nil))))) (fun _ => rfl) (fun _ => rfl) (fun _ => rfl) (fun _ => rfl)).imp fun vs H Q E h => ?_
  obtain ⟨x, dx, xs, rfl, hx, hl, hg, qw⟩ := h
  obtain ⟨v0, v1, v2, v3, rfl⟩ : ∃ v0 v1 v2 v3, xs = [v0, v1, v2, v3] := by
    rw [hl4] at hl
    match xs, hl with
    | [v0, v1, v2, v3], _ => exact ⟨_, _, _, _, rfl⟩
  exact ⟨rfl, x, dx, [], [v0, v1, v2, v3], rfl, hx, _, rfl, _, rfl, _, rfl, _, rfl, x, dx, "backed", [v0, v1, v2, v3], rfl, by decide +kernel, hx, hl, hg, qw⟩
end
end K15

/-! repr of data with dicts: each thing's text built by itself, so that no more is asked of an address than that a dict is not the modules' own. -/
namespace So
open PySem PySem.Spec PyProof.Rows L2
mutual
/-- a value is this data; dicts with texts as keys may stand in it -/
inductive Dd (K : PySem.W.Frag) (H : Hp) : V → PyData → Prop
  | non : Dd K H .non .none
  | bl (b : Bool) : Dd K H (.bl b) (.bool b)
  | int (i : Int) : Dd K H (.int i) (.int i)
  | str (x : Str) : Dd K H (.str x) (.str x)
  | lst {a : Addr} {xs : List V} {ds : List PyData} (e : SqL K H a xs) (h : DdAll K H xs ds) : Dd K H (.ref a) (.list ds)
  | tup {a : Addr} {xs : List V} {ds : List PyData} (e : SqT K H a xs) (h : DdAll K H xs ds) : Dd K H (.ref a) (.tuple ds)
  | dct {a : Addr} {kvs : List (Key × V)} {ds : List (PyData × PyData)} (e : H a = some (.dK kvs)) (h : DdKv K H kvs ds) : Dd K H (.ref a) (.dict ds)
inductive DdAll (K : PySem.W.Frag) (H : Hp) : List V → List PyData → Prop
  | nil : DdAll K H [] []
  | cons {v : V} {vs : List V} {d : PyData} {ds : List PyData} (h : Dd K H v d) (t : DdAll K H vs ds) : DdAll K H (v :: vs) (d :: ds)
inductive DdKv (K : PySem.W.Frag) (H : Hp) : List (Key × V) → List (PyData × PyData) → Prop
  | nil : DdKv K H [] []
  | cons {k : Str} {v : V} {r : List (Key × V)} {d : PyData} {ds : List (PyData × PyData)} (h : Dd K H v d) (t : DdKv K H r ds) : DdKv K H ((Sum.inr k, v) :: r) ((.str k, d) :: ds)
end
section
variable {X : Cx} {pins : List (Addr × Obj)} {σ : L2.St} {H : Hp} {s : Shared}
/-- a thing in memory that shows so -/
def ShK (X : Cx) (h : Heap) (u : Value) (d : PyData) : Prop := ∃ as bs, Reads h u d as ∧ ReadAtMost h d.depth bs ∧ ReprK X.prog X.w bs h d.depth u d.shown
def ShAll (X : Cx) (h : Heap) (us : List Value) (ds : List PyData) : Prop := ∃ as bs, ReadsAll h us ds as ∧ ReadAtMost h (PyData.depthAll ds) bs ∧ ReprAllK X.prog X.w bs h (PyData.depthAll ds) us (PyData.shownAll ds)
theorem shAll_cons {h : Heap} {u : Value} {us : List Value} {d : PyData} {ds : List PyData} (a : ShK X h u d) (b : ShAll X h us ds) : ShAll X h (u :: us) (d :: ds) := by
  obtain ⟨as1, b1, r1, hb1, k1⟩ := a
  obtain ⟨as2, b2, r2, hb2, k2⟩ := b
  refine ⟨_, b1 ++ b2, .cons r1 r2, ?_, ?_⟩
  · intro b hm
    simp only [PyData.depthAll]
    rcases List.mem_append.mp hm with hm | hm
    · obtain ⟨d', as', r', hd'⟩ := hb1 b hm
      exact ⟨d', as', r', Nat.le_trans hd' (Nat.le_max_left _ _)⟩
    · obtain ⟨d', as', r', hd'⟩ := hb2 b hm
      exact ⟨d', as', r', Nat.le_trans hd' (Nat.le_max_right _ _)⟩
  · simp only [PyData.depthAll, PyData.shownAll]
    exact .cons ((k1.more fun b hb => List.mem_append_left _ hb).level_le (Nat.le_max_left _ _)) (k2.more_le (fun b hb => List.mem_append_right _ hb) (Nat.le_max_right _ _))
theorem shAll_nil {h : Heap} : ShAll X h [] [] := ⟨_, [], .nil, (fun _ h => nomatch h), by simp only [PyData.shownAll]; exact .nil⟩
mutual
theorem Dd.sh (I : Inv X pins σ H s) : ∀ (d : PyData) (v : V) (u : Value), Dd X.K H v d → RelV v u → d.showable = true → d.shown.length ≤ sizeLine → ShK X s.heap u d
  | .none, _, _, h, r, _, _ => by
    cases h
    cases r
    exact ⟨_, [], .none, (fun _ h => nomatch h), by simp only [PyData.shown]; exact .of_is ReprIs.none _ _ _⟩
  | .bool b, _, _, h, r, _, _ => by
    cases h
    cases r
    exact ⟨_, [], .bool b, (fun _ h => nomatch h), by simp only [PyData.shown]; exact .of_is (ReprIs.bool b) _ _ _⟩
  | .int i, _, _, h, r, hs, _ => by
    cases h
    obtain ⟨t, rfl⟩ := r
    exact ⟨_, [], .int i t, (fun _ h => nomatch h), by simp only [PyData.shown]; exact .of_is (ReprIs.int t (by simpa [PyData.showable] using hs)) _ _ _⟩
  | .str x, _, _, h, r, _, hz => by
    cases h
    obtain ⟨t, rfl⟩ := r
    exact ⟨_, [], .str x t, (fun _ h => nomatch h), by simp only [PyData.shown]; exact .of_is (ReprIs.str x t (by simpa only [PyData.shown] using hz)) _ _ _⟩
  | .list ds, _, _, h, r, hs, hz => by
    cases h with
    | @lst a xs _ e hall =>
      cases r
      have hz' : (listText (PyData.shownAll ds)).length ≤ sizeLine := by simpa only [PyData.shown] using hz
      obtain ⟨its, rv, ⟨o, n, h1, h2, _, h3⟩, _⟩ := I.list e
      obtain ⟨as, bs, rd, hb, hk⟩ := DdAll.sh I ds xs its hall rv (by simpa [PyData.showable] using hs) (fun t ht => Nat.le_trans (listText_mem_le ht) hz')
      have rr : Reads s.heap (.ref a) (.list ds) _ := .list h1 h2 h3 rd
      have hna : a ∉ bs := not_mem_of_deeper rr (by simp only [PyData.depth]; omega) hb
      refine ⟨_, a :: bs, rr, ReadAtMost.cons rr (by simp only [PyData.depth]; omega) hb, ?_⟩
      simp only [PyData.depth, PyData.shown]
      cases its with
      | nil =>
        cases rd
        simp only [PyData.shownAll, listText_nil]
        exact ReprK.listEmpty h1 h2 h3
      | cons x l => exact ReprK.list h1 h2 h3 hna (by simpa using hk.length_eq) (fun i y e => hk.item i y (by simpa using e))
  | .tuple ds, _, _, h, r, hs, hz => by
    cases h with
    | @tup a xs _ e hall =>
      cases r
      have hz' : (tupleText (PyData.shownAll ds)).length ≤ sizeLine := by simpa only [PyData.shown] using hz
      obtain ⟨its, rv, ⟨o, h1, h2, n, h3⟩, _⟩ := I.tuple e
      obtain ⟨as, bs, rd, hb, hk⟩ := DdAll.sh I ds xs its hall rv (by simpa [PyData.showable] using hs) (fun t ht => Nat.le_trans (tupleText_mem_le ht) hz')
      have rr : Reads s.heap (.ref a) (.tuple ds) _ := .tuple h1 h2 h3 rd
      have hna : a ∉ bs := not_mem_of_deeper rr (by simp only [PyData.depth]; omega) hb
      refine ⟨_, a :: bs, rr, ReadAtMost.cons rr (by simp only [PyData.depth]; omega) hb, ?_⟩
      simp only [PyData.depth, PyData.shown]
      exact ReprK.tuple h1 h2 h3 hna hk
  | .dict ds, _, _, h, r, hs, hz => by
    cases h with
    | @dct a kvs _ e hall =>
      cases r
      have hz' : (dictText (PyData.shownKv ds)).length ≤ sizeLine := by simpa only [PyData.shown] using hz
      obtain ⟨_, hsys, vs, hk, hD⟩ : kvs.length ≤ sizeLine ∧ (a == sysModules) = false ∧ ∃ vs, KV kvs vs ∧ s.heap.DictOf (mixKind X.prog X.w) a vs := I.hok a _ e
      obtain ⟨o, es, ep, h1, h2, h3, _, e5, _⟩ := hD
      obtain ⟨hs1, hs2⟩ := PyData.showableKv_split ds (by simpa [PyData.showable] using hs)
      obtain ⟨⟨as1, b1, r1, hb1, k1⟩, as2, b2, r2, hb2, k2⟩ := DdKv.sh I ds kvs vs es.toList hall hk e5 hs1 hs2
        (fun t ht => let ⟨p, hp, hl⟩ := PyData.shownKv_key_le ds t ht; Nat.le_trans hl (Nat.le_trans (dictText_mem_le hp) hz')) (fun t ht => let ⟨p, hp, hl⟩ := PyData.shownKv_val_le ds t ht; Nat.le_trans hl (Nat.le_trans (dictText_mem_le hp) hz'))
      have rr : Reads s.heap (.ref a) (.dict ds) _ := .dict h1 h2.1 h3 r1 r2
      have hb : ReadAtMost s.heap (PyData.depthKv ds) (b1 ++ b2) := (hb1.mono (PyData.depthAll_keys_le ds)).append (hb2.mono (PyData.depthAll_vals_le ds))
      have hna : a ∉ b1 ++ b2 := not_mem_of_deeper rr (by simp only [PyData.depth]; omega) hb
      refine ⟨_, a :: (b1 ++ b2), rr, ReadAtMost.cons rr (by simp only [PyData.depth]; omega) hb, ?_⟩
      simp only [PyData.depth, PyData.shown, PyData.shownKv_eq]
      exact ReprK.dict h1 h2.1 h3 hsys hna (ReprEntriesK.of_two es.toList _ _
        (k1.more_le (fun b hb => List.mem_append_left _ hb) (PyData.depthAll_keys_le ds)) (k2.more_le (fun b hb => List.mem_append_right _ hb) (PyData.depthAll_vals_le ds)))
theorem DdAll.sh (I : Inv X pins σ H s) : ∀ (ds : List PyData) (vs : List V) (us : List Value), DdAll X.K H vs ds → Vals vs us → PyData.showableAll ds = true → (∀ t ∈ PyData.shownAll ds, t.length ≤ sizeLine) → ShAll X s.heap us ds
  | [], _, _, h, r, _, _ => by
    cases h
    cases r
    exact shAll_nil
  | d :: ds, _, _, h, r, hs, hz => by
    cases h with
    | cons h1 h2 =>
      cases r with
      | cons r1 r2 =>
        have hs' : d.showable = true ∧ PyData.showableAll ds = true := by simpa [PyData.showableAll] using hs
        exact shAll_cons (Dd.sh I d _ _ h1 r1 hs'.1 (hz _ (by simp only [PyData.shownAll]; exact List.mem_cons_self ..))) (DdAll.sh I ds _ _ h2 r2 hs'.2 fun t ht => hz t (by simp only [PyData.shownAll]; exact List.mem_cons_of_mem _ ht))
theorem DdKv.sh (I : Inv X pins σ H s) : ∀ (ds : List (PyData × PyData)) (kvs : List (Key × V)) (vs : List (Key × Value)) (es : List DictEntry), DdKv X.K H kvs ds → KV kvs vs → Pairs (mixKind X.prog X.w) es vs → PyData.showableAll (ds.map (·.1)) = true → PyData.showableAll (ds.map (·.2)) = true →
    (∀ t ∈ PyData.shownAll (ds.map (·.1)), t.length ≤ sizeLine) → (∀ t ∈ PyData.shownAll (ds.map (·.2)), t.length ≤ sizeLine) → ShAll X s.heap (es.map (·.key)) (ds.map (·.1)) ∧ ShAll X s.heap (es.map (·.val)) (ds.map (·.2))
  | [], _, _, _, h, hk, hp, _, _, _, _ => by
    cases h
    cases hk
    cases hp
    exact ⟨shAll_nil, shAll_nil⟩
  | (dk, dv) :: ds, _, _, _, h, hk, hp, hs1, hs2, z1, z2 => by
    cases h with
    | @cons k v r _ _ h1 h2 =>
      cases hk with
      | @cons _ kv _ _ hk1 hk2 =>
        obtain ⟨kk, kval⟩ := kv
        obtain ⟨q1, q2⟩ := hk1
        simp only at q1 q2
        subst q1
        cases hp with
        | @cons en _ es' _ p1 p2 p3 =>
          have hs1' : (PyData.str k).showable = true ∧ PyData.showableAll (ds.map (·.1)) = true := by simpa [PyData.showableAll] using hs1
          have hs2' : dv.showable = true ∧ PyData.showableAll (ds.map (·.2)) = true := by simpa [PyData.showableAll] using hs2
          have hz1 : (PyData.str k).shown.length ≤ sizeLine := z1 _ (by simp only [List.map_cons, PyData.shownAll]; exact List.mem_cons_self ..)
          have hz2 : dv.shown.length ≤ sizeLine := z2 _ (by simp only [List.map_cons, PyData.shownAll]; exact List.mem_cons_self ..)
          obtain ⟨c1, c2⟩ := DdKv.sh I ds _ _ _ h2 hk2 p3 hs1'.2 hs2'.2 (fun t ht => z1 t (by simp only [List.map_cons, PyData.shownAll]; exact List.mem_cons_of_mem _ ht)) (fun t ht => z2 t (by simp only [List.map_cons, PyData.shownAll]; exact List.mem_cons_of_mem _ ht))
          simp only at p2
          refine ⟨?_, ?_⟩
          · rcases keyIs_shape (show keyIs (Sum.inr k) en.key = true from p1) with ⟨j, t3, z, _⟩ | ⟨y, t3, z, ez⟩
            · cases z
            · cases z
              simp only [List.map_cons]
              refine shAll_cons ?_ c1
              rw [ez]
              exact ⟨_, [], .str k t3, (fun _ h => nomatch h), by simp only [PyData.shown]; exact .of_is (ReprIs.str k t3 (by simpa only [PyData.shown] using hz1)) _ _ _⟩
          · simp only [List.map_cons]
            rw [p2]
            exact shAll_cons (Dd.sh I dv v _ h1 q2 hs2'.1 hz2) c2
end
/-- such a thing is shown by its own type -/
theorem Dd.shows (I : Inv X pins σ H s) {a : Addr} {d : PyData} (h : Dd X.K H (.ref a) d) (hs : d.showable = true) (hz : d.shown.length ≤ sizeLine) : ∃ T idr, ShowsBy X.prog X.w s.heap a d T idr := by
  cases h with
  | @lst _ xs ds e hall =>
    have hz' : (listText (PyData.shownAll ds)).length ≤ sizeLine := by simpa only [PyData.shown] using hz
    obtain ⟨its, rv, ⟨o, n, h1, h2, _, h3⟩, _⟩ := I.list e
    obtain ⟨as, bs, rd, hb, hk⟩ := DdAll.sh I ds xs its hall rv (by simpa [PyData.showable] using hs) (fun t ht => Nat.le_trans (listText_mem_le ht) hz')
    have rr : Reads s.heap (.ref a) (.list ds) _ := .list h1 h2 h3 rd
    have hna : a ∉ bs := not_mem_of_deeper rr (by simp only [PyData.depth]; omega) hb
    refine ⟨"list", "list.__repr__", F.slot_list_repr.toG, F.slot_list_str, F.slot_list_format, fun s' hk0 => ⟨o, hk0 _ _ h1, h2⟩, fun A E s' Q hg hu hk0 hQ => ?_⟩
    simp only [PyData.depth] at hu
    simp only [PyData.shown] at hQ
    cases its with
    | nil =>
      cases rd
      simp only [PyData.shownAll, listText_nil] at hQ
      exact call_list_repr_empty ⟨o, hk0 _ _ h1, h2⟩ (hk0 _ _ h1) h3 (hQ s'.heap _ _ fun _ _ e => e)
    | cons x l => exact call_list_reprK h1 h2 h3 hna (by simpa using hk.length_eq) (fun i y e => hk.item i y (by simpa using e)) hg (fun b _ => Clear.nil b) hu hk0 hQ hz'
  | @tup _ xs ds e hall =>
    have hz' : (tupleText (PyData.shownAll ds)).length ≤ sizeLine := by simpa only [PyData.shown] using hz
    obtain ⟨its, rv, ⟨o, h1, h2, n, h3⟩, _⟩ := I.tuple e
    obtain ⟨as, bs, rd, hb, hk⟩ := DdAll.sh I ds xs its hall rv (by simpa [PyData.showable] using hs) (fun t ht => Nat.le_trans (tupleText_mem_le ht) hz')
    have rr : Reads s.heap (.ref a) (.tuple ds) _ := .tuple h1 h2 h3 rd
    have hna : a ∉ bs := not_mem_of_deeper rr (by simp only [PyData.depth]; omega) hb
    refine ⟨"tuple", "tuple.__repr__", F.slot_tuple_repr, F.slot_tuple_str, F.slot_tuple_format, fun s' hk0 => ⟨o, hk0 _ _ h1, h2⟩, fun A E s' Q hg hu hk0 hQ => ?_⟩
    simp only [PyData.depth] at hu
    simp only [PyData.shown] at hQ
    exact call_tuple_reprK h1 h2 h3 hna hk hg (fun b _ => Clear.nil b) hu hk0 hQ hz'
  | @dct _ kvs ds e hall =>
    have hz' : (dictText (PyData.shownKv ds)).length ≤ sizeLine := by simpa only [PyData.shown] using hz
    obtain ⟨_, hsys, vs, hk, hD⟩ : kvs.length ≤ sizeLine ∧ (a == sysModules) = false ∧ ∃ vs, KV kvs vs ∧ s.heap.DictOf (mixKind X.prog X.w) a vs := I.hok a _ e
    obtain ⟨o, es, ep, h1, h2, h3, _, e5, _⟩ := hD
    obtain ⟨hs1, hs2⟩ := PyData.showableKv_split ds (by simpa [PyData.showable] using hs)
    obtain ⟨⟨as1, b1, r1, hb1, k1⟩, as2, b2, r2, hb2, k2⟩ := DdKv.sh I ds kvs vs es.toList hall hk e5 hs1 hs2
      (fun t ht => let ⟨p, hp, hl⟩ := PyData.shownKv_key_le ds t ht; Nat.le_trans hl (Nat.le_trans (dictText_mem_le hp) hz')) (fun t ht => let ⟨p, hp, hl⟩ := PyData.shownKv_val_le ds t ht; Nat.le_trans hl (Nat.le_trans (dictText_mem_le hp) hz'))
    have rr : Reads s.heap (.ref a) (.dict ds) _ := .dict h1 h2.1 h3 r1 r2
    have hb : ReadAtMost s.heap (PyData.depthKv ds) (b1 ++ b2) := (hb1.mono (PyData.depthAll_keys_le ds)).append (hb2.mono (PyData.depthAll_vals_le ds))
    have hna : a ∉ b1 ++ b2 := not_mem_of_deeper rr (by simp only [PyData.depth]; omega) hb
    refine ⟨"dict", "dict.__repr__", F.slot_dict_repr, F.slot_dict_str, F.slot_dict_format, fun s' hk0 => ⟨o, hk0 _ _ h1, h2.1⟩, fun A E s' Q hg hu hk0 hQ => ?_⟩
    simp only [PyData.depth] at hu
    simp only [PyData.shown, PyData.shownKv_eq] at hQ
    exact call_dict_reprK h1 h2.1 h3 hsys hna (ReprEntriesK.of_two es.toList _ _
      (k1.more_le (fun b hb => List.mem_append_left _ hb) (PyData.depthAll_keys_le ds)) (k2.more_le (fun b hb => List.mem_append_right _ hb) (PyData.depthAll_vals_le ds))) hg (fun b _ => Clear.nil b) hu hk0 hQ (by rw [← PyData.shownKv_eq]; exact hz')
/-- repr of data, dicts in it -/
def rReprG (K : PySem.W.Frag) : List V → Hp → VK → Prop := fun xs H Q => ∃ v d, xs = [v] ∧ Dd K H v d ∧ d.showable = true ∧ d.depth ≤ 60 ∧ d.shown.length ≤ sizeLine ∧ Q (.str d.shown) H
theorem call_reprG (hg : X.A.guards = some []) (hu : X.A.units + 64 < cLine) : CallR X (.builtin "repr") (rReprG X.K) := by
  intro pins s σ H xs us Q I r h
  obtain ⟨v, d, rfl, hd, hs, hdep, hz, q⟩ := h
  obtain ⟨u, rfl, rv⟩ := vals1 r
  cases v with
  | ref a =>
    cases rv
    obtain ⟨T, idr, S⟩ := hd.shows I hs hz
    refine call_repr_slot (by omega) (S.typeIs s fun _ _ e => e) S.slotRepr (S.call X.A.in1 X.xe s _ hg (by show X.A.units + 1 + d.depth < cLine; omega) (fun _ _ e => e) fun h' u tk hk => ⟨_, _, rfl, ?_⟩)
    exact ⟨.str d.shown, H, I.kept hk, ⟨_, rfl⟩, q⟩
  | non =>
    cases hd
    cases rv
    exact PySem.P.repr_of_none ⟨.str _, H, I.tok _, ⟨_, rfl⟩, q⟩
  | bl b =>
    cases hd
    cases rv
    refine PySem.P.repr_of_bool ⟨.str (PyData.shown (.bool b)), H, I.tok _, ⟨s.toks, ?_⟩, q⟩
    cases b <;> rfl
  | int i =>
    cases hd
    obtain ⟨t, rfl⟩ := rv
    exact PySem.P.repr_of_int (by simpa [PyData.showable] using hs) ⟨.str _, H, I.tok _, ⟨_, rfl⟩, q⟩
  | str x =>
    cases hd
    obtain ⟨t, rfl⟩ := rv
    exact PySem.P.repr_of_str ⟨.str _, H, I.tok _, ⟨_, rfl⟩, q⟩ hz
  | byt b => cases hd
  | flt b => cases hd
  | ty n => cases hd
end
/-! data stays -/
mutual
theorem Dd.same {K : PySem.W.Frag} {H H' : Hp} (s : Ext H H') : ∀ {d : PyData} {v : V}, Dd K H v d → Dd K H' v d
  | _, _, .non => .non
  | _, _, .bl b => .bl b
  | _, _, .int i => .int i
  | _, _, .str x => .str x
  | _, _, .lst e h => .lst (SqL.ext e s) (DdAll.same s h)
  | _, _, .tup e h => .tup (SqT.ext e s) (DdAll.same s h)
  | _, _, .dct e h => .dct (s _ _ e) (DdKv.same s h)
theorem DdAll.same {K : PySem.W.Frag} {H H' : Hp} (s : Ext H H') : ∀ {ds : List PyData} {vs : List V}, DdAll K H vs ds → DdAll K H' vs ds
  | _, _, .nil => .nil
  | _, _, .cons h t => .cons (Dd.same s h) (DdAll.same s t)
theorem DdKv.same {K : PySem.W.Frag} {H H' : Hp} (s : Ext H H') : ∀ {ds : List (PyData × PyData)} {vs : List (Key × V)}, DdKv K H vs ds → DdKv K H' vs ds
  | _, _, .nil => .nil
  | _, _, .cons h t => .cons (Dd.same s h) (DdKv.same s t)
end
end So

/-! a value as data over a part of memory that stays; text * int -/
namespace So
open PySem PySem.Spec PyProof.Rows L2
section
variable {X : Cx}
theorem op_mul_str : OpR X (binaryOp .Mult) (fun x y H Q => ∃ z n, x = .str z ∧ y = .int n ∧ MulOk z n ∧ Q (.str (Txt.mul z n)) H) := by
  intro pins s σ H x y v u Q I rx ry h
  obtain ⟨z, n, rfl, rfl, ok, q⟩ := h
  obtain ⟨t, rfl⟩ := rx
  obtain ⟨t', rfl⟩ := ry
  exact SB.mul ok fun t' k => ⟨.str (Txt.mul z n), H, I.tok _, ⟨_, rfl⟩, q⟩
end
/-- memory without p -/
def hole (p : Addr) (H : Hp) : Hp := fun b => if b = p then none else H b
theorem hole_ne {p b : Addr} {H : Hp} (h : b ≠ p) : hole p H b = H b := if_neg h
theorem hole_at {p : Addr} {H : Hp} : hole p H p = none := if_pos rfl
theorem hole_same {p : Addr} {H : Hp} : Same (hole p H) H := fun b o e => by
  by_cases z : b = p
  · subst z
    rw [hole_at] at e
    cases e
  · rwa [hole_ne z] at e
/-- v is the data d, by a part of memory that has no p -/
def Kp (K : PySem.W.Frag) (p : Addr) (H : Hp) (v : V) (d : PyData) : Prop := ∃ F, F p = none ∧ Same F H ∧ Dd K F v d
section
variable {K : PySem.W.Frag} {p : Addr} {H H' : Hp} {v : V} {d : PyData}
theorem Kp.same (h : Kp K p H v d) (s : Same H H') : Kp K p H' v d := h.elim fun F e => ⟨F, e.1, e.2.1.trans s, e.2.2⟩
theorem Kp.off (h : Kp K p H v d) (s : ∀ b o, b ≠ p → H b = some o → H' b = some o) : Kp K p H' v d := h.elim fun F e => ⟨F, e.1, fun b o z => s b o (fun y => by
  subst y
  rw [e.1] at z
  cases z) (e.2.1 b o z), e.2.2⟩
theorem Kp.dd (h : Kp K p H v d) : Dd K H v d := h.elim fun F e => Dd.same (fun b o z => e.2.1 b o z) e.2.2
theorem Kp.hole (h : Dd K (So.hole p H) v d) : Kp K p H v d := ⟨So.hole p H, hole_at, hole_same, h⟩
theorem Kp.at (h : Dd K H v d) (e : H p = none) (s : Same H H') : Kp K p H' v d := ⟨H, e, s, h⟩
theorem Kp.non : Kp K p H .non .none := .hole .non
theorem Kp.bl (b : Bool) : Kp K p H (.bl b) (.bool b) := .hole (.bl b)
theorem Kp.int (i : Int) : Kp K p H (.int i) (.int i) := .hole (.int i)
theorem Kp.str (z : Str) : Kp K p H (.str z) (.str z) := .hole (.str z)
end
end So

/-! how long what repr tells of data is, how deep it goes -/
namespace So
open PySem PySem.Spec PyProof.Rows L2
theorem shownAll_map' : ∀ ds : List PyData, PyData.shownAll ds = ds.map PyData.shown
  | [] => rfl
  | d :: r => by
    unfold PyData.shownAll
    rw [shownAll_map' r]
    rfl
theorem sum_le' {k : Nat} : ∀ ds : List PyData, (∀ d ∈ ds, d.shown.length ≤ k) → (((PyData.shownAll ds).map (·.length)).sum) ≤ k * ds.length
  | [], _ => by simp [PyData.shownAll]
  | d :: r, h => by
    have ih := sum_le' r fun x hx => h x (List.mem_cons_of_mem _ hx)
    have h1 := h d List.mem_cons_self
    unfold PyData.shownAll
    rw [List.map_cons, List.sum_cons, List.length_cons, Nat.mul_succ]
    omega
theorem len_all' (ds : List PyData) : (PyData.shownAll ds).length = ds.length := by rw [shownAll_map', List.length_map]
/-- data that shows in n letters, m deep -/
structure OkD (n m : Nat) (d : PyData) : Prop where
  show' : d.showable = true
  deep : d.depth ≤ m
  len : d.shown.length ≤ n
theorem OkD.mono {n m n' m' : Nat} {d : PyData} (h : OkD n m d) (h1 : n ≤ n') (h2 : m ≤ m') : OkD n' m' d := ⟨h.show', Nat.le_trans h.deep h2, Nat.le_trans h.len h1⟩
theorem okAll {n m : Nat} : ∀ {ds : List PyData}, (∀ d ∈ ds, OkD n m d) → PyData.showableAll ds = true ∧ PyData.depthAll ds ≤ m + 1
  | [], _ => ⟨rfl, by simp [PyData.depthAll]⟩
  | d :: r, h => by
    have ih := okAll (ds := r) fun x hx => h x (List.mem_cons_of_mem _ hx)
    have h1 := h d List.mem_cons_self
    refine ⟨?_, ?_⟩
    · simp only [PyData.showableAll, h1.show', ih.1, Bool.and_self]
    · simp only [PyData.depthAll]
      have := h1.deep
      have := ih.2
      omega
theorem OkD.list {n m : Nat} {ds : List PyData} (h : ∀ d ∈ ds, OkD n m d) : OkD (n * ds.length + 2 * ds.length + 3) (m + 2) (.list ds) := by
  have a := okAll h
  refine ⟨by simp only [PyData.showable]; exact a.1, by simp only [PyData.depth]; omega, ?_⟩
  have h1 := listText_len_le (PyData.shownAll ds)
  have h2 := sum_le' (k := n) ds fun d hd => (h d hd).len
  rw [len_all'] at h1
  show (listText (PyData.shownAll ds)).length ≤ _
  omega
theorem OkD.tuple {n m : Nat} {ds : List PyData} (h : ∀ d ∈ ds, OkD n m d) : OkD (n * ds.length + 2 * ds.length + 3) (m + 2) (.tuple ds) := by
  have a := okAll h
  refine ⟨by simp only [PyData.showable]; exact a.1, by simp only [PyData.depth]; omega, ?_⟩
  have h1 := tupleText_len_le (PyData.shownAll ds)
  have h2 := sum_le' (k := n) ds fun d hd => (h d hd).len
  rw [len_all'] at h1
  show (tupleText (PyData.shownAll ds)).length ≤ _
  omega
theorem OkD.int {i : Int} (h : i.natAbs < 2 ^ 250) : OkD 2000 0 (.int i) := by
  have hl : i.natAbs.log2 < 1920 := Nat.lt_of_lt_of_le (PySem.Flt.log2_lt_of (by decide) h) (by decide)
  refine ⟨by simp [PyData.showable, hl], Nat.zero_le _, ?_⟩
  show (Str.ofString (toString i)).length ≤ 2000
  rw [PyProof.Rows.ofString_length]
  exact Nat.le_trans (int_text_length_le (k := 1920) (by decide) hl) (by decide)
theorem OkD.bool (b : Bool) : OkD 2000 0 (.bool b) := ⟨rfl, Nat.zero_le _, by cases b <;> decide⟩
theorem OkD.none : OkD 2000 0 .none := ⟨rfl, Nat.zero_le _, by decide⟩
theorem OkD.str {z : Str} (h : ∀ c ∈ z.cps.toList, c < 128) (hl : z.length ≤ 100) : OkD 2000 0 (.str z) := by
  refine ⟨rfl, Nat.zero_le _, ?_⟩
  have h1 := PySem.StrLaws.reprText_len z (fun c hc => Nat.lt_trans (h c hc) (by decide))
  show (reprText z).length ≤ 2000
  omega
/-- the same texts of the same data -/
theorem OkD.repr {n m : Nat} {d : PyData} (h : OkD n m d) (h1 : m ≤ 60) (h2 : n ≤ 16777216) : d.showable = true ∧ d.depth ≤ 60 ∧ d.shown.length ≤ sizeLine := ⟨h.show', Nat.le_trans h.deep h1, by rw [sizeLine_eq]; exact Nat.le_trans h.len h2⟩
end So

/-! memory without the tables of code objects -/
namespace So
open PySem PySem.Spec PyProof.Rows L2 LamX
def unt (H : Hp) : Hp := fun b => match H b with
  | some (.tbl _) => none
  | o => o
theorem unt_get {H : Hp} {b : Addr} {o : HO} (h : H b = some o) (n : ∀ ps, o ≠ .tbl ps) : unt H b = some o := by
  unfold unt
  rw [h]
  cases o with
  | tbl ps => exact absurd rfl (n ps)
  | _ => rfl
theorem unt_of {H : Hp} {b : Addr} {o : HO} (h : unt H b = some o) : H b = some o ∧ ∀ ps, o ≠ .tbl ps := by
  unfold unt at h
  cases e : H b with
  | none => rw [e] at h; cases h
  | some u =>
    rw [e] at h
    cases u with
    | tbl ps => cases h
    | _ => cases h; exact ⟨rfl, fun ps z => nomatch z⟩
theorem unt_none {H : Hp} {b : Addr} (h : H b = none) : unt H b = none := by
  unfold unt
  rw [h]
theorem unt_same (H : Hp) : Same (unt H) H := fun b o e => (unt_of e).1
theorem unt_ext {H H' : Hp} (e : ExtN H H') : Same (unt H) H' := fun b o h => e b o (unt_of h).1 (unt_of h).2
theorem unt_mono {F H : Hp} (s : Same F H) : Same (unt F) (unt H) := fun b o h => unt_get (s _ _ (unt_of h).1) (unt_of h).2
theorem rd_unt {H : Hp} {a : Addr} {u : HO} (h : Rd H a u) (n : ∀ ps, u ≠ .tbl ps) : Rd (unt H) a u := by
  rcases h with h | ⟨o, h⟩
  · exact .inl (unt_get h n)
  · exact .inr ⟨o, unt_get h fun ps z => nomatch z⟩
theorem sql_unt {K : PySem.W.Frag} {H : Hp} {a : Addr} {xs : List V} (h : SqL K H a xs) : SqL K (unt H) a xs := by
  rcases h with h | h
  · exact .inl (rd_unt h fun ps z => nomatch z)
  · exact .inr h
theorem sqt_unt {K : PySem.W.Frag} {H : Hp} {a : Addr} {xs : List V} (h : SqT K H a xs) : SqT K (unt H) a xs := by
  rcases h with h | h
  · exact .inl (rd_unt h fun ps z => nomatch z)
  · exact .inr h
mutual
theorem dd_unt {K : PySem.W.Frag} {H : Hp} : ∀ {d : PyData} {v : V}, Dd K H v d → Dd K (unt H) v d
  | _, _, .non => .non
  | _, _, .bl b => .bl b
  | _, _, .int i => .int i
  | _, _, .str x => .str x
  | _, _, .lst e h => .lst (sql_unt e) (ddAll_unt h)
  | _, _, .tup e h => .tup (sqt_unt e) (ddAll_unt h)
  | _, _, .dct e h => .dct (unt_get e fun ps z => nomatch z) (ddKv_unt h)
theorem ddAll_unt {K : PySem.W.Frag} {H : Hp} : ∀ {ds : List PyData} {vs : List V}, DdAll K H vs ds → DdAll K (unt H) vs ds
  | _, _, .nil => .nil
  | _, _, .cons h t => .cons (dd_unt h) (ddAll_unt t)
theorem ddKv_unt {K : PySem.W.Frag} {H : Hp} : ∀ {ds : List (PyData × PyData)} {vs : List (Key × V)}, DdKv K H vs ds → DdKv K (unt H) vs ds
  | _, _, .nil => .nil
  | _, _, .cons h t => .cons (dd_unt h) (ddKv_unt t)
end
theorem Kp.extN {K : PySem.W.Frag} {p : Addr} {H H' : Hp} {v : V} {d : PyData} (h : Kp K p H v d) (e : ExtN H H') : Kp K p H' v d := by
  obtain ⟨F, h1, h2, h3⟩ := h
  exact ⟨unt F, unt_none h1, (unt_mono h2).trans (unt_ext e), dd_unt h3⟩
end So

/-! texts of signs that are code points: how long what repr tells of them is -/
namespace So
open PySem PySem.Spec PyProof.Rows L2
def Wd (z : Str) : Prop := ∀ c ∈ z.cps.toList, c < 0x110000
theorem wd_of (s : String) : Wd (Str.ofString s) := by
  intro c hc
  rw [Str.ofString_eq_toList] at hc
  obtain ⟨x, _, rfl⟩ := List.mem_map.mp (show c ∈ s.toList.map Char.toNat by simpa using hc)
  have h : x.toNat < 1114112 := by
    have := x.valid
    unfold UInt32.isValidChar Nat.isValidChar at this
    show x.val.toNat < _
    omega
  exact h
theorem wd_app {a b : Str} (ha : Wd a) (hb : Wd b) : Wd (a ++ b) := by
  intro c hc
  have e : (a ++ b).cps.toList = a.cps.toList ++ b.cps.toList := by
    show (a.cps ++ b.cps).toList = _
    simp
  rw [e] at hc
  exact (List.mem_append.mp hc).elim (ha c) (hb c)
theorem wd_strOk {z : Str} (h : Wd z) : PyData.strOk z = true := by
  unfold PyData.strOk
  rw [Array.all_eq_true']
  intro c hc
  exact decide_eq_true (h c (by simpa using hc))
theorem wd_empty : Wd Str.empty := fun c hc => by cases hc
theorem wd_sjoin {a : Str} (ha : Wd a) : ∀ {ys : List Str}, (∀ y ∈ ys, Wd y) → Wd (Str.join a ys)
  | [], _ => wd_empty
  | [x], h => h x List.mem_cons_self
  | x :: y :: r, h => wd_app (wd_app (h x List.mem_cons_self) ha) (wd_sjoin ha fun z hz => h z (List.mem_cons_of_mem _ hz))
theorem wd_join {a : Str} (ha : Wd a) {ys : List Str} (h : ∀ y ∈ ys, Wd y) : Wd (Txt.join a ys) := by
  rw [TL.join_eq]
  exact wd_sjoin ha h
theorem sjoin_len (a : Str) : ∀ ys : List Str, (Str.join a ys).length ≤ (ys.map (·.length)).sum + ys.length * a.length
  | [] => Nat.zero_le _
  | [x] => by simp [Str.join]
  | x :: y :: r => by
    have ih := sjoin_len a (y :: r)
    have e1 : (Str.join a (x :: y :: r)).length = x.length + a.length + (Str.join a (y :: r)).length := by
      show (x ++ a ++ Str.join a (y :: r)).length = _
      rw [PyProof.Rows.len_cat, PyProof.Rows.len_cat]
    rw [e1, List.map_cons, List.sum_cons, List.length_cons, Nat.succ_mul]
    omega
theorem join_len (a : Str) (ys : List Str) : (Txt.join a ys).length ≤ (ys.map (·.length)).sum + ys.length * a.length := by
  rw [TL.join_eq]
  exact sjoin_len a ys
theorem OkD.strW {z : Str} {n : Nat} (h : Wd z) (hl : z.length ≤ n) : OkD (10 * n + 2) 0 (.str z) := by
  refine ⟨rfl, Nat.zero_le _, ?_⟩
  have h1 := PySem.StrLaws.reprText_len z fun c hc => Nat.lt_trans (h c hc) (by decide)
  show (reprText z).length ≤ _
  omega
end So

namespace K15
open PySem PySem.Spec PyProof.Rows L2 So LamX
abbrev sTick : Stmt := topS 50
abbrev sKinds : Stmt := topS 51
abbrev sDrawn : Stmt := topS 52
abbrev drawnN : List Str := ["_law_pen_here", "_law_crew", "_law_kinds_here", "_law_kind", "_law_left", "_law_right_here", "_law_tick_here", "_law_far"]
theorem scTick : FnScope ["_law_pen_here", "_law_some"] ["_law_pen_here"] (defScope sTick) := ⟨rfl, rfl, rfl, by decide +kernel, rfl, by decide +kernel, by decide +kernel⟩
theorem scKinds : FnScope ["_law_some"] [] (defScope sKinds) := ⟨rfl, rfl, rfl, by decide +kernel, rfl, by decide +kernel, by decide +kernel⟩
theorem scDrawn : FnScope drawnN ["_law_pen_here", "_law_crew", "_law_kinds_here"] (defScope sDrawn) := ⟨rfl, rfl, rfl, by decide +kernel, rfl, by decide +kernel, by decide +kernel⟩
theorem Pen.same {H H' : Hp} {p l : Addr} {ns : List Int} {n : Nat} {g : Int} (h : Pen H p l ns n g) (s : Same H H') : Pen H' p l ns n g := ⟨s _ _ h.pen, s _ _ h.cells, h.left⟩
theorem Pen.ne {H : Hp} {p l q : Addr} {ns : List Int} {n : Nat} {g : Int} (h : Pen H p l ns n g) (hq : H q = none) : q ≠ p := (ne_of_none h.pen hq).symm
theorem offS {p : Addr} {H H' : Hp} (s : Same H H') : Off p H H' := fun b o _ e => s b o e
/-! ### a drawn row -/
/-- a value that lies in no memory: a name, a moment, a truth -/
inductive Flat1 : V → Prop where
  | nam {z : Str} (h : isName z = true) : Flat1 (.str z)
  | mom {i : Int} (h : 0 ≤ i ∧ i ≤ 1000000000000000000000000000000) : Flat1 (.int i)
  | tru (b : Bool) : Flat1 (.bl b)
def FlatRow (kind : Str) (xs : List V) : Prop := xs.length = (formsOf kind).length ∧ ∀ q ∈ xs.zip (formsOf kind), okF q.2 q.1 = true ∧ Flat1 q.1
section
variable {P : Program} {w : World} {K : PySem.W.Frag} {mg : Str → Option Value} {base : Heap}
def spTick : Sp := fun vs H Q _ => ∃ (p l : Addr) (ns : List Int) (n : Nat) (g : Int), vs = [.ref p] ∧ Pen H p l ns n g ∧ n < 999000 ∧
  ∀ (i : Int) (n' : Nat) (g' : Int) (H' : Hp), 0 ≤ i → i ≤ 1000000000000000000000000000000 → n' ≤ n + 3 → Off p H H' → Pen H' p l ns n' g' → Q (.int i) H'
theorem ok_tick {f fP fD : Addr} {fd fdP fdD : FuncData} (F : Fun K "_law_tick" "_law_tick" sTick f fd) (FP : Fun K "_law_pick" "_law_pick" sPick fP fdP) (bP : Binds K fdP ["_law_pen_here", "_law_some"] []) (gP : mg "_law_pick" = some (.ref fP)) (GP : FnOk P w K mg base CX0 2 fP fdP ["_law_pen_here", "_law_some"] (spPick K))
    (FD : Fun K "_law_draw" "_law_draw" sDraw fD fdD) (bD : Binds K fdD ["_law_pen_here", "_law_many"] []) (gD : mg "_law_draw" = some (.ref fD)) (GD : FnOk P w K mg base CX0 1 fD fdD ["_law_pen_here", "_law_many"] spDraw) : FnOk P w K mg base CX0 3 f fd ["_law_pen_here"] spTick := by
  refine F.ok scTick (fun vs H Q E h => ?_) (fun cdv A outer s H vs Q E hr h => ?_)
  · obtain ⟨p, l, ns, n, g, rfl, _⟩ := h
    rfl
  · obtain ⟨p, l, ns, n, g, rfl, hp, hn, k⟩ := h
    have hr1 : Room 1 _ := hr.mono (by decide)
    refine ⟨_, pss_cons (ps_set (i := 1) scTick.nd rfl (.inl rfl) (pe_lst (pa_cons pe_int (pa_cons pe_int (pa_cons pe_int (pa_cons pe_int (pa_cons pe_int (pa_cons pe_int (pa_cons pe_int (pa_cons pe_int (pa_cons (pe_op op_pow pe_int pe_int) (pa_cons (pe_op op_sub (pe_op op_pow pe_int pe_int) pe_int) pa_nil))))))))))))
      (pss_one (ps_ret (pe_call GP hr (by rfl) gP FP.kp bP .nil pass0 (pa_cons (pv 0) (pa_cons (pe_op op_cat (pv 1) (pe_lst (pa_cons (pe_call GD hr1 (by rfl) gD FD.kp bD .nil pass0 (pa_cons (pv 0) (pa_cons pe_int pa_nil))) (pa_cons (pe_call GD hr1 (by rfl) gD FD.kp bD .nil pass0 (pa_cons (pv 0) (pa_cons (pe_op op_pow pe_int pe_int) pa_nil))) pa_nil)))) pa_nil))))), ?_⟩
    refine ⟨_, _, rfl, rfl, ⟨by decide, by decide, by decide⟩, _, _, rfl, rfl, ⟨by decide, by decide, by decide⟩, _, _, rfl, rfl, by show 10 ≤ sizeLine; decide, fun s1 h1 => ?_⟩
    have hp1 := hp.new (o := .lst [V.int 0, .int 1, .int 2, .int 3, .int 4, .int 5, .int 6, .int 8, .int ((10 : Int) ^ Int.toNat 30), .int ((10 : Int) ^ Int.toNat 30 - 1)]) h1
    have nsp := hp.ne h1
    refine ⟨_, rfl, _, rfl, _, rfl, p, l, ns, n, g, _, rfl, hp1, by omega, by decide, by decide, fun d1 n2 g2 H2 d10 d11 hn2 off2 pen2 => ?_⟩
    refine ⟨_, rfl, _, _, rfl, rfl, ⟨by decide, by decide, by decide⟩, p, l, ns, n2, g2, _, rfl, pen2, by omega, by decide +kernel, by decide +kernel, fun d2 n3 g3 H3 d20 d21 hn3 off3 pen3 => ?_⟩
    replace d21 : d2 < 1000000000000000000000000000000 := d21
    have hS3 := off3 _ _ nsp (off2 _ _ nsp (show (upd H s1 (.lst [V.int 0, .int 1, .int 2, .int 3, .int 4, .int 5, .int 6, .int 8, .int ((10 : Int) ^ Int.toNat 30), .int ((10 : Int) ^ Int.toNat 30 - 1)])) s1 = _ from upd_same))
    refine ⟨by show 2 ≤ sizeLine; decide, fun s2 h2 => ⟨s1, s2, _, _, rfl, rfl, same_upd0 h2 _ _ hS3, upd_same, by show 12 ≤ sizeLine; decide, fun s3 h3 => ?_⟩⟩
    have s23 := (same_upd0 (o := .lst [.int d1, .int d2]) h2).trans (same_upd0 (o := .lst ([V.int 0, .int 1, .int 2, .int 3, .int 4, .int 5, .int 6, .int 8, .int ((10 : Int) ^ Int.toNat 30), .int ((10 : Int) ^ Int.toNat 30 - 1)] ++ [.int d1, .int d2])) h3)
    have offA : Off p H H3 := (offS (same_upd0 h1)).trans (off2.trans off3)
    refine ⟨p, l, ns, n3, g3, _, rfl, pen3.same s23, by omega, .inl ⟨s3, _, rfl, (pen3.same (same_upd0 h2)).ne h3, upd_same, by show 0 < 12; decide, by show 12 ≤ 1000; decide, fun v n4 g4 H4 hv hn4 off4 pen4 => ?_⟩⟩
    have offB := (offA.trans (offS s23)).trans off4
    have hv' : v ∈ [V.int 0, .int 1, .int 2, .int 3, .int 4, .int 5, .int 6, .int 8, .int ((10 : Int) ^ Int.toNat 30), .int ((10 : Int) ^ Int.toNat 30 - 1), .int d1, .int d2] := hv
    simp only [List.mem_cons, List.not_mem_nil, or_false] at hv'
    rcases hv' with h | h | h | h | h | h | h | h | h | h | h | h <;> subst h
    · exact k _ n4 g4 H4 (by decide) (by decide) (by omega) offB pen4
    · exact k _ n4 g4 H4 (by decide) (by decide) (by omega) offB pen4
    · exact k _ n4 g4 H4 (by decide) (by decide) (by omega) offB pen4
    · exact k _ n4 g4 H4 (by decide) (by decide) (by omega) offB pen4
    · exact k _ n4 g4 H4 (by decide) (by decide) (by omega) offB pen4
    · exact k _ n4 g4 H4 (by decide) (by decide) (by omega) offB pen4
    · exact k _ n4 g4 H4 (by decide) (by decide) (by omega) offB pen4
    · exact k _ n4 g4 H4 (by decide) (by decide) (by omega) offB pen4
    · exact k _ n4 g4 H4 (by decide +kernel) (by decide +kernel) (by omega) offB pen4
    · exact k _ n4 g4 H4 (by decide +kernel) (by decide +kernel) (by omega) offB pen4
    · exact k _ n4 g4 H4 d10 (by omega) (by omega) offB pen4
    · exact k _ n4 g4 H4 d20 (by omega) (by omega) offB pen4
theorem okF_n (v : V) : okF "name" v = gNam v := by unfold okF; rw [if_pos rfl]
theorem okF_m (v : V) : okF "moment" v = gMom v := by unfold okF; rw [if_neg (by decide +kernel), if_pos rfl]
theorem okF_b (v : V) : okF "beginning" v = gBeg v := by unfold okF; rw [if_neg (by decide +kernel), if_neg (by decide +kernel), if_pos rfl]
theorem okF_t (v : V) : okF "truth" v = gTru v := by unfold okF; rw [if_neg (by decide +kernel), if_neg (by decide +kernel), if_neg (by decide +kernel)]
theorem row_of {kind : Str} {fo : List Str} {xs : List V} (e : formsOf kind = fo) (hl : xs.length = fo.length) (h : ∀ q ∈ xs.zip fo, okF q.2 q.1 = true ∧ Flat1 q.1) : FlatRow kind xs := by
  unfold FlatRow
  rw [e]
  exact ⟨hl, h⟩
theorem nam_ok {z : Str} (h : isName z = true) : okF "name" (.str z) = true ∧ Flat1 (.str z) := ⟨by rw [okF_n]; exact h, .nam h⟩
theorem mom_ok {i : Int} (h : 0 ≤ i ∧ i ≤ 1000000000000000000000000000000) : okF "moment" (.int i) = true ∧ Flat1 (.int i) := ⟨by rw [okF_m]; exact decide_eq_true h, .mom h⟩
theorem beg_ok {i : Int} (h : 1 ≤ i ∧ i ≤ 1000000000000000000000000000000) : okF "beginning" (.int i) = true ∧ Flat1 (.int i) := ⟨by rw [okF_b]; exact decide_eq_true h, .mom ⟨by omega, h.2⟩⟩
theorem tru_ok (b : Bool) : okF "truth" (.bl b) = true ∧ Flat1 (.bl b) := ⟨by rw [okF_t]; rfl, .tru b⟩
theorem kinds_last : ∀ kind ∈ kinds, ¬ kind = "begun" → ¬ kind = "trusted" → ¬ kind = "found" → (["setby", "passed", "failed"] : List Str).contains kind = false → formsOf kind = (["name", "moment", "name", "moment"] : List Str) := by decide +kernel
theorem kinds_three : ∀ kind ∈ kinds, (["setby", "passed", "failed"] : List Str).contains kind = true → (kind = "setby" ∧ formsOf kind = (["name", "beginning", "name"] : List Str)) ∨ formsOf kind = (["name", "moment", "name"] : List Str) := by decide +kernel
/-- a row walked by itself: what follows it is said once -/
theorem ps_cut {X : Cx} {st : Stmt} {t : TS} (h : PS X st t) : PS X st (fun D σ H => ∃ N : L2.St → Hp → Prop, t { D with nx := N } σ H ∧ ∀ σ' H', N σ' H' → D.nx σ' H') :=
  ⟨fun pins s σ H D I ⟨N, h1, h2⟩ => wpAny_mono (h.run pins s σ H { D with nx := N } I h1) (fun fl s' z => by
    cases fl with
    | next =>
      obtain ⟨σ', H', I', q⟩ := z
      exact ⟨σ', H', I', h2 _ _ q⟩
    | ret v => exact z
    | brk => exact z
    | cont => exact z) fun _ _ z => z⟩
/-- the kinds, in a new list -/
def spKinds : Sp := fun vs H Q _ => vs = [] ∧ ∀ (H' : Hp) (a : Addr), Same H H' → H a = none → H' a = some (.lst (kinds.map V.str)) → Q (.ref a) H'
theorem ok_kinds {f : Addr} {fd : FuncData} (F : Fun K "_law_kinds" "_law_kinds" sKinds f fd) : FnOk P w K mg base CX0 1 f fd [] spKinds := by
  refine F.ok scKinds (fun vs H Q E h => ?_) (fun cdv A outer s H vs Q E hr h => ?_)
  · obtain ⟨rfl, _⟩ := h
    rfl
  · obtain ⟨rfl, q⟩ := h
    refine ⟨_, pss_cons (ps_set (i := 0) scKinds.nd rfl (.inl rfl) (pe_lst (pa_cons pe_str (pa_cons pe_str (pa_cons pe_str (pa_cons pe_str (pa_cons pe_str (pa_cons pe_str pa_nil))))))))
      (pss_one (ps_ret (pe_op op_cat (pv 0) (pe_lst (pa_cons pe_str (pa_cons pe_str (pa_cons pe_str (pa_cons pe_str pa_nil)))))))), ?_⟩
    refine ⟨by show 6 ≤ sizeLine; decide, fun a ha => ?_⟩
    refine ⟨_, rfl, by show 4 ≤ sizeLine; decide, fun b hb => ?_⟩
    refine ⟨a, b, _, _, rfl, rfl, (upd_ne (ne_of_none upd_same hb)).trans upd_same, upd_same, by show 10 ≤ sizeLine; decide, fun c hc => ?_⟩
    exact q _ c (same3 ha hb hc).1 (same3 (o3 := .lst []) ha hb hc).2 upd_same
def spDrawn : Sp := fun vs H Q _ => ∃ (p l cr kk : Addr) (ns : List Int) (n : Nat) (g : Int) (kind : Str) (zs : List Str), vs = [.ref p, .ref cr, .ref kk] ∧ Pen H p l ns n g ∧ n < 900000 ∧ kind ∈ kinds ∧ H kk = some (.lst [.str kind]) ∧ kk ≠ p ∧ H cr = some (.lst (zs.map V.str)) ∧ cr ≠ p ∧ 0 < zs.length ∧ zs.length ≤ 1000 ∧ (∀ z ∈ zs, isName z = true) ∧
  ∀ (xs : List V) (tr : Addr) (n' : Nat) (g' : Int) (H' : Hp), FlatRow kind xs → n' ≤ n + 12 → Off p H H' → Pen H' p l ns n' g' → H' tr = some (.tup (.str kind :: xs)) → Q (.ref tr) H'
theorem ok_drawn {f fP fD fT : Addr} {fd fdP fdD fdT : FuncData} (F : Fun K "_law_drawn" "_law_drawn" sDrawn f fd) (mi : mg "int" = none) (FP : Fun K "_law_pick" "_law_pick" sPick fP fdP) (bP : Binds K fdP ["_law_pen_here", "_law_some"] []) (gP : mg "_law_pick" = some (.ref fP)) (GP : FnOk P w K mg base CX0 2 fP fdP ["_law_pen_here", "_law_some"] (spPick K))
    (FD : Fun K "_law_draw" "_law_draw" sDraw fD fdD) (bD : Binds K fdD ["_law_pen_here", "_law_many"] []) (gD : mg "_law_draw" = some (.ref fD)) (GD : FnOk P w K mg base CX0 1 fD fdD ["_law_pen_here", "_law_many"] spDraw)
    (FT : Fun K "_law_tick" "_law_tick" sTick fT fdT) (bT : Binds K fdT ["_law_pen_here"] []) (gT : mg "_law_tick" = some (.ref fT)) (GT : FnOk P w K mg base CX0 3 fT fdT ["_law_pen_here"] spTick) : FnOk P w K mg base CX0 4 f fd ["_law_pen_here", "_law_crew", "_law_kinds_here"] spDrawn := by
  refine F.ok scDrawn (fun vs H Q E h => ?_) (fun cdv A outer s H vs Q E hr h => ?_)
  · obtain ⟨_, _, _, _, _, _, _, _, _, rfl, _⟩ := h
    rfl
  · obtain ⟨p, l, cr, kk, ns, n, g, kind, zs, rfl, hp, hn, hk, hkk, nkp, hcr, ncp, i1, i2, i3, q⟩ := h
    have hr1 : Room 1 _ := hr.mono (by decide)
    have hr2 : Room 2 _ := hr.mono (by decide)
    refine ⟨_, pss_cons (ps_set (i := 3) scDrawn.nd rfl (.inl rfl) (pe_call GP hr2 (by rfl) gP FP.kp bP .nil pass0 (pa_cons (pv 0) (pa_cons (pv 2) pa_nil))))
      (pss_cons (ps_par (i := 4) (j := 5) (by rfl) scDrawn.nd rfl rfl (by decide) rfl rfl (pa_cons (pe_call GP hr2 (by rfl) gP FP.kp bP .nil pass0 (pa_cons (pv 0) (pa_cons (pv 1) pa_nil))) (pa_cons (pe_call GP hr2 (by rfl) gP FP.kp bP .nil pass0 (pa_cons (pv 0) (pa_cons (pv 1) pa_nil))) pa_nil)) (by rfl))
      (pss_cons (ps_par (i := 6) (j := 7) (by rfl) scDrawn.nd rfl rfl (by decide) rfl rfl (pa_cons (pe_call GT hr (by rfl) gT FT.kp bT .nil pass0 (pa_cons (pv 0) pa_nil)) (pa_cons (pe_call GT hr (by rfl) gT FT.kp bT .nil pass0 (pa_cons (pv 0) pa_nil)) pa_nil)) (by rfl))
      (pss_cons (ps_cut (ps_if (pt_cmpR op_in_seq (pv 3) (pe_tup (pa_cons pe_str (pa_cons pe_str pa_nil))) (by rfl)) (pss_one (ps_set (i := 6) scDrawn.nd rfl (.inl rfl) (pe_op op_add (pv 6) (pe_callTy call_int1 (by rfl) mi (by decide +kernel) (pa_cons (pe_cmpR op_eq (pv 6) pe_int (nomark _)) pa_nil))))) pss_nil))
      (pss_cons (ps_if (pt_cmpR op_eq (pv 3) pe_str (nomark _)) (pss_one (ps_ret (pe_tup (pa_cons (pv 3) (pa_cons (pv 4) (pa_cons (pv 6) pa_nil)))))) pss_nil)
      (pss_cons (ps_if (pt_cmpR op_eq (pv 3) pe_str (nomark _)) (pss_one (ps_ret (pe_tup (pa_cons (pv 3) (pa_cons (pv 4) pa_nil))))) pss_nil)
      (pss_cons (ps_if (pt_cmpR op_eq (pv 3) pe_str (nomark _)) (pss_one (ps_ret (pe_tup (pa_cons (pv 3) (pa_cons (pv 4) (pa_cons (pv 6) (pa_cons (pe_cmpR op_eq (pe_call GD hr1 (by rfl) gD FD.kp bD .nil pass0 (pa_cons (pv 0) (pa_cons pe_int pa_nil))) pe_int (nomark _)) pa_nil))))))) pss_nil)
      (pss_cons (ps_if (pt_cmpR op_in_seq (pv 3) (pe_tup (pa_cons pe_str (pa_cons pe_str (pa_cons pe_str pa_nil)))) (by rfl)) (pss_one (ps_ret (pe_tup (pa_cons (pv 3) (pa_cons (pv 4) (pa_cons (pv 6) (pa_cons (pv 5) pa_nil))))))) pss_nil)
      (pss_one (ps_ret (pe_tup (pa_cons (pv 3) (pa_cons (pv 4) (pa_cons (pv 6) (pa_cons (pv 5) (pa_cons (pv 7) pa_nil))))))))))))))), ?_⟩
    refine ⟨_, rfl, _, rfl, p, l, ns, n, g, _, rfl, hp, by omega, .inl ⟨kk, _, rfl, nkp, hkk, by show 0 < 1; decide, by show 1 ≤ 1000; decide, fun v n1 g1 H1 hv hn1 off1 pen1 => ?_⟩⟩
    obtain rfl : v = .str kind := by simpa using hv
    have hcr1 := off1 _ _ ncp hcr
    have nm : ∀ v ∈ zs.map V.str, ∃ z, v = .str z ∧ isName z = true := fun v hv => by
      obtain ⟨z, hz, rfl⟩ := List.mem_map.mp hv
      exact ⟨z, rfl, i3 z hz⟩
    have zl1 : 0 < (zs.map V.str).length := by rw [List.length_map]; exact i1
    have zl2 : (zs.map V.str).length ≤ 1000 := by rw [List.length_map]; exact i2
    refine ⟨_, rfl, _, rfl, p, l, ns, n1, g1, _, rfl, pen1, by omega, .inl ⟨cr, _, rfl, ncp, hcr1, zl1, zl2, fun v2 n2 g2 H2 hv2 hn2 off2 pen2 => ?_⟩⟩
    obtain ⟨zl, rfl, il⟩ := nm v2 hv2
    refine ⟨_, rfl, _, rfl, p, l, ns, n2, g2, _, rfl, pen2, by omega, .inl ⟨cr, _, rfl, ncp, off2 _ _ ncp hcr1, zl1, zl2, fun v3 n3 g3 H3 hv3 hn3 off3 pen3 => ?_⟩⟩
    obtain ⟨zr, rfl, ir⟩ := nm v3 hv3
    refine ⟨_, _, rfl, ?_⟩
    refine ⟨_, rfl, p, l, ns, n3, g3, rfl, pen3, by omega, fun t1 n4 g4 H4 t10 t11 hn4 off4 pen4 => ⟨_, rfl, p, l, ns, n4, g4, rfl, pen4, by omega, fun t2 n5 g5 H5 t20 t21 hn5 off5 pen5 => ⟨_, _, rfl, ?_⟩⟩⟩
    have offA := off1.trans (off2.trans (off3.trans (off4.trans off5)))
    refine ⟨fun σ G => ∃ t : Int, σ = [some (.ref p), some (.ref cr), some (.ref kk), some (.str kind), some (.str zl), some (.str zr), some (.int t), some (.int t2)] ∧ 0 ≤ t ∧ t ≤ 1000000000000000000000000000000 ∧ ((["begun", "setby"] : List Str).contains kind = true → 1 ≤ t) ∧ Same H5 G, ?_, ?_⟩
    · refine ⟨_, rfl, by show 2 ≤ sizeLine; decide, fun tp htp => ⟨tp, _, rfl, .inr (SqT.of upd_same), rfl, flat_strs ["begun", "setby"], ?_⟩⟩
      have s6 := same_upd0 (o := .tup [.str "begun", .str "setby"]) htp
      rw [show (if false = true then !inV (V.str kind) [V.str "begun", V.str "setby"] else inV (V.str kind) [V.str "begun", V.str "setby"]) = (["begun", "setby"] : List Str).contains kind from inV_strs kind ["begun", "setby"]]
      refine ⟨_, rfl, ite2 (fun c => ?_) (fun c => ?_)⟩
      · refine ⟨_, rfl, _, rfl, rfl, .inr ⟨_, rfl, ?_⟩⟩
        by_cases z : t1 = 0
        · subst z
          exact ⟨_, _, rfl, by rw [decide_eq_true rfl]; rfl, 0 + 1, rfl, by omega, by omega, fun _ => by omega, s6⟩
        · refine ⟨_, _, rfl, by rw [decide_eq_false (fun y => z (V.int.inj y))]; rfl, t1 + 0, rfl, by omega, by omega, fun _ => by omega, s6⟩
      · exact ⟨t1, rfl, t10, t11, fun y => absurd y c, s6⟩
    rintro σ H6 ⟨t, rfl, t0, t3, tb, s6⟩
    have offB := offA.trans (offS s6)
    have pen6 := pen5.same s6
    have fin : ∀ {xs : List V} {tr : Addr} {n7 : Nat} {g7 : Int} {G : Hp}, FlatRow kind xs → n7 ≤ n + 12 → Off p H6 G → Pen G p l ns n7 g7 → G tr = none → Q (.ref tr) (upd G tr (.tup (.str kind :: xs))) := fun hf h7 ho hp7 htr => q _ _ _ _ _ hf h7 (offB.trans (ho.trans (offS (same_upd0 htr)))) (hp7.same (same_upd0 htr)) upd_same
    refine ⟨_, rfl, rfl, _, rfl, ite2 (fun e => ?_) (fun e1 => ?_)⟩
    · obtain rfl : kind = "begun" := V.str.inj (of_decide_eq_true e)
      refine ⟨_, rfl, _, rfl, _, rfl, by show 3 ≤ sizeLine; decide, fun tr htr => fin (row_of (fo := ["name", "beginning"]) (by decide +kernel) rfl ?_) (by omega) Off.refl pen6 htr⟩
      simp only [List.zip_cons_cons, List.zip_nil_right, List.forall_mem_cons]
      exact ⟨nam_ok il, beg_ok ⟨tb (by decide +kernel), t3⟩, fun _ h => nomatch h⟩
    have k1 : ¬ kind = "begun" := fun z => e1 (decide_eq_true (by rw [z]))
    refine ⟨_, rfl, rfl, _, rfl, ite2 (fun e => ?_) (fun e2 => ?_)⟩
    · obtain rfl : kind = "trusted" := V.str.inj (of_decide_eq_true e)
      refine ⟨_, rfl, _, rfl, by show 2 ≤ sizeLine; decide, fun tr htr => fin (row_of (fo := ["name"]) (by decide +kernel) rfl ?_) (by omega) Off.refl pen6 htr⟩
      simp only [List.zip_cons_cons, List.zip_nil_right, List.forall_mem_cons]
      exact ⟨nam_ok il, fun _ h => nomatch h⟩
    have k2 : ¬ kind = "trusted" := fun z => e2 (decide_eq_true (by rw [z]))
    refine ⟨_, rfl, rfl, _, rfl, ite2 (fun e => ?_) (fun e3 => ?_)⟩
    · obtain rfl : kind = "found" := V.str.inj (of_decide_eq_true e)
      refine ⟨_, rfl, _, rfl, _, rfl, _, rfl, p, l, ns, n5, g5, _, rfl, pen6, by omega, by decide, by decide, fun d n7 g7 H7 _ _ hn7 off7 pen7 => ⟨rfl, by show 4 ≤ sizeLine; decide, fun tr htr => fin (row_of (fo := ["name", "moment", "truth"]) (by decide +kernel) rfl ?_) (by omega) off7 pen7 htr⟩⟩
      simp only [List.zip_cons_cons, List.zip_nil_right, List.forall_mem_cons]
      exact ⟨nam_ok il, mom_ok ⟨t0, t3⟩, tru_ok _, fun _ h => nomatch h⟩
    have k3 : ¬ kind = "found" := fun z => e3 (decide_eq_true (by rw [z]))
    refine ⟨_, rfl, by show 3 ≤ sizeLine; decide, fun tp htp => ⟨tp, _, rfl, .inr (SqT.of upd_same), rfl, flat_strs ["setby", "passed", "failed"], ?_⟩⟩
    have s7 := same_upd0 (o := .tup [.str "setby", .str "passed", .str "failed"]) htp
    rw [show (if false = true then !inV (V.str kind) [V.str "setby", V.str "passed", V.str "failed"] else inV (V.str kind) [V.str "setby", V.str "passed", V.str "failed"]) = (["setby", "passed", "failed"] : List Str).contains kind from inV_strs kind ["setby", "passed", "failed"]]
    refine ⟨_, rfl, ite2 (fun c => ?_) (fun c => ?_)⟩
    · refine ⟨_, rfl, _, rfl, _, rfl, _, rfl, by show 4 ≤ sizeLine; decide, fun tr htr => fin ?_ (by omega) (offS s7) (pen6.same s7) htr⟩
      rcases kinds_three kind hk c with ⟨e, h⟩ | h
      · refine row_of h rfl ?_
        simp only [List.zip_cons_cons, List.zip_nil_right, List.forall_mem_cons]
        exact ⟨nam_ok il, beg_ok ⟨tb (by rw [e]; decide +kernel), t3⟩, nam_ok ir, fun _ h => nomatch h⟩
      · refine row_of h rfl ?_
        simp only [List.zip_cons_cons, List.zip_nil_right, List.forall_mem_cons]
        exact ⟨nam_ok il, mom_ok ⟨t0, t3⟩, nam_ok ir, fun _ h => nomatch h⟩
    · refine ⟨_, rfl, _, rfl, _, rfl, _, rfl, _, rfl, by show 5 ≤ sizeLine; decide, fun tr htr => fin (row_of (kinds_last kind hk k1 k2 k3 (Bool.eq_false_iff.mpr c)) rfl ?_) (by omega) (offS s7) (pen6.same s7) htr⟩
      simp only [List.zip_cons_cons, List.zip_nil_right, List.forall_mem_cons]
      exact ⟨nam_ok il, mom_ok ⟨t0, t3⟩, nam_ok ir, mom_ok ⟨t20, t21⟩, fun _ h => nomatch h⟩
end
end K15

namespace So
open PySem PySem.Spec PyProof.Rows L2
section
variable {X : Cx} {CX : CXT} {k : Nat} {C f : Addr} {fd : FuncData} {ps : List Str} {sp : Sp} {E : XK}
/-- o << n by an own __lshift__ -/
theorem op_lshOwn {fo ro : Option Value} (F : FnOk X.prog X.w X.K X.mg X.base CX k f fd ps sp) (hs : PySem.W.findIn X.K (.ref C) "__lshift__" = some (some (.ref f))) (hf : PySem.W.isFn X.K (.ref f) = true) (hb : Binds X.K fd ps []) (hx : Passes CX X E) (hr : Room k X.A)
    (hc : PySem.W.selfFirst X.K C = true) (hrl : PySem.W.findIn X.K (.ref C) "__rlshift__" = some none) (h1 : PySem.W.findIn X.K (.type "int") "__lshift__" = some fo) (h2 : PySem.W.findIn X.K (.type "int") "__rlshift__" = some ro) :
    OpR X (binaryOp .LShift) (fun x y H Q => ∃ (a dx : Addr) (fs : List (Str × V)) (n : Int), x = .ref a ∧ y = .int n ∧ H a = some (.ins C dx fs) ∧ sp [.ref a, .int n] H Q E) := by
  intro pins s σ H x y v u Q I rx ry h
  obtain ⟨a, dx, fs, n, rfl, rfl, ha, q⟩ := h
  cases rx
  obtain ⟨t, rfl⟩ := ry
  obtain ⟨mA, J, _⟩ := ins_get I.hok ha
  obtain ⟨od, J, _⟩ := J.look
  obtain ⟨m, hF⟩ := I.fr
  refine PySem.W.ksp_binT (op := .LShift) hF I.ok.mod.kin J (T := "int") rfl hc hs hf hrl (Or.inl rfl) h1 h2 (sub_ty (by decide +kernel)) ?_
  refine wpAny_mono (run_fn (us := [.ref a, .int n t]) (vs := [.ref a, .int n]) F hr hb .nil hx I (.cons rfl (.cons ⟨t, rfl⟩ .nil)) q) (fun w s' z => ?_) fun _ _ z => z
  obtain ⟨v, H', I', r, q'⟩ := z
  cases w <;> first | exact ⟨v, H', I', r, q'⟩ | (cases v <;> simp [L2.RelV] at r)
/-- isinstance(e, (c, ..)), e a kept exception -/
theorem call_isXoT : CallR X (.builtin "isinstance") (fun xs H Q => ∃ (a D dd tp : Addr) (fs : List (Str × V)) (cs : List V) (us : List Value) (b : Bool), xs = [.ref a, .ref tp] ∧ H a = some (Xo (.ref D) (some dd) a) ∧ H dd = some (.xd fs) ∧ Err X.K D ∧ H tp = some (.tup cs) ∧ Paired ClsV cs us ∧ PySem.W.kitAny X.K (.ref D) us = some b ∧ Q (.bl b) H) := by
  intro pins s σ H xs us Q I r h
  obtain ⟨a, D, dd, tp, fs, cs, ws, b, rfl, ha, hd, T, hT, cv, e, q⟩ := h
  obtain ⟨u1, u2, rfl, r1, r2⟩ := vals2 r
  cases r1
  cases r2
  obtain ⟨oe, vs, hg, hz, hdat⟩ := xo_at I.hok ha
  obtain ⟨mA, hns, _⟩ := (show ObjOk X.prog X.w H s.heap dd (.xd fs) from I.hok dd _ hd)
  obtain ⟨od, ho, _⟩ := lookIn_ns hns
  have nc : PySem.W.notCls oe = true := by
    unfold PySem.W.notCls
    rw [hdat]
  have J : PySem.W.InstAt s.heap a oe D (some od) := by
    refine ⟨hg, hz.1, nc, ?_⟩
    rw [hz.2]
    exact ho
  obtain ⟨_, its, rv, o, g1, g2, n, g3⟩ := (show ObjOk X.prog X.w H s.heap tp (.tup cs) from I.hok tp _ hT)
  have e3 := ClsV.all cv rv
  subst e3
  obtain ⟨oc, od', dt, sl⟩ := o
  simp only at g2 g3
  subst g2 g3
  exact PySem.W.kia_tup (kitx_err T) I.kIn ⟨oe, some od, J⟩ g1 e (fun z => nomatch z) fun tk => ⟨.bl b, H, I.tok tk, rfl, q⟩
end
/-! ### sorted, of pairs of texts -/
def encSS (p : Str × Str) : PyData := .tuple [.str p.1, .str p.2]
section
variable {X : Cx}
theorem cr_sortedSS (hu : X.A.units + 64 < cLine) : CallR X (.builtin "sorted") (fun xs H Q => ∃ (a : Addr) (ts : List (Addr × Str × Str)), xs = [.ref a] ∧ SqL X.K H a (ts.map fun t => V.ref t.1) ∧ (∀ t ∈ ts, H t.1 = some (.tup [.str t.2.1, .str t.2.2])) ∧
    ∀ (p : Addr) (ys : List (Addr × Str × Str)), H p = none → (∀ t ∈ ys, H t.1 = some (.tup [.str t.2.1, .str t.2.2])) → (ys.map fun t => t.2) = (ts.map fun t => t.2).mergeSort (PySem.W.dataLe false encSS) → Q (.ref p) (upd H p (.lst (ys.map fun t => V.ref t.1)))) := by
  intro pins s σ H xs us Q I r h
  obtain ⟨a, ts, rfl, hs, ht, q⟩ := h
  obtain ⟨its, rv, hl, hz⟩ := I.list hs
  rw [Vals.ref1 r]
  have each : ∀ (ts : List (Addr × Str × Str)) (its : List Value), Vals (ts.map fun t => V.ref t.1) its → (∀ t ∈ ts, H t.1 = some (.tup [.str t.2.1, .str t.2.2])) →
      PySem.W.EachIs (fun v (b : Str × Str) => ∃ a : Addr, v = .ref a ∧ H a = some (.tup [.str b.1, .str b.2])) its (ts.map fun t => t.2) := by
    intro ts
    induction ts with
    | nil =>
      intro its rv _
      cases rv
      exact .nil
    | cons t r ih =>
      intro its rv h
      cases rv with
      | cons r1 r2 =>
        refine .cons ⟨t.1, r1, h t List.mem_cons_self⟩ (ih _ r2 fun x hx => h x (List.mem_cons_of_mem _ hx))
  have e1 := each ts its rv ht
  have er : PySem.W.EachIs (fun v (b : Str × Str) => ∃ as, Reads s.heap v (encSS b) as) its (ts.map fun t => t.2) := by
    refine e1.mono fun v b z => ?_
    obtain ⟨a', rfl, hA⟩ := z
    exact Dp.reads I (encSS b) (.ref a') (.ref a') (.tup (SqT.of hA) (.cons (.str _) (.cons (.str _) .nil))) rfl
  have hlen : (ts.map fun t => t.2).length ≤ sizeLine := by
    rw [List.length_map]
    rw [List.length_map] at hz
    exact hz
  refine PySem.W.sorted_data (enc := encSS) hl.isList e1 er (PySem.W.AllAlike.of fun b b' => by simp [encSS, PySem.W.alike, PySem.W.alikeAll]) (PySem.W.Sortable.tuples fun b => ⟨_, _, rfl⟩) hlen (fun b _ => ?_) fun out ho h2 => ?_
  · show X.A.units + 2 + (encSS b).depth < cLine
    have : (encSS b).depth = 1 := by simp [encSS, PyData.depth, PyData.depthAll]
    omega
  · -- the items of the new list
    have back : ∀ (out : List Value) (bs : List (Str × Str)), PySem.W.EachIs (fun v (b : Str × Str) => ∃ a : Addr, v = .ref a ∧ H a = some (.tup [.str b.1, .str b.2])) out bs →
        ∃ ys : List (Addr × Str × Str), Vals (ys.map fun t => V.ref t.1) out ∧ (∀ t ∈ ys, H t.1 = some (.tup [.str t.2.1, .str t.2.2])) ∧ (ys.map fun t => t.2) = bs := by
      intro out bs e
      induction e with
      | nil => exact ⟨[], .nil, (fun _ h => nomatch h), rfl⟩
      | cons h _ ih =>
        obtain ⟨a', rfl, hA⟩ := h
        obtain ⟨ys, r1, r2, r3⟩ := ih
        refine ⟨(a', _) :: ys, .cons rfl r1, fun t h => ?_, by rw [List.map_cons, r3]⟩
        rcases List.mem_cons.mp h with rfl | h
        · exact hA
        · exact r2 t h
    obtain ⟨ys, r1, r2, r3⟩ := back _ _ h2
    obtain ⟨ep, he⟩ := PyProof.Rows.sortedAll_at s.heap its out.toArray
    have hl2 : (ys.map fun t => V.ref t.1).length ≤ sizeLine := by
      rw [r1.length, ho]
      exact hlen
    exact ⟨.ref _, upd H (s.heap.objs.size + 1) (.lst (ys.map fun t => V.ref t.1)), I.laid (t' := s.toks) (fun _ _ => PyProof.Rows.sortedAll_old) (Nat.le_succ _) ⟨hl2, out, ep, r1, he⟩, rfl, q _ ys (I.hok.fresh (Nat.le_succ _)) r2 r3⟩
end
end So

namespace So
open PySem PySem.Spec PyProof.Rows L2
section
variable {X : Cx} {CX : CXT} {k : Nat} {C f : Addr} {fd : FuncData} {ps : List Str} {sp : Sp} {E : XK}
/-- str(o) of an instance whose class has an own __str__ -/
theorem call_strOwn (F : FnOk X.prog X.w X.K X.mg X.base CX k f fd ps sp) (hs : PySem.W.findIn X.K (.ref C) "__str__" = some (some (.ref f))) (hf : PySem.W.isFn X.K (.ref f) = true) (hb : Binds X.K fd ps []) (hx : Passes CX X E) (hr : Room (k + 2) X.A) :
    CallR X (.type "str") (fun xs H Q => ∃ a dx fs, xs = [.ref a] ∧ H a = some (.ins C dx fs) ∧ sp [.ref a] H (fun v H' => ∃ t : Str, v = .str t ∧ Q (.str t) H') E) := by
  intro pins s σ H xs us Q I r h
  obtain ⟨a, dx, fs, rfl, ha, q⟩ := h
  obtain ⟨u, rfl, ru⟩ := vals1 r
  cases ru
  obtain ⟨mA, J, _⟩ := ins_get I.hok ha
  obtain ⟨od, J, _⟩ := J.look
  have hr2 : Room k X.A.in1.in1 := hr.in1.in1
  refine PySem.W.kso_call hr2.units0 I.kIn J hs hf ?_
  have e0 : Env0 X.prog X.w X.K X.mg X.base X.A.in1.in1 X.stack s H := I.env0.in1.in1
  have hl : ([Value.ref a] ++ ([] : List Value)).length = ps.length := (F.len _ _ _ _ q : [V.ref a].length = ps.length)
  refine wpAny_call (codeAny_mono (F.run X.A.in1.in1 X.stack s H ⟨[.ref a], []⟩ ([Value.ref a] ++ []) [.ref a] _ E hr2 e0 (hb s [Value.ref a] I.kIn hl) (show Vals [V.ref a] [Value.ref a] from .cons rfl .nil) q) fun r s' hq => ?_)
  match r, hq with
  | .error e, hq => exact hx pins σ H s e s' I hq
  | .ok (.ret u), hq =>
    obtain ⟨v, H', I', rv, t, ev, q'⟩ := I.after hq
    subst ev
    obtain ⟨tk, rfl⟩ := rv
    exact ⟨.str t, H', I', ⟨tk, rfl⟩, q'⟩
  | .ok .next, hq => exact hq.elim
  | .ok .brk, hq => exact hq.elim
  | .ok .cont, hq => exact hq.elim
end
end So

namespace So
open PySem PySem.Spec PyProof.Rows L2 StX
/-! ### rules of which the class is known at run time alone -/
section
variable {X : Cx} {α : Type} {p : α → Prop}
theorem pe_ex {e : Expr} {t : α → TE} (h : ∀ c, p c → PE X e (t c)) : PE X e (fun σ H Q => ∃ c, p c ∧ t c σ H Q) := ⟨fun pins s σ H Q I ⟨c, hp, z⟩ => (h c hp).run pins s σ H Q I z⟩
theorem op_ex {f : Value → Value → Sem Value} {t : α → R2} (h : ∀ c, p c → OpR X f (t c)) : OpR X f (fun x y H Q => ∃ c, p c ∧ t c x y H Q) := fun pins s σ H x y v u Q I rx ry ⟨c, hp, z⟩ => h c hp pins s σ H x y v u Q I rx ry z
theorem cr_ex {f : Value} {t : α → List V → Hp → VK → Prop} (h : ∀ c, p c → CallR X f (t c)) : CallR X f (fun xs H Q => ∃ c, p c ∧ t c xs H Q) := fun pins s σ H xs us Q I r ⟨c, hp, z⟩ => h c hp pins s σ H xs us Q I r z
end
section
variable {X : Cx} {CX : CXT} {k : Nat} {C f : Addr} {fd : FuncData} {ps : List Str} {sp : Sp} {E : XK} {e : Expr} {te : TE}
theorem fnR_of {P : Program} {w : World} {K : PySem.W.Frag} {mg : Str → Option Value} {base : Heap} (F : FnOk P w K mg base CX k f fd ps sp) (hb : Binds K fd ps []) : FnR P w K mg base CX k f sp :=
  (F.raw hb .nil).imp fun vs H Q E h => by rw [List.append_nil]; exact h
/-- C(*e), C an own class -/
theorem pe_makeS1 {x : Str} {p sp_ pos : Pos} (M : Mk X.K C f) (F : FnR X.prog X.w X.K X.mg X.base CX k f sp) (hr : Room (k + 1) X.A) (hg : Gl X x) (hm : X.mg x = some (.ref C)) (hx : Passes CX X E) (he : PE X e te) (hd : (x == ("__debug__" : Str)) = false := by decide)
    (hst : starEach [.Starred e sp_] X.env = [(true, eval e X.env)] := by rfl) :
    PE X (.Call (.Name x p) [.Starred e sp_] [] pos) (fun σ H Q => te σ H fun y H1 => ∃ a xs, y = V.ref a ∧ (SqT X.K H1 a xs ∨ SqL X.K H1 a xs) ∧ ∀ x dx, H1 x = Option.none → H1 dx = Option.none → dx ≠ x →
      sp (V.ref x :: xs) (upd (upd H1 dx (.own x)) x (.ins C dx [])) (fun v H2 => v = .non ∧ Q (.ref x) H2) E) := by
  refine ⟨fun pins s σ H Q I h => ?_⟩
  refine wpAny_Call_Name_kw (ld_glob I hg hm ?_ hd)
  refine PySem.W.callWith_S (h₀ := X.base) I.ok.mod.kin M.kp (thn (he.run pins s σ H _ I h) fun v s1 ⟨y, H1, I1, ry, a, xs, ey, hxs, q⟩ => ?_) hst
  subst ey
  obtain rfl : v = Value.ref a := ry
  exact star_any I1 hxs fun us s2 I2 rv => ⟨I2.kIn, run_makeR M F hr hx I2 rv q⟩
theorem call_str_bl : CallR X (.type "str") (fun xs H Q => ∃ b, xs = [.bl b] ∧ Q (.str (if b then "True" else "False")) H) := by
  intro pins s σ H xs us Q I r h
  obtain ⟨b, rfl, q⟩ := h
  obtain ⟨u, rfl, r1⟩ := vals1 r
  cases r1
  exact PySem.P.str_of_bool ⟨.str _, H, I.tok _, ⟨_, rfl⟩, q⟩
end
end So

namespace K15
open PySem PySem.Spec PyProof.Rows L2 So LamX
abbrev sMade : Stmt := topS 54
theorem scMade : FnScope ["_law_row", "_law_kind"] ["_law_row"] (defScope sMade) := ⟨rfl, rfl, rfl, by decide +kernel, rfl, by decide +kernel, by decide +kernel⟩
section
variable {P : Program} {w : World} {K : PySem.W.Frag} {mg : Str → Option Value} {base : Heap}
/-- behind C(..), C a row's class -/
theorem made_row {CN CM CS C : Addr} {kind : Str} {xs : List V} {H : Hp} {Q : VK} {E : XK} (hl : xs.length = (formsOf kind).length) (hg : ∀ y ∈ xs, ∃ T, Gv H y T)
    (h : WaysL CN CM CS (xs.zip (formsOf kind)) H E (∀ (H' : Hp) (a dx : Addr) fs, Same H H' → H' a = some (.ins C dx fs) → Told kind xs H' fs → Q (.ref a) H')) :
    ∀ x dx, H x = none → H dx = none → dx ≠ x → spRow CN CM CS C kind (.ref x :: (xs ++ [])) (upd (upd H dx (.own x)) x (.ins C dx [])) (fun v H2 => v = .non ∧ Q (.ref x) H2) E := by
  intro x dx hx hd ne
  have s0 : Same H (upd (upd H dx (.own x)) x (.ins C dx [])) := fun c o e => by
    rw [upd_ne (ne_of_none e hx), upd_ne (ne_of_none e hd)]
    exact e
  refine ⟨x, dx, xs, by rw [List.append_nil], upd_same, hl, (fun y hy => (hg y hy).elim fun T h => ⟨T, h.same s0⟩), fun gd H' fs o e lk => ⟨rfl, h.1 gd H' x dx fs (fun c u z => o c u (ne_of_none z hx) (s0 c u z)) e lk⟩, fun C' fl v g d H' s e => h.2 C' fl v g d H' (s0.trans s) e⟩
/-- at a there stands the row of this kind with these arguments -/
def RowAt (Cf : Str → Addr) (H : Hp) (a : Addr) (kind : Str) (xs : List V) : Prop := ∃ (dx : Addr) (fs : List (Str × V)), H a = some (.ins (Cf kind) dx fs) ∧ Told kind xs H fs
theorem RowAt.same {Cf : Str → Addr} {H H' : Hp} {a : Addr} {kind : Str} {xs : List V} (h : RowAt Cf H a kind xs) (s : Same H H') : RowAt Cf H' a kind xs := by
  obtain ⟨dx, fs, e, t1, ⟨tp, t2, t3⟩, t4⟩ := h
  exact ⟨dx, fs, s _ _ e, t1, ⟨tp, t2, s _ _ t3⟩, t4⟩
/-- a class of rows, its maker -/
def RowM (K : PySem.W.Frag) (P : Program) (w : World) (mg : Str → Option Value) (base : Heap) (CN CM CS : Addr) (Cf : Str → Addr) (nm kind : Str) (ps : List Str) : Prop := ∃ (fI : Addr) (fdI : FuncData), mg nm = some (.ref (Cf kind)) ∧ Mk K (Cf kind) fI ∧ Binds K fdI ps [] ∧ FnOk P w K mg base (L2.CX P w) 6 fI fdI ps (spRow CN CM CS (Cf kind) kind)
structure Rows (K : PySem.W.Frag) (P : Program) (w : World) (mg : Str → Option Value) (base : Heap) (CN CM CS : Addr) (Cf : Str → Addr) : Prop where
  begun : RowM K P w mg base CN CM CS Cf "Begun" "begun" ["self", "tool", "moment"]
  setby : RowM K P w mg base CN CM CS Cf "SetBy" "setby" ["self", "tool", "moment", "by"]
  found : RowM K P w mg base CN CM CS Cf "Found" "found" ["self", "tool", "moment", "is_sound"]
  trusted : RowM K P w mg base CN CM CS Cf "Trusted" "trusted" ["self", "tool"]
  passed : RowM K P w mg base CN CM CS Cf "Passed" "passed" ["self", "tool", "moment", "by"]
  failed : RowM K P w mg base CN CM CS Cf "Failed" "failed" ["self", "tool", "moment", "by"]
  agreed : RowM K P w mg base CN CM CS Cf "Agreed" "agreed" ["self", "one", "moment", "other", "later"]
  differed : RowM K P w mg base CN CM CS Cf "Differed" "differed" ["self", "one", "moment", "other", "later"]
  served : RowM K P w mg base CN CM CS Cf "Served" "served" ["self", "one", "moment", "other", "later"]
  backed : RowM K P w mg base CN CM CS Cf "Backed" "backed" ["self", "one", "moment", "other", "later"]
def spMade (CN CM CS : Addr) (Cf : Str → Addr) : Sp := fun vs H Q E => ∃ (lr : Addr) (kind : Str) (xs : List V), vs = [.ref lr] ∧ H lr = some (.tup (.str kind :: xs)) ∧ kind ∈ kinds ∧ xs.length = (formsOf kind).length ∧ (∀ y ∈ xs, ∃ T, Gv H y T) ∧
  WaysL CN CM CS (xs.zip (formsOf kind)) H E (∀ (H' : Hp) (a : Addr), Same H H' → RowAt Cf H' a kind xs → Q (.ref a) H')
theorem kinds_end : ∀ kind ∈ kinds, ¬ kind = "begun" → ¬ kind = "setby" → ¬ kind = "found" → ¬ kind = "trusted" → ¬ kind = "passed" → ¬ kind = "failed" → ¬ kind = "agreed" → ¬ kind = "differed" → ¬ kind = "served" → kind = "backed" := by
  intro kind hk h0 h1 h2 h3 h4 h5 h6 h7 h8
  unfold kinds at hk
  simp only [List.mem_cons, List.not_mem_nil, or_false] at hk
  rcases hk with h | h | h | h | h | h | h | h | h | h <;> first | exact h | exact absurd h (by assumption)
theorem ok_made {CN CM CS f : Addr} {Cf : Str → Addr} {fd : FuncData} (F : Fun K "_law_made" "_law_made" sMade f fd) (R : Rows K P w mg base CN CM CS Cf) : FnOk P w K mg base (L2.CX P w) 8 f fd ["_law_row"] (spMade CN CM CS Cf) := by
  obtain ⟨f_begun, fd_begun, g_begun, m_begun, b_begun, G_begun⟩ := R.begun
  obtain ⟨f_setby, fd_setby, g_setby, m_setby, b_setby, G_setby⟩ := R.setby
  obtain ⟨f_found, fd_found, g_found, m_found, b_found, G_found⟩ := R.found
  obtain ⟨f_trusted, fd_trusted, g_trusted, m_trusted, b_trusted, G_trusted⟩ := R.trusted
  obtain ⟨f_passed, fd_passed, g_passed, m_passed, b_passed, G_passed⟩ := R.passed
  obtain ⟨f_failed, fd_failed, g_failed, m_failed, b_failed, G_failed⟩ := R.failed
  obtain ⟨f_agreed, fd_agreed, g_agreed, m_agreed, b_agreed, G_agreed⟩ := R.agreed
  obtain ⟨f_differed, fd_differed, g_differed, m_differed, b_differed, G_differed⟩ := R.differed
  obtain ⟨f_served, fd_served, g_served, m_served, b_served, G_served⟩ := R.served
  obtain ⟨f_backed, fd_backed, g_backed, m_backed, b_backed, G_backed⟩ := R.backed
  refine F.okX scMade (fun vs H Q E h => ?_) (fun cdv A outer s H vs Q E hr h => ?_)
  · obtain ⟨_, _, _, rfl, _⟩ := h
    rfl
  · obtain ⟨lr, kind, xs, rfl, hlr, hk, hl, hg, hw⟩ := h
    refine ⟨_, pss_cons (ps_set (i := 1) scMade.nd rfl (.inl rfl) (pe_ix ix_tup (pv 0) pe_int (fun _ _ => rfl)))
      (pss_cons (ps_if (pt_cmpR op_eq (pv 1) pe_str (nomark _)) (pss_one (ps_ret (pe_make m_begun G_begun hr (by rfl) g_begun b_begun .nil (passes_call (takes_of rfl rfl rfl rfl) (fun _ _ _ _ h => h)) (pa_cons (pe_ix ix_tup (pv 0) pe_int (fun _ _ => rfl)) (pa_cons (pe_ix ix_tup (pv 0) pe_int (fun _ _ => rfl)) pa_nil))))) pss_nil)
      (pss_cons (ps_if (pt_cmpR op_eq (pv 1) pe_str (nomark _)) (pss_one (ps_ret (pe_make m_setby G_setby hr (by rfl) g_setby b_setby .nil (passes_call (takes_of rfl rfl rfl rfl) (fun _ _ _ _ h => h)) (pa_cons (pe_ix ix_tup (pv 0) pe_int (fun _ _ => rfl)) (pa_cons (pe_ix ix_tup (pv 0) pe_int (fun _ _ => rfl)) (pa_cons (pe_ix ix_tup (pv 0) pe_int (fun _ _ => rfl)) pa_nil)))))) pss_nil)
      (pss_cons (ps_if (pt_cmpR op_eq (pv 1) pe_str (nomark _)) (pss_one (ps_ret (pe_make m_found G_found hr (by rfl) g_found b_found .nil (passes_call (takes_of rfl rfl rfl rfl) (fun _ _ _ _ h => h)) (pa_cons (pe_ix ix_tup (pv 0) pe_int (fun _ _ => rfl)) (pa_cons (pe_ix ix_tup (pv 0) pe_int (fun _ _ => rfl)) (pa_cons (pe_ix ix_tup (pv 0) pe_int (fun _ _ => rfl)) pa_nil)))))) pss_nil)
      (pss_cons (ps_if (pt_cmpR op_eq (pv 1) pe_str (nomark _)) (pss_one (ps_ret (pe_make m_trusted G_trusted hr (by rfl) g_trusted b_trusted .nil (passes_call (takes_of rfl rfl rfl rfl) (fun _ _ _ _ h => h)) (pa_cons (pe_ix ix_tup (pv 0) pe_int (fun _ _ => rfl)) pa_nil)))) pss_nil)
      (pss_cons (ps_if (pt_cmpR op_eq (pv 1) pe_str (nomark _)) (pss_one (ps_ret (pe_make m_passed G_passed hr (by rfl) g_passed b_passed .nil (passes_call (takes_of rfl rfl rfl rfl) (fun _ _ _ _ h => h)) (pa_cons (pe_ix ix_tup (pv 0) pe_int (fun _ _ => rfl)) (pa_cons (pe_ix ix_tup (pv 0) pe_int (fun _ _ => rfl)) (pa_cons (pe_ix ix_tup (pv 0) pe_int (fun _ _ => rfl)) pa_nil)))))) pss_nil)
      (pss_cons (ps_if (pt_cmpR op_eq (pv 1) pe_str (nomark _)) (pss_one (ps_ret (pe_make m_failed G_failed hr (by rfl) g_failed b_failed .nil (passes_call (takes_of rfl rfl rfl rfl) (fun _ _ _ _ h => h)) (pa_cons (pe_ix ix_tup (pv 0) pe_int (fun _ _ => rfl)) (pa_cons (pe_ix ix_tup (pv 0) pe_int (fun _ _ => rfl)) (pa_cons (pe_ix ix_tup (pv 0) pe_int (fun _ _ => rfl)) pa_nil)))))) pss_nil)
      (pss_cons (ps_if (pt_cmpR op_eq (pv 1) pe_str (nomark _)) (pss_one (ps_ret (pe_make m_agreed G_agreed hr (by rfl) g_agreed b_agreed .nil (passes_call (takes_of rfl rfl rfl rfl) (fun _ _ _ _ h => h)) (pa_cons (pe_ix ix_tup (pv 0) pe_int (fun _ _ => rfl)) (pa_cons (pe_ix ix_tup (pv 0) pe_int (fun _ _ => rfl)) (pa_cons (pe_ix ix_tup (pv 0) pe_int (fun _ _ => rfl)) (pa_cons (pe_ix ix_tup (pv 0) pe_int (fun _ _ => rfl)) pa_nil))))))) pss_nil)
      (pss_cons (ps_if (pt_cmpR op_eq (pv 1) pe_str (nomark _)) (pss_one (ps_ret (pe_make m_differed G_differed hr (by rfl) g_differed b_differed .nil (passes_call (takes_of rfl rfl rfl rfl) (fun _ _ _ _ h => h)) (pa_cons (pe_ix ix_tup (pv 0) pe_int (fun _ _ => rfl)) (pa_cons (pe_ix ix_tup (pv 0) pe_int (fun _ _ => rfl)) (pa_cons (pe_ix ix_tup (pv 0) pe_int (fun _ _ => rfl)) (pa_cons (pe_ix ix_tup (pv 0) pe_int (fun _ _ => rfl)) pa_nil))))))) pss_nil)
      (pss_cons (ps_if (pt_cmpR op_eq (pv 1) pe_str (nomark _)) (pss_one (ps_ret (pe_make m_served G_served hr (by rfl) g_served b_served .nil (passes_call (takes_of rfl rfl rfl rfl) (fun _ _ _ _ h => h)) (pa_cons (pe_ix ix_tup (pv 0) pe_int (fun _ _ => rfl)) (pa_cons (pe_ix ix_tup (pv 0) pe_int (fun _ _ => rfl)) (pa_cons (pe_ix ix_tup (pv 0) pe_int (fun _ _ => rfl)) (pa_cons (pe_ix ix_tup (pv 0) pe_int (fun _ _ => rfl)) pa_nil))))))) pss_nil)
      (pss_one (ps_ret (pe_make m_backed G_backed hr (by rfl) g_backed b_backed .nil (passes_call (takes_of rfl rfl rfl rfl) (fun _ _ _ _ h => h)) (pa_cons (pe_ix ix_tup (pv 0) pe_int (fun _ _ => rfl)) (pa_cons (pe_ix ix_tup (pv 0) pe_int (fun _ _ => rfl)) (pa_cons (pe_ix ix_tup (pv 0) pe_int (fun _ _ => rfl)) (pa_cons (pe_ix ix_tup (pv 0) pe_int (fun _ _ => rfl)) pa_nil)))))))))))))))), ?_⟩
    refine ⟨_, rfl, lr, _, _, _, rfl, rfl, SqT.of hlr, atI_nat (j := 0) rfl, ?_⟩
    refine ⟨_, rfl, rfl, _, rfl, ite2 (fun e => ?_) (fun e0 => ?_)⟩
    · obtain rfl : kind = "begun" := V.str.inj (of_decide_eq_true e)
      have hl4 : (formsOf "begun").length = 2 := by decide +kernel
      obtain ⟨v0, v1, rfl⟩ : ∃ v0 v1, xs = [v0, v1] := by
        rw [hl4] at hl
        match xs, hl with
        | [v0, v1], _ => exact ⟨_, _, rfl⟩
      exact ⟨_, rfl, lr, _, _, _, rfl, rfl, SqT.of hlr, atI_nat (j := 1) rfl, _, rfl, lr, _, _, _, rfl, rfl, SqT.of hlr, atI_nat (j := 2) rfl, made_row (xs := [v0, v1]) hl hg ⟨fun gd H' a dx fs s e lk => hw.1 gd H' a s ⟨dx, fs, e, lk⟩, hw.2⟩⟩
    refine ⟨_, rfl, rfl, _, rfl, ite2 (fun e => ?_) (fun e1 => ?_)⟩
    · obtain rfl : kind = "setby" := V.str.inj (of_decide_eq_true e)
      have hl4 : (formsOf "setby").length = 3 := by decide +kernel
      obtain ⟨v0, v1, v2, rfl⟩ : ∃ v0 v1 v2, xs = [v0, v1, v2] := by
        rw [hl4] at hl
        match xs, hl with
        | [v0, v1, v2], _ => exact ⟨_, _, _, rfl⟩
      exact ⟨_, rfl, lr, _, _, _, rfl, rfl, SqT.of hlr, atI_nat (j := 1) rfl, _, rfl, lr, _, _, _, rfl, rfl, SqT.of hlr, atI_nat (j := 2) rfl, _, rfl, lr, _, _, _, rfl, rfl, SqT.of hlr, atI_nat (j := 3) rfl, made_row (xs := [v0, v1, v2]) hl hg ⟨fun gd H' a dx fs s e lk => hw.1 gd H' a s ⟨dx, fs, e, lk⟩, hw.2⟩⟩
    refine ⟨_, rfl, rfl, _, rfl, ite2 (fun e => ?_) (fun e2 => ?_)⟩
    · obtain rfl : kind = "found" := V.str.inj (of_decide_eq_true e)
      have hl4 : (formsOf "found").length = 3 := by decide +kernel
      obtain ⟨v0, v1, v2, rfl⟩ : ∃ v0 v1 v2, xs = [v0, v1, v2] := by
        rw [hl4] at hl
        match xs, hl with
        | [v0, v1, v2], _ => exact ⟨_, _, _, rfl⟩
      exact ⟨_, rfl, lr, _, _, _, rfl, rfl, SqT.of hlr, atI_nat (j := 1) rfl, _, rfl, lr, _, _, _, rfl, rfl, SqT.of hlr, atI_nat (j := 2) rfl, _, rfl, lr, _, _, _, rfl, rfl, SqT.of hlr, atI_nat (j := 3) rfl, made_row (xs := [v0, v1, v2]) hl hg ⟨fun gd H' a dx fs s e lk => hw.1 gd H' a s ⟨dx, fs, e, lk⟩, hw.2⟩⟩
    refine ⟨_, rfl, rfl, _, rfl, ite2 (fun e => ?_) (fun e3 => ?_)⟩
    · obtain rfl : kind = "trusted" := V.str.inj (of_decide_eq_true e)
      have hl4 : (formsOf "trusted").length = 1 := by decide +kernel
      obtain ⟨v0, rfl⟩ : ∃ v0, xs = [v0] := by
        rw [hl4] at hl
        match xs, hl with
        | [v0], _ => exact ⟨_, rfl⟩
      exact ⟨_, rfl, lr, _, _, _, rfl, rfl, SqT.of hlr, atI_nat (j := 1) rfl, made_row (xs := [v0]) hl hg ⟨fun gd H' a dx fs s e lk => hw.1 gd H' a s ⟨dx, fs, e, lk⟩, hw.2⟩⟩
    refine ⟨_, rfl, rfl, _, rfl, ite2 (fun e => ?_) (fun e4 => ?_)⟩
    · obtain rfl : kind = "passed" := V.str.inj (of_decide_eq_true e)
      have hl4 : (formsOf "passed").length = 3 := by decide +kernel
      obtain ⟨v0, v1, v2, rfl⟩ : ∃ v0 v1 v2, xs = [v0, v1, v2] := by
        rw [hl4] at hl
        match xs, hl with
        | [v0, v1, v2], _ => exact ⟨_, _, _, rfl⟩
      exact ⟨_, rfl, lr, _, _, _, rfl, rfl, SqT.of hlr, atI_nat (j := 1) rfl, _, rfl, lr, _, _, _, rfl, rfl, SqT.of hlr, atI_nat (j := 2) rfl, _, rfl, lr, _, _, _, rfl, rfl, SqT.of hlr, atI_nat (j := 3) rfl, made_row (xs := [v0, v1, v2]) hl hg ⟨fun gd H' a dx fs s e lk => hw.1 gd H' a s ⟨dx, fs, e, lk⟩, hw.2⟩⟩
    refine ⟨_, rfl, rfl, _, rfl, ite2 (fun e => ?_) (fun e5 => ?_)⟩
    · obtain rfl : kind = "failed" := V.str.inj (of_decide_eq_true e)
      have hl4 : (formsOf "failed").length = 3 := by decide +kernel
      obtain ⟨v0, v1, v2, rfl⟩ : ∃ v0 v1 v2, xs = [v0, v1, v2] := by
        rw [hl4] at hl
        match xs, hl with
        | [v0, v1, v2], _ => exact ⟨_, _, _, rfl⟩
      exact ⟨_, rfl, lr, _, _, _, rfl, rfl, SqT.of hlr, atI_nat (j := 1) rfl, _, rfl, lr, _, _, _, rfl, rfl, SqT.of hlr, atI_nat (j := 2) rfl, _, rfl, lr, _, _, _, rfl, rfl, SqT.of hlr, atI_nat (j := 3) rfl, made_row (xs := [v0, v1, v2]) hl hg ⟨fun gd H' a dx fs s e lk => hw.1 gd H' a s ⟨dx, fs, e, lk⟩, hw.2⟩⟩
    refine ⟨_, rfl, rfl, _, rfl, ite2 (fun e => ?_) (fun e6 => ?_)⟩
    · obtain rfl : kind = "agreed" := V.str.inj (of_decide_eq_true e)
      have hl4 : (formsOf "agreed").length = 4 := by decide +kernel
      obtain ⟨v0, v1, v2, v3, rfl⟩ : ∃ v0 v1 v2 v3, xs = [v0, v1, v2, v3] := by
        rw [hl4] at hl
        match xs, hl with
        | [v0, v1, v2, v3], _ => exact ⟨_, _, _, _, rfl⟩
      exact ⟨_, rfl, lr, _, _, _, rfl, rfl, SqT.of hlr, atI_nat (j := 1) rfl, _, rfl, lr, _, _, _, rfl, rfl, SqT.of hlr, atI_nat (j := 2) rfl, _, rfl, lr, _, _, _, rfl, rfl, SqT.of hlr, atI_nat (j := 3) rfl, _, rfl, lr, _, _, _, rfl, rfl, SqT.of hlr, atI_nat (j := 4) rfl, made_row (xs := [v0, v1, v2, v3]) hl hg ⟨fun gd H' a dx fs s e lk => hw.1 gd H' a s ⟨dx, fs, e, lk⟩, hw.2⟩⟩
    refine ⟨_, rfl, rfl, _, rfl, ite2 (fun e => ?_) (fun e7 => ?_)⟩
    · obtain rfl : kind = "differed" := V.str.inj (of_decide_eq_true e)
      have hl4 : (formsOf "differed").length = 4 := by decide +kernel
      obtain ⟨v0, v1, v2, v3, rfl⟩ : ∃ v0 v1 v2 v3, xs = [v0, v1, v2, v3] := by
        rw [hl4] at hl
        match xs, hl with
        | [v0, v1, v2, v3], _ => exact ⟨_, _, _, _, rfl⟩
      exact ⟨_, rfl, lr, _, _, _, rfl, rfl, SqT.of hlr, atI_nat (j := 1) rfl, _, rfl, lr, _, _, _, rfl, rfl, SqT.of hlr, atI_nat (j := 2) rfl, _, rfl, lr, _, _, _, rfl, rfl, SqT.of hlr, atI_nat (j := 3) rfl, _, rfl, lr, _, _, _, rfl, rfl, SqT.of hlr, atI_nat (j := 4) rfl, made_row (xs := [v0, v1, v2, v3]) hl hg ⟨fun gd H' a dx fs s e lk => hw.1 gd H' a s ⟨dx, fs, e, lk⟩, hw.2⟩⟩
    refine ⟨_, rfl, rfl, _, rfl, ite2 (fun e => ?_) (fun e8 => ?_)⟩
    · obtain rfl : kind = "served" := V.str.inj (of_decide_eq_true e)
      have hl4 : (formsOf "served").length = 4 := by decide +kernel
      obtain ⟨v0, v1, v2, v3, rfl⟩ : ∃ v0 v1 v2 v3, xs = [v0, v1, v2, v3] := by
        rw [hl4] at hl
        match xs, hl with
        | [v0, v1, v2, v3], _ => exact ⟨_, _, _, _, rfl⟩
      exact ⟨_, rfl, lr, _, _, _, rfl, rfl, SqT.of hlr, atI_nat (j := 1) rfl, _, rfl, lr, _, _, _, rfl, rfl, SqT.of hlr, atI_nat (j := 2) rfl, _, rfl, lr, _, _, _, rfl, rfl, SqT.of hlr, atI_nat (j := 3) rfl, _, rfl, lr, _, _, _, rfl, rfl, SqT.of hlr, atI_nat (j := 4) rfl, made_row (xs := [v0, v1, v2, v3]) hl hg ⟨fun gd H' a dx fs s e lk => hw.1 gd H' a s ⟨dx, fs, e, lk⟩, hw.2⟩⟩
    obtain rfl : kind = "backed" := kinds_end kind hk (fun z => e0 (decide_eq_true (by rw [z]))) (fun z => e1 (decide_eq_true (by rw [z]))) (fun z => e2 (decide_eq_true (by rw [z]))) (fun z => e3 (decide_eq_true (by rw [z]))) (fun z => e4 (decide_eq_true (by rw [z]))) (fun z => e5 (decide_eq_true (by rw [z]))) (fun z => e6 (decide_eq_true (by rw [z]))) (fun z => e7 (decide_eq_true (by rw [z]))) (fun z => e8 (decide_eq_true (by rw [z])))
    have hl4 : (formsOf "backed").length = 4 := by decide +kernel
    obtain ⟨v0, v1, v2, v3, rfl⟩ : ∃ v0 v1 v2 v3, xs = [v0, v1, v2, v3] := by
      rw [hl4] at hl
      match xs, hl with
      | [v0, v1, v2, v3], _ => exact ⟨_, _, _, _, rfl⟩
    exact ⟨_, rfl, lr, _, _, _, rfl, rfl, SqT.of hlr, atI_nat (j := 1) rfl, _, rfl, lr, _, _, _, rfl, rfl, SqT.of hlr, atI_nat (j := 2) rfl, _, rfl, lr, _, _, _, rfl, rfl, SqT.of hlr, atI_nat (j := 3) rfl, _, rfl, lr, _, _, _, rfl, rfl, SqT.of hlr, atI_nat (j := 4) rfl, made_row (xs := [v0, v1, v2, v3]) hl hg ⟨fun gd H' a dx fs s e lk => hw.1 gd H' a s ⟨dx, fs, e, lk⟩, hw.2⟩⟩
end
end K15

namespace K15
open PySem PySem.Spec PyProof.Rows L2 So LamX
abbrev sMadeRow : Stmt := topS 42
theorem scMadeRow : FnScope ["kind", "told"] ["kind", "told"] (defScope sMadeRow) := ⟨rfl, rfl, rfl, by decide +kernel, rfl, by decide +kernel, by decide +kernel⟩
section
variable {P : Program} {w : World} {K : PySem.W.Frag} {mg : Str → Option Value} {base : Heap}
def spMadeRow (K : PySem.W.Frag) (CN CM CS : Addr) (Cf : Str → Addr) : Sp := fun vs H Q E => ∃ (lr : Addr) (kind : Str) (xs : List V), vs = [.str kind, .ref lr] ∧ H lr = some (.lst xs) ∧ kind ∈ kinds ∧ xs.length = (formsOf kind).length ∧ (∀ y ∈ xs, ∃ T, Gv H y T) ∧
  WaysL CN CM CS (xs.zip (formsOf kind)) H E (∀ (H' : Hp) (a : Addr), Same H H' → RowAt Cf H' a kind xs → Q (.ref a) H')
theorem madeRow0 {CN CM CS C : Addr} {kind : Str} {xs : List V} {H : Hp} {Q : VK} {E : XK} (hl : xs.length = (formsOf kind).length) (hg : ∀ y ∈ xs, ∃ T, Gv H y T)
    (h : WaysL CN CM CS (xs.zip (formsOf kind)) H E (∀ (H' : Hp) (a dx : Addr) fs, Same H H' → H' a = some (.ins C dx fs) → Told kind xs H' fs → Q (.ref a) H')) :
    ∀ x dx, H x = none → H dx = none → dx ≠ x → spRow CN CM CS C kind (.ref x :: xs) (upd (upd H dx (.own x)) x (.ins C dx [])) (fun v H2 => v = .non ∧ Q (.ref x) H2) E := by
  have := made_row hl hg h
  rw [List.append_nil] at this
  exact this
theorem ok_madeRow {CN CM CS f : Addr} {Cf : Str → Addr} {fd : FuncData} (F : Fun K "made_row" "made_row" sMadeRow f fd) (R : Rows K P w mg base CN CM CS Cf) : FnOk P w K mg base (L2.CX P w) 8 f fd ["kind", "told"] (spMadeRow K CN CM CS Cf) := by
  obtain ⟨f_begun, fd_begun, g_begun, m_begun, b_begun, G_begun⟩ := R.begun
  obtain ⟨f_setby, fd_setby, g_setby, m_setby, b_setby, G_setby⟩ := R.setby
  obtain ⟨f_found, fd_found, g_found, m_found, b_found, G_found⟩ := R.found
  obtain ⟨f_trusted, fd_trusted, g_trusted, m_trusted, b_trusted, G_trusted⟩ := R.trusted
  obtain ⟨f_passed, fd_passed, g_passed, m_passed, b_passed, G_passed⟩ := R.passed
  obtain ⟨f_failed, fd_failed, g_failed, m_failed, b_failed, G_failed⟩ := R.failed
  obtain ⟨f_agreed, fd_agreed, g_agreed, m_agreed, b_agreed, G_agreed⟩ := R.agreed
  obtain ⟨f_differed, fd_differed, g_differed, m_differed, b_differed, G_differed⟩ := R.differed
  obtain ⟨f_served, fd_served, g_served, m_served, b_served, G_served⟩ := R.served
  obtain ⟨f_backed, fd_backed, g_backed, m_backed, b_backed, G_backed⟩ := R.backed
  refine F.okX scMadeRow (fun vs H Q E h => ?_) (fun cdv A outer s H vs Q E hr h => ?_)
  · obtain ⟨_, _, _, rfl, _⟩ := h
    rfl
  · obtain ⟨lr, kind, xs, rfl, hlr, hk, hl, hg, hw⟩ := h
    have hlr : SqT K H lr xs ∨ SqL K H lr xs := .inr (SqL.of hlr)
    refine ⟨_, pss_cons (ps_if (pt_cmpR op_eq (pv 0) pe_str (nomark _)) (pss_one (ps_ret (pe_makeS1 m_begun (fnR_of G_begun b_begun) hr (by rfl) g_begun (passes_call (takes_of rfl rfl rfl rfl) (fun _ _ _ _ h => h)) (pv 1)))) pss_nil)
      (pss_cons (ps_if (pt_cmpR op_eq (pv 0) pe_str (nomark _)) (pss_one (ps_ret (pe_makeS1 m_setby (fnR_of G_setby b_setby) hr (by rfl) g_setby (passes_call (takes_of rfl rfl rfl rfl) (fun _ _ _ _ h => h)) (pv 1)))) pss_nil)
      (pss_cons (ps_if (pt_cmpR op_eq (pv 0) pe_str (nomark _)) (pss_one (ps_ret (pe_makeS1 m_found (fnR_of G_found b_found) hr (by rfl) g_found (passes_call (takes_of rfl rfl rfl rfl) (fun _ _ _ _ h => h)) (pv 1)))) pss_nil)
      (pss_cons (ps_if (pt_cmpR op_eq (pv 0) pe_str (nomark _)) (pss_one (ps_ret (pe_makeS1 m_trusted (fnR_of G_trusted b_trusted) hr (by rfl) g_trusted (passes_call (takes_of rfl rfl rfl rfl) (fun _ _ _ _ h => h)) (pv 1)))) pss_nil)
      (pss_cons (ps_if (pt_cmpR op_eq (pv 0) pe_str (nomark _)) (pss_one (ps_ret (pe_makeS1 m_passed (fnR_of G_passed b_passed) hr (by rfl) g_passed (passes_call (takes_of rfl rfl rfl rfl) (fun _ _ _ _ h => h)) (pv 1)))) pss_nil)
      (pss_cons (ps_if (pt_cmpR op_eq (pv 0) pe_str (nomark _)) (pss_one (ps_ret (pe_makeS1 m_failed (fnR_of G_failed b_failed) hr (by rfl) g_failed (passes_call (takes_of rfl rfl rfl rfl) (fun _ _ _ _ h => h)) (pv 1)))) pss_nil)
      (pss_cons (ps_if (pt_cmpR op_eq (pv 0) pe_str (nomark _)) (pss_one (ps_ret (pe_makeS1 m_agreed (fnR_of G_agreed b_agreed) hr (by rfl) g_agreed (passes_call (takes_of rfl rfl rfl rfl) (fun _ _ _ _ h => h)) (pv 1)))) pss_nil)
      (pss_cons (ps_if (pt_cmpR op_eq (pv 0) pe_str (nomark _)) (pss_one (ps_ret (pe_makeS1 m_differed (fnR_of G_differed b_differed) hr (by rfl) g_differed (passes_call (takes_of rfl rfl rfl rfl) (fun _ _ _ _ h => h)) (pv 1)))) pss_nil)
      (pss_cons (ps_if (pt_cmpR op_eq (pv 0) pe_str (nomark _)) (pss_one (ps_ret (pe_makeS1 m_served (fnR_of G_served b_served) hr (by rfl) g_served (passes_call (takes_of rfl rfl rfl rfl) (fun _ _ _ _ h => h)) (pv 1)))) pss_nil)
      (pss_one (ps_ret (pe_makeS1 m_backed (fnR_of G_backed b_backed) hr (by rfl) g_backed (passes_call (takes_of rfl rfl rfl rfl) (fun _ _ _ _ h => h)) (pv 1)))))))))))), ?_⟩
    refine ⟨_, rfl, rfl, _, rfl, ite2 (fun e => ?_) (fun e0 => ?_)⟩
    · obtain rfl : kind = "begun" := V.str.inj (of_decide_eq_true e)
      have hl4 : (formsOf "begun").length = 2 := by decide +kernel
      obtain ⟨v0, v1, rfl⟩ : ∃ v0 v1, xs = [v0, v1] := by
        rw [hl4] at hl
        match xs, hl with
        | [v0, v1], _ => exact ⟨_, _, rfl⟩
      exact ⟨_, rfl, lr, [v0, v1], rfl, hlr, madeRow0 (xs := [v0, v1]) hl hg ⟨fun gd H' a dx fs s e lk => hw.1 gd H' a s ⟨dx, fs, e, lk⟩, hw.2⟩⟩
    refine ⟨_, rfl, rfl, _, rfl, ite2 (fun e => ?_) (fun e1 => ?_)⟩
    · obtain rfl : kind = "setby" := V.str.inj (of_decide_eq_true e)
      have hl4 : (formsOf "setby").length = 3 := by decide +kernel
      obtain ⟨v0, v1, v2, rfl⟩ : ∃ v0 v1 v2, xs = [v0, v1, v2] := by
        rw [hl4] at hl
        match xs, hl with
        | [v0, v1, v2], _ => exact ⟨_, _, _, rfl⟩
      exact ⟨_, rfl, lr, [v0, v1, v2], rfl, hlr, madeRow0 (xs := [v0, v1, v2]) hl hg ⟨fun gd H' a dx fs s e lk => hw.1 gd H' a s ⟨dx, fs, e, lk⟩, hw.2⟩⟩
    refine ⟨_, rfl, rfl, _, rfl, ite2 (fun e => ?_) (fun e2 => ?_)⟩
    · obtain rfl : kind = "found" := V.str.inj (of_decide_eq_true e)
      have hl4 : (formsOf "found").length = 3 := by decide +kernel
      obtain ⟨v0, v1, v2, rfl⟩ : ∃ v0 v1 v2, xs = [v0, v1, v2] := by
        rw [hl4] at hl
        match xs, hl with
        | [v0, v1, v2], _ => exact ⟨_, _, _, rfl⟩
      exact ⟨_, rfl, lr, [v0, v1, v2], rfl, hlr, madeRow0 (xs := [v0, v1, v2]) hl hg ⟨fun gd H' a dx fs s e lk => hw.1 gd H' a s ⟨dx, fs, e, lk⟩, hw.2⟩⟩
    refine ⟨_, rfl, rfl, _, rfl, ite2 (fun e => ?_) (fun e3 => ?_)⟩
    · obtain rfl : kind = "trusted" := V.str.inj (of_decide_eq_true e)
      have hl4 : (formsOf "trusted").length = 1 := by decide +kernel
      obtain ⟨v0, rfl⟩ : ∃ v0, xs = [v0] := by
        rw [hl4] at hl
        match xs, hl with
        | [v0], _ => exact ⟨_, rfl⟩
      exact ⟨_, rfl, lr, [v0], rfl, hlr, madeRow0 (xs := [v0]) hl hg ⟨fun gd H' a dx fs s e lk => hw.1 gd H' a s ⟨dx, fs, e, lk⟩, hw.2⟩⟩
    refine ⟨_, rfl, rfl, _, rfl, ite2 (fun e => ?_) (fun e4 => ?_)⟩
    · obtain rfl : kind = "passed" := V.str.inj (of_decide_eq_true e)
      have hl4 : (formsOf "passed").length = 3 := by decide +kernel
      obtain ⟨v0, v1, v2, rfl⟩ : ∃ v0 v1 v2, xs = [v0, v1, v2] := by
        rw [hl4] at hl
        match xs, hl with
        | [v0, v1, v2], _ => exact ⟨_, _, _, rfl⟩
      exact ⟨_, rfl, lr, [v0, v1, v2], rfl, hlr, madeRow0 (xs := [v0, v1, v2]) hl hg ⟨fun gd H' a dx fs s e lk => hw.1 gd H' a s ⟨dx, fs, e, lk⟩, hw.2⟩⟩
    refine ⟨_, rfl, rfl, _, rfl, ite2 (fun e => ?_) (fun e5 => ?_)⟩
    · obtain rfl : kind = "failed" := V.str.inj (of_decide_eq_true e)
      have hl4 : (formsOf "failed").length = 3 := by decide +kernel
      obtain ⟨v0, v1, v2, rfl⟩ : ∃ v0 v1 v2, xs = [v0, v1, v2] := by
        rw [hl4] at hl
        match xs, hl with
        | [v0, v1, v2], _ => exact ⟨_, _, _, rfl⟩
      exact ⟨_, rfl, lr, [v0, v1, v2], rfl, hlr, madeRow0 (xs := [v0, v1, v2]) hl hg ⟨fun gd H' a dx fs s e lk => hw.1 gd H' a s ⟨dx, fs, e, lk⟩, hw.2⟩⟩
    refine ⟨_, rfl, rfl, _, rfl, ite2 (fun e => ?_) (fun e6 => ?_)⟩
    · obtain rfl : kind = "agreed" := V.str.inj (of_decide_eq_true e)
      have hl4 : (formsOf "agreed").length = 4 := by decide +kernel
      obtain ⟨v0, v1, v2, v3, rfl⟩ : ∃ v0 v1 v2 v3, xs = [v0, v1, v2, v3] := by
        rw [hl4] at hl
        match xs, hl with
        | [v0, v1, v2, v3], _ => exact ⟨_, _, _, _, rfl⟩
      exact ⟨_, rfl, lr, [v0, v1, v2, v3], rfl, hlr, madeRow0 (xs := [v0, v1, v2, v3]) hl hg ⟨fun gd H' a dx fs s e lk => hw.1 gd H' a s ⟨dx, fs, e, lk⟩, hw.2⟩⟩
    refine ⟨_, rfl, rfl, _, rfl, ite2 (fun e => ?_) (fun e7 => ?_)⟩
    · obtain rfl : kind = "differed" := V.str.inj (of_decide_eq_true e)
      have hl4 : (formsOf "differed").length = 4 := by decide +kernel
      obtain ⟨v0, v1, v2, v3, rfl⟩ : ∃ v0 v1 v2 v3, xs = [v0, v1, v2, v3] := by
        rw [hl4] at hl
        match xs, hl with
        | [v0, v1, v2, v3], _ => exact ⟨_, _, _, _, rfl⟩
      exact ⟨_, rfl, lr, [v0, v1, v2, v3], rfl, hlr, madeRow0 (xs := [v0, v1, v2, v3]) hl hg ⟨fun gd H' a dx fs s e lk => hw.1 gd H' a s ⟨dx, fs, e, lk⟩, hw.2⟩⟩
    refine ⟨_, rfl, rfl, _, rfl, ite2 (fun e => ?_) (fun e8 => ?_)⟩
    · obtain rfl : kind = "served" := V.str.inj (of_decide_eq_true e)
      have hl4 : (formsOf "served").length = 4 := by decide +kernel
      obtain ⟨v0, v1, v2, v3, rfl⟩ : ∃ v0 v1 v2 v3, xs = [v0, v1, v2, v3] := by
        rw [hl4] at hl
        match xs, hl with
        | [v0, v1, v2, v3], _ => exact ⟨_, _, _, _, rfl⟩
      exact ⟨_, rfl, lr, [v0, v1, v2, v3], rfl, hlr, madeRow0 (xs := [v0, v1, v2, v3]) hl hg ⟨fun gd H' a dx fs s e lk => hw.1 gd H' a s ⟨dx, fs, e, lk⟩, hw.2⟩⟩
    obtain rfl : kind = "backed" := kinds_end kind hk (fun z => e0 (decide_eq_true (by rw [z]))) (fun z => e1 (decide_eq_true (by rw [z]))) (fun z => e2 (decide_eq_true (by rw [z]))) (fun z => e3 (decide_eq_true (by rw [z]))) (fun z => e4 (decide_eq_true (by rw [z]))) (fun z => e5 (decide_eq_true (by rw [z]))) (fun z => e6 (decide_eq_true (by rw [z]))) (fun z => e7 (decide_eq_true (by rw [z]))) (fun z => e8 (decide_eq_true (by rw [z])))
    have hl4 : (formsOf "backed").length = 4 := by decide +kernel
    obtain ⟨v0, v1, v2, v3, rfl⟩ : ∃ v0 v1 v2 v3, xs = [v0, v1, v2, v3] := by
      rw [hl4] at hl
      match xs, hl with
      | [v0, v1, v2, v3], _ => exact ⟨_, _, _, _, rfl⟩
    exact ⟨_, rfl, lr, [v0, v1, v2, v3], rfl, hlr, madeRow0 (xs := [v0, v1, v2, v3]) hl hg ⟨fun gd H' a dx fs s e lk => hw.1 gd H' a s ⟨dx, fs, e, lk⟩, hw.2⟩⟩
end
end K15

namespace K15
open PySem PySem.Spec PyProof.Rows L2 So LamX StX
abbrev sEqR : Stmt := inClass (topS 28) 9
abbrev sStrR : Stmt := inClass (topS 28) 10
theorem scEqR : FnScope ["self", "other"] ["self", "other"] (defScope sEqR) := ⟨rfl, rfl, rfl, by decide +kernel, rfl, by decide +kernel, by decide +kernel⟩
theorem scStrR : FnScope ["self", "words", "value"] ["self"] (defScope sStrR) := ⟨rfl, rfl, rfl, by decide +kernel, rfl, by decide +kernel, by decide +kernel⟩
def flatD : V → Option PyData
  | .non => some .none
  | .bl b => some (.bool b)
  | .int i => some (.int i)
  | .str z => some (.str z)
  | _ => none
def flatDs : List V → Option (List PyData)
  | [] => some []
  | v :: r => match flatD v, flatDs r with
    | some d, some ds => some (d :: ds)
    | _, _ => none
section
variable {K : PySem.W.Frag}
theorem flatD_dp {H : Hp} {v : V} {d : PyData} (h : flatD v = some d) : Dp K H v d := by
  cases v with
  | non => cases h; exact .non
  | bl b => cases h; exact .bl b
  | int i => cases h; exact .int i
  | str z => cases h; exact .str z
  | _ => cases h
theorem flatDs_dp {H : Hp} : ∀ {xs : List V} {ds : List PyData}, flatDs xs = some ds → DpAll K H xs ds
  | [], ds, h => by
    cases h
    exact .nil
  | v :: r, ds, h => by
    unfold flatDs at h
    split at h
    · rename_i d es h1 h2
      cases h
      exact .cons (flatD_dp h1) (flatDs_dp h2)
    · cases h
end
/-! ### what is known of a name, a moment -/
theorem name_small {z : Str} (h : isName z = true) : ∀ c ∈ z.cps.toList, c < 128 := by
  have aln : ∀ c ∈ (letters ++ digits).cps.toList, c < 128 := by decide +kernel
  unfold isName at h
  simp only [Bool.and_eq_true] at h
  intro c hc
  exact aln c (of_decide_eq_true (List.all_eq_true.mp h.2 c hc))
theorem name_strOk {z : Str} (h : isName z = true) : PyData.strOk z = true := by
  unfold PyData.strOk
  rw [← Array.all_toList]
  exact List.all_eq_true.mpr fun c hc => decide_eq_true (Nat.lt_trans (name_small h c hc) (by decide))
theorem name_len {z : Str} (h : isName z = true) : z.length ≤ 8 := by
  unfold isName at h
  simp only [Bool.and_eq_true, decide_eq_true_eq] at h
  exact h.1.1.1.2
theorem mom_log {m : Int} (h : 0 ≤ m ∧ m ≤ 1000000000000000000000000000000) : m.natAbs.log2 < 1920 := by
  have : m.natAbs < 2 ^ 100 := by omega
  exact Nat.lt_of_lt_of_le (PySem.Flt.log2_lt_of (by decide) this) (by decide)
theorem mom_len {m : Int} (h : 0 ≤ m ∧ m ≤ 1000000000000000000000000000000) : (Str.ofString (toString m)).length ≤ 200 := by
  rw [PyProof.Rows.ofString_length]
  have : m.natAbs.log2 < 101 := PySem.Flt.log2_lt_of (by decide) (by omega : m.natAbs < 2 ^ 101)
  exact Nat.le_trans (int_text_length_le (k := 101) (by decide) this) (by decide)
/-- flat values as data -/
theorem flat_data : ∀ {xs : List V}, (∀ v ∈ xs, Flat1 v) → ∃ ds, flatDs xs = some ds ∧ PyData.canLayAll0 ds = true ∧ PyData.depthAll ds = 0 ∧ PyData.eqvAll ds ds = true
  | [], _ => ⟨[], rfl, rfl, rfl, rfl⟩
  | v :: r, h => by
    obtain ⟨ds, h1, h2, h3, h4⟩ := flat_data (xs := r) fun x hx => h x (List.mem_cons_of_mem _ hx)
    have hv := h v List.mem_cons_self
    cases hv with
    | @nam z hz => exact ⟨.str z :: ds, by unfold flatDs flatD; rw [h1], by simp [PyData.canLayAll0, PyData.canLay0, name_strOk hz, h2], by simp [PyData.depthAll, PyData.depth, h3], by simp [PyData.eqvAll, PyData.eqv, h4]⟩
    | @mom m hm => exact ⟨.int m :: ds, by unfold flatDs flatD; rw [h1], by simp [PyData.canLayAll0, PyData.canLay0, h2], by simp [PyData.depthAll, PyData.depth, h3], by simp [PyData.eqvAll, PyData.eqv, h4]⟩
    | @tru b => exact ⟨.bool b :: ds, by unfold flatDs flatD; rw [h1], by simp [PyData.canLayAll0, PyData.canLay0, h2], by simp [PyData.depthAll, PyData.depth, h3], by simp [PyData.eqvAll, PyData.eqv, h4]⟩
theorem flat_tup {xs : List V} (h : ∀ v ∈ xs, Flat1 v) : ∃ d : PyData, SeqAt.shaped d = true ∧ PyData.eqv d d = true ∧ ∀ (K : PySem.W.Frag) (H : Hp) (p : Addr), H p = some (.tup xs) → Dp K H (.ref p) d := by
  obtain ⟨ds, h1, h2, h3, h4⟩ := flat_data h
  refine ⟨.tuple ds, ?_, ?_, fun K H p e => .tup (SqT.of e) (flatDs_dp h1)⟩
  · unfold SeqAt.shaped
    simp [PyData.canLay0, h2, PyData.depth, h3]
  · simp [PyData.eqv, h4]
theorem FlatRow.flat {kind : Str} {xs : List V} (h : FlatRow kind xs) : ∀ v ∈ xs, Flat1 v := by
  intro v hv
  obtain ⟨i, hi, e⟩ := List.mem_iff_getElem.mp hv
  have hz : (v, (formsOf kind)[i]'(by rw [← h.1]; exact hi)) ∈ xs.zip (formsOf kind) := List.mem_of_getElem? (i := i) (by
    rw [List.getElem?_zip_eq_some]
    exact ⟨by rw [List.getElem?_eq_getElem hi, e], List.getElem?_eq_getElem _⟩)
  exact (h.2 _ hz).2
/-! ### the text of a row -/
def wordV : V → Str
  | .str z => z
  | .int i => (toString i : String)
  | .bl b => if b then "sound" else "unsound"
  | _ => Str.empty
def rowText (kind : Str) (xs : List V) : Str := Txt.join " " (kind :: xs.map wordV)
theorem word_len {v : V} (h : Flat1 v) : (wordV v).length ≤ 200 := by
  cases h with
  | nam h => exact Nat.le_trans (name_len h) (by decide)
  | mom h => exact mom_len h
  | tru b => cases b <;> decide +kernel
theorem words_sum : ∀ {xs : List V}, (∀ v ∈ xs, Flat1 v) → ((xs.map wordV).map (·.length)).sum ≤ 200 * xs.length
  | [], _ => Nat.le_refl _
  | v :: r, h => by
    have h1 := word_len (h v List.mem_cons_self)
    have h2 := words_sum (xs := r) fun x hx => h x (List.mem_cons_of_mem _ hx)
    simp only [List.map_cons, List.sum_cons, List.length_cons]
    omega
theorem kind_len : ∀ kind ∈ kinds, kind.length ≤ 8 := by decide +kernel
theorem forms_len : ∀ kind ∈ kinds, (formsOf kind).length ≤ 4 := by decide +kernel
/-- what the top says of the rows' classes -/
structure RowsC (K : PySem.W.Frag) (mg : Str → Option Value) (Cf : Str → Addr) (CR : Addr) : Prop where
  gR : mg "Row" = some (.ref CR)
  c : ∀ kind ∈ kinds, RowC K (Cf kind) ("_told" :: "kind" :: attrsOf kind)
  kR : ∀ kind ∈ kinds, PySem.W.kitOne K (.ref (Cf kind)) (.ref CR) = some true
  ha : ∀ kind ∈ kinds, PySem.W.findIn K (.ref (Cf kind)) "__class__" = some (some (.builtin "object.__class__"))
  hn : PySem.W.specialIn K (.builtin "object.__class__") "__get__" = some (some (.builtin "getset_descriptor.__get__"))
  htk : PySem.W.takesIn K (.builtin "object.__class__") = some true
  hm : ∀ kind ∈ kinds, PySem.W.mroIn K (Cf kind) (.type "object") = some true
section
variable {P : Program} {w : World} {K : PySem.W.Frag} {mg : Str → Option Value} {base : Heap}
/-- word_of -/
def spWordOf : Sp := fun vs H Q _ => ∃ v, vs = [v] ∧ Flat1 v ∧ Q (.str (wordV v)) H
theorem ok_wordOf {f : Addr} {fd : FuncData} (F : Fun K "word_of" "word_of" sWordOf f fd) (W : Words K mg) : FnOk P w K mg base CX0 1 f fd ["value"] spWordOf := by
  refine F.ok scWordOf (fun vs H Q E h => ?_) (fun cdv A outer s H vs Q E hr h => ?_)
  · obtain ⟨_, rfl, _⟩ := h
    rfl
  · obtain ⟨v, rfl, hv, q⟩ := h
    refine ⟨_, pss_cons (ps_if (pt_val (pe_callB call_isi (by rfl) W.isi (by decide +kernel) (pa_cons (pv 0) (pa_cons (pe_bltn (v := .ty "bool") (by rfl) W.bool (by decide +kernel) rfl) pa_nil))))
      (pss_one (ps_ret (pe_ifExp (pt_val (pv 0)) pe_str pe_str))) pss_nil) (pss_one (ps_ret (pe_callTy (So.CallR.or SkE.call_str_str call_str_int) (by rfl) W.str (by decide +kernel) (pa_cons (pv 0) pa_nil)))), ?_⟩
    cases hv with
    | @nam z hz => exact ⟨_, rfl, _, _, _, _, false, rfl, .ty "bool", (Gv.str z (Nat.le_trans (name_len hz) (by decide))).ty, kit_ty (by decide +kernel), false, rfl, iteF ⟨_, rfl, .inl ⟨z, rfl, q⟩⟩⟩
    | @mom i hi => exact ⟨_, rfl, _, _, _, _, false, rfl, .ty "bool", (Gv.int i).ty, kit_int_bool, false, rfl, iteF ⟨_, rfl, .inr ⟨i, rfl, mom_log hi, q⟩⟩⟩
    | @tru b =>
      refine ⟨_, rfl, _, _, _, _, true, rfl, .ty "bool", .base (.bl b), kit_bool_bool, true, rfl, iteT ?_⟩
      refine ⟨_, rfl, b, rfl, ?_⟩
      cases b with
      | true => exact iteT q
      | false => exact iteF q
/-- the text of a row -/
def spStrR (Cf : Str → Addr) : Sp := fun vs H Q _ => ∃ (a : Addr) (kind : Str) (xs : List V), vs = [.ref a] ∧ kind ∈ kinds ∧ FlatRow kind xs ∧ RowAt Cf H a kind xs ∧ ∀ H', Same H H' → Q (.str (rowText kind xs)) H'
theorem ok_strR {Cf : Str → Addr} {CR f fW : Addr} {fd fdW : FuncData} (F : Fun K "__str__" "Row.__str__" sStrR f fd) (T : RowsC K mg Cf CR) (FW : Fun K "word_of" "word_of" sWordOf fW fdW) (bW : Binds K fdW ["value"] []) (gW : mg "word_of" = some (.ref fW)) (GW : FnOk P w K mg base CX0 1 fW fdW ["value"] spWordOf) :
    FnOk P w K mg base CX0 2 f fd ["self"] (spStrR Cf) := by
  refine F.ok scStrR (fun vs H Q E h => ?_) (fun cdv A outer s H vs Q E hr h => ?_)
  · obtain ⟨_, _, _, rfl, _⟩ := h
    rfl
  · obtain ⟨a, kind, xs, rfl, hk, hf, hA, q⟩ := h
    refine ⟨_, pss_cons (ps_setLc (i := 1) (own := [("value", 2)]) (g := gName 2) (tt := tYes) rfl scStrR.nd rfl rfl (sw_true rfl rfl rfl (by decide +kernel)) (pi_tup (pe_fld (pv 0) rfl)) (blkOk_by (N := ["self", "words", "value"]) (sc := defScope sStrR) (by decide +kernel))
          (fun _ _ _ _ _ => pg_name (i := 2) scStrR.nd rfl (Or.inl rfl)) (fun _ _ _ _ _ => pts_nil)
          (fun _ _ _ _ _ => pe_call GW hr (by rfl) gW FW.kp bW .nil pass0 (pa_cons (pv 2) pa_nil)))
      (pss_one (ps_ret (pe_join pe_str (pe_lst (pa_cons (pe_fld (pv 0) rfl) (pa_star (pv 1) pa_nil)))))), ?_⟩
    obtain ⟨dx, fs, ha, t1, ⟨tp, t2, t3⟩, _⟩ := id hA
    have cl := (T.c kind hk).cl
    have n0 := (T.c kind hk).no "_told" (by simp)
    have n1 := (T.c kind hk).no "kind" (by simp)
    have hfl := hf.flat
    have hl4 : xs.length ≤ 4 := by rw [hf.1]; exact forms_len kind hk
    have hsz := sizeLine_eq
    refine ⟨_, rfl, a, _, dx, _, _, rfl, ha, cl, n0, t2, tp, rfl, ⟨_, SqT.of t3⟩, fun D hD => ?_⟩
    refine lc_it walk_tup (fun k H' => Same H H' ∧ H' D = some (.lst ((xs.take k).map fun v => .str (wordV v)))) ⟨Same.over (Same.refl H) hD, upd_same⟩ (fun _ _ _ y => SqT.of (y.1 _ _ t3)) ?_ ?_
    · rintro k x H2 H3 hk2 ⟨s2, hDk⟩ ⟨rfl, hxk⟩
      have et : xs.take (k + 1) = xs.take k ++ [x] := by rw [List.take_add_one, hxk]; rfl
      refine ⟨rfl, _, rfl, x, rfl, hfl x (List.mem_of_getElem? hxk), _, hDk, ?_, Same.over s2 hD, ?_⟩
      · rw [List.length_map]
        have h2 : (xs.take k).length ≤ xs.length := List.length_take_le' _ _
        omega
      · rw [et, List.map_append]
        exact upd_same
    · rintro H2 ⟨s2, hDk⟩
      rw [List.take_length] at hDk
      have ha2 := s2 _ _ ha
      refine ⟨⟨_, rfl⟩, _, rfl, a, _, dx, _, _, rfl, ha2, cl, n1, t1, _, rfl, D, _, rfl, .inr (SqL.of hDk), ?_, fun p hp => ?_⟩
      · rw [List.append_nil, List.length_cons, List.length_map]
        omega
      · refine ⟨_, p, kind :: xs.map wordV, rfl, rfl, .inl (SqL.of ?_), ?_, q _ (s2.trans (same_upd0 hp))⟩
        · rw [upd_same, List.append_nil, List.map_cons, List.map_map]
          rfl
        · have := words_sum hfl
          have hk8 := kind_len kind hk
          have e3 : ((" " : Str)).length = 1 := by decide
          rw [List.map_cons, List.sum_cons, List.length_cons, List.length_map, e3]
          omega
/-- Row.__eq__ of two like rows -/
def spEqR (Cf : Str → Addr) : Sp := fun vs H Q _ => ∃ (a b : Addr) (kind : Str) (xs : List V), vs = [.ref a, .ref b] ∧ kind ∈ kinds ∧ FlatRow kind xs ∧ RowAt Cf H a kind xs ∧ RowAt Cf H b kind xs ∧ Q (.bl true) H
theorem ok_eqR {Cf : Str → Addr} {CR f : Addr} {fd : FuncData} (F : Fun K "__eq__" "Row.__eq__" sEqR f fd) (W : Words K mg) (T : RowsC K mg Cf CR) : FnOk P w K mg base CX0 1 f fd ["self", "other"] (spEqR Cf) := by
  refine F.ok scEqR (fun vs H Q E h => ?_) (fun cdv A outer s H vs Q E hr h => ?_)
  · obtain ⟨_, _, _, _, rfl, _⟩ := h
    rfl
  · obtain ⟨a, b, kind, xs, rfl, hk, hf, ⟨dx, fs, ha, tA⟩, ⟨dx', fs', hb, tB⟩, q⟩ := h
    have cl := (T.c kind hk).cl
    have n0 := (T.c kind hk).no "_told" (by simp)
    have n1 := (T.c kind hk).no "kind" (by simp)
    obtain ⟨k1, ⟨p1, e1, t1⟩, _⟩ := tA
    obtain ⟨k2, ⟨p2, e2, t2⟩, _⟩ := tB
    obtain ⟨d, sh, ev, hd⟩ := flat_tup hf.flat
    refine ⟨_, pss_one (ps_ret (pe_and (pe_callB call_isi (by rfl) W.isi (by decide +kernel) (pa_cons (pv 1) (pa_cons (pe_glob (v := .ref CR) rfl T.gR rfl) pa_nil))) (pe_and (pe_cmpR op_eq (pe_fld (pv 0) rfl) (pe_fld (pv 1) rfl) (nomark _)) (pe_one (pe_cmpR (op_eqD hr.units) (pe_fld (pv 0) rfl) (pe_fld (pv 1) rfl) (nomark _)))))), ?_⟩
    refine ⟨_, rfl, _, _, _, _, true, rfl, .own CR, .base (.ins hb cl (T.ha kind hk) T.hn T.htk (T.hm kind hk)), T.kR kind hk, true, rfl, iteT ?_⟩
    refine ⟨_, rfl, a, _, dx, _, _, rfl, ha, cl, n1, k1, _, rfl, b, _, dx', _, _, rfl, hb, cl, n1, k2, rfl, true, by simp, iteT ?_⟩
    refine ⟨_, rfl, a, _, dx, _, _, rfl, ha, cl, n0, e1, _, rfl, b, _, dx', _, _, rfl, hb, cl, n0, e2, d, d, hd _ _ _ t1, hd _ _ _ t2, sh, sh, ?_⟩
    rw [ev]
    exact q
end
end K15

/-! a list of anything == [], != [] -/
namespace So
open PySem PySem.Spec PyProof.Rows L2
section
variable {X : Cx}
theorem isL {hp : Heap} {a : Addr} {its : Array Value} (h : PlainL hp a its) : hp.IsList a its := by
  obtain ⟨o, n, e, c, d, dt⟩ := h
  exact ⟨o, e, c, n, dt⟩
def rNil (K : PySem.W.Frag) (neg : Bool) : R2 := fun x y H Q => ∃ (a b : Addr) (xs : List V), x = .ref a ∧ y = .ref b ∧ SqL K H a xs ∧ SqL K H b [] ∧ Q (.bl (if neg then !xs.isEmpty else xs.isEmpty)) H
theorem op_neNil (hu : X.A.units < cLine) : OpR X (compareOp .NotEq) (rNil X.K true) := by
  intro pins s σ H x y v u Q I rx ry h
  obtain ⟨a, b, xs, rfl, rfl, ha, hb, q⟩ := h
  cases rx
  cases ry
  obtain ⟨its, rv, hl, hz⟩ := I.list ha
  obtain ⟨its2, rv2, hl2, hz2⟩ := I.list hb
  cases rv2
  cases xs with
  | nil =>
    cases rv
    exact PySem.SeqAt.RcNeAt.lists (e := fun _ => true) (isL hl) (isL hl2) rfl hu (fun j h1 _ => absurd h1 (Nat.not_lt_zero j)) X.prog X.w _ _ ⟨.bl false, H, I, rfl, q⟩
  | cons x r =>
    cases rv with
    | cons r1 r2 => exact PySem.SeqAt.RcNeAt.lists_lengths (isL hl) (isL hl2) (by simp) hu X.prog X.w _ _ ⟨.bl true, H, I, rfl, q⟩
theorem op_eqNil (hu : X.A.units < cLine) : OpR X (compareOp .Eq) (rNil X.K false) := by
  intro pins s σ H x y v u Q I rx ry h
  obtain ⟨a, b, xs, rfl, rfl, ha, hb, q⟩ := h
  cases rx
  cases ry
  obtain ⟨its, rv, hl, hz⟩ := I.list ha
  obtain ⟨its2, rv2, hl2, hz2⟩ := I.list hb
  cases rv2
  cases xs with
  | nil =>
    cases rv
    exact PySem.SeqAt.RcAt.lists (e := fun _ => true) (isL hl) (isL hl2) rfl hu (fun j h1 _ => absurd h1 (Nat.not_lt_zero j)) X.prog X.w _ _ ⟨.bl true, H, I, rfl, q⟩
  | cons x r =>
    cases rv with
    | cons r1 r2 => exact PySem.SeqAt.RcAt.lists_lengths (isL hl) (isL hl2) (by simp) hu X.prog X.w _ _ ⟨.bl false, H, I, rfl, q⟩
end
end So

/-! a part of an expression walked by itself: what follows it is said once -/
namespace So
open PySem PySem.Spec PyProof.Rows L2
theorem pe_cut {X : Cx} {e : Expr} {t : TE} (h : PE X e t) : PE X e (fun σ H Q => ∃ Q0 : VK, t σ H Q0 ∧ ∀ v H', Q0 v H' → Q v H') :=
  ⟨fun pins s σ H Q I ⟨Q0, h1, h2⟩ => thn (h.run pins s σ H Q0 I h1) fun u s' ⟨v, H', I', r, q⟩ => ⟨v, H', I', r, h2 v H' q⟩⟩
end So

/-! rules within a comprehension's block, the written part told -/
namespace So
open PySem PySem.Spec PyProof.Rows L2
section
variable {X : Cx} {K : PySem.W.Frag} {tg l e : Expr} {tl ta : TE} {f : Str} {pos : Pos}
theorem pi_tupK (h : X.K = K) (hl : PE X l tl) : PI X tg l (iTup K tl) := by
  subst h
  exact pi_tup hl
theorem pi_listK (h : X.K = K) (hl : PE X l tl) : PI X tg l (iList K tl) := by
  subst h
  exact pi_list hl
theorem pe_fldK (h : X.K = K) (he : PE X e ta) (hb : attributeBase e f X.env (eval e X.env) = eval e X.env) : PE X (.Attribute e f pos) (tFld K ta f) := by
  subst h
  exact pe_fld he hb
theorem ix_listK (h : X.K = K) : IxR X (rIxL K) := h ▸ ix_list
theorem ix_tupK (h : X.K = K) : IxR X (rIxT K) := h ▸ ix_tup
theorem op_inK (h : X.K = K) : OpR X (compareOp .In) (rIn K false) := by
  subst h
  exact op_in_seq
theorem op_notInK (h : X.K = K) : OpR X (compareOp .NotIn) (rIn K true) := by
  subst h
  exact op_notIn_seq
theorem lenK (h : X.K = K) : CallR X (.builtin "len") (fun xs H Q => ∃ (p : Addr) (ys : List V), xs = [V.ref p] ∧ (SqL K H p ys ∨ SqT K H p ys) ∧ Q (.int (ys.length : Nat)) H) := by
  subst h
  exact call_len_seq
end
end So

namespace So
open PySem PySem.Spec PyProof.Rows L2
section
variable {P : Program} {w : World} {K : PySem.W.Frag} {mg : Str → Option Value} {base : Heap} {CX : CXT} {sp : Sp} {fd : FuncData} {ps N : List Str} {k : Nat} {f c : Addr}
/-- a def by its body, the guards and the code object told -/
theorem fnG_ofC {x qual : Str} {st : Stmt} (F : Fun K x qual st f fd) (hcode : fd.code = .ref c) (S : FnScope N ps (defScope st)) (len : ∀ vs H Q E, sp vs H Q E → vs.length = ps.length)
    (hbody : ∀ (A : Around) (outer : List Env) (s : Shared) (H : Hp) (vs : List V) (Q : VK) (E : XK), A.guards = some [] → Room k (A.deeper (envOfC qual (defScope st) s.heap.objs.size f (.ref c))) → sp vs H Q E →
      ∃ t, PSs (cxOf CX P w K mg base N qual (defScope st) f (.ref c) A outer s H E).nox (defBody st) t ∧ t { nx := fun _ H' => Q .non H', rt := Q } (start N vs) H) : FnG P w K mg base CX (k + 1) f fd ps sp := by
  obtain ⟨oc, od, kV, doc, pm, an, cdv, ct, osl, rfl, lk, hcd⟩ := F.ex
  obtain rfl : cdv = .ref c := hcode
  constructor
  · exact len
  intro A outer s H args us vs Q E hg hr e0 hb r hsp
  have old : ∀ b o, base.get? b = some o → s.heap.get? b = some o := fun b o e => (e0.bs b o e).1
  have KX := e0.mod.kin.keeps old
  have lim := e0.mod.nolimit.keeps old
  refine codeAny_call_function hr.depth (KX _ _ lk) rfl S.co S.gen rfl (PySem.W.codeRec_of KX hcd) (hb _ _ _ _ ?_)
  refine wpAny_newFunctionEnv_cells S.kind (fun y hy => ?_) fun env he s1 x => ?_
  · rcases S.par y.1 (List.of_mem_zip (show (y.1, y.2) ∈ ps.zip us from hy)).1 with q | q
    · exact Or.inl q
    · exact Or.inr (And.intro q (PySem.W.cellsFrom_some _ _ _ (Or.inl q)))
  subst he
  refine And.intro (lim.keeps x.toInCall.keep) (codeAny_func ?_)
  obtain ⟨t, ht, hq⟩ := hbody A outer s H vs Q E hg (hr.deeper _) hsp
  refine wpAny_mono (ht.nox.run [] s1 (start N vs) H _ (inv_start S hr.hd e0 (len _ _ _ _ hsp) r x) hq) (fun fl s' hs => ?_) fun _ _ hs => hs
  match fl, hs with
  | .ret u, ⟨v, σ', H', J, rv, q⟩ => exact ⟨v, H', J.os, J.bare, J.base, J.hok, rv, q⟩
  | .next, ⟨σ', H', J, q⟩ => exact ⟨V.non, H', J.os, J.bare, J.base, J.hok, rfl, q⟩
  | .brk, ⟨_, _, _, q⟩ => exact q.elim
  | .cont, ⟨_, _, _, q⟩ => exact q.elim
end
end So

namespace So
open PySem PySem.Spec PyProof.Rows L2 LamX
/-- the law's call, its one table of code objects and the guards told -/
theorem law_callTG {P : Program} {w : World} {K : PySem.W.Frag} {mg mb : Str → Option Value} {CX : CXT} {k : Nat} {fa a c T : Addr} {fd : FuncData} {x : Str} {sp : Sp} {s₁ : Shared} {vs : List Value} {ns : List Int}
    (KX : K.In s₁.heap) (hns : s₁.heap.Ns mainGlobals mg) (hb : s₁.heap.Ns builtinsNs mb) (hbb : ∀ x : Str, x ≠ "__name__" → mb x = bootBuiltins x) (hlim : s₁.heap.NoLimit) (hg : s₁.gens = #[])
    (tab : s₁.heap.get? T = some { cls := .none, data := .fields #[] }) (noT : K.lookup T = none) (cd : PySem.W.CodeHd s₁.heap c T)
    (mod : ∃ (bm : Addr) (ob : Obj), mg "__builtins__" = some (.ref bm) ∧ bm ≠ builtinsNs ∧ s₁.heap.get? bm = some ob ∧ ob.cls = .type "module" ∧ ob.dict = some builtinsNs ∧ ob.data = .plain)
    (ha : s₁.heap.get? a = some { cls := .type "list", data := .seq vs.toArray }) (hi : IntsAre vs ns) (hl : ns.length ≤ sizeLine) (hr : Room k callerA)
    (F : ∀ base : Heap, K.In base → base.Ns mainGlobals mg → TabB base mg c T → FnG P w K mg base CX k fa fd [x] sp) (hbind : ∀ (s : Shared) (u : Value), BindsTo s fd ⟨[u], []⟩ [(x, u)])
    (hsp : ∀ H : Hp, H T = some (.tbl #[]) → SqL K H a (ns.map V.int) → sp [.ref a] H (fun v _ => v = .bl true) fun _ _ _ => False)
    (hCX : ∀ H e s', CX [] H s₁ (fun _ _ _ => False) e s' → False) :
    codeAny (model P w) callerA (.call (.ref fa) ⟨[.ref a], []⟩) (fun r s' => r = .ok (.ret (.bool true)) ∧ OldK s₁.heap s'.heap ∧ s'.os = s₁.os ∧ AllBare s'.gens) s₁ := by
  have aT : a ≠ T := fun z => by
    rw [z, tab] at ha
    have := congrArg Obj.data (Option.some.inj ha)
    cases this
  -- what may be tracked at the start: the table, and the script where the written part does not hold it
  have go : ∀ H : Hp, H T = some (.tbl #[]) → (∀ b u, H b = some u → b = T ∨ (b = a ∧ K.lookup a = none ∧ ∃ o xs, u = .frz o (.lst xs))) → SqL K H a (ns.map V.int) → HOk P w H s₁.heap →
      codeAny (model P w) callerA (.call (.ref fa) ⟨[.ref a], []⟩) (fun r s' => r = .ok (.ret (.bool true)) ∧ OldK s₁.heap s'.heap ∧ s'.os = s₁.os ∧ AllBare s'.gens) s₁ := by
    intro H hT hA hS hok
    -- an object that is neither the script's list nor the table stands in the base
    have free : ∀ {b : Addr} {o : Obj}, s₁.heap.get? b = some o → (∀ vs n, o.data ≠ .seq vs n) → o.data ≠ .fields #[] → H b = none := by
      intro b o e h1 h2
      cases q : H b with
      | none => rfl
      | some u =>
        rcases hA b u q with rfl | ⟨rfl, _⟩
        · rw [tab] at e
          cases e
          exact absurd rfl h2
        · rw [ha] at e
          cases e
          exact absurd rfl (h1 _ _)
    have toBase : ∀ {b : Addr} {o : Obj}, s₁.heap.get? b = some o → H b = none → (hidT s₁.heap H).get? b = some o := fun e n => hidT_get e n
    have nsB : ∀ {b : Addr} {m : Str → Option Value}, s₁.heap.Ns b m → (hidT s₁.heap H).Ns b m := by
      rintro b m ⟨o, es, ep, e, d, r⟩
      have n : H b = none := by
        refine free e ?_ ?_
        · intro vs n z
          rw [d] at z
          cases z
        · intro z
          rw [d] at z
          cases z
      exact ⟨o, es, ep, toBase e n, d, r⟩
    have kin : K.In (hidT s₁.heap H) := by
      intro b o e
      refine toBase (KX b o e) ?_
      cases q : H b with
      | none => rfl
      | some u =>
        rcases hA b u q with rfl | ⟨rfl, z, _⟩
        · rw [noT] at e
          cases e
        · rw [z] at e
          cases e
    have lim2 : (hidT s₁.heap H).NoLimit := by
      obtain ⟨mc, h1, h2⟩ := hlim
      exact ⟨mc, nsB h1, h2⟩
    have gT : mainGlobals ≠ T := fun z => by
      obtain ⟨o, es, ep, e, d, _⟩ := hns
      rw [z, tab] at e
      cases e
      cases d
    have cd2 : PySem.W.CodeHd (hidT s₁.heap H) c T := by
      obtain ⟨o, us, fl, tf, fg, tg, inF, tx, tt, e1, r1, r2, r3, r⟩ := cd
      refine ⟨o, us, fl, tf, fg, tg, inF, tx, tt, toBase e1 (free e1 ?_ ?_), r1, r2, r3, r⟩
      · intro vs n z
        rw [r2] at z
        cases z
      · intro z
        rw [r2] at z
        cases z
        simp at r3
    have bm2 : (hidT s₁.heap H).BuiltinsAt mg T := by
      obtain ⟨bm, ob, b1, b2, b3, b4, b5, b6⟩ := mod
      have n1 : bm ≠ mainGlobals := fun z => by
        obtain ⟨o, es, ep, e, d, _⟩ := hns
        rw [z, e] at b3
        cases b3
        rw [d] at b6
        cases b6
      have n2 : bm ≠ T := fun z => by
        rw [z, tab] at b3
        cases b3
        cases b6
      refine ⟨bm, ob, b1, b2, n1, n2, toBase b3 (free b3 ?_ ?_), b4, b5, b6⟩
      · intro vs n z
        rw [b6] at z
        cases z
      · intro z
        rw [b6] at z
        cases z
    have e0 : Env0 P w K mg (hidT s₁.heap H) callerA [] s₁ H := by
      refine ⟨rfl, ⟨kin, nsB hns, ⟨mb, nsB hb, hbb⟩, lim2⟩, fun b o e => of_hidT e, Nat.le_of_eq (hidT_size _ _), True.intro, ?_, hok, .of_eq hg⟩
      intro b hb
      cases hb
    refine codeAny_mono ((F _ kin (nsB hns) ⟨cd2, bm2, gT⟩).runG callerA [] s₁ H ⟨[.ref a], []⟩ [.ref a] [.ref a] _ _ rfl hr e0 (hbind s₁ (.ref a)) (.cons rfl .nil) (hsp H hT hS)) fun r s' h => ?_
    match r, h with
    | .error e, h => exact (hCX H e s' h).elim
    | .ok .next, h => exact h.elim
    | .ok .brk, h => exact h.elim
    | .ok .cont, h => exact h.elim
    | .ok (.ret u), ⟨v, H', os, bare, un, hok', rv, q⟩ =>
      have q2 : v = .bl true := q
      subst q2
      cases rv
      obtain ⟨more, hm⟩ := un.tbls T #[] hT
      have grown : s'.heap.get? T = some { cls := .none, data := .fields (#[] ++ more) } := hok' T _ hm
      have stay : ∀ b o, b ≠ T → s₁.heap.get? b = some o → s'.heap.get? b = some o := by
        intro b o n e
        cases q : H b with
        | none => exact un.keep b o e q (fun z => nomatch z) (fun z => nomatch z)
        | some u =>
          rcases hA b u q with z | ⟨_, _, ob, xs, rfl⟩
          · exact absurd z n
          · have z1 := (hok b _ q).1
            have z2 := (hok' b _ (un.frzs b ob _ q)).1
            rw [z1] at e
            rw [z2, e]
      refine ⟨rfl, ⟨fun b o e => ?_, fun b o e => ?_⟩, os, bare⟩
      · by_cases n : b = T
        · subst n
          rw [tab] at e
          cases e
          refine .inr (.inl ⟨(cd.tab tab).isCodeTable, rfl, #[], more, rfl, grown⟩)
        · exact .inl (stay b o n e)
      · by_cases n : b = T
        · subst n
          exact ⟨_, grown⟩
        · exact ⟨o, stay b o n e⟩
  have rv := vals_ints hi
  have hlen : (ns.map V.int).length ≤ sizeLine := by rw [List.length_map]; exact hl
  cases hk : K.lookup a with
  | some o =>
    have e := KX a o hk
    rw [ha] at e
    cases e
    refine go (fun b => if b = T then some (.tbl #[]) else none) (if_pos rfl) (fun b u z => ?_) (Or.inr ⟨_, vs.toArray, _, hk, rfl, rfl, rfl, by rw [List.size_toArray, hi.length]; exact hl, by simpa using rv⟩) fun b u z => ?_
    · try dsimp only at z
      by_cases n : b = T
      · exact Or.inl n
      · rw [if_neg n] at z
        cases z
    · try dsimp only at z
      by_cases n : b = T
      · rw [if_pos n] at z
        cases z
        rw [n]
        exact tab
      · rw [if_neg n] at z
        cases z
  | none =>
    refine go (fun b => if b = T then some (.tbl #[]) else if b = a then some (.frz { cls := .type "list", data := .seq vs.toArray } (.lst (ns.map V.int))) else none) (if_pos rfl) (fun b u z => ?_) (Or.inl (Or.inr ⟨_, (if_neg aT).trans (if_pos rfl)⟩)) fun b u z => ?_
    · try dsimp only at z
      by_cases n : b = T
      · exact Or.inl n
      · rw [if_neg n] at z
        by_cases n2 : b = a
        · rw [if_pos n2] at z
          cases z
          exact Or.inr ⟨n2, hk, _, _, rfl⟩
        · rw [if_neg n2] at z
          cases z
    · try dsimp only at z
      by_cases n : b = T
      · rw [if_pos n] at z
        cases z
        rw [n]
        exact tab
      · rw [if_neg n] at z
        by_cases n2 : b = a
        · rw [if_pos n2] at z
          cases z
          rw [n2]
          exact ⟨ha, hlen, vs, _, rv, ha⟩
        · rw [if_neg n2] at z
          cases z
end So

namespace So
open PySem PySem.Spec PyProof.Rows L2 LamX
/-- the law's call, its tables of code objects and the guards told -/
theorem law_callTGs {P : Program} {w : World} {K : PySem.W.Frag} {mg mb : Str → Option Value} {CX : CXT} {k : Nat} {fa a : Addr} {cs : List (Addr × Addr)} {fd : FuncData} {x : Str} {sp : Sp} {s₁ : Shared} {vs : List Value} {ns : List Int}
    (KX : K.In s₁.heap) (hns : s₁.heap.Ns mainGlobals mg) (hb : s₁.heap.Ns builtinsNs mb) (hbb : ∀ x : Str, x ≠ "__name__" → mb x = bootBuiltins x) (hlim : s₁.heap.NoLimit) (hg : s₁.gens = #[])
    (tabs : ∀ q ∈ cs, s₁.heap.get? q.2 = some { cls := .none, data := .fields #[] } ∧ K.lookup q.2 = none ∧ PySem.W.CodeHd s₁.heap q.1 q.2)
    (mod : ∃ (bm : Addr) (ob : Obj), mg "__builtins__" = some (.ref bm) ∧ bm ≠ builtinsNs ∧ s₁.heap.get? bm = some ob ∧ ob.cls = .type "module" ∧ ob.dict = some builtinsNs ∧ ob.data = .plain)
    (ha : s₁.heap.get? a = some { cls := .type "list", data := .seq vs.toArray }) (hi : IntsAre vs ns) (hl : ns.length ≤ sizeLine) (hr : Room k callerA)
    (F : ∀ base : Heap, K.In base → base.Ns mainGlobals mg → (∀ q ∈ cs, TabB base mg q.1 q.2) → FnG P w K mg base CX k fa fd [x] sp) (hbind : ∀ (s : Shared) (u : Value), BindsTo s fd ⟨[u], []⟩ [(x, u)])
    (hsp : ∀ H : Hp, (∀ q ∈ cs, H q.2 = some (.tbl #[])) → SqL K H a (ns.map V.int) → sp [.ref a] H (fun v _ => v = .bl true) fun _ _ _ => False)
    (hCX : ∀ H e s', CX [] H s₁ (fun _ _ _ => False) e s' → False) :
    codeAny (model P w) callerA (.call (.ref fa) ⟨[.ref a], []⟩) (fun r s' => r = .ok (.ret (.bool true)) ∧ OldK s₁.heap s'.heap ∧ s'.os = s₁.os ∧ AllBare s'.gens) s₁ := by
  have tab : ∀ {T : Addr}, (∃ q ∈ cs, q.2 = T) → s₁.heap.get? T = some { cls := .none, data := .fields #[] } := fun ⟨q, hq, e⟩ => e ▸ (tabs q hq).1
  have noT : ∀ {T : Addr}, (∃ q ∈ cs, q.2 = T) → K.lookup T = none := fun ⟨q, hq, e⟩ => e ▸ (tabs q hq).2.1
  have aT : ¬ ∃ q ∈ cs, q.2 = a := fun z => by
    rw [tab z] at ha
    have := congrArg Obj.data (Option.some.inj ha)
    cases this
  -- what may be tracked at the start: the table, and the script where the written part does not hold it
  have go : ∀ H : Hp, (∀ q ∈ cs, H q.2 = some (.tbl #[])) → (∀ b u, H b = some u → (∃ q ∈ cs, q.2 = b) ∨ (b = a ∧ K.lookup a = none ∧ ∃ o xs, u = .frz o (.lst xs))) → SqL K H a (ns.map V.int) → HOk P w H s₁.heap →
      codeAny (model P w) callerA (.call (.ref fa) ⟨[.ref a], []⟩) (fun r s' => r = .ok (.ret (.bool true)) ∧ OldK s₁.heap s'.heap ∧ s'.os = s₁.os ∧ AllBare s'.gens) s₁ := by
    intro H hT hA hS hok
    -- an object that is neither the script's list nor the table stands in the base
    have free : ∀ {b : Addr} {o : Obj}, s₁.heap.get? b = some o → (∀ vs n, o.data ≠ .seq vs n) → o.data ≠ .fields #[] → H b = none := by
      intro b o e h1 h2
      cases q : H b with
      | none => rfl
      | some u =>
        rcases hA b u q with hb | ⟨rfl, _⟩
        · rw [tab hb] at e
          cases e
          exact absurd rfl h2
        · rw [ha] at e
          cases e
          exact absurd rfl (h1 _ _)
    have toBase : ∀ {b : Addr} {o : Obj}, s₁.heap.get? b = some o → H b = none → (hidT s₁.heap H).get? b = some o := fun e n => hidT_get e n
    have nsB : ∀ {b : Addr} {m : Str → Option Value}, s₁.heap.Ns b m → (hidT s₁.heap H).Ns b m := by
      rintro b m ⟨o, es, ep, e, d, r⟩
      have n : H b = none := by
        refine free e ?_ ?_
        · intro vs n z
          rw [d] at z
          cases z
        · intro z
          rw [d] at z
          cases z
      exact ⟨o, es, ep, toBase e n, d, r⟩
    have kin : K.In (hidT s₁.heap H) := by
      intro b o e
      refine toBase (KX b o e) ?_
      cases q : H b with
      | none => rfl
      | some u =>
        rcases hA b u q with hb | ⟨rfl, z, _⟩
        · rw [noT hb] at e
          cases e
        · rw [z] at e
          cases e
    have lim2 : (hidT s₁.heap H).NoLimit := by
      obtain ⟨mc, h1, h2⟩ := hlim
      exact ⟨mc, nsB h1, h2⟩
    have TB : ∀ q ∈ cs, TabB (hidT s₁.heap H) mg q.1 q.2 := by
      rintro ⟨c, T⟩ hq
      have tab' : s₁.heap.get? T = some { cls := .none, data := .fields #[] } := tab ⟨_, hq, rfl⟩
      have cd : PySem.W.CodeHd s₁.heap c T := (tabs _ hq).2.2
      have gT : mainGlobals ≠ T := fun z => by
        obtain ⟨o, es, ep, e, d, _⟩ := hns
        rw [z, tab'] at e
        cases e
        cases d
      have cd2 : PySem.W.CodeHd (hidT s₁.heap H) c T := by
        obtain ⟨o, us, fl, tf, fg, tg, inF, tx, tt, e1, r1, r2, r3, r⟩ := cd
        refine ⟨o, us, fl, tf, fg, tg, inF, tx, tt, toBase e1 (free e1 ?_ ?_), r1, r2, r3, r⟩
        · intro vs n z
          rw [r2] at z
          cases z
        · intro z
          rw [r2] at z
          cases z
          simp at r3
      have bm2 : (hidT s₁.heap H).BuiltinsAt mg T := by
        obtain ⟨bm, ob, b1, b2, b3, b4, b5, b6⟩ := mod
        have n1 : bm ≠ mainGlobals := fun z => by
          obtain ⟨o, es, ep, e, d, _⟩ := hns
          rw [z, e] at b3
          cases b3
          rw [d] at b6
          cases b6
        have n2 : bm ≠ T := fun z => by
          rw [z, tab'] at b3
          cases b3
          cases b6
        refine ⟨bm, ob, b1, b2, n1, n2, toBase b3 (free b3 ?_ ?_), b4, b5, b6⟩
        · intro vs n z
          rw [b6] at z
          cases z
        · intro z
          rw [b6] at z
          cases z
      exact ⟨cd2, bm2, gT⟩
    have e0 : Env0 P w K mg (hidT s₁.heap H) callerA [] s₁ H := by
      refine ⟨rfl, ⟨kin, nsB hns, ⟨mb, nsB hb, hbb⟩, lim2⟩, fun b o e => of_hidT e, Nat.le_of_eq (hidT_size _ _), True.intro, ?_, hok, .of_eq hg⟩
      intro b hb
      cases hb
    refine codeAny_mono ((F _ kin (nsB hns) TB).runG callerA [] s₁ H ⟨[.ref a], []⟩ [.ref a] [.ref a] _ _ rfl hr e0 (hbind s₁ (.ref a)) (.cons rfl .nil) (hsp H hT hS)) fun r s' h => ?_
    match r, h with
    | .error e, h => exact (hCX H e s' h).elim
    | .ok .next, h => exact h.elim
    | .ok .brk, h => exact h.elim
    | .ok .cont, h => exact h.elim
    | .ok (.ret u), ⟨v, H', os, bare, un, hok', rv, q⟩ =>
      have q2 : v = .bl true := q
      subst q2
      cases rv
      have grown : ∀ {T : Addr}, (∃ q ∈ cs, q.2 = T) → ∃ more : Array Value, s'.heap.get? T = some { cls := .none, data := .fields (#[] ++ more) } := by
        rintro T ⟨q, hq, rfl⟩
        obtain ⟨more, hm⟩ := un.tbls q.2 #[] (hT q hq)
        exact ⟨more, hok' q.2 _ hm⟩
      have stay : ∀ b o, (¬ ∃ q ∈ cs, q.2 = b) → s₁.heap.get? b = some o → s'.heap.get? b = some o := by
        intro b o n e
        cases q : H b with
        | none => exact un.keep b o e q (fun z => nomatch z) (fun z => nomatch z)
        | some u =>
          rcases hA b u q with z | ⟨_, _, ob, xs, rfl⟩
          · exact absurd z n
          · have z1 := (hok b _ q).1
            have z2 := (hok' b _ (un.frzs b ob _ q)).1
            rw [z1] at e
            rw [z2, e]
      refine ⟨rfl, ⟨fun b o e => ?_, fun b o e => ?_⟩, os, bare⟩
      · by_cases n : ∃ q ∈ cs, q.2 = b
        · obtain ⟨more, hg⟩ := grown n
          have tb := tab n
          obtain ⟨q, hq, rfl⟩ := n
          rw [tb] at e
          cases e
          exact .inr (.inl ⟨((tabs q hq).2.2.tab tb).isCodeTable, rfl, #[], more, rfl, hg⟩)
        · exact .inl (stay b o n e)
      · by_cases n : ∃ q ∈ cs, q.2 = b
        · obtain ⟨more, hg⟩ := grown n
          exact ⟨_, hg⟩
        · exact ⟨o, stay b o n e⟩
  have rv := vals_ints hi
  have hlen : (ns.map V.int).length ≤ sizeLine := by rw [List.length_map]; exact hl
  cases hk : K.lookup a with
  | some o =>
    have e := KX a o hk
    rw [ha] at e
    cases e
    refine go (fun b => open Classical in if ∃ q ∈ cs, q.2 = b then some (.tbl #[]) else none) (fun q hq => if_pos ⟨q, hq, rfl⟩) (fun b u z => ?_) (Or.inr ⟨_, vs.toArray, _, hk, rfl, rfl, rfl, by rw [List.size_toArray, hi.length]; exact hl, by simpa using rv⟩) fun b u z => ?_
    · try dsimp only at z
      by_cases n : ∃ q ∈ cs, q.2 = b
      · exact Or.inl n
      · rw [if_neg n] at z
        cases z
    · try dsimp only at z
      by_cases n : ∃ q ∈ cs, q.2 = b
      · rw [if_pos n] at z
        cases z
        exact tab n
      · rw [if_neg n] at z
        cases z
  | none =>
    refine go (fun b => open Classical in if ∃ q ∈ cs, q.2 = b then some (.tbl #[]) else if b = a then some (.frz { cls := .type "list", data := .seq vs.toArray } (.lst (ns.map V.int))) else none) (fun q hq => if_pos ⟨q, hq, rfl⟩) (fun b u z => ?_) (Or.inl (Or.inr ⟨_, (if_neg aT).trans (if_pos rfl)⟩)) fun b u z => ?_
    · try dsimp only at z
      by_cases n : ∃ q ∈ cs, q.2 = b
      · exact Or.inl n
      · rw [if_neg n] at z
        by_cases n2 : b = a
        · rw [if_pos n2] at z
          cases z
          exact Or.inr ⟨n2, hk, _, _, rfl⟩
        · rw [if_neg n2] at z
          cases z
    · try dsimp only at z
      by_cases n : ∃ q ∈ cs, q.2 = b
      · rw [if_pos n] at z
        cases z
        exact tab n
      · rw [if_neg n] at z
        by_cases n2 : b = a
        · rw [if_pos n2] at z
          cases z
          rw [n2]
          exact ⟨ha, hlen, vs, _, rv, ha⟩
        · rw [if_neg n2] at z
          cases z
end So

namespace K15
open PySem PySem.Spec PyProof.Rows L2 So LamX StX TL
abbrev sText : Stmt := topS 53
abbrev sLIs : Stmt := topS 56
theorem scText : FnScope ["_law_row", "_law_truths", "_law_part"] ["_law_row"] (defScope sText) := ⟨rfl, rfl, rfl, by decide +kernel, rfl, by decide +kernel, by decide +kernel⟩
theorem scLIs : FnScope ["_law_word", "_law_letters", "_law_sign"] ["_law_word"] (defScope sLIs) := ⟨rfl, rfl, rfl, by decide +kernel, rfl, by decide +kernel, by decide +kernel⟩
section
variable {P : Program} {w : World} {K : PySem.W.Frag} {mg : Str → Option Value} {base : Heap}
/-! ### the text of a row, by the law -/
theorem mom_no84 {m : Int} (h : 0 ≤ m) : 84 ∉ (Str.ofString (toString m)).cps.toList ∧ 70 ∉ (Str.ofString (toString m)).cps.toList := by
  obtain ⟨k, rfl⟩ : ∃ k : Nat, m = k := ⟨m.toNat, by omega⟩
  have e : (Str.ofString (toString ((k : Nat) : Int))).cps.toList = numL k := tl_num k
  rw [e]
  exact ⟨fun h => by have := numL_digits k _ h; omega, fun h => by have := numL_digits k _ h; omega⟩
abbrev kvsT : List (Key × V) := [(.inr "True", .str "sound"), (.inr "False", .str "unsound")]
def strV : V → Str
  | .str z => z
  | .int i => (toString i : String)
  | .bl b => if b then "True" else "False"
  | _ => Str.empty
theorem not_true {z : Str} (h : ¬ z = "True") (h2 : ¬ z = "False") : valV (mergeK [] kvsT) (.inr z) = none := by
  rw [show mergeK [] kvsT = kvsT from rfl, valV_neg (fun e => h (Sum.inr.inj e).symm), valV_neg (fun e => h2 (Sum.inr.inj e).symm)]
  rfl
theorem truth_get {v : V} (h : Flat1 v) : (valV (mergeK [] kvsT) (.inr (strV v))).getD (.str (strV v)) = .str (wordV v) := by
  cases h with
  | @nam z hz =>
    have h1 : ¬ z = "True" := fun e => by rw [e] at hz; revert hz; decide +kernel
    have h2 : ¬ z = "False" := fun e => by rw [e] at hz; revert hz; decide +kernel
    show (valV (mergeK [] kvsT) (.inr z)).getD (.str z) = _
    rw [not_true h1 h2]
    rfl
  | @mom i hi =>
    have h84 := mom_no84 hi.1
    have h1 : ¬ (Str.ofString (toString i)) = "True" := fun e => h84.1 (by rw [e]; decide +kernel)
    have h2 : ¬ (Str.ofString (toString i)) = "False" := fun e => h84.2 (by rw [e]; decide +kernel)
    show (valV (mergeK [] kvsT) (.inr (Str.ofString (toString i)))).getD (.str (Str.ofString (toString i))) = _
    rw [not_true h1 h2]
    rfl
  | tru b => cases b <;> rfl
end
end K15

namespace K15
open PySem PySem.Spec PyProof.Rows L2 So LamX StX TL
abbrev lisN : List Str := ["_law_word", "_law_letters", "_law_sign"]
def offs (p : Nat → Bool) (l : List Nat) : List Str := (l.filter fun c => !p c).map fun c => ⟨#[c]⟩
theorem offs_nil {p : Nat → Bool} : ∀ l : List Nat, (offs p l).isEmpty = l.all p
  | [] => rfl
  | c :: r => by
    have ih := offs_nil (p := p) r
    cases e : p c with
    | true =>
      have : offs p (c :: r) = offs p r := by simp [offs, e]
      rw [this, ih, List.all_cons, e, Bool.true_and]
    | false =>
      have : offs p (c :: r) = ⟨#[c]⟩ :: offs p r := by simp [offs, e]
      rw [this, List.all_cons, e, Bool.false_and]
      rfl
theorem offs_snoc {p : Nat → Bool} {z : Str} {i c : Nat} (h : z.cps.toList[i]? = some c) : offs p (z.cps.toList.take (i + 1)) = offs p (z.cps.toList.take i) ++ (if p c = true then [] else [⟨#[c]⟩]) := by
  have et : z.cps.toList.take (i + 1) = z.cps.toList.take i ++ [c] := by rw [List.take_add_one, h]; rfl
  rw [et]
  unfold offs
  rw [List.filter_append, List.map_append]
  congr 1
  cases e : p c with
  | true => simp [e]
  | false => simp [e]
theorem offs_len {p : Nat → Bool} (l : List Nat) (i : Nat) : (offs p (l.take i)).length ≤ l.length := by
  unfold offs
  rw [List.length_map]
  refine Nat.le_trans (List.length_filter_le _ _) ?_
  rw [List.length_take]
  omega
section
variable {P : Program} {w : World} {K : PySem.W.Frag} {mg : Str → Option Value} {base : Heap}
def spLIs : Sp := fun vs H Q _ => ∃ z : Str, vs = [.str z] ∧ z.length ≤ 2000 ∧ ∀ H', Same H H' → Q (.bl (isName z)) H'
theorem ok_lis {f fW : Addr} {fd fdW : FuncData} (F : Fun K "_law_is_name" "_law_is_name" sLIs f fd) (ml : mg "len" = none) (FW : Fun K "_law_words" "_law_words" sWords fW fdW) (bW : Binds K fdW [] []) (gW : mg "_law_words" = some (.ref fW)) (GW : FnOk P w K mg base CX0 1 fW fdW [] spWords) :
    FnOk P w K mg base CX0 2 f fd ["_law_word"] spLIs := by
  refine F.ok scLIs (fun vs H Q E h => ?_) (fun cdv A outer s H vs Q E hr h => ?_)
  · obtain ⟨z, rfl, _⟩ := h
    rfl
  · obtain ⟨z, rfl, hz, q⟩ := h
    refine ⟨_, pss_cons (ps_set (i := 1) scLIs.nd rfl (.inr rfl) pe_str)
      (pss_cons (ps_if (PW.pt (pw_or (pt_not (pt_chain op_le op_le pe_int (pe_callB call_len_str (by rfl) ml PySem.boot_len (pa_cons (pv 0) pa_nil)) pe_int))
          (pw_or (pt_cmpR op_in_seq (pv 0) (pe_call0 GW hr (by rfl) gW FW.kp bW .nil pass0) (by rfl)) (pw_or1 (pt_cmpR op_notIn_sign (pe_ix ix_str (pv 0) pe_int (fun _ _ => rfl)) (pv 1) (by rfl)))))) (pss_one (ps_ret pe_bl)) pss_nil)
      (pss_one (ps_ret (pe_cmpR (op_eqNil (by have := hr.units0; exact this)) (pe_lc (own := [("_law_sign", 2)]) (g := gName 2) rfl scLIs.nd (pi_str (pv 0)) (blkOk_by (N := lisN) (sc := defScope sLIs) (by decide +kernel))
        (fun _ _ _ _ _ => pg_name (i := 2) scLIs.nd rfl (Or.inl rfl)) (fun _ _ _ _ _ => pts_one (pt_cmpR op_notIn_sign (pv 2) (pe_op op_add_str (pv 1) pe_str) (by rfl))) (fun _ _ _ _ _ => pv 2)) (pe_lst pa_nil) (nomark _))))), ?_⟩
    have hzl : z.length ≤ sizeLine := Nat.le_trans hz (by decide)
    have no : isName z = false → ∀ H', Same H H' → Q (.bl false) H' := fun e H' s => by
      have := q H' s
      rw [e] at this
      exact this
    refine ⟨_, rfl, _, rfl, hzl, _, _, rfl, rfl, _, rfl, ite2 (fun c1 => ?_) (fun c1 => ⟨_, rfl, iteT (no ?_ H (Same.refl H))⟩)⟩
    case refine_2 =>
      have c1' : ¬ (1 : Int) ≤ ((z.length : Nat) : Int) := fun e => c1 (decide_eq_true e)
      unfold isName
      rw [show decide (1 ≤ z.length) = false from decide_eq_false (by omega)]
      rfl
    have c1' : (1 : Int) ≤ ((z.length : Nat) : Int) := of_decide_eq_true c1
    refine ⟨_, _, rfl, rfl, _, rfl, ?_⟩
    by_cases c2 : ((z.length : Nat) : Int) ≤ 8
    case neg =>
      rw [decide_eq_false c2]
      refine iteT (no ?_ H (Same.refl H))
      unfold isName
      rw [show decide (z.length ≤ 8) = false from decide_eq_false (by omega), Bool.and_false]
      rfl
    rw [decide_eq_true c2]
    have hz0 : 0 < z.cps.toList.length := by
      have : z.length = z.cps.toList.length := Array.length_toList.symm
      omega
    obtain ⟨c0, cr, hc⟩ : ∃ c0 cr, z.cps.toList = c0 :: cr := by
      cases e : z.cps.toList with
      | nil => rw [e] at hz0; cases hz0
      | cons a r => exact ⟨a, r, rfl⟩
    have e1 : decide (1 ≤ z.length) = true := decide_eq_true (by omega)
    have e2 : decide (z.length ≤ 8) = true := decide_eq_true (by omega)
    have e3 : isName z = (!(noNames.contains z) && decide (c0 ∈ letters.cps.toList) && z.cps.toList.all isAln) := by
      unfold isName
      rw [e1, e2, hc]
      rfl
    have el : (("abcdefghijklmnopqrstuvwxyz" : Str)) = letters := rfl
    refine iteF ⟨_, rfl, rfl, fun H4 aW s4 hW hH4 => ?_⟩
    refine ⟨aW, _, rfl, .inl (SqL.of hH4), rfl, flat_strs _, ?_⟩
    rw [show (if false = true then !inV (V.str z) (noNames.map V.str) else inV (V.str z) (noNames.map V.str)) = noNames.contains z from inV_strs z noNames]
    refine ⟨_, rfl, ?_⟩
    cases c3 : noNames.contains z with
    | true =>
      refine iteT (no ?_ H4 s4)
      rw [e3, c3]
      rfl
    | false =>
      refine iteF ⟨_, rfl, _, _, c0, rfl, rfl, hzl, ?_, _, rfl, _, _, rfl, rfl, _, rfl, ?_⟩
      · rw [hc]
        exact atI_nat (j := 0) rfl
      by_cases c4 : c0 ∈ letters.cps.toList
      case neg =>
        rw [el, decide_eq_false c4]
        refine iteT (no ?_ H4 s4)
        rw [e3, decide_eq_false c4, Bool.and_false, Bool.false_and]
      rw [el, decide_eq_true c4]
      refine iteF ?_
      refine ⟨_, rfl, _, rfl, fun D hD => lc_it walk_str (fun i H' => H' D = some (.lst ((offs isAln (z.cps.toList.take i)).map V.str)) ∧ Same H4 H') ⟨?_, ?_⟩ (fun _ _ _ _ => trivial) ?_ ?_⟩
      · exact upd_same
      · exact same_upd0 hD
      · rintro i x H1 H2 hi ⟨h1, s1⟩ ⟨rfl, c, hc1, rfl⟩
        have hc2 : z.cps.toList[i]? = some c := by
          rw [Array.getElem?_toList]
          exact hc1
        refine ⟨rfl, _, rfl, _, rfl, _, _, rfl, rfl, by decide, c, _, rfl, rfl, _, rfl, ite2 (fun c5 => ?_) (fun c5 => ?_)⟩
        · have c5' : isAln c = false := by
            have h : (!isAln c) = true := c5
            simpa using h
          refine ⟨_, rfl, _, h1, ?_, ?_, Same.over s1 hD⟩
          · rw [List.length_map]
            refine Nat.lt_of_le_of_lt (offs_len _ _) ?_
            rw [Array.length_toList]
            exact Nat.lt_of_le_of_lt (show z.cps.size ≤ 2000 from hz) (by decide)
          · rw [upd_same, offs_snoc hc2, if_neg (by rw [c5']; exact Bool.false_ne_true), List.map_append]
            rfl
        · have c5' : isAln c = true := by
            have h : ¬ (!isAln c) = true := c5
            simpa using h
          refine ⟨?_, s1⟩
          rw [offs_snoc hc2, if_pos c5', List.append_nil]
          exact h1
      · rintro H1 ⟨h1, s1⟩
        rw [List.take_of_length_le (by rw [Array.length_toList]; exact Nat.le_refl _)] at h1
        refine ⟨Nat.zero_le _, fun p hp => ?_⟩
        have s2 := same_upd0 (o := .lst []) hp
        refine ⟨_, _, _, rfl, rfl, SqL.of (s2 _ _ h1), SqL.of upd_same, ?_⟩
        have q1 := q _ ((s4.trans s1).trans s2)
        rw [e3, c3, decide_eq_true c4] at q1
        show Q (.bl ((offs isAln z.cps.toList).map V.str).isEmpty) _
        rw [List.isEmpty_map, offs_nil]
        exact q1
def spText : Sp := fun vs H Q _ => ∃ (r : Addr) (kind : Str) (xs : List V), vs = [.ref r] ∧ H r = some (.tup (.str kind :: xs)) ∧ kind ∈ kinds ∧ FlatRow kind xs ∧ ∀ H', Same H H' → Q (.str (rowText kind xs)) H'
theorem kind_not : ∀ kind ∈ kinds, ¬ kind = ("True" : Str) ∧ ¬ kind = ("False" : Str) := by decide +kernel
theorem ok_text {f : Addr} {fd : FuncData} (F : Fun K "_law_text" "_law_text" sText f fd) (ms : mg "str" = none) : FnOk P w K mg base CX0 1 f fd ["_law_row"] spText := by
  refine F.ok scText (fun vs H Q E h => ?_) (fun cdv A outer s H vs Q E hr h => ?_)
  · obtain ⟨_, _, _, rfl, _⟩ := h
    rfl
  · obtain ⟨r, kind, xs, rfl, hx, hk, hf, q⟩ := h
    have strO : True := trivial
    refine ⟨_, pss_cons (ps_set (i := 1) scText.nd rfl (.inr rfl) (pe_disp (pps_cons pe_str pe_str (pps_cons pe_str pe_str pps_nil)) rfl rfl (by simp) (by decide)))
      (pss_one (ps_ret (pe_join pe_str (pe_lc (own := [("_law_part", 2)]) (g := gName 2) (tt := tYes) rfl scText.nd (pi_tup (pv 0)) (blkOk_by (N := ["_law_row", "_law_truths", "_law_part"]) (sc := defScope sText) (by decide +kernel))
          (fun _ _ _ _ _ => pg_name (i := 2) scText.nd rfl (Or.inl rfl)) (fun _ _ _ _ _ => pts_nil)
          (fun _ _ _ _ _ => pe_dget2 (hu_of hr) (pv 1) (pe_callTy (So.CallR.or SkE.call_str_str (So.CallR.or call_str_int call_str_bl)) (by rfl) ms (by decide +kernel) (pa_cons (pv 2) pa_nil)) (pe_callTy (So.CallR.or SkE.call_str_str (So.CallR.or call_str_int call_str_bl)) (by rfl) ms (by decide +kernel) (pa_cons (pv 2) pa_nil)) ⟨rfl, rfl, rfl, rfl⟩))))), ?_⟩
    have hfl := hf.flat
    have hl4 : xs.length ≤ 4 := by rw [hf.1]; exact forms_len kind hk
    have hsz := sizeLine_eq
    intro dt hdt
    refine ⟨upd_same, kvsT, rfl, by decide, ?_⟩
    rw [upd_upd]
    have s1 := same_upd0 (o := .dK (mergeK [] kvsT)) hdt
    have hd1 : (upd H dt (.dK (mergeK [] kvsT))) dt = some (.dK (mergeK [] kvsT)) := upd_same
    have hx1 := s1 _ _ hx
    revert s1 hd1 hx1
    generalize upd H dt (.dK (mergeK [] kvsT)) = H1
    intro s1 hd1 hx1
    have each : ∀ v ∈ V.str kind :: xs, (∃ z, v = .str z ∧ (valV (mergeK [] kvsT) (.inr z)).getD (.str z) = .str (wordV v)) ∨ Flat1 v := by
      intro v hv
      rcases List.mem_cons.mp hv with e | e
      · refine .inl ⟨kind, e, ?_⟩
        rw [not_true (kind_not kind hk).1 (kind_not kind hk).2, e]
        rfl
      · exact .inr (hfl v e)
    refine ⟨⟨_, rfl⟩, _, rfl, r, rfl, ⟨_, SqT.of hx1⟩, fun D hD => ?_⟩
    refine lc_it walk_tup (fun k H' => Same H1 H' ∧ H' D = some (.lst (((V.str kind :: xs).take k).map fun v => .str (wordV v)))) ⟨Same.over (Same.refl H1) hD, upd_same⟩ (fun _ _ _ y => SqT.of (y.1 _ _ hx1)) ?_ ?_
    · rintro k x H2 H3 hk2 ⟨s2, hDk⟩ ⟨rfl, hxk⟩
      have et : (V.str kind :: xs).take (k + 1) = (V.str kind :: xs).take k ++ [x] := by rw [List.take_add_one, hxk]; rfl
      have hlt : (((V.str kind :: xs).take k).map fun v => V.str (wordV v)).length < sizeLine := by
        rw [List.length_map]
        have h2 : ((V.str kind :: xs).take k).length ≤ (V.str kind :: xs).length := List.length_take_le' _ _
        rw [List.length_cons] at h2
        omega
      have hd3 := s2 _ _ hd1
      have fin : ∀ z : Str, (valV (mergeK [] kvsT) (.inr z)).getD (.str z) = .str (wordV x) → ∃ o, DGet H3 dt (.str z) o ∧ ∃ acc, H3 D = some (.lst acc) ∧ acc.length < sizeLine ∧ Same H1 (upd H3 D (.lst (acc ++ [o.getD (.str z)]))) ∧ (upd H3 D (.lst (acc ++ [o.getD (.str z)]))) D = some (.lst (((V.str kind :: xs).take (k + 1)).map fun v => .str (wordV v))) := fun z e => by
        refine ⟨_, .inl ⟨_, .inr z, .inl hd3, rfl, rfl⟩, _, hDk, hlt, Same.over s2 hD, ?_⟩
        rw [e, et, List.map_append]
        exact upd_same
      rcases each x (List.mem_of_getElem? hxk) with ⟨z, rfl, e⟩ | hv
      · exact ⟨rfl, _, rfl, dt, rfl, .inl ⟨_, .inl hd3⟩, _, rfl, .inl ⟨_, rfl, _, rfl, .inl ⟨_, rfl, fin z e⟩⟩⟩
      · have te := truth_get hv
        cases hv with
        | @nam z hz => exact ⟨rfl, _, rfl, dt, rfl, .inl ⟨_, .inl hd3⟩, _, rfl, .inl ⟨_, rfl, _, rfl, .inl ⟨_, rfl, fin z te⟩⟩⟩
        | @mom i hi => exact ⟨rfl, _, rfl, dt, rfl, .inl ⟨_, .inl hd3⟩, _, rfl, .inr (.inl ⟨_, rfl, mom_log hi, _, rfl, .inr (.inl ⟨_, rfl, mom_log hi, fin _ te⟩)⟩)⟩
        | @tru b => exact ⟨rfl, _, rfl, dt, rfl, .inl ⟨_, .inl hd3⟩, _, rfl, .inr (.inr ⟨_, rfl, _, rfl, .inr (.inr ⟨_, rfl, fin _ te⟩)⟩)⟩
    · rintro H2 ⟨s2, hDk⟩
      rw [List.take_length] at hDk
      refine ⟨_, D, (V.str kind :: xs).map wordV, rfl, rfl, .inl (SqL.of ?_), ?_, q H2 (s1.trans s2)⟩
      · rw [hDk, List.map_map]
        rfl
      · have := words_sum hfl
        have hk8 := kind_len kind hk
        have e3 : ((" " : Str)).length = 1 := by decide
        rw [List.map_cons, List.map_cons, List.sum_cons, List.length_cons, List.length_map, e3]
        show kind.length + _ + _ ≤ _
        omega
end
end K15

namespace K15
open PySem PySem.Spec PyProof.Rows L2 So LamX StX TL
/-! ### the text of a row shows -/
def asc (z : Str) : Prop := ∀ c ∈ z.cps.toList, c < 128
theorem of_joinL {S : List Nat} {c : Nat} : ∀ {ps : List (List Nat)}, c ∈ joinL S ps → c ∈ S ∨ ∃ p ∈ ps, c ∈ p
  | [], h => nomatch h
  | [p], h => .inr ⟨p, List.mem_singleton.mpr rfl, h⟩
  | p :: q :: r, h => by
    have h : c ∈ p ++ (S ++ joinL S (q :: r)) := h
    rcases List.mem_append.mp h with e | e
    · exact .inr ⟨p, List.mem_cons_self, e⟩
    · rcases List.mem_append.mp e with e | e
      · exact .inl e
      · rcases of_joinL e with e | ⟨w, hw, e⟩
        · exact .inl e
        · exact .inr ⟨w, List.mem_cons_of_mem _ hw, e⟩
theorem join_asc {ws : List Str} (h : ∀ w ∈ ws, asc w) : asc (Txt.join " " ws) := by
  intro c hc
  have hc : c ∈ tl (Txt.join " " ws) := hc
  rw [join_eq, tl_join] at hc
  rcases of_joinL hc with e | ⟨p, hp, e⟩
  · have : tl (" " : Str) = [32] := by decide +kernel
    rw [this] at e
    rw [List.mem_singleton.mp e]
    decide
  · obtain ⟨w, hw, rfl⟩ := List.mem_map.mp hp
    exact h w hw c e
theorem join_len (ws : List Str) : (Txt.join " " ws).length ≤ (ws.map (·.length)).sum + ws.length := by
  rw [join_eq]
  cases ws with
  | nil => decide
  | cons a l =>
    rw [len_join_cons, show (" " : Str).length = 1 by decide, List.length_cons]
    omega
theorem word_asc {v : V} (h : Flat1 v) : asc (wordV v) := by
  cases h with
  | nam h => exact name_small h
  | @mom i h =>
    intro c hc
    obtain ⟨k, rfl⟩ : ∃ k : Nat, i = k := ⟨i.toNat, by omega⟩
    have e : (Str.ofString (toString ((k : Nat) : Int))).cps.toList = numL k := tl_num k
    have hc : c ∈ (Str.ofString (toString ((k : Nat) : Int))).cps.toList := hc
    rw [e] at hc
    have := numL_digits k _ hc
    omega
  | tru b =>
    have : ∀ c ∈ (if b then ("sound" : Str) else "unsound").cps.toList, c < 128 := by cases b <;> decide +kernel
    exact this
theorem kind_asc : ∀ kind ∈ kinds, ∀ c ∈ kind.cps.toList, c < 128 := by decide +kernel
theorem text_ok {kind : Str} {xs : List V} (hk : kind ∈ kinds) (h : FlatRow kind xs) : OkD 9000 12 (.str (rowText kind xs)) := by
  have ha : asc (rowText kind xs) := join_asc fun w hw => by
    rcases List.mem_cons.mp hw with e | e
    · rw [e]; exact kind_asc kind hk
    · obtain ⟨v, hv, rfl⟩ := List.mem_map.mp e
      exact word_asc (h.flat v hv)
  have hl4 : xs.length ≤ 4 := by rw [h.1]; exact forms_len kind hk
  have h1 := words_sum h.flat
  have h2 := kind_len kind hk
  have h3 := join_len (kind :: xs.map wordV)
  rw [List.map_cons, List.sum_cons, List.length_cons, List.length_map] at h3
  have h4 : (rowText kind xs).length ≤ 820 := by
    show (Txt.join " " (kind :: xs.map wordV)).length ≤ 820
    omega
  have h5 := PySem.StrLaws.reprText_len (rowText kind xs) (fun c hc => Nat.lt_trans (ha c hc) (by decide))
  exact ⟨rfl, Nat.zero_le _, by show (reprText _).length ≤ 9000; omega⟩
theorem word_ok {z : Str} (h : (decide ((reprText z).length ≤ 100)) = true) : OkD 9000 12 (.str z) := ⟨rfl, Nat.zero_le _, Nat.le_trans (of_decide_eq_true h) (by decide)⟩
theorem pair_ok {a b : PyData} (h1 : OkD 9000 12 a) (h2 : OkD 9000 12 b) : (PyData.tuple [a, b]).showable = true ∧ (PyData.tuple [a, b]).depth ≤ 60 ∧ (PyData.tuple [a, b]).shown.length ≤ sizeLine :=
  (OkD.tuple (n := 9000) (m := 12) (ds := [a, b]) fun d hd => by
    simp only [List.mem_cons, List.not_mem_nil, or_false] at hd
    rcases hd with h | h <;> subst h
    · exact h1
    · exact h2).repr (by decide) (by show 9000 * 2 + 2 * 2 + 3 ≤ 16777216; decide)
end K15

namespace So
open PySem PySem.Spec PyProof.Rows L2 PySem.HandSPX
section
variable {M : Model} {A : Around} {E : Value → Shared → Prop} {h : Heap} {g : Array GenState} {d : Drawn} {t : Nat} {os : OsState}
variable {nm q : Str} {C N : Addr} {bs bm bmB : List Value} {hdct : Bool} {sn : List Str} {sub : List Value} {ab : Bool} {col : Option Bool} {dd : Option Addr} {k0 k1 k2 k3 k5 : Option Value} {B newId initId : String}
theorem kw_check (F : ExcBaseFacts B newId initId bmB) (hT : ∀ X : String, bm.contains (.type X) = bmB.contains (.type X)) {kws : List (Str × Value)} {Q : Unit → Shared → Prop}
    (hC : h.get? C = some (excClassObj nm q C N bs bm hdct sn sub ab col dd k0 k1 k2 k3 k5 newId)) (hq : Q () ⟨h, g, d, t, os⟩) :
    wpAny M A (checkBuiltinCall newId ⟨[.ref C], kws⟩) Q E ⟨h, g, d, t, os⟩ := by
  have inB : (Value.ref C :: bm).contains (.type B) = true := by
    rw [List.contains_cons, hT, F.hasB, Bool.or_true]
  have stars := F.noStar
  simp only [checkBuiltinCall, F.newKind, F.newSplit, F.newRow]
  repeat (first
    | refine wpAny_loadPart_at hC ?_
    | (refine wpAny_isSubtype_exc hC ?_
       rw [inB])
    | refine wpAny_staticBase_exc hC ?_
    | refine wpAny_madeBy_exc hC ?_
    | simp only [bne_self_eq_false, Bool.false_eq_true, if_false]
    | wp_step)
  exact hq
end
section
variable {prog : Program} {w : World} {A : Around} {E : Value → Shared → Prop} {R : Result → Shared → Prop} {h : Heap} {g : Array GenState} {d : Drawn} {t : Nat} {os : OsState}
variable {nm q : Str} {C N : Addr} {bs bm bmB : List Value} {hdct : Bool} {sn : List Str} {sub : List Value} {ab : Bool} {col : Option Bool} {dd : Option Addr} {k0 k1 k2 k3 k5 : Option Value} {B newId initId : String}
theorem kw_new (F : ExcBaseFacts B newId initId bmB) (hT : ∀ X : String, bm.contains (.type X) = bmB.contains (.type X)) {kws : List (Str × Value)}
    (hC : h.get? C = some (excClassObj nm q C N bs bm hdct sn sub ab col dd k0 k1 k2 k3 k5 newId))
    (hq : R (.ok (.ret (.ref (h.objs.size + 1)))) ⟨(h.push (PySem.W.kdv_tup [])).push (excO C h.objs.size), g, d, t, os⟩) :
    codeAny (model prog w) A (.builtin newId ⟨[.ref C], kws⟩) R ⟨h, g, d, t, os⟩ := by
  have ends := F.ends
  have inB : (Value.ref C :: bm).contains (.type B) = true := by
    rw [List.contains_cons, hT, F.hasB, Bool.or_true]
  have noA : (Value.ref C :: bm).contains (.type "AttributeError") = false := by
    rw [List.contains_cons, hT, F.noAttr]
    rfl
  have noN : (Value.ref C :: bm).contains (.type "NameError") = false := by
    rw [List.contains_cons, hT, F.noName]
    rfl
  refine codeAny_builtinAt F.entry ?_
  unfold Builtin.«BaseException.__new__»
  refine PySem.wpAt_bind ?_
  show PySem.wpAt _ _ _ (stack >>= _) _ _ _
  refine PySem.wpAt_bind (PySem.wpAt_stack fun p below => ?_)
  refine PySem.wpAt_of_wpAny ?_
  wp_walk
  refine PySem.wpAt_of_wpAny ?_
  rw [F.owner]
  repeat (first
    | with_reducible refine wpAny_madeHere_exc F.canon hC ?_
    | with_reducible refine wpAny_loadPart_at hC ?_
    | (with_reducible refine wpAny_isSubtype_exc hC ?_
       first
         | rw [inB]
         | rw [noA]
         | rw [noN])
    | wp_step)
  show R _ _
  rw [Heap.size_push]
  exact hq
theorem kw_type (F : ExcBaseFacts B newId initId bmB) (hT : ∀ X : String, bm.contains (.type X) = bmB.contains (.type X)) {kws : List (Str × Value)} {fI : Addr} {Q : Fin → Shared → Prop}
    (hC : h.get? C = some (excClassObj nm q C N bs bm hdct sn sub ab col dd k0 k1 k2 k3 k5 newId))
    (hi : PySem.W.Looks (model prog w) h (typeLookup (.ref C) "__init__") (some (.ref fI))) (hb : ∀ self, PySem.W.Looks (model prog w) h (bindSpecial (.ref fI) self) (.ref fI, [self]))
    (hq : codeAny (model prog w) A (.call (.ref fI) ⟨[.ref (h.objs.size + 1)], kws⟩)
      (fun r s' => match r with | .ok (.ret v) => v = .none ∧ Q (.done (.ret (.ref (h.objs.size + 1)))) s' | .ok _ => False | .error e => E e s')
      ⟨(h.push (PySem.W.kdv_tup [])).push (excO C h.objs.size), g, d, t, os⟩) :
    wpAny (model prog w) A (Builtin.«type.__call__» ⟨[.ref C], kws⟩) Q E ⟨h, g, d, t, os⟩ := by
  repeat (first
    | with_reducible refine wpAny_loadPart_at hC ?_
    | with_reducible refine wpAny_madeBy_exc hC ?_
    | wp_step)
  refine codeAny_call_builtin_code (Code.quiet_builtin _ F.quiet) ?_
  refine kw_check F hT hC ?_
  refine kw_new F hT hC ?_
  show wpAny _ _ _ _ _ _
  have keep : ∀ b o, h.get? b = some o → ((h.push (PySem.W.kdv_tup [])).push (excO C h.objs.size)).get? b = some o := by
    intro b o e
    exact Heap.get?_push_of_some _ (Heap.get?_push_of_some _ e)
  have hC' := keep _ _ hC
  have here : ((h.push (PySem.W.kdv_tup [])).push (excO C h.objs.size)).get? (h.objs.size + 1) = some (excO C h.objs.size) := by
    heap_get
  have self : (Value.ref C :: bm).contains (.ref C) = true := by simp
  have look := hi.keeps keep
  have bind := (hb (.ref (h.objs.size + 1))).keeps keep
  unfold isInstance
  repeat (first
    | with_reducible refine wpAny_loadPart_at here ?_
    | (with_reducible refine wpAny_isSubtype_exc hC' ?_
       rw [self])
    | wp_step)
  show wpAny _ _ (typeLookup (.ref C) _) _ _ _
  refine look.at ?_
  refine wpAny_holding (wpAny_bind (bind.at ?_))
  refine wpAny_bind (wpAny_call (codeAny_mono hq fun r s' z => ?_))
  match r, z with
  | .error e, z => exact z
  | .ok .next, z => exact z.elim
  | .ok .brk, z => exact z.elim
  | .ok .cont, z => exact z.elim
  | .ok (.ret v), z =>
    obtain ⟨e, z⟩ := z
    subst e
    first
      | exact wpAny_pure (wpAny_pure z)
      | (wp_walk
         exact z)
theorem kw_checkT {kws : List (Str × Value)} {Q : Unit → Shared → Prop} (hC : h.get? C = some (excClassObj nm q C N bs bm hdct sn sub ab col dd k0 k1 k2 k3 k5 newId)) (hq : Q () ⟨h, g, d, t, os⟩) :
    wpAny (model prog w) A (checkBuiltinCall "type.__call__" ⟨[.ref C], kws⟩) Q (fun e s' => E e s') ⟨h, g, d, t, os⟩ := by
  have f3 := tc_sub
  have ty : (⟨h, g, d, t, os⟩ : Shared).TypeIs (.ref C) "type" := ⟨_, hC, rfl⟩
  simp only [checkBuiltinCall, tc_kind, tc_split]
  repeat (any_goals (first
    | assumption
    | with_reducible refine wpAny_loadPart_at hC ?_
    | with_reducible refine wpAny_onRaise ?_
    | with_reducible refine wpAny_map ?_
    | wp_step))
theorem kw_call (F : ExcBaseFacts B newId initId bmB) (hT : ∀ X : String, bm.contains (.type X) = bmB.contains (.type X)) {kws : List (Str × Value)} {fI : Addr}
    (hC : h.get? C = some (excClassObj nm q C N bs bm hdct sn sub ab col dd k0 k1 k2 k3 k5 newId))
    (hi : PySem.W.Looks (model prog w) h (typeLookup (.ref C) "__init__") (some (.ref fI))) (hb : ∀ self, PySem.W.Looks (model prog w) h (bindSpecial (.ref fI) self) (.ref fI, [self]))
    (hq : codeAny (model prog w) (A.under (.builtin "type.__call__" ⟨[.ref C], kws⟩)) (.call (.ref fI) ⟨[.ref (h.objs.size + 1)], kws⟩) (PySem.W.InitBack (h.objs.size + 1) R)
      ⟨(h.push (PySem.W.kdv_tup [])).push (excO C h.objs.size), g, d, t, os⟩) :
    codeAny (model prog w) A (.call (.ref C) ⟨[], kws⟩) R ⟨h, g, d, t, os⟩ := by
  have lk := tc_lookup
  have bd := tc_bind (.ref C)
  have ty : (⟨h, g, d, t, os⟩ : Shared).TypeIs (.ref C) "type" := ⟨_, hC, rfl⟩
  refine codeAny_of_tree ?_
  show wpAny _ _ (callAny (.ref C) _) _ _ _
  repeat (any_goals (first
    | assumption
    | with_reducible refine wpAny_loadPart_at hC ?_
    | wp_step))
  refine ⟨rfl, ?_⟩
  refine codeAny_call_builtin_at (Code.quiet_builtin _ (by decide +kernel)) entry_typeCall ?_
  refine kw_checkT hC ?_
  refine kw_type F hT hC hi hb ?_
  refine codeAny_mono hq fun r s' z => ?_
  match r, z with
  | .error e, z => exact z
  | .ok (.ret v), z => exact z
  | .ok .next, z => exact z
  | .ok .brk, z => exact z
  | .ok .cont, z => exact z
end
end So

namespace So
open PySem PySem.Spec PyProof.Rows L2
/-- C(k = v, ..), C's own __init__ keeping sp -/
def tMkK (C : Addr) (n : Nat) (sp : Sp) (gV : List V → List V → List V) (tk : TA) : L2.St → Hp → XK → Prop := fun σ H Q => tk σ H fun zs H1 => zs.length = n ∧ ∀ a, H1 a = none → sp (gV [.ref a] zs) (upd H1 a (exo a C none))
  (fun v H2 => v = .non ∧ ∃ (d : Addr) (fs : List (Str × V)), H2 a = some (exo a C (some d)) ∧ H2 d = some (exd d fs) ∧ H1 d = none ∧ Q (.ref C) (some d) (upd (del H2 a) d (.xd fs))) (fun _ _ _ => False)
section
variable {X : Cx} {CX : CXT} {x : Str} {C fI : Addr} {k : Nat} {fd : FuncData} {ps ks : List Str} {sp : Sp} {g : List Value → List Value → List Value} {gV : List V → List V → List V} {kws : List Keyword} {tk : TA} {p pos : Pos}
theorem pmk_oexK (T : OexC X.K C) (iC : PySem.W.findIn X.K (.ref C) "__init__" = some (some (.ref fI))) (tI : PySem.W.typeIn X.K (.ref fI) = some (.type "function")) (F1 : FnOk X.prog X.w X.K X.mg X.base CX k fI fd ps sp) (hr : Room (k + 1) X.A) (hb : KBn X.K fd ps 1 ks g gV)
    (hx : Passes CX X (fun _ _ _ => False)) (hg : Gl X x) (hm : X.mg x = some (.ref C)) (hkw : PK X kws tk)
    (hall : (backToKw pos (keywordEach kws X.env)).all (·.1.isSome) = true := by rfl) (hks : (backToKw pos (keywordEach kws X.env)).filterMap (·.1) = ks := by rfl) (hdb : (x == ("__debug__" : Str)) = false := by decide)
    (hpl : ((backTo pos (starEach [] X.env)).any (·.1) || (backToKw pos (keywordEach kws X.env)).any (·.1.isNone)) = false := by rfl) :
    PMk X (.Call (.Name x p) [] kws pos) (tMkK C ks.length sp gV tk) := by
  intro pins s σ H Q I h
  obtain ⟨nm, q, N, bs, bm, sn, sub, ab, col, dd, k0, k1, k2, k3, k5, hC, hbm⟩ := T.cls
  refine wpAny_Call_Name_kw (ld_glob I hg hm ?_ hdb)
  refine PySem.W.callWith_KW0 (h₀ := X.base) I.ok.mod.kin T.kC hall ?_ hpl
  refine thn (hkw.run pos pins s σ H _ I h) fun ws s1 z => ?_
  obtain ⟨zs, H1, I1, rz, hz, q1⟩ := z
  refine ⟨I1.kIn, ?_⟩
  rw [hks]
  show wpAny _ _ (call (.ref C) [] (ks.zip ws)) _ _ _
  obtain ⟨hp, g', dr, tk', os⟩ := s1
  have big : hp.objs.size ≤ hp.objs.size + 1 := Nat.le_succ _
  have fresh : H1 (hp.objs.size + 1) = none := I1.hok.fresh big
  have hq := q1 _ fresh
  have keep : ∀ b o, hp.get? b = some o → ((hp.push (PySem.W.kdv_tup [])).push (PySem.HandSPX.excO C hp.objs.size)).get? b = some o := by
    intro b o e
    exact Heap.get?_push_of_some _ (Heap.get?_push_of_some _ e)
  have here : ((hp.push (PySem.W.kdv_tup [])).push (PySem.HandSPX.excO C hp.objs.size)).get? (hp.objs.size + 1) = some (PySem.HandSPX.excO C hp.objs.size) := by
    heap_get
  have I2 : Inv X pins σ (upd H1 (hp.objs.size + 1) (exo (hp.objs.size + 1) C none)) ⟨(hp.push (PySem.W.kdv_tup [])).push (PySem.HandSPX.excO C hp.objs.size), g', dr, tk', os⟩ :=
    I1.laid (t' := tk') (o := exo (hp.objs.size + 1) C none) keep big (exo_ok here)
  have r1 : Vals [V.ref (hp.objs.size + 1)] [Value.ref (hp.objs.size + 1)] := .cons rfl .nil
  refine wpAny_call (kw_call F.excBase_ValueError (fun Y => PySem.HandSPX.refsVE_contains Y bm hbm) (I1.kIn _ _ hC) (PySem.W.looks_findIn I1.kIn iC) (fun self => PySem.W.bind_fn I1.kIn self tI)
    (codeAny_mono (F1.run _ X.stack _ _ ⟨[.ref (hp.objs.size + 1)], ks.zip ws⟩ (g [.ref (hp.objs.size + 1)] ws) _ _ (fun _ _ _ => False) (hr.make C [] (ks.zip ws)) (I2.env0.make C [] (ks.zip ws))
      (hb.to _ [.ref (hp.objs.size + 1)] ws I2.kIn rfl (rz.length.symm.trans hz)) (hb.rel r1 rz) hq) fun r s' hq' => ?_))
  match r, hq' with
  | .error er, hq' => exact hx pins σ _ _ er s' I2 hq'
  | .ok .next, hq' => exact hq'.elim
  | .ok .brk, hq' => exact hq'.elim
  | .ok .cont, hq' => exact hq'.elim
  | .ok (.ret u), hq' =>
    obtain ⟨v, H2, os2, bare2, un2, hok2, rv, ev, d, fs, ea, ed, hd1, q2⟩ := hq'
    subst ev
    obtain ⟨h2, g2, d2, t2, os'⟩ := s'
    exact ⟨rv, mk_end (raises_own T.exC T.tyC) I1 big keep un2 hok2 os2 bare2 ea ed hd1 q2⟩
/-- an exception that is made and kept, not raised -/
theorem pe_ofMk {e : Expr} {t : L2.St → Hp → XK → Prop} (hex : X.ex = []) (h : PMk X e t) : PE X e (fun σ H Q => t σ H fun cls d H' => ∀ a, H' a = none → Q (.ref a) (upd H' a (Xo cls d a))) := by
  refine ⟨fun pins s σ H Q I w => ?_⟩
  refine thn (h pins s σ H _ I w) fun u s' z => ?_
  obtain ⟨a, oe, fv, sI, H', cls, d, rfl, J, k, na, he, hz, hd, h1, nH, ho, hb, _, q⟩ := z
  have K := J.kept (t' := s'.toks) (h' := s'.heap) k
  have I' : Inv X pins σ H' s' := ⟨K.ok, ho.trans J.os, hb, K.base, K.loc, K.cell, K.free, K.freeC, K.pin, K.hok, K.len⟩
  have nL : a ≠ X.env.locals := fun z => by
    obtain ⟨m, hn, _⟩ := J.loc
    obtain ⟨o, es, ep, e, _⟩ := hn
    rw [← z, na] at e
    cases e
  exact ⟨.ref a, _, track J hex na I' he hz hd nH nL, rfl, q a nH⟩
end
end So

namespace So
open PySem PySem.Spec PyProof.Rows L2
theorem overS {H H1 : Hp} {D : Addr} {o : HO} (s : Same H H1) (h : H1 D = none) : Same H (upd H1 D o) := fun b u e => (upd_ne (ne_of_none (s b u e) h)).trans (s b u e)
/-! ### errors with two fields -/
def spTwoE (C : Addr) (n1 n2 : Str) : Sp := fun vs H Q _ => ∃ (a : Addr) (v1 v2 : V), vs = [.ref a, v1, v2] ∧ H a = some (exo a C none) ∧ ∀ dx, H dx = none → dx ≠ a → Q .non (upd (upd (upd H dx (exd dx [(n1, v1)])) a (exo a C (some dx))) dx (exd dx [(n2, v2), (n1, v1)]))
section
variable {P : Program} {w : World} {K : PySem.W.Frag} {mg : Str → Option Value} {base : Heap}
theorem ok_one {n qual : Str} {st : Stmt} {C f : Addr} {fd : FuncData} (F : Fun K "__init__" qual st f fd) (T : OexC K C) (no : PySem.W.findIn K (.ref C) n = some none) (S : FnScope ["self", n] ["self", n] (defScope st))
    (hb : ∃ p1 p2 p3 p4, defBody st = [.Assign [.Attribute (.Name "self" p1) n p2] (.Name n p3) p4]) (h1 : (n == ("__debug__" : Str)) = false) (h2 : (n == ("__classdict__" : Str)) = false) :
    FnOk P w K mg base CX0 1 f fd ["self", n] (spOneE C n) := by
  obtain ⟨p1, p2, p3, p4, hb⟩ := hb
  refine F.ok S (fun vs H Q E h => ?_) (fun cdv A outer s H vs Q E hr h => ?_)
  · obtain ⟨a, v, rfl, _⟩ := h
    rfl
  · obtain ⟨a, v, rfl, ha, q⟩ := h
    rw [hb]
    have vs0 : Vis (defScope st) "self" := vis_par S (by simp)
    have vs1 : Vis (defScope st) n := vis_par S (by simp)
    exact ⟨_, pss_one (ps_ost (pe_var (i := 0) rfl vs0) (pe_var (i := 1) rfl vs1 h1 h2)), _, rfl, _, rfl, a, C, rfl, T, no, .inl ⟨ha, fun dx h n => q dx h n⟩⟩
theorem ok_two {n1 n2 qual : Str} {st : Stmt} {C f : Addr} {fd : FuncData} (F : Fun K "__init__" qual st f fd) (T : OexC K C) (no1 : PySem.W.findIn K (.ref C) n1 = some none) (no2 : PySem.W.findIn K (.ref C) n2 = some none) (S : FnScope ["self", n1, n2] ["self", n1, n2] (defScope st))
    (hb : ∃ p1 p2 p3 p4 q1 q2 q3 q4, defBody st = [.Assign [.Attribute (.Name "self" p1) n1 p2] (.Name n1 p3) p4, .Assign [.Attribute (.Name "self" q1) n2 q2] (.Name n2 q3) q4]) (h1 : (n1 == ("__debug__" : Str)) = false) (h2 : (n1 == ("__classdict__" : Str)) = false)
    (h3 : (n2 == ("__debug__" : Str)) = false) (h4 : (n2 == ("__classdict__" : Str)) = false) : FnOk P w K mg base CX0 1 f fd ["self", n1, n2] (spTwoE C n1 n2) := by
  obtain ⟨p1, p2, p3, p4, q1, q2, q3, q4, hb⟩ := hb
  refine F.ok S (fun vs H Q E h => ?_) (fun cdv A outer s H vs Q E hr h => ?_)
  · obtain ⟨a, v1, v2, rfl, _⟩ := h
    rfl
  · obtain ⟨a, v1, v2, rfl, ha, q⟩ := h
    rw [hb]
    have vs0 : Vis (defScope st) "self" := vis_par S (by simp)
    have vs1 : Vis (defScope st) n1 := vis_par S (by simp)
    have vs2 : Vis (defScope st) n2 := vis_par S (by simp)
    refine ⟨_, pss_cons (ps_ost (pe_var (i := 0) rfl vs0) (pe_var (i := 1) rfl vs1 h1 h2)) (pss_one (ps_ost (pe_var (i := 0) rfl vs0) (pe_var (i := 2) rfl vs2 h3 h4))), ?_⟩
    refine ⟨_, rfl, _, rfl, a, C, rfl, T, no1, .inl ⟨ha, fun dx hd ne => ?_⟩⟩
    refine ⟨_, rfl, _, rfl, a, C, rfl, T, no2, .inr ⟨dx, [(n1, v1)], upd_same, ?_, by show 1 ≤ 900; decide, q dx hd ne⟩⟩
    rw [upd_ne ne, upd_same]
end
/-- behind C(v1, v2) -/
theorem mkTwo {C : Addr} {n1 n2 : Str} {v1 v2 : V} {H1 : Hp} {Q : XK} (h : ∀ d H', Same H1 H' → H1 d = none → H' d = some (.xd [(n2, v2), (n1, v1)]) → Q (.ref C) (some d) H') :
    ∀ a, H1 a = none → spTwoE C n1 n2 [.ref a, v1, v2] (upd H1 a (exo a C none))
      (fun v H2 => v = .non ∧ ∃ (d : Addr) (fs : List (Str × V)), H2 a = some (exo a C (some d)) ∧ H2 d = some (exd d fs) ∧ H1 d = none ∧ Q (.ref C) (some d) (upd (del H2 a) d (.xd fs))) (fun _ _ _ => False) := by
  refine fun a ha => ⟨a, v1, v2, rfl, upd_same, fun dx hdx ne => ?_⟩
  have hd : H1 dx = none := by
    rw [upd_ne ne] at hdx
    exact hdx
  refine ⟨rfl, dx, [(n2, v2), (n1, v1)], ?_, upd_same, hd, h dx _ (fun b o hb => ?_) hd upd_same⟩
  · rw [upd_ne ne.symm, upd_same]
  · have hba : b ≠ a := ne_of_none hb ha
    have hbd : b ≠ dx := ne_of_none hb hd
    rw [upd_ne hbd, del_ne hba, upd_ne hbd, upd_ne hba, upd_ne hbd, upd_ne hba]
    exact hb
/-- a kept error with its fields -/
def ErAt (H : Hp) (a C : Addr) (fs : List (Str × V)) : Prop := ∃ d, H a = some (Xo (.ref C) (some d) a) ∧ H d = some (.xd fs)
theorem ErAt.same {H H' : Hp} {a C : Addr} {fs : List (Str × V)} (h : ErAt H a C fs) (s : Same H H') : ErAt H' a C fs := h.elim fun d e => ⟨d, s _ _ e.1, s _ _ e.2⟩
/-- what is wished behind an error that is made and kept -/
theorem keepOne {C : Addr} {fs : List (Str × V)} {H1 : Hp} {Q : VK} (h : ∀ a H', Same H1 H' → ErAt H' a C fs → Q (.ref a) H') :
    ∀ d H', Same H1 H' → H1 d = none → H' d = some (.xd fs) → ∀ a, H' a = none → Q (.ref a) (upd H' a (Xo (.ref C) (some d) a)) := by
  intro d H' s _ e a na
  exact h a _ (overS s na) ⟨d, upd_same, (upd_ne (ne_of_none e na)).trans e⟩
section
variable {X : Cx}
/-- e.n of a kept error of any class -/
theorem pe_xoA {e : Expr} {te : TE} {pos : Pos} {n : Str} (he : PE X e te) (hb : attributeBase e n X.env (eval e X.env) = eval e X.env := by rfl) :
    PE X (.Attribute e n pos) (fun σ H Q => te σ H fun x H1 => ∃ (a C : Addr) (fs : List (Str × V)) (v : V), x = .ref a ∧ ErAt H1 a C fs ∧ Err X.K C ∧ PySem.W.findIn X.K (.ref C) n = some none ∧ fs.lookup n = some v ∧ Q v H1) := by
  constructor
  intro pins s σ H Q I h
  refine attr_of hb (thn (he.run pins s σ H _ I h) fun u s1 hh => ?_)
  obtain ⟨x, H1, I1, rx, a, C, fs, v, rfl, ⟨dd, ha, ea⟩, T, hno, l, q⟩ := hh
  cases rx
  obtain ⟨oe, vs, hg, hz, hd⟩ := xo_at I1.hok ha
  obtain ⟨mA, hns, hr⟩ := (show ObjOk X.prog X.w H1 s1.heap dd (.xd fs) from I1.hok dd _ ea)
  obtain ⟨od, ho, hl⟩ := lookIn_ns hns
  have hrn := hr n
  rw [l] at hrn
  obtain ⟨u, hu, ru⟩ := RelO.some_of hrn
  have nc : PySem.W.notCls oe = true := by
    unfold PySem.W.notCls
    rw [hd]
  have J : PySem.W.InstAt s1.heap a oe C (some od) := by
    refine ⟨hg, hz.1, nc, ?_⟩
    rw [hz.2]
    exact ho
  have fo := PySem.W.findObj_own (K := X.K) (C := C) (od := od) (name := n) (v := u) T.hdC hno rfl (by rw [hl, hu])
  exact HandSPX.exc_get I1.kIn J T.ga T.gg T.exC fo (handed_of ru) ⟨v, H1, I1.tok _, ru, q⟩
/-- isinstance of a kept error that has no dict -/
theorem call_isX0 : CallR X (.builtin "isinstance") (fun xs H Q => ∃ (a D : Addr) (c : V) (u : Value) (b : Bool), xs = [.ref a, c] ∧ H a = some (Xo (.ref D) none a) ∧ Err X.K D ∧ ClsV c u ∧ PySem.W.kitOne X.K (.ref D) u = some b ∧ Q (.bl b) H) := by
  intro pins s σ H xs us Q I r h
  obtain ⟨a, D, c, u, b, rfl, ha, T, cv, e, q⟩ := h
  obtain ⟨u1, u2, rfl, r1, r2⟩ := vals2 r
  cases r1
  have e2 := cv.eq r2
  subst e2
  obtain ⟨oe, vs, hg, hz, hdat⟩ := xo_at I.hok ha
  have nc : PySem.W.notCls oe = true := by
    unfold PySem.W.notCls
    rw [hdat]
  have J : PySem.W.InstAt s.heap a oe D none := by
    refine ⟨hg, hz.1, nc, ?_⟩
    rw [hz.2]
    trivial
  exact PySem.W.kia_one (kitx_err T) I.kIn ⟨oe, none, J⟩ e (fun z => nomatch z) fun tk => ⟨.bl b, H, I.tok tk, rfl, q⟩
/-- C(), C an own error class without own __init__ -/
theorem pmk_own0 {C : Addr} {bmB : List Value} {B newId initId : String} {x : Str} {p pos : Pos} (F : ExcBaseFacts B newId initId bmB) (q : PySem.W.excIn X.K C bmB newId = true) (gC : X.mg x = some (.ref C))
    (kC : PySem.W.keepIn X.K (.ref C) = true) (r : Raises X (.ref C)) (hg : Gl X x) (hdb : (x == ("__debug__" : Str)) = false := by decide) :
    PMk X (.Call (.Name x p) [] [] pos) (fun _ H Q => Q (.ref C) none H) := by
  intro pins s σ H Q I h
  refine wpAny_Call_Name_kw (ld_glob I hg gC ?_ hdb)
  refine PySem.W.callWith_K0 I.kIn kC ?_
  show wpAny _ _ (call (.ref C) []) _ _ _
  obtain ⟨bm, N, nm, qn, bs, hdct, sn, sub, ab, col, dd, k0, k1, k2, k3, k5, mN, hC, hN, hni, T⟩ := exc_obj I.kIn q
  refine wpAny_call_exc_subT F T hC hN hni (fun h' e hm => ?_) (by decide)
  exact mk_of I hm r h (I.hok.gone hm.new)
end
end So

/-! own errors made and kept: what is asked in one step -/
namespace So
open PySem PySem.Spec PyProof.Rows L2
section
variable {X : Cx}
theorem pe_weak {e : Expr} {t t' : TE} (h : PE X e t) (k : ∀ σ H Q, t' σ H Q → t σ H Q) : PE X e t' := ⟨fun pins s σ H Q I w => h.run pins s σ H Q I (k σ H Q w)⟩
theorem ps_weak {st : Stmt} {t t' : TS} (h : PS X st t) (k : ∀ D σ H, t' D σ H → t D σ H) : PS X st t' := ⟨fun pins s σ H D I w => h.run pins s σ H D I (k D σ H w)⟩
/-- what the top says of an error with two fields -/
structure TwoE (K : PySem.W.Frag) (mg : Str → Option Value) (x n1 n2 : Str) (C f : Addr) (fd : FuncData) : Prop where
  T : OexC K C
  iC : PySem.W.findIn K (.ref C) "__init__" = some (some (.ref f))
  tI : PySem.W.typeIn K (.ref f) = some (.type "function")
  mgC : mg x = some (.ref C)
  no1 : PySem.W.findIn K (.ref C) n1 = some none
  no2 : PySem.W.findIn K (.ref C) n2 = some none
  err : Err K C
  hb : Binds K fd ["self", n1, n2] []
def k2 {α : Type} : List α → List α → List α
  | [u], [z] => [u, z]
  | _, _ => []
def k3 {α : Type} : List α → List α → List α
  | [u], [y, z] => [u, z, y]
  | _, _ => []
theorem k2_rel {vs : List V} {us : List Value} {zs : List V} {ws : List Value} (a : Vals vs us) (b : Vals zs ws) : Vals (k2 vs zs) (k2 us ws) := by
  cases a with
  | nil => exact .nil
  | cons a1 a2 =>
    cases a2 with
    | cons _ _ => exact .nil
    | nil =>
      cases b with
      | nil => exact .nil
      | cons b1 b2 =>
        cases b2 with
        | nil => exact .cons a1 (.cons b1 .nil)
        | cons _ _ => exact .nil
theorem k3_rel {vs : List V} {us : List Value} {zs : List V} {ws : List Value} (a : Vals vs us) (b : Vals zs ws) : Vals (k3 vs zs) (k3 us ws) := by
  cases a with
  | nil => exact .nil
  | cons a1 a2 =>
    cases a2 with
    | cons _ _ => exact .nil
    | nil =>
      cases b with
      | nil => exact .nil
      | cons b1 b2 =>
        cases b2 with
        | nil => exact .nil
        | cons b3 b4 =>
          cases b4 with
          | nil => exact .cons a1 (.cons b3 (.cons b1 .nil))
          | cons _ _ => exact .nil
theorem kbn2 {K : PySem.W.Frag} {fd : FuncData} {n : Str} (h : ∀ (s : Shared) (u z : Value), BindsTo s fd ⟨[u], [(n, z)]⟩ [("self", u), (n, z)]) : KBn K fd ["self", n] 1 [n] k2 k2 :=
  ⟨fun s us ws _ h1 h2 => match us, ws, h1, h2 with | [u], [z], _, _ => h s u z, k2_rel⟩
theorem kbn3 {K : PySem.W.Frag} {fd : FuncData} {n1 n2 : Str} (h : ∀ (s : Shared) (u y z : Value), BindsTo s fd ⟨[u], [(n2, y), (n1, z)]⟩ [("self", u), (n1, z), (n2, y)]) : KBn K fd ["self", n1, n2] 1 [n2, n1] k3 k3 :=
  ⟨fun s us ws _ h1 h2 => match us, ws, h1, h2 with | [u], [y, z], _, _ => h s u y z, k3_rel⟩
variable {x n n1 n2 : Str} {C f : Addr} {fd : FuncData} {e e2 : Expr} {p pos kp kp2 : Pos} {i j : Nat}
theorem pe_new1 (hex : X.ex = []) (O : OneE X.K X.mg x n C f fd) (F : FnOk X.prog X.w X.K X.mg X.base CX0 1 f fd ["self", n] (spOneE C n)) (hr : Room 2 X.A) (hg : Gl X x) (ha : PA X [e] (tCons (tVar i) tNil))
    (hdb : (x == ("__debug__" : Str)) = false := by decide) (hst : starEach [e] X.env = (false, eval e X.env) :: starEach [] X.env := by rfl) (hpl : (backTo pos (starEach [] X.env)).any (·.1) = false := by rfl) :
    PE X (.Call (.Name x p) [e] [] pos) (fun σ H Q => ∃ v, σ[i]? = some (some v) ∧ ∀ a H', Same H H' → ErAt H' a C [(n, v)] → Q (.ref a) H') :=
  pe_weak (pe_ofMk hex (pmk_one O F hr hg ha hdb hst hpl)) fun _ _ Q0 ⟨v, q, h⟩ => ⟨v, q, mkOne (C := C) (n := n) (v := v) (vs := [v]) (Q := fun cls d H' => ∀ a, H' a = none → Q0 (.ref a) (upd H' a (Xo cls d a))) rfl (keepOne h)⟩
theorem pe_new1K (hex : X.ex = []) (O : OneE X.K X.mg x n C f fd) (F : FnOk X.prog X.w X.K X.mg X.base CX0 1 f fd ["self", n] (spOneE C n)) (kb : KBn X.K fd ["self", n] 1 [n] k2 k2) (hr : Room 2 X.A) (hg : Gl X x) (he : PE X e (tVar i))
    (hall : (backToKw pos (keywordEach [⟨some n, e, kp⟩] X.env)).all (·.1.isSome) = true := by rfl) (hks : (backToKw pos (keywordEach [⟨some n, e, kp⟩] X.env)).filterMap (·.1) = [n] := by rfl) (hdb : (x == ("__debug__" : Str)) = false := by decide)
    (hpl : ((backTo pos (starEach [] X.env)).any (·.1) || (backToKw pos (keywordEach [⟨some n, e, kp⟩] X.env)).any (·.1.isNone)) = false := by rfl) :
    PE X (.Call (.Name x p) [] [⟨some n, e, kp⟩] pos) (fun σ H Q => ∃ v, σ[i]? = some (some v) ∧ ∀ a H', Same H H' → ErAt H' a C [(n, v)] → Q (.ref a) H') :=
  pe_weak (pe_ofMk hex (pmk_oexK O.T O.iC O.tI F hr kb (fun _ _ _ _ _ _ _ h => h.elim) hg O.mgC (pk_cons he pk_nil) hall hks hdb hpl)) fun _ _ Q0 ⟨v, q, h⟩ => ⟨v, q, rfl, (mkOne (C := C) (n := n) (v := v) (vs := [v]) (Q := fun cls d H' => ∀ a, H' a = none → Q0 (.ref a) (upd H' a (Xo cls d a))) rfl (keepOne h)).2⟩
theorem pe_new2 (hex : X.ex = []) (O : TwoE X.K X.mg x n1 n2 C f fd) (F : FnOk X.prog X.w X.K X.mg X.base CX0 1 f fd ["self", n1, n2] (spTwoE C n1 n2)) (hr : Room 2 X.A) (hg : Gl X x) (ha : PA X [e, e2] (tCons (tVar i) (tCons (tVar j) tNil)))
    (hdb : (x == ("__debug__" : Str)) = false := by decide) (hst : starEach [e, e2] X.env = (false, eval e X.env) :: starEach [e2] X.env := by rfl) (hpl : (backTo pos (starEach [e2] X.env)).any (·.1) = false := by rfl) :
    PE X (.Call (.Name x p) [e, e2] [] pos) (fun σ H Q => ∃ v, σ[i]? = some (some v) ∧ ∃ u, σ[j]? = some (some u) ∧ ∀ a H', Same H H' → ErAt H' a C [(n2, u), (n1, v)] → Q (.ref a) H') :=
  pe_weak (pe_ofMk hex (pmk_oex O.T O.iC O.tI F hr O.hb .nil (fun _ _ _ _ _ _ _ h => h.elim) hg O.mgC ha hdb hst hpl)) fun _ _ Q0 ⟨v, q, u, q2, h⟩ => ⟨v, q, u, q2, by show 2 ≤ 1000; decide, mkTwo (C := C) (n1 := n1) (n2 := n2) (v1 := v) (v2 := u) (Q := fun cls d H' => ∀ a, H' a = none → Q0 (.ref a) (upd H' a (Xo cls d a))) (keepOne h)⟩
theorem pe_new2K (hex : X.ex = []) (O : TwoE X.K X.mg x n1 n2 C f fd) (F : FnOk X.prog X.w X.K X.mg X.base CX0 1 f fd ["self", n1, n2] (spTwoE C n1 n2)) (kb : KBn X.K fd ["self", n1, n2] 1 [n2, n1] k3 k3) (hr : Room 2 X.A) (hg : Gl X x) (he : PE X e (tVar i)) (he2 : PE X e2 (tVar j))
    (hall : (backToKw pos (keywordEach [⟨some n2, e2, kp2⟩, ⟨some n1, e, kp⟩] X.env)).all (·.1.isSome) = true := by rfl) (hks : (backToKw pos (keywordEach [⟨some n2, e2, kp2⟩, ⟨some n1, e, kp⟩] X.env)).filterMap (·.1) = [n2, n1] := by rfl) (hdb : (x == ("__debug__" : Str)) = false := by decide)
    (hpl : ((backTo pos (starEach [] X.env)).any (·.1) || (backToKw pos (keywordEach [⟨some n2, e2, kp2⟩, ⟨some n1, e, kp⟩] X.env)).any (·.1.isNone)) = false := by rfl) :
    PE X (.Call (.Name x p) [] [⟨some n2, e2, kp2⟩, ⟨some n1, e, kp⟩] pos) (fun σ H Q => ∃ u, σ[j]? = some (some u) ∧ ∃ v, σ[i]? = some (some v) ∧ ∀ a H', Same H H' → ErAt H' a C [(n2, u), (n1, v)] → Q (.ref a) H') :=
  pe_weak (pe_ofMk hex (pmk_oexK O.T O.iC O.tI F hr kb (fun _ _ _ _ _ _ _ h => h.elim) hg O.mgC (pk_cons he2 (pk_cons he pk_nil)) hall hks hdb hpl)) fun _ _ Q0 ⟨u, q, v, q2, h⟩ => ⟨u, q, v, q2, rfl, mkTwo (C := C) (n1 := n1) (n2 := n2) (v1 := v) (v2 := u) (Q := fun cls d H' => ∀ a, H' a = none → Q0 (.ref a) (upd H' a (Xo cls d a))) (keepOne h)⟩
theorem pe_new0 (hex : X.ex = []) {bmB : List Value} {B newId initId : String} (F : ExcBaseFacts B newId initId bmB) (q : PySem.W.excIn X.K C bmB newId = true) (gC : X.mg x = some (.ref C)) (kC : PySem.W.keepIn X.K (.ref C) = true) (r : Raises X (.ref C)) (hg : Gl X x)
    (hdb : (x == ("__debug__" : Str)) = false := by decide) :
    PE X (.Call (.Name x p) [] [] pos) (fun _ H Q => ∀ a H', Same H H' → H' a = some (Xo (.ref C) none a) → Q (.ref a) H') :=
  pe_weak (pe_ofMk hex (pmk_own0 F q gC kC r hg hdb)) fun _ H _ h => fun a ha => h a _ (overS (Same.refl H) ha) upd_same
end
end So

/-! classmethods called by keyword; a class in a local name, called; raise of an own error with two fields -/
namespace So
open PySem PySem.Spec PyProof.Rows L2
section
variable {X : Cx} {CX : CXT} {k i : Nat} {f C : Addr} {fd : FuncData} {ps : List Str} {sp : Sp} {E : XK} {x : Str} {p pos : Pos} {e : Expr} {es : List Expr} {t : TA} {ds : List Value} {dvs : List V}
/-- x(e, ..), x a local name that holds a class -/
theorem pe_makeV (M : Mk X.K C f) (F : FnOk X.prog X.w X.K X.mg X.base CX k f fd ps sp) (hr : Room (k + 1) X.A) (hN : X.N[i]? = some x) (hv : Vis X.env.scope x) (hb : Binds X.K fd ps ds) (hd : Vals dvs ds) (hx : Passes CX X E)
    (ha : PA X (e :: es) t) (hdb : (x == ("__debug__" : Str)) = false := by decide) (hcd : (x == ("__classdict__" : Str)) = false := by decide)
    (he : starEach (e :: es) X.env = (false, eval e X.env) :: starEach es X.env := by rfl) (hpl : (backTo pos (starEach es X.env)).any (·.1) = false := by rfl) :
    PE X (.Call (.Name x p) (e :: es) [] pos) (fun σ H Q => σ[i]? = some (some (.ref C)) ∧ tMake C sp dvs E t σ H Q) := by
  refine ⟨fun pins s σ H Q I h => ?_⟩
  obtain ⟨hs, h⟩ := h
  refine wpAny_Call_Name_kw (thn ((pe_var (pos := p) (i := i) hN hv hdb hcd).run pins s σ H (fun v H1 => v = .ref C ∧ H1 = H) I ⟨.ref C, hs, rfl, rfl⟩) fun u s1 ⟨v, H1, I1, r1, ev, eH⟩ => ?_)
  subst ev
  rw [eH] at I1
  cases r1
  refine PySem.W.callWith_K (h₀ := X.base) I.ok.mod.kin M.kp (thn (ha.run pos pins s1 σ H _ I1 h) fun us s2 ⟨vs, H2, I2, r, q⟩ => ⟨I2.kIn, ?_⟩) he hpl
  exact run_make M F hr hb hd hx I2 r q
end
section
variable {X : Cx} {CX : CXT} {k : Nat} {C p g : Addr} {mc : Value} {fd : FuncData} {ps ks : List Str} {sp : Sp} {E : XK} {o : Expr} {kws : List Keyword} {m : Str} {pos apos : Pos} {ta : TE} {tk : TA} {pl : Sem Bool}
  {G : List Value → List Value → List Value} {GV : List V → List V → List V}
/-- C.m(k = v, ..), m a classmethod -/
theorem pe_cmethK (he : PE X o ta) (r : ClX.CRead X.K C mc) (c : ClX.CMet X.K C mc m p g) (F : FnOk X.prog X.w X.K X.mg X.base CX k g fd ps sp) (hb : KBinds X.K fd ps ks G GV) (hr : Room k X.A) (hx : Passes CX X E)
    (hkw : PK X kws tk) (hall : (backToKw pos (keywordEach kws X.env)).all (·.1.isSome) = true := by rfl) (hks : (backToKw pos (keywordEach kws X.env)).filterMap (·.1) = ks := by rfl)
    (hpl : ((backTo pos (starEach [] X.env)).any (·.1) || (backToKw pos (keywordEach kws X.env)).any (·.1.isNone)) = false := by rfl)
    (ht : eval (.Call (.Attribute o m apos) [] kws pos) X.env = (do
      let ov ← eval o X.env
      standAt apos.atName
      let fx ← holding [ov] (getMethod ov m pl)
      callWith pos fx.1 fx.2 (backTo pos (starEach [] X.env)) (backToKw pos (keywordEach kws X.env))) := by rfl) :
    PE X (.Call (.Attribute o m apos) [] kws pos) (fun σ H Q => ta σ H fun x H1 => x = .ref C ∧ tk σ H1 fun zs H2 => sp (GV [.ref C] zs) H2 Q E) := by
  refine ⟨fun pins s σ H Q I h => ?_⟩
  refine PySem.W.methodCall_KW (pl := pl) (thn (he.run pins s σ H _ I h) fun u s1 ⟨x, H1, I1, rx, ex, q⟩ => ?_) ht
  subst ex
  obtain rfl : u = Value.ref C := rx
  refine ClX.getmethcm_ok I1 r c fun s2 I2 => ?_
  refine PySem.W.callWith_of hpl (PySem.W.keeps_M c.fi) (evalArgs_kw2_nil hall (thn (hkw.run pos _ s2 σ H1 _ I2 q) fun ws s3 ⟨zs, H2, I3, rz, q2⟩ => ⟨⟨ClX.pin_at I3, I3.kIn⟩, ?_⟩))
  rw [hks]
  have z : wpAny (model X.prog X.w) X.A (call (.ref s1.heap.objs.size) ([] ++ []) (ks.zip ws)) (EP X ((s1.heap.objs.size, PySem.W.methodObj (.ref g) (.ref C)) :: pins) σ Q) X.xe s3 := by
    refine wpAny_call (PySem.W.method_call (ClX.pin_at I3) ?_)
    have r2 := hb.rel (vs := [.ref C]) (us := [.ref C]) (.cons rfl .nil) rz
    have hl : (G [.ref C] ws).length = ps.length := by rw [← r2.length]; exact F.len _ _ _ _ q2
    refine codeAny_mono (F.run X.A X.stack s3 H2 ⟨[.ref C], ks.zip ws⟩ (G [.ref C] ws) (GV [.ref C] zs) Q E hr I3.env0 (hb.to s3 [.ref C] ws I3.kIn hl) r2 q2) fun r s' hq => ?_
    cases r with
    | error e => exact hx _ σ H2 s3 e s' I3 hq
    | ok fl =>
      cases fl with
      | ret u => exact I3.after hq
      | next => exact False.elim hq
      | brk => exact False.elim hq
      | cont => exact False.elim hq
  exact thn z fun _ _ y => ClX.unpinE y
end
section
variable {X : Cx} {x n1 n2 : Str} {C f : Addr} {fd : FuncData} {e e2 : Expr} {p pos pos2 : Pos} {ta : TA}
/-- raise C(e, e2) -/
theorem ps_raiseTwo {W : WX} (O : TwoE X.K X.mg x n1 n2 C f fd) (F : FnOk X.prog X.w X.K X.mg X.base CX0 1 f fd ["self", n1, n2] (spTwoE C n1 n2)) (hc : X.calm = true) (hr : Room 2 X.A) (tk : Takes X W) (hg : Gl X x) (ha : PA X [e, e2] ta)
    (hdb : (x == ("__debug__" : Str)) = false := by decide) (hst : starEach [e, e2] X.env = (false, eval e X.env) :: starEach [e2] X.env := by rfl) (hpl : (backTo pos (starEach [e2] X.env)).any (·.1) = false := by rfl) :
    PS X (.Raise (some (.Call (.Name x p) [e, e2] [] pos)) none pos2) (fun _ σ H => tMkO C (spTwoE C n1 n2) [] ta σ H fun cls d H' => W cls d σ H') :=
  ps_raise hc tk (pmk_oex O.T O.iC O.tI F hr O.hb .nil (fun _ _ _ _ _ _ _ h => h.elim) hg O.mgC ha hdb hst hpl)
/-- behind C(v1, v2), as ps_raiseTwo asks it -/
theorem mkTwoV {C : Addr} {n1 n2 : Str} {vs : List V} {v1 v2 : V} {H1 : Hp} {Q : XK} (e : vs = [v1, v2]) (h : ∀ d H', Same H1 H' → H1 d = none → H' d = some (.xd [(n2, v2), (n1, v1)]) → Q (.ref C) (some d) H') :
    vs.length ≤ 1000 ∧ ∀ a, H1 a = none → spTwoE C n1 n2 (.ref a :: (vs ++ [])) (upd H1 a (exo a C none))
      (fun v H2 => v = .non ∧ ∃ (d : Addr) (fs : List (Str × V)), H2 a = some (exo a C (some d)) ∧ H2 d = some (exd d fs) ∧ H1 d = none ∧ Q (.ref C) (some d) (upd (del H2 a) d (.xd fs))) (fun _ _ _ => False) := by
  subst e
  exact ⟨by show 2 ≤ 1000; decide, mkTwo h⟩
end
end So

/-! zip(a list, a tuple) -/
namespace So
open PySem PySem.Spec PyProof.Rows L2
def ItzLT (K : PySem.W.Frag) (a b : Addr) : It :=
  ⟨fun i H => ∃ (xs ys : List V) (x y : V), SqL K H a xs ∧ SqT K H b ys ∧ xs[i]? = some x ∧ ys[i]? = some y,
    fun i H v H' => ∃ T x y, v = .ref T ∧ H T = none ∧ H' = upd H T (.tup [x, y]) ∧ (∀ xs, SqL K H a xs → xs[i]? = some x) ∧ ∀ ys, SqT K H b ys → ys[i]? = some y,
    fun i H => ∃ xs ys : List V, SqL K H a xs ∧ SqT K H b ys ∧ i ≤ xs.length ∧ i ≤ ys.length ∧ (i = xs.length ∨ i = ys.length)⟩
theorem turn_zipLT {P : Program} {w : World} {K : PySem.W.Frag} {elts : List Expr} {kk : Nat} {tpos : Pos} {a b z TI TO i1 i2 : Addr} (D : ZipSep2 z TI TO i1 i2 [i1, a] [i2, b]) (na : a ≠ i1) (nb : b ≠ i2) :
    Turn P w K (.Tuple elts kk tpos) (ItzLT K a b) [z, TI, TO, i1, i2] z (fun i h => IsZip h z TI TO .none ∧ IsTupOf2 h TI (.ref i1) (.ref i2) ∧ (∃ x y, IsTupOf2 h TO x y) ∧ h.IsListIter i1 a i ∧ h.IsTupleIter i2 b i) where
  mem := by simp
  obj := fun i h st c hc => by
    obtain ⟨hz, hTI, ⟨x, y, hTO⟩, ⟨o1, e1, _, d1⟩, ⟨o2, e2, _, d2⟩⟩ := st
    have e' : c = z ∨ c = TI ∨ c = TO ∨ c = i1 ∨ c = i2 := by simpa using hc
    rcases e' with q | q | q | q | q
    · rw [q]; exact ⟨_, hz, fun v q => nomatch q⟩
    · rw [q]; exact ⟨_, hTI, fun v q => nomatch q⟩
    · rw [q]; exact ⟨_, hTO, fun v q => nomatch q⟩
    · rw [q]; exact ⟨o1, e1, fun v q => by rw [d1] at q; cases q⟩
    · rw [q]; exact ⟨o2, e2, fun v q => by rw [d2] at q; cases q⟩
  keep := fun i h h' st k => by
    obtain ⟨hz, hTI, ⟨x, y, hTO⟩, h1, h2⟩ := st
    exact ⟨k z (by simp) _ hz, k TI (by simp) _ hTI, ⟨x, y, k TO (by simp) _ hTO⟩, h1.at fun o q => k i1 (by simp) o q, h2.at fun o q => k i2 (by simp) o q⟩
  item := by
    intro X hP hw hK hc i pins s σ H E I hf st hg
    subst hP hw hK
    obtain ⟨hz, hTI, ⟨x0, y0, hTO⟩, h1, h2⟩ := st
    obtain ⟨xs, ys, x, y, hqx, hqy, hx, hy⟩ := hg
    obtain ⟨its, rv, p, _⟩ := I.list hqx
    obtain ⟨its2, rv2, p2, _⟩ := I.tuple hqy
    obtain ⟨u, hu, ru⟩ := rv.get hx
    obtain ⟨u2, hu2, ru2⟩ := rv2.get hy
    have hzl : z < s.heap.objs.size := Heap.lt_size hz
    have lu : i < its.length := by
      rcases Nat.lt_or_ge i its.length with q | q
      · exact q
      · rw [List.getElem?_eq_none q] at hu; cases hu
    have lu2 : i < its2.length := by
      rcases Nat.lt_or_ge i its2.length with q | q
      · exact q
      · rw [List.getElem?_eq_none q] at hu2; cases hu2
    have D1 : Draws X.prog X.w X.A.in1 i1 [i1, a] _ _ _ := Draws.list (show X.A.in1.handled = none from I.ok.hd hc) i1 a na its.toArray
    have D2 : Draws X.prog X.w X.A.in1 i2 [i2, b] _ _ _ := Draws.tuple (show X.A.in1.handled = none from I.ok.hd hc) i2 b nb its2.toArray
    refine wpAny_pyNext_zipD2_item D D1 D2 hz hTI hTO ⟨h1, p.isList⟩ ⟨h2, p2⟩ (by simpa using lu) (by simpa using lu2) fun u' u2' h' tk e1 e2 z' TO' st1 st2 hT hsz hk => ?_
    obtain rfl : u = u' := by
      have e1' : its.toArray[i]? = some u' := e1
      have : its.toArray[i]? = some u := by simpa using hu
      rw [e1'] at this
      exact (Option.some.inj this).symm
    obtain rfl : u2 = u2' := by
      have e2' : its2.toArray[i]? = some u2' := e2
      have : its2.toArray[i]? = some u2 := by simpa using hu2
      rw [e2'] at this
      exact (Option.some.inj this).symm
    refine ⟨_, rfl, wpAny_letOwnedTupleGo_zip (s := { s with heap := h', toks := tk }) z' fun h'' z'' sb => ?_⟩
    have hT2 : h''.get? s.heap.objs.size = some { cls := .type "tuple", data := .seq #[u, u2] } := (sb.2 _ (Nat.ne_of_gt hzl)).trans hT
    have new : ObjOk X.prog X.w (upd H s.heap.objs.size (.tup [x, y])) h'' s.heap.objs.size (.tup [x, y]) :=
      ⟨by show 2 ≤ sizeLine; decide, [u, u2], .cons ru (.cons ru2 .nil), ⟨_, hT2, rfl, _, rfl⟩⟩
    have I1 : Inv X pins σ (upd H s.heap.objs.size (.tup [x, y])) { s with heap := h'', toks := tk } :=
      I.turnedNew (t' := tk) (ch := [z, TI, TO, i1, i2]) (fun c o hb q => (sb.2 c (fun q' => hb (by simp [q']))).trans (hk c o (fun q' => hb (by simp [q'])) (fun q' => hb (by simp [q'])) (fun q' => hb (by simp [q'])) (fun q' => hb (by simp [q'])) q)) hf (Nat.le_refl _) new
    refine ⟨.ref s.heap.objs.size, _, I1, rfl, ⟨_, x, y, rfl, I.hok.fresh (Nat.le_refl _), rfl, fun l hl => by rw [I.list_inj hl hqx]; exact hx, fun l hl => by rw [I.tuple_inj hl hqy]; exact hy⟩, ⟨z'', ?_, ⟨u, u2, ?_⟩, ?_, ?_⟩, fun c hcm => ?_⟩
    · exact (sb.2 _ D.TIz).trans (hk _ _ D.TIz D.TITO D.TIi1 D.TIi2 hTI)
    · exact (sb.2 _ D.TOz).trans TO'
    · exact st1.1.at fun o q => (sb.2 _ D.zi1.symm).trans q
    · exact st2.1.at fun o q => (sb.2 _ D.zi2.symm).trans q
    · have hlt : c < s.heap.objs.size := by
        have e' : c = z ∨ c = TI ∨ c = TO ∨ c = i1 ∨ c = i2 := by simpa using hcm
        rcases e' with q | q | q | q | q
        · rw [q]; exact hzl
        · rw [q]; exact Heap.lt_size hTI
        · rw [q]; exact Heap.lt_size hTO
        · rw [q]; obtain ⟨_, e1, _⟩ := h1; exact Heap.lt_size e1
        · rw [q]; obtain ⟨_, e2, _⟩ := h2; exact Heap.lt_size e2
      rw [upd_ne (Nat.ne_of_lt hlt)]
      exact (hf c hcm).1
  done := by
    intro X hP hw hK hc i pins s σ H E I hf st hg
    subst hP hw hK
    obtain ⟨hz, hTI, ⟨x0, y0, hTO⟩, h1, h2⟩ := st
    obtain ⟨xs, ys, hqx, hqy, le1, le2, hend⟩ := hg
    obtain ⟨its, rv, p, _⟩ := I.list hqx
    obtain ⟨its2, rv2, p2, _⟩ := I.tuple hqy
    have l1 := rv.length
    have l2 := rv2.length
    have D1 : Draws X.prog X.w X.A.in1 i1 [i1, a] _ _ _ := Draws.list (show X.A.in1.handled = none from I.ok.hd hc) i1 a na its.toArray
    have D2 : Draws X.prog X.w X.A.in1 i2 [i2, b] _ _ _ := Draws.tuple (show X.A.in1.handled = none from I.ok.hd hc) i2 b nb its2.toArray
    exact wpAny_pyNext_zipD2_end D D1 D2 hz hTI hTO ⟨h1, p.isList⟩ ⟨h2, p2⟩ (by simp; omega) (by simp; omega) (by simp; omega)
      fun h' tk hk => ⟨rfl, I.turnedL (t' := tk) (ch := [z, TI, TO, i1, i2]) (fun c o hb q =>
      hk c o (fun q' => hb (by simp [q'])) (fun q' => hb (by simp [q'])) (fun q' => hb (by simp [q'])) (fun q' => hb (by simp [q'])) q) hf⟩
  self := fun A i s Q E st h => wpAny_pyIter_zip st.1 h
def iZipLT (K : PySem.W.Frag) (ta : TA) : TI := fun σ H R => ta σ H fun vs H1 => ∃ a b xs ys, vs = [.ref a, .ref b] ∧ SqL K H1 a xs ∧ SqT K H1 b ys ∧ R (ItzLT K a b) H1
theorem pi_zipLT {X : Cx} {e e2 : Expr} {ta : TA} {p pos tpos : Pos} {elts : List Expr} {kk : Nat} (hg : Gl X "zip") (hm : X.mg "zip" = none) (ha : PA X [e, e2] ta)
    (hs : starEach [e, e2] X.env = (false, eval e X.env) :: starEach [e2] X.env := by rfl) (hpl : (backTo pos (starEach [e2] X.env)).any (·.1) = false := by rfl) :
    PI X (.Tuple elts kk tpos) (.Call (.Name "zip" p) [e, e2] [] pos) (iZipLT X.K ta) := by
  refine ⟨fun pins s σ H R I h => ?_⟩
  refine Call_ (ld_blt I hg hm PyProof.Rows.boot_zip (PyProof.Rows.callWith_type1 (thn (ha.run pos pins s σ H _ I h) fun us s1 ⟨vs, H1, I1, r1, q1⟩ => ?_) hs hpl))
  obtain ⟨a, b, xs, ys, rfl, hqx, hqy, q⟩ := q1
  obtain ⟨u1, u2, rfl, r, r'⟩ := vals2 r1
  cases r
  cases r'
  have fresh5 : ∀ c, c ∈ [s1.heap.objs.size + 4, s1.heap.objs.size + 2, s1.heap.objs.size + 3, s1.heap.objs.size, s1.heap.objs.size + 1] → FpOk X pins H1 c := fun c hcm => by
    have e' : c = s1.heap.objs.size + 4 ∨ c = s1.heap.objs.size + 2 ∨ c = s1.heap.objs.size + 3 ∨ c = s1.heap.objs.size ∨ c = s1.heap.objs.size + 1 := by simpa using hcm
    have hle : s1.heap.objs.size ≤ c := by
      rcases e' with z | z | z | z | z
      · rw [z]; exact Nat.le_add_right _ _
      · rw [z]; exact Nat.le_add_right _ _
      · rw [z]; exact Nat.le_add_right _ _
      · rw [z]; exact Nat.le_refl _
      · rw [z]; exact Nat.le_add_right _ _
    exact I1.fpOk hle (I1.hok.fresh hle)
  obtain ⟨its, rv, p1, _⟩ := I1.list hqx
  obtain ⟨its2, rv2, p2, _⟩ := I1.tuple hqy
  obtain ⟨o2, ho2, _⟩ := id p2
  have al : a < s1.heap.objs.size := p1.lt
  have bl : b < s1.heap.objs.size := Heap.lt_size ho2
  refine zip_begins2 (begins_list a its.toArray) (begins_tuple b its2.toArray) p1.isList (show s1.heap.IsTuple b its2.toArray from p2) fun h' hz hTI hTO h1 h2 hsz hk => wpAny_pyIter_zip hz ?_
  have I2 : Inv X pins σ H1 { s1 with heap := h' } := I1.kept (t' := s1.toks) hk
  exact ⟨s1.heap.objs.size + 4, [s1.heap.objs.size + 4, s1.heap.objs.size + 2, s1.heap.objs.size + 3, s1.heap.objs.size, s1.heap.objs.size + 1], _, _, H1, rfl, I2,
    turn_zipLT (zip_sep2 (fp1 := [a]) (fp2 := [b]) (by simpa using al) (by simpa using bl)) (Nat.ne_of_lt al) (Nat.ne_of_lt (Nat.lt_succ_of_lt bl)), ⟨hz, hTI, ⟨_, _, hTO⟩, ⟨_, h1, rfl, rfl⟩, ⟨_, h2, rfl, rfl⟩⟩, fresh5, q⟩
theorem walk_zipLT {K : PySem.W.Frag} {a b : Addr} {xs ys : List V} {n : Nat} (hn : n = min xs.length ys.length) : Walk (ItzLT K a b) n (fun H => SqL K H a xs ∧ SqT K H b ys) (YPair (fun i => xs[i]?) (fun i => ys[i]?)) := by
  subst hn
  refine ⟨fun i _ hi q => ?_, fun _ q => ⟨xs, ys, q.1, q.2, by omega, by omega, by omega⟩, fun i H v H' _ q y => ?_⟩
  · have h1 : i < xs.length := by omega
    have h2 : i < ys.length := by omega
    exact ⟨xs, ys, xs[i], ys[i], q.1, q.2, by simp [h1], by simp [h2]⟩
  · obtain ⟨T, x, z, h1, h2, h3, h4, h5⟩ := y
    exact ⟨T, x, z, h1, h2, h3, h4 xs q.1, h5 ys q.2⟩
end So

namespace K15
open PySem PySem.Spec PyProof.Rows L2 So
abbrev sNumber : Stmt := topS 18
abbrev sHasForm : Stmt := topS 19
abbrev sWordsOf : Stmt := topS 20
abbrev sFirst : Stmt := topS 21
abbrev sTold : Stmt := topS 22
abbrev sValueOf : Stmt := topS 23
theorem scNumber : FnScope ["word", "sign"] ["word"] (defScope sNumber) := ⟨rfl, rfl, rfl, by decide +kernel, rfl, by decide +kernel, by decide +kernel⟩
theorem scHasForm : FnScope ["word", "form"] ["word", "form"] (defScope sHasForm) := ⟨rfl, rfl, rfl, by decide +kernel, rfl, by decide +kernel, by decide +kernel⟩
theorem scWordsOf : FnScope ["text"] ["text"] (defScope sWordsOf) := ⟨rfl, rfl, rfl, by decide +kernel, rfl, by decide +kernel, by decide +kernel⟩
theorem scFirst : FnScope ["words", "forms", "at", "form"] ["words", "forms"] (defScope sFirst) := ⟨rfl, rfl, rfl, by decide +kernel, rfl, by decide +kernel, by decide +kernel⟩
theorem scTold : FnScope ["line", "words", "forms", "wrong", "word", "form"] ["line", "words", "forms"] (defScope sTold) := ⟨rfl, rfl, rfl, by decide +kernel, rfl, by decide +kernel, by decide +kernel⟩
theorem scValueOf : FnScope ["word", "form"] ["word", "form"] (defScope sValueOf) := ⟨rfl, rfl, rfl, by decide +kernel, rfl, by decide +kernel, by decide +kernel⟩
/-! ### numbers -/
def isDig (c : Nat) : Bool := decide (c ∈ digits.cps.toList)
def numOf (z : Str) : Nat := NumText.digitsVal z.cps.toList
def isNum (z : Str) : Bool := decide (1 ≤ z.length) && decide (z.length ≤ 31) && z.cps.toList.all isDig && (decide (z = ("0" : Str)) || (decide (z.cps.toList.headD 0 ≠ 48) && decide (((numOf z : Nat) : Int) ≤ 1000000000000000000000000000000)))
theorem dig_iff : ∀ c : Nat, isDig c = true → 48 ≤ c ∧ c ≤ 57 := by
  intro c h
  have h : c ∈ digits.cps.toList := of_decide_eq_true h
  have : ∀ c ∈ digits.cps.toList, 48 ≤ c ∧ c ≤ 57 := by decide +kernel
  exact this c h
theorem dig_of {c : Nat} (h : 48 ≤ c ∧ c ≤ 57) : isDig c = true := by
  have : ∀ k < 10, isDig (48 + k) = true := by decide +kernel
  have e : c = 48 + (c - 48) := by omega
  rw [e]
  exact this _ (by omega)
theorem all_dig {z : Str} (h : z.cps.toList.all isDig = true) : NumText.AllDigits z.cps.toList := fun c hc => dig_iff c (List.all_eq_true.mp h c hc)
theorem int_of {z : Str} (h1 : 1 ≤ z.length) (h2 : z.length ≤ 31) (h : z.cps.toList.all isDig = true) : PySem.intText? z = some ((numOf z : Nat) : Int) := by
  refine PySem.intText_digits (all_dig h) (fun e => ?_) (by omega)
  have : z.length = z.cps.toList.length := Array.length_toList.symm
  rw [e] at this
  simp at this
  omega
theorem zero_num : numOf ("0" : Str) = 0 := by decide +kernel
theorem isNum_le {z : Str} (h : isNum z = true) : 1 ≤ z.length ∧ z.length ≤ 31 ∧ z.cps.toList.all isDig = true ∧ (((numOf z : Nat) : Int) ≤ 1000000000000000000000000000000) := by
  unfold isNum at h
  simp only [Bool.and_eq_true, Bool.or_eq_true, decide_eq_true_eq] at h
  refine ⟨h.1.1.1, h.1.1.2, h.1.2, ?_⟩
  rcases h.2 with e | e
  · rw [e, zero_num]
    decide
  · exact e.2
theorem ascii_0 (c : Nat) : (V.str ⟨#[c]⟩ = V.str ("0" : Str)) ↔ c = 48 := by
  constructor
  · intro h
    have h := V.str.inj h
    have h2 := congrArg (fun z : Str => z.cps.toList) h
    have : (("0" : Str)).cps.toList = [48] := by decide +kernel
    simp [this] at h2
    exact h2
  · rintro rfl
    have : (("0" : Str)) = ⟨#[48]⟩ := by decide +kernel
    rw [this]
section
variable {P : Program} {w : World} {K : PySem.W.Frag} {mg : Str → Option Value} {base : Heap}
/-- is_number -/
def spNumber : Sp := fun vs H Q _ => ∃ z : Str, vs = [.str z] ∧ z.length ≤ 2000 ∧ ∀ H', Same H H' → Q (.bl (isNum z)) H'
theorem ok_number {f : Addr} {fd : FuncData} (F : Fun K "is_number" "is_number" sNumber f fd) (W : Words K mg) (hL : ∃ t, mg "LONGEST_NUMBER" = some (.int 31 t)) : FnOk P w K mg base CX0 1 f fd ["word"] spNumber := by
  refine F.ok scNumber (fun vs H Q E h => ?_) (fun cdv A outer s H vs Q E hr h => ?_)
  · obtain ⟨z, rfl, _⟩ := h
    rfl
  · obtain ⟨z, rfl, hz, q⟩ := h
    obtain ⟨tL, hL⟩ := hL
    obtain ⟨tD, hD⟩ := W.digits
    obtain ⟨tG, hG⟩ := W.greatest
    refine ⟨_, pss_cons (ps_if (PW.pt (pw_or (pt_not (pt_chain op_le op_le pe_int (pe_callB call_len_str (by rfl) W.len PySem.boot_len (pa_cons (pv 0) pa_nil)) (pe_glob (v := .int 31) rfl hL ⟨_, rfl⟩)))
        (pw_or1 (pt_not (pt_val (pe_callB (cr_all rfl) (by rfl) W.all (by decide +kernel) (pa_cons (pe_lc (own := [("sign", 1)]) (g := gName 1) (tt := tYes) rfl scNumber.nd (pi_str (pv 0)) (blkOk_by (N := ["word", "sign"]) (sc := defScope sNumber) (by decide +kernel))
          (fun _ _ _ _ _ => pg_name (i := 1) scNumber.nd rfl (Or.inl rfl)) (fun _ _ _ _ _ => pts_nil) (fun _ _ _ _ _ => pe_cmpR op_in_sign (pv 1) (pe_glob (v := .str digits) rfl hD ⟨_, rfl⟩) (by rfl))) pa_nil)))))))
        (pss_one (ps_ret pe_bl)) pss_nil)
      (pss_one (ps_ret (pe_or (pe_cmpR op_eq (pv 0) pe_str (nomark _)) (pe_one (pe_and (pe_cmpR op_ne (pe_ix ix_str (pv 0) pe_int (fun _ _ => rfl)) pe_str (nomark _))
        (pe_one (pe_cmpR op_le (pe_callTy call_int_str (by rfl) W.int (by decide +kernel) (pa_cons (pv 0) pa_nil)) (pe_glob (v := .int 1000000000000000000000000000000) rfl hG ⟨_, rfl⟩) (nomark _)))))))), ?_⟩
    have hzl : z.length ≤ sizeLine := Nat.le_trans hz (by decide)
    have no : isNum z = false → ∀ H', Same H H' → Q (.bl false) H' := fun e H' s => by
      have := q H' s
      rw [e] at this
      exact this
    refine ⟨_, rfl, _, rfl, hzl, _, _, rfl, rfl, _, rfl, ite2 (fun c1 => ?_) (fun c1 => ⟨_, rfl, iteT (no ?_ H (Same.refl H))⟩)⟩
    case refine_2 =>
      have c1' : ¬ (1 : Int) ≤ ((z.length : Nat) : Int) := fun e => c1 (decide_eq_true e)
      unfold isNum
      rw [show decide (1 ≤ z.length) = false from decide_eq_false (by omega)]
      rfl
    have c1' : (1 : Int) ≤ ((z.length : Nat) : Int) := of_decide_eq_true c1
    refine ⟨_, _, rfl, rfl, _, rfl, ?_⟩
    by_cases c2 : ((z.length : Nat) : Int) ≤ 31
    case neg =>
      rw [decide_eq_false c2]
      refine iteT (no ?_ H (Same.refl H))
      unfold isNum
      rw [show decide (z.length ≤ 31) = false from decide_eq_false (by omega), Bool.and_false]
      rfl
    rw [decide_eq_true c2]
    have e1 : decide (1 ≤ z.length) = true := decide_eq_true (by omega)
    have e2 : decide (z.length ≤ 31) = true := decide_eq_true (by omega)
    refine iteF ⟨_, rfl, _, rfl, fun D hD => lc_it walk_str (fun i H' => H' D = some (.lst ((z.cps.toList.take i).map fun c => V.bl (isDig c))) ∧ Same H H') ⟨?_, ?_⟩ (fun _ _ _ _ => trivial) ?_ ?_⟩
    · exact upd_same
    · exact Same.over (Same.refl H) hD
    · rintro i x H1 H2 hi ⟨h1, s1⟩ ⟨rfl, c, hc1, rfl⟩
      have hc2 : z.cps.toList[i]? = some c := by
        rw [Array.getElem?_toList]
        exact hc1
      refine ⟨rfl, _, rfl, c, _, rfl, rfl, _, h1, ?_, ?_, Same.over s1 hD⟩
      · rw [List.length_map, List.length_take]
        have : z.cps.toList.length = z.length := Array.length_toList
        exact Nat.lt_of_le_of_lt (Nat.le_trans (Nat.min_le_right _ _) (by omega)) (by decide : 2000 < sizeLine)
      · rw [upd_same, List.take_add_one, hc2, List.map_append]
        rfl
    · rintro H1 ⟨h1, s1⟩
      refine ⟨D, z.cps.toList.map isDig, rfl, SqL.of ?_, ?_⟩
      · rw [h1, List.take_of_length_le (by rw [Array.length_toList]; exact Nat.le_refl _), List.map_map]
        rfl
      · rw [List.all_map]
        refine ⟨_, rfl, ?_⟩
        cases c3 : z.cps.toList.all (id ∘ isDig) with
        | false =>
          refine iteT (no ?_ H1 s1)
          have c3' : z.cps.toList.all isDig = false := c3
          unfold isNum
          rw [c3', Bool.and_false, Bool.false_and]
        | true =>
          have c3' : z.cps.toList.all isDig = true := c3
          refine iteF ?_
          have ez : isNum z = (decide (z = ("0" : Str)) || (decide (z.cps.toList.headD 0 ≠ 48) && decide (((numOf z : Nat) : Int) ≤ 1000000000000000000000000000000))) := by
            unfold isNum
            rw [e1, e2, c3']
            rfl
          have q1 := q H1 s1
          rw [ez] at q1
          refine ⟨_, rfl, rfl, _, rfl, ite2 (fun c4 => ?_) (fun c4 => ?_)⟩
          · have c4' : z = ("0" : Str) := V.str.inj (of_decide_eq_true c4)
            rw [decide_eq_true c4', Bool.true_or] at q1
            exact q1
          · have c4' : ¬ z = ("0" : Str) := fun e => c4 (decide_eq_true (by rw [e]))
            rw [decide_eq_false c4', Bool.false_or] at q1
            obtain ⟨c0, cr, hc⟩ : ∃ c0 cr, z.cps.toList = c0 :: cr := by
              have hz0 : 0 < z.cps.toList.length := by
                have : z.length = z.cps.toList.length := Array.length_toList.symm
                omega
              cases e : z.cps.toList with
              | nil => rw [e] at hz0; cases hz0
              | cons a r => exact ⟨a, r, rfl⟩
            refine ⟨_, rfl, _, _, c0, rfl, rfl, hzl, ?_, rfl, _, rfl, ?_⟩
            · rw [hc]
              exact atI_nat (j := 0) rfl
            · have eh : z.cps.toList.headD 0 = c0 := by rw [hc]; rfl
              rw [eh] at q1
              by_cases c5 : c0 = 48
              · have : (!decide (V.str ⟨#[c0]⟩ = V.str ("0" : Str))) = false := by
                  rw [decide_eq_true ((ascii_0 c0).mpr c5)]
                  rfl
                rw [show (decide (c0 ≠ 48)) = false from decide_eq_false (fun h => h c5), Bool.false_and] at q1
                rw [this]
                exact iteF q1
              · have : (!decide (V.str ⟨#[c0]⟩ = V.str ("0" : Str))) = true := by
                  rw [decide_eq_false (fun h => c5 ((ascii_0 c0).mp h))]
                  rfl
                rw [show (decide (c0 ≠ 48)) = true from decide_eq_true c5, Bool.true_and] at q1
                rw [this]
                refine iteT ⟨_, rfl, z, _, rfl, int_of (by omega) (by omega) c3', by omega, _, _, rfl, rfl, q1⟩
end
end K15

namespace K15
open PySem PySem.Spec PyProof.Rows L2 So
/-! ### forms of words -/
def hasForm (form z : Str) : Bool :=
  if form = "name" then isName z else if form = "moment" then isNum z else if form = "beginning" then isNum z && !decide (z = ("0" : Str)) else if form = "truth" then (["sound", "unsound"] : List Str).contains z else decide (z = form)
/-- the first word that has not its form -/
def fw : List Str → List Str → Nat → Option Nat
  | ws, [], n => if ws.isEmpty then none else some n
  | [], _ :: _, n => some n
  | w :: ws, f :: fs, n => if hasForm f w = true then fw ws fs (n + 1) else some n
theorem fw_cons (w : Str) (ws : List Str) (f : Str) (fs : List Str) (n : Nat) : fw (w :: ws) (f :: fs) n = if hasForm f w = true then fw ws fs (n + 1) else some n := by
  conv => lhs; unfold fw
theorem fw_end (ws : List Str) (n : Nat) : fw ws [] n = if ws.isEmpty then none else some n := by
  cases ws <;> rfl
def optV : Option Nat → V
  | none => .non
  | some n => .int (n : Nat)
def valOf (form z : Str) : V := if form = "moment" ∨ form = "beginning" then .int ((numOf z : Nat) : Int) else if form = "truth" then .bl (decide (z = ("sound" : Str))) else .str z
theorem fw_none : ∀ {ws fs : List Str} {n : Nat}, fw ws fs n = none → ws.length = fs.length ∧ ∀ (i : Nat) (w f : Str), ws[i]? = some w → fs[i]? = some f → hasForm f w = true
  | [], [], _, _ => ⟨rfl, fun i w f h => by simp at h⟩
  | _ :: _, [], _, h => by simp [fw] at h
  | [], _ :: _, _, h => by simp [fw] at h
  | w :: ws, f :: fs, n, h => by
    unfold fw at h
    split at h
    · rename_i c
      obtain ⟨h1, h2⟩ := fw_none h
      refine ⟨by simp [h1], fun i w' f' hw hf => ?_⟩
      cases i with
      | zero =>
        simp at hw hf
        rw [← hw, ← hf]
        exact c
      | succ i => exact h2 i w' f' (by simpa using hw) (by simpa using hf)
    · cases h
section
variable {P : Program} {w : World} {K : PySem.W.Frag} {mg : Str → Option Value} {base : Heap}
def spHasForm : Sp := fun vs H Q _ => ∃ z form : Str, vs = [.str z, .str form] ∧ z.length ≤ 2000 ∧ ∀ H', Same H H' → Q (.bl (hasForm form z)) H'
theorem ok_hasForm {f fN fU : Addr} {fd fdN fdU : FuncData} (F : Fun K "has_form" "has_form" sHasForm f fd) (FN : Fun K "is_name" "is_name" sName fN fdN) (bN : Binds K fdN ["value"] []) (gN : mg "is_name" = some (.ref fN)) (GN : FnOk P w K mg base CX0 1 fN fdN ["value"] spName)
    (FU : Fun K "is_number" "is_number" sNumber fU fdU) (bU : Binds K fdU ["word"] []) (gU : mg "is_number" = some (.ref fU)) (GU : FnOk P w K mg base CX0 1 fU fdU ["word"] spNumber) : FnOk P w K mg base CX0 2 f fd ["word", "form"] spHasForm := by
  refine F.ok scHasForm (fun vs H Q E h => ?_) (fun cdv A outer s H vs Q E hr h => ?_)
  · obtain ⟨z, form, rfl, _⟩ := h
    rfl
  · obtain ⟨z, form, rfl, hz, q⟩ := h
    refine ⟨_, pss_cons (ps_if (pt_cmpR op_eq (pv 1) pe_str (nomark _)) (pss_one (ps_ret (pe_call GN hr (by rfl) gN FN.kp bN .nil pass0 (pa_cons (pv 0) pa_nil)))) pss_nil)
      (pss_cons (ps_if (pt_cmpR op_eq (pv 1) pe_str (nomark _)) (pss_one (ps_ret (pe_call GU hr (by rfl) gU FU.kp bU .nil pass0 (pa_cons (pv 0) pa_nil)))) pss_nil)
      (pss_cons (ps_if (pt_cmpR op_eq (pv 1) pe_str (nomark _)) (pss_one (ps_ret (pe_and (pe_call GU hr (by rfl) gU FU.kp bU .nil pass0 (pa_cons (pv 0) pa_nil)) (pe_one (pe_cmpR op_ne (pv 0) pe_str (nomark _)))))) pss_nil)
      (pss_cons (ps_if (pt_cmpR op_eq (pv 1) pe_str (nomark _)) (pss_one (ps_ret (pe_cmpR op_in_seq (pv 0) (pe_tup (pa_cons pe_str (pa_cons pe_str pa_nil))) (by rfl)))) pss_nil)
      (pss_one (ps_ret (pe_cmpR op_eq (pv 0) (pv 1) (nomark _))))))), ?_⟩
    refine ⟨_, rfl, rfl, _, rfl, ite2 (fun c => ?_) (fun c1 => ?_)⟩
    · obtain rfl : form = "name" := V.str.inj (of_decide_eq_true c)
      exact ⟨_, rfl, _, "str", rfl, .str z hz, fun H1 s1 => q H1 s1⟩
    have n1 : ¬ form = "name" := fun e => c1 (decide_eq_true (by rw [e]))
    refine ⟨_, rfl, rfl, _, rfl, ite2 (fun c => ?_) (fun c2 => ?_)⟩
    · obtain rfl : form = "moment" := V.str.inj (of_decide_eq_true c)
      exact ⟨_, rfl, z, rfl, hz, fun H1 s1 => q H1 s1⟩
    have n2 : ¬ form = "moment" := fun e => c2 (decide_eq_true (by rw [e]))
    refine ⟨_, rfl, rfl, _, rfl, ite2 (fun c => ?_) (fun c3 => ?_)⟩
    · obtain rfl : form = "beginning" := V.str.inj (of_decide_eq_true c)
      have q : ∀ H', Same H H' → Q (.bl (isNum z && !decide (z = ("0" : Str)))) H' := q
      refine ⟨_, rfl, z, rfl, hz, fun H1 s1 => ⟨_, rfl, ?_⟩⟩
      have q1 := q H1 s1
      cases e : isNum z with
      | false =>
        rw [e, Bool.false_and] at q1
        exact iteF q1
      | true =>
        rw [e, Bool.true_and] at q1
        refine iteT ⟨_, rfl, rfl, ?_⟩
        have : (decide (V.str z = V.str ("0" : Str))) = decide (z = ("0" : Str)) := by
          by_cases h : z = ("0" : Str)
          · rw [decide_eq_true h, decide_eq_true (by rw [h])]
          · rw [decide_eq_false h, decide_eq_false (fun y => h (V.str.inj y))]
        rw [this]
        exact q1
    have n3 : ¬ form = "beginning" := fun e => c3 (decide_eq_true (by rw [e]))
    refine ⟨_, rfl, rfl, _, rfl, ite2 (fun c => ?_) (fun c4 => ?_)⟩
    · obtain rfl : form = "truth" := V.str.inj (of_decide_eq_true c)
      have q : ∀ H', Same H H' → Q (.bl ((["sound", "unsound"] : List Str).contains z)) H' := q
      refine ⟨_, rfl, by show 2 ≤ sizeLine; decide, fun t ht => ⟨t, _, rfl, .inr (SqT.of upd_same), rfl, flat_strs ["sound", "unsound"], ?_⟩⟩
      rw [show (if false = true then !inV (V.str z) [V.str "sound", V.str "unsound"] else inV (V.str z) [V.str "sound", V.str "unsound"]) = (["sound", "unsound"] : List Str).contains z from inV_strs z ["sound", "unsound"]]
      exact q _ (same_upd0 ht)
    have n4 : ¬ form = "truth" := fun e => c4 (decide_eq_true (by rw [e]))
    refine ⟨_, rfl, _, rfl, rfl, ?_⟩
    have e : hasForm form z = decide (V.str z = V.str form) := by
      unfold hasForm
      rw [if_neg n1, if_neg n2, if_neg n3, if_neg n4]
      by_cases h : z = form
      · rw [decide_eq_true h, decide_eq_true (by rw [h])]
      · rw [decide_eq_false h, decide_eq_false (fun y => h (V.str.inj y))]
    have q1 := q H (Same.refl H)
    rw [e] at q1
    exact q1
/-- words_of: a text's words, or BadText(0, 0) -/
def spWordsOf (K : PySem.W.Frag) (CB : Addr) : Sp := fun vs H Q E => ∃ v, vs = [v] ∧ ((∃ z : Str, v = .str z ∧ z.length ≤ 2000 ∧ ∀ (H' : Hp) (a : Addr), Same H H' → H a = none → H' a = some (.lst ((Txt.split z " ").map V.str)) → Q (.ref a) H') ∨
  (∃ t, TyX K H v t ∧ PySem.W.kitOne K t (.type "str") = some false ∧ ∀ d H', Same H H' → H' d = some (.xd [("word", .int 0), ("line", .int 0)]) → E (.ref CB) (some d) H'))
theorem ok_wordsOf {CB f fB : Addr} {fd fdB : FuncData} (F : Fun K "words_of" "words_of" sWordsOf f fd) (W : Words K mg) (O : TwoE K mg "BadText" "line" "word" CB fB fdB) (GB : FnOk P w K mg base CX0 1 fB fdB ["self", "line", "word"] (spTwoE CB "line" "word")) :
    FnOk P w K mg base (L2.CX P w) 3 f fd ["text"] (spWordsOf K CB) := by
  refine F.okX scWordsOf (fun vs H Q E h => ?_) (fun cdv A outer s H vs Q E hr h => ?_)
  · obtain ⟨v, rfl, _⟩ := h
    rfl
  · obtain ⟨v, rfl, h⟩ := h
    refine ⟨_, pss_cons (ps_if (pt_not (pt_val (pe_callB call_isi (by rfl) W.isi (by decide +kernel) (pa_cons (pv 0) (pa_cons (pe_bltn (v := .ty "str") (by rfl) W.str (by decide +kernel) rfl) pa_nil)))))
        (pss_one (ps_raiseTwo O GB rfl hr (takes_of rfl rfl rfl rfl) (by rfl) (pa_cons pe_int (pa_cons pe_int pa_nil)))) pss_nil)
      (pss_one (ps_ret (pe_split (pv 0) pe_str))), ?_⟩
    rcases h with ⟨z, rfl, hz, q⟩ | ⟨t, ty, hk, q⟩
    · refine ⟨_, rfl, _, _, _, _, true, rfl, .ty "str", .base (.str z), kit_str_str, true, rfl, iteF ?_⟩
      refine ⟨_, rfl, ⟨_, rfl⟩, _, _, rfl, rfl, by decide, Nat.le_trans (Nat.add_le_add_right hz 2) (by decide), fun p hp => ?_⟩
      exact q _ p (same_upd0 hp) hp upd_same
    · refine ⟨_, rfl, _, _, _, _, false, rfl, .ty "str", ty, hk, false, rfl, iteT ?_⟩
      exact mkTwoV rfl fun d H' s _ e => q d H' s e
/-- first_wrong -/
def spFirst (K : PySem.W.Frag) : Sp := fun vs H Q _ => ∃ (a ft : Addr) (ws fs : List Str), vs = [.ref a, .ref ft] ∧ SqL K H a (ws.map V.str) ∧ SqT K H ft (fs.map V.str) ∧ (∀ H', Same H H' → SqL K H' a (ws.map V.str)) ∧ (∀ H', Same H H' → SqT K H' ft (fs.map V.str)) ∧ (∀ z ∈ ws, z.length ≤ 2000) ∧
  ∀ H', Same H H' → Q (optV (fw ws fs 0)) H'
theorem ok_first {f fH : Addr} {fd fdH : FuncData} (F : Fun K "first_wrong" "first_wrong" sFirst f fd) (W : Words K mg) (me : mg "enumerate" = none) (FH : Fun K "has_form" "has_form" sHasForm fH fdH) (bH : Binds K fdH ["word", "form"] []) (gH : mg "has_form" = some (.ref fH))
    (GH : FnOk P w K mg base CX0 2 fH fdH ["word", "form"] spHasForm) : FnOk P w K mg base CX0 3 f fd ["words", "forms"] (spFirst K) := by
  refine F.ok scFirst (fun vs H Q E h => ?_) (fun cdv A outer s H vs Q E hr h => ?_)
  · obtain ⟨_, _, _, _, rfl, _⟩ := h
    rfl
  · obtain ⟨a, ft, ws, fs, rfl, ha0, hf0, ha, hf, hz, q⟩ := h
    refine ⟨_, pss_cons (ps_for PassesOwn.never rfl (pi_enumT (by rfl) me (pa_cons (pv 1) pa_nil)) (pg_tup rfl (pgs_cons (pg_name (i := 2) scFirst.nd rfl (Or.inl rfl)) (pgs_cons (pg_name (i := 3) scFirst.nd rfl (Or.inl rfl)) pgs_nil)))
        (pss_one (ps_if (PW.pt (pw_or (pt_cmpR op_eq (pv 2) (pe_callB call_len_seq (by rfl) W.len PySem.boot_len (pa_cons (pv 0) pa_nil)) (nomark _)) (pw_or1 (pt_not (pt_val (pe_call GH hr (by rfl) gH FH.kp bH .nil pass0 (pa_cons (pe_ix ix_list (pv 0) (pv 2) (fun _ _ => rfl)) (pa_cons (pv 3) pa_nil))))))))
          (pss_one (ps_ret (pv 2))) pss_nil)))
      (pss_cons (ps_if (pt_cmpR op_gt (pe_callB call_len_seq (by rfl) W.len PySem.boot_len (pa_cons (pv 0) pa_nil)) (pe_callB call_len_seq (by rfl) W.len PySem.boot_len (pa_cons (pv 1) pa_nil)) (nomark _)) (pss_one (ps_ret (pe_callB call_len_seq (by rfl) W.len PySem.boot_len (pa_cons (pv 1) pa_nil)))) pss_nil)
      (pss_one (ps_ret pe_non))), ?_⟩
    refine ⟨_, rfl, ft, _, rfl, hf0, for_it walk_enumT (fun i σ H' => (∃ x2 x3, σ = [some (.ref a), some (.ref ft), x2, x3]) ∧ Same H H' ∧ i ≤ ws.length ∧ fw (ws.drop i) (fs.drop i) i = fw ws fs 0) ⟨⟨_, _, rfl⟩, Same.refl H, Nat.zero_le _, rfl⟩ (fun _ _ _ _ y => hf _ y.2.1) ?_ ?_⟩
    · rintro i x σ H1 H2 hi ⟨⟨x2, x3, rfl⟩, s1, hle, hfw⟩ ⟨t, u, y, rfl, ht, rfl, hu, hy⟩
      cases hu
      replace hy : (fs.map V.str)[i]? = some y := hy
      rw [List.getElem?_map] at hy
      obtain ⟨fm, hfm, rfl⟩ : ∃ fm, fs[i]? = some fm ∧ y = .str fm := by
        cases e : fs[i]? with
        | none => rw [e] at hy; cases hy
        | some m => rw [e] at hy; exact ⟨m, rfl, (Option.some.inj hy).symm⟩
      have s2 := s1.trans (same_upd0 (o := .tup [.int (i : Nat), .str fm]) ht)
      have ef : fs.drop i = fm :: fs.drop (i + 1) := by
        obtain ⟨hlt, e⟩ := List.getElem?_eq_some_iff.mp hfm
        rw [List.drop_eq_getElem_cons hlt, e]
      refine ⟨t, _, rfl, SqT.of upd_same, rfl, _, _, rfl, _, _, rfl, rfl, ?_⟩
      refine ⟨_, rfl, _, rfl, a, _, rfl, .inl (ha _ s2), rfl, _, rfl, ite2 (fun c => ?_) (fun c => ?_)⟩
      · have c' : ((i : Nat) : Int) = (((ws.map V.str).length : Nat) : Int) := V.int.inj (of_decide_eq_true c)
        rw [List.length_map] at c'
        have c2 : i = ws.length := by omega
        have : fw ws fs 0 = some i := by
          rw [← hfw, ef, List.drop_of_length_le (by omega)]
          rfl
        have q1 := q _ s2
        rw [this] at q1
        exact ⟨_, rfl, q1⟩
      · have c' : ¬ ((i : Nat) : Int) = (((ws.map V.str).length : Nat) : Int) := fun e => c (decide_eq_true (by rw [e]))
        rw [List.length_map] at c'
        have hlt : i < ws.length := by omega
        have ew : ws.drop i = ws[i] :: ws.drop (i + 1) := List.drop_eq_getElem_cons hlt
        have hzi : ws[i].length ≤ 2000 := hz _ (List.getElem_mem hlt)
        refine ⟨_, rfl, _, rfl, a, _, _, _, rfl, rfl, ha _ s2, atI_nat (j := i) (by rw [List.getElem?_map, List.getElem?_eq_getElem hlt]; rfl), _, rfl, ws[i], fm, rfl, hzi, fun H3 s3 => ⟨_, rfl, ?_⟩⟩
        have s13 := s2.trans s3
        rw [ef, ew, fw_cons] at hfw
        cases hg : hasForm fm ws[i] with
        | false =>
          rw [hg, if_neg Bool.false_ne_true] at hfw
          have q1 := q _ s13
          rw [← hfw] at q1
          exact iteT ⟨_, rfl, q1⟩
        | true =>
          rw [hg, if_pos rfl] at hfw
          exact iteF ⟨⟨_, _, rfl⟩, s13, hlt, hfw⟩
    · rintro σ H1 ⟨⟨x2, x3, rfl⟩, s1, hle, hfw⟩
      rw [List.length_map] at hle hfw
      rw [List.drop_of_length_le (Nat.le_refl fs.length)] at hfw
      refine ⟨_, rfl, a, _, rfl, .inl (ha _ s1), _, rfl, ft, _, rfl, .inr (hf _ s1), _, _, rfl, rfl, _, rfl, ite2 (fun c => ?_) (fun c => ?_)⟩
      · have c' : (((fs.map V.str).length : Nat) : Int) < (((ws.map V.str).length : Nat) : Int) := of_decide_eq_true c
        rw [List.length_map, List.length_map] at c'
        have : fw ws fs 0 = some fs.length := by
          rw [← hfw, fw_end]
          rw [if_neg (by rw [List.isEmpty_iff]; intro e; have := congrArg List.length e; rw [List.length_drop] at this; simp at this; omega)]
        have q1 := q _ s1
        rw [this] at q1
        refine ⟨_, rfl, ft, _, rfl, .inr (hf _ s1), ?_⟩
        rw [List.length_map]
        exact q1
      · have c' : ¬ (((fs.map V.str).length : Nat) : Int) < (((ws.map V.str).length : Nat) : Int) := fun e => c (decide_eq_true e)
        rw [List.length_map, List.length_map] at c'
        have : fw ws fs 0 = none := by
          rw [← hfw, List.drop_of_length_le (by omega)]
          rfl
        have q1 := q _ s1
        rw [this] at q1
        exact q1
end
end K15

namespace K15
open PySem PySem.Spec PyProof.Rows L2 So
theorem form_num {form z : Str} (h : hasForm form z = true) (hf : form = "moment" ∨ form = "beginning") : isNum z = true := by
  rcases hf with rfl | rfl
  · exact h
  · have h : (isNum z && !decide (z = ("0" : Str))) = true := h
    rw [Bool.and_eq_true] at h
    exact h.1
/-- what the words say, each by its form -/
def valsOf (ws fs : List Str) : List V := (ws.zip fs).map fun p => valOf p.2 p.1
section
variable {P : Program} {w : World} {K : PySem.W.Frag} {mg : Str → Option Value} {base : Heap}
def spValueOf : Sp := fun vs H Q _ => ∃ z form : Str, vs = [.str z, .str form] ∧ z.length ≤ 2000 ∧ (form = "moment" ∨ form = "beginning" → isNum z = true) ∧ ∀ H', Same H H' → Q (valOf form z) H'
theorem ok_valueOf {f : Addr} {fd : FuncData} (F : Fun K "value_of" "value_of" sValueOf f fd) (W : Words K mg) : FnOk P w K mg base CX0 1 f fd ["word", "form"] spValueOf := by
  refine F.ok scValueOf (fun vs H Q E h => ?_) (fun cdv A outer s H vs Q E hr h => ?_)
  · obtain ⟨z, form, rfl, _⟩ := h
    rfl
  · obtain ⟨z, form, rfl, hz, hn, q⟩ := h
    refine ⟨_, pss_cons (ps_if (pt_cmpR op_in_seq (pv 1) (pe_tup (pa_cons pe_str (pa_cons pe_str pa_nil))) (by rfl)) (pss_one (ps_ret (pe_callTy call_int_str (by rfl) W.int (by decide +kernel) (pa_cons (pv 0) pa_nil)))) pss_nil)
      (pss_cons (ps_if (pt_cmpR op_eq (pv 1) pe_str (nomark _)) (pss_one (ps_ret (pe_cmpR op_eq (pv 0) pe_str (nomark _)))) pss_nil)
      (pss_one (ps_ret (pv 0)))), ?_⟩
    refine ⟨_, rfl, by show 2 ≤ sizeLine; decide, fun t ht => ⟨t, _, rfl, .inr (SqT.of upd_same), rfl, flat_strs ["moment", "beginning"], ?_⟩⟩
    rw [show (if false = true then !inV (V.str form) [V.str "moment", V.str "beginning"] else inV (V.str form) [V.str "moment", V.str "beginning"]) = (["moment", "beginning"] : List Str).contains form from inV_strs form ["moment", "beginning"]]
    have s1 := same_upd0 (o := .tup [.str "moment", .str "beginning"]) ht
    refine ⟨_, rfl, ite2 (fun c => ?_) (fun c => ?_)⟩
    · have c' : form = "moment" ∨ form = "beginning" := by simpa using c
      obtain ⟨h1, h2, h3, _⟩ := isNum_le (hn c')
      have q1 := q _ s1
      unfold valOf at q1
      rw [if_pos c'] at q1
      exact ⟨_, rfl, z, _, rfl, int_of h1 h2 h3, by omega, q1⟩
    · have c' : ¬ (form = "moment" ∨ form = "beginning") := fun e => c (by simpa using e)
      have q1 := q _ s1
      unfold valOf at q1
      rw [if_neg c'] at q1
      refine ⟨_, rfl, rfl, _, rfl, ite2 (fun c2 => ?_) (fun c2 => ?_)⟩
      · rw [if_pos (V.str.inj (of_decide_eq_true c2))] at q1
        refine ⟨_, rfl, rfl, ?_⟩
        have : (decide (V.str z = V.str ("sound" : Str))) = decide (z = ("sound" : Str)) := by
          by_cases h : z = ("sound" : Str)
          · rw [decide_eq_true h, decide_eq_true (by rw [h])]
          · rw [decide_eq_false h, decide_eq_false (fun y => h (V.str.inj y))]
        rw [this]
        exact q1
      · rw [if_neg (fun e => c2 (decide_eq_true (by rw [e])))] at q1
        exact ⟨_, rfl, q1⟩
/-- told_by -/
def spTold (K : PySem.W.Frag) (CB : Addr) : Sp := fun vs H Q E => ∃ (line : Int) (a ft : Addr) (ws fs : List Str), vs = [.int line, .ref a, .ref ft] ∧ H a = some (.lst (ws.map V.str)) ∧ SqT K H ft (fs.map V.str) ∧ (∀ H' : Hp, Same H H' → SqT K H' ft (fs.map V.str)) ∧ (∀ z ∈ ws, z.length ≤ 2000) ∧ fs.length ≤ 100 ∧
  (fw ws fs 0 = none → ∀ (H' : Hp) (l : Addr), Same H H' → H l = none → H' l = some (.lst (valsOf ws fs)) → Q (.ref l) H') ∧
  ∀ n : Nat, fw ws fs 0 = some n → ∀ d H', Same H H' → H' d = some (.xd [("word", .int (n : Nat)), ("line", .int line)]) → E (.ref CB) (some d) H'
theorem ok_told {CB f fB fF fV : Addr} {fd fdB fdF fdV : FuncData} (F : Fun K "told_by" "told_by" sTold f fd) (mz : mg "zip" = none) (O : TwoE K mg "BadText" "line" "word" CB fB fdB) (GB : FnOk P w K mg base CX0 1 fB fdB ["self", "line", "word"] (spTwoE CB "line" "word"))
    (FF : Fun K "first_wrong" "first_wrong" sFirst fF fdF) (bF : Binds K fdF ["words", "forms"] []) (gF : mg "first_wrong" = some (.ref fF)) (GF : FnOk P w K mg base CX0 3 fF fdF ["words", "forms"] (spFirst K))
    (FV : Fun K "value_of" "value_of" sValueOf fV fdV) (bV : Binds K fdV ["word", "form"] []) (gV : mg "value_of" = some (.ref fV)) (GV : FnOk P w K mg base CX0 1 fV fdV ["word", "form"] spValueOf) :
    FnOk P w K mg base (L2.CX P w) 4 f fd ["line", "words", "forms"] (spTold K CB) := by
  refine F.okX scTold (fun vs H Q E h => ?_) (fun cdv A outer s H vs Q E hr h => ?_)
  · obtain ⟨_, _, _, _, _, rfl, _⟩ := h
    rfl
  · obtain ⟨line, a, ft, ws, fs, rfl, ha, hf0, hf, hz, h100, qy, qn⟩ := h
    have hr1 : Room 1 _ := hr.mono (by decide)
    have hr2 : Room 2 _ := hr.mono (by decide)
    refine ⟨_, pss_cons (ps_set (i := 3) scTold.nd rfl (.inl rfl) (pe_call GF hr (by rfl) gF FF.kp bF .nil pass0 (pa_cons (pv 1) (pa_cons (pv 2) pa_nil))))
      (pss_cons (ps_if (pt_cmpR op_notN (pv 3) pe_non (nomark _)) (pss_one (ps_raiseTwo O GB rfl hr2 (takes_of rfl rfl rfl rfl) (by rfl) (pa_cons (pv 0) (pa_cons (pv 3) pa_nil)))) pss_nil)
      (pss_one (ps_ret (pe_lc (own := [("word", 4), ("form", 5)]) (g := gTup K 2 (gCons (gName 4) (gCons (gName 5) gNil))) (tt := tYes) rfl scTold.nd (pi_zipLT (by rfl) mz (pa_cons (pv 1) (pa_cons (pv 2) pa_nil))) (blkOk_by (N := ["line", "words", "forms", "wrong", "word", "form"]) (sc := defScope sTold) (by decide +kernel))
        (fun _ _ _ _ _ => pg_tup rfl (pgs_cons (pg_name (i := 4) scTold.nd rfl (Or.inl rfl)) (pgs_cons (pg_name (i := 5) scTold.nd rfl (Or.inl rfl)) pgs_nil))) (fun _ _ _ _ _ => pts_nil)
        (fun _ _ _ _ _ => pe_call GV hr1 (by rfl) gV FV.kp bV .nil pass0 (pa_cons (pv 4) (pa_cons (pv 5) pa_nil))))))), ?_⟩
    refine ⟨_, rfl, _, rfl, a, ft, ws, fs, rfl, SqL.of ha, hf0, fun _ s => SqL.of (s _ _ ha), hf, hz, fun H1 s1 => ?_⟩
    cases hw : fw ws fs 0 with
    | some n =>
      refine ⟨_, rfl, rfl, _, rfl, ite2 (fun _ => ?_) (fun e => absurd rfl e)⟩
      exact ⟨_, rfl, _, rfl, mkTwoV rfl fun d H' s _ e => qn n hw d H' (s1.trans s) e⟩
    | none =>
      refine ⟨_, rfl, rfl, _, rfl, ite2 (fun e => nomatch e) (fun _ => ?_)⟩
      obtain ⟨hlen, hall⟩ := fw_none hw
      refine ⟨_, rfl, _, rfl, a, ft, _, _, rfl, SqL.of (s1 _ _ ha), hf _ s1, fun D hD => ?_⟩
      refine lc_it (walk_zipLT rfl) (fun i H' => Same H1 H' ∧ H' D = some (.lst (valsOf (ws.take i) (fs.take i)))) ⟨same_upd0 hD, upd_same⟩ (fun _ _ _ y => ⟨SqL.of (y.1 _ _ (s1 _ _ ha)), hf _ (s1.trans y.1)⟩) ?_ ?_
      · rintro i x H2 H3 hi ⟨s2, hDi⟩ ⟨T0, u, y, rfl, hT0, rfl, hu, hy⟩
        replace hu : (ws.map V.str)[i]? = some u := hu
        replace hy : (fs.map V.str)[i]? = some y := hy
        rw [List.getElem?_map] at hu hy
        obtain ⟨wm, hwm, rfl⟩ : ∃ wm, ws[i]? = some wm ∧ u = .str wm := by
          cases e : ws[i]? with
          | none => rw [e] at hu; cases hu
          | some m => rw [e] at hu; exact ⟨m, rfl, (Option.some.inj hu).symm⟩
        obtain ⟨fm, hfm, rfl⟩ : ∃ fm, fs[i]? = some fm ∧ y = .str fm := by
          cases e : fs[i]? with
          | none => rw [e] at hy; cases hy
          | some m => rw [e] at hy; exact ⟨m, rfl, (Option.some.inj hy).symm⟩
        have s3 := s2.trans (same_upd0 (o := .tup [.str wm, .str fm]) hT0)
        have hD3 := (same_upd0 (o := .tup [.str wm, .str fm]) hT0) _ _ hDi
        have hg := hall i wm fm hwm hfm
        refine ⟨T0, _, rfl, SqT.of upd_same, rfl, _, _, rfl, _, _, rfl, rfl, rfl, _, rfl, _, rfl, wm, fm, rfl, hz _ (List.mem_of_getElem? hwm), form_num hg, fun H4 s4 => ⟨_, s4 _ _ hD3, ?_, Same.over (s3.trans s4) hD, ?_⟩⟩
        · unfold valsOf
          rw [List.length_map, List.length_zip, List.length_take, List.length_take]
          have := sizeLine_eq
          omega
        · rw [upd_same]
          have e1 : ws.take (i + 1) = ws.take i ++ [wm] := by rw [List.take_add_one, hwm]; rfl
          have e2 : fs.take (i + 1) = fs.take i ++ [fm] := by rw [List.take_add_one, hfm]; rfl
          have lw : i < ws.length := (List.getElem?_eq_some_iff.mp hwm).1
          have lf : i < fs.length := (List.getElem?_eq_some_iff.mp hfm).1
          unfold valsOf
          rw [e1, e2, List.zip_append (by rw [List.length_take, List.length_take]; omega), List.map_append]
          rfl
      · rintro H2 ⟨s2, hDi⟩
        rw [List.length_map, List.length_map, List.take_of_length_le (by omega), List.take_of_length_le (by omega)] at hDi
        exact qy hw _ D (s1.trans s2) (s1.free hD) hDi
end
end K15

/-! x, *y = a list -/
namespace So
open PySem PySem.Spec PySem.Calls PyProof.Rows L2
section
variable {prog : Program} {w : World} {A : Around} {E : Value → Shared → Prop} {s : Shared}
theorem unpack_starL {l : Addr} {items : Array Value} {n i : Nat} {Q : List Value → Shared → Prop} (hl : s.heap.IsList l items) (hh : A.handled = none) (hi : i < n) (hn : n ≤ items.size + 1) (hz : items.size ≤ 16384)
    (h : ∀ h₂ tk, (∀ b o, b ≠ s.heap.objs.size → s.heap.get? b = some o → h₂.get? b = some o) →
      wpAny (model prog w) A (newList ((items.toList.drop i).take (items.size + 1 - n))) (fun d s' => Q (items.toList.take i ++ [d] ++ (items.toList.drop i).drop (items.size + 1 - n)) s') E { s with heap := h₂, toks := tk }) :
    wpAny (model prog w) A (unpackItems (.ref l) n (some i)) Q E s := by
  have hlt : l ≠ s.heap.objs.size := by obtain ⟨o, ho, _⟩ := hl; exact Nat.ne_of_lt (Heap.lt_size ho)
  have hll : l < s.heap.objs.size := by obtain ⟨o, ho, _⟩ := hl; exact Heap.lt_size ho
  unfold unpackItems
  refine wpAny_bind ?_
  unfold notIterableAtAll
  refine wpAny_bind (wpAny_specialOf hl.typeIs PySem.F.slot_list_iter.lookup ?_)
  refine wpAny_pure ?_
  simp only [Bool.false_eq_true, if_false]
  refine wpAny_bind (wpAny_holding (wpAny_pyIter_list hl ?_))
  refine wpAny_bind (wpAny_holding (PySem.W.kun_draw hlt i 0 _ _ ⟨_, Heap.get?_push_size _ rfl, rfl, rfl⟩ (hl.push _) (by omega) fun h₁ hit₁ hs₁ => ?_))
  have hl₁ : h₁.IsList l items := (hl.push _).extBut hs₁.extBut hlt
  rw [Nat.zero_add] at hit₁
  have hit₁' := hit₁
  obtain ⟨oi, hoi, _⟩ := hit₁'
  have hl₁' := hl₁
  obtain ⟨ol, hol, _⟩ := hl₁'
  rw [List.drop_zero]
  have hfl : (items.toList.take i).length = i := by rw [List.length_take, Array.length_toList]; omega
  rw [if_neg (show ¬ ((items.toList.take i).length < i) by rw [hfl]; omega)]
  refine wpAny_bind (wpAny_holding (PySem.W.kun_collect (s := { s with heap := h₁ }) (T := "list_iterator") (.inr (.inr (.inl rfl))) (Walks.list (A := A.in1) hh s.heap.objs.size l hlt items) (fun j u st => st.1.typeIs) (k := i) (by omega) ⟨hit₁, hl₁⟩ (Heap.lt_size hoi) (Heap.lt_size hol) (fun h₂ tk hk => ?_) (by rw [sizeLine_eq]; omega)))
  have hrl : (items.toList.drop i).length = items.size - i := by rw [List.length_drop, Array.length_toList]
  have hmid : (items.toList.drop i).length - (n - 1 - i) = items.size + 1 - n := by rw [hrl]; omega
  show wpAny _ _ (if (items.toList.drop i).length < n - 1 - i then _ else _) _ _ _
  rw [if_neg (by rw [hrl]; omega)]
  show wpAny _ _ (newList ((items.toList.drop i).take ((items.toList.drop i).length - (n - 1 - i))) >>= fun d => pure (items.toList.take i ++ [d] ++ (items.toList.drop i).drop ((items.toList.drop i).length - (n - 1 - i)))) _ _ _
  rw [hmid]
  have he : Heap.ExtBut s.heap.objs.size s.heap h₂ := fun b o hb e => hk b o hb (hs₁.extBut b o hb (Heap.get?_push_of_some _ e))
  exact wpAny_bind (wpAny_mono (h h₂ tk he) (fun d s' z => wpAny_pure z) fun _ _ z => z)
end
section
variable {X : Cx} {t0 t1 : Expr} {t : TGs} {k : Nat} {pos p3 : Pos}
theorem pg_star (hc : X.calm = true) (h : PGs X [t0, t1] t) (he : (assignEach [t0, .Starred t1 p3] X.env).map (·.2) = (assignEach [t0, t1] X.env).map (·.2) := by rfl) (hn : (assignEach [t0, .Starred t1 p3] X.env).length = 2 := by rfl)
    (hst : (assignEach [t0, .Starred t1 p3] X.env).findIdx? (·.1) = some 1 := by rfl) :
    PG X (.Tuple [t0, .Starred t1 p3] k pos) (fun v σ H Q => ∃ a x xs, v = .ref a ∧ SqL X.K H a (x :: xs) ∧ xs.length ≤ 1000 ∧ ∀ D, H D = none → t [x, .ref D] σ (upd H D (.lst xs)) Q) := by
  refine ⟨fun pins s σ H v u Q I r hw => ?_⟩
  obtain ⟨a, x, xs, rfl, hq, hz, hw⟩ := hw
  cases r
  obtain ⟨its, rv, hl, _⟩ := I.list hq
  cases rv with
  | @cons _ u0 _ us r1 r2 =>
    rw [assign_Tuple]
    refine wpAny_bind (wpAny_standAt ?_)
    unfold unpack
    rw [hn, hst, he]
    have hlen := r2.length
    refine wpAny_bind (wpAny_holding (unpack_starL (isL hl) (I.ok.hd hc) (by decide) (by simp) (by simp; omega) fun h₂ tk hx => ?_))
    have I1 : Inv X pins σ H { s with heap := h₂, toks := tk } := I.kept (t' := tk) fun b o e => hx b o (Nat.ne_of_lt (Heap.lt_size e)) e
    have hd : ((u0 :: us).toArray.toList.drop 1).take ((u0 :: us).toArray.size + 1 - 2) = us := by simp
    rw [hd]
    refine wpAny_newList ?_ (by rw [sizeLine_eq]; omega)
    have hf : H h₂.objs.size = none := I1.hok.fresh (Nat.le_refl _)
    have I2 : Inv X pins σ (upd H h₂.objs.size (.lst xs)) { s with heap := h₂.push { cls := .type "list", data := .seq us.toArray }, toks := tk } :=
      I1.laid (t' := tk) (fun b u e => Heap.get?_push_of_some _ e) (Nat.le_refl _) ⟨by rw [sizeLine_eq]; omega, us, 0, r2, Heap.get?_push_size _ rfl⟩
    have el : (u0 :: us).toArray.toList.take 1 ++ [Value.ref h₂.objs.size] ++ List.drop ((u0 :: us).toArray.size + 1 - 2) (List.drop 1 (u0 :: us).toArray.toList) = [u0, .ref h₂.objs.size] := by simp
    show wpAny _ _ (assignInOrder _ ((u0 :: us).toArray.toList.take 1 ++ [Value.ref h₂.objs.size] ++ List.drop ((u0 :: us).toArray.size + 1 - 2) (List.drop 1 (u0 :: us).toArray.toList))) _ _ _
    rw [el]
    exact h.run pins _ σ _ [x, .ref h₂.objs.size] [u0, .ref h₂.objs.size] Q I2 (.cons r1 (.cons rfl .nil)) (hw _ hf)
end
end So

namespace So
open PySem PySem.Spec PyProof.Rows L2
section
variable {X : Cx} {CX : CXT} {k : Nat} {C p g : Addr} {mc : Value} {fd : FuncData} {ps : List Str} {sp : Sp} {E : L2.St → XK} {o e : Expr} {es : List Expr} {m : Str} {pos apos : Pos} {ta : TE} {t : TA} {pl : Sem Bool}
/-- C.m(e, ..), m a classmethod, in a try's body -/
theorem pe_cmethS (he : PE X o ta) (r : ClX.CRead X.K C mc) (c : ClX.CMet X.K C mc m p g) (F : FnOk X.prog X.w X.K X.mg X.base CX k g fd ps sp) (hb : Binds X.K fd ps []) (hr : Room k X.A) (hx : ∀ σ, PassesAt CX X σ (E σ)) (ha : PA X (e :: es) t)
    (hst : starEach (e :: es) X.env = (false, eval e X.env) :: starEach es X.env := by rfl) (hpl : (backTo pos (starEach es X.env)).any (·.1) = false := by rfl)
    (ht : eval (.Call (.Attribute o m apos) (e :: es) [] pos) X.env = (do
      let ov ← eval o X.env
      standAt apos.atName
      let (f, first) ← holding [ov] (getMethod ov m pl)
      callWith pos f first (backTo pos (starEach (e :: es) X.env)) (backToKw pos (keywordEach [] X.env))) := by rfl) :
    PE X (.Call (.Attribute o m apos) (e :: es) [] pos) (fun σ H Q => ta σ H fun x H1 => x = .ref C ∧ t σ H1 fun vs H2 => sp (.ref C :: vs) H2 Q (E σ)) := by
  refine ⟨fun pins s σ H Q I h => ?_⟩
  refine PySem.W.methodCall_KW (pl := pl) (thn (he.run pins s σ H _ I h) fun u s1 ⟨x, H1, I1, rx, ex, q⟩ => ?_) ht
  subst ex
  obtain rfl : u = Value.ref C := rx
  refine ClX.getmethcm_ok I1 r c fun s2 I2 => ?_
  refine ClX.callwith_cm I2 (ClX.base_none I1 (Nat.le_refl _)) c.fi (thn (ha.run pos _ s2 σ H1 _ I2 q) fun us s3 ⟨vs, H2, I3, rv, q2⟩ => ⟨⟨ClX.pin_at I3, I3.kIn⟩, ?_⟩) hst hpl
  have z : wpAny (model X.prog X.w) X.A (call (.ref s1.heap.objs.size) us) (EP X ((s1.heap.objs.size, PySem.W.methodObj (.ref g) (.ref C)) :: pins) σ Q) X.xe s3 := by
    refine wpAny_call (PySem.W.method_call (ClX.pin_at I3) ?_)
    have hl : (Value.ref C :: us).length = ps.length := by rw [← F.len _ _ _ _ q2, List.length_cons, List.length_cons, rv.length]
    have b := hb s3 (.ref C :: us) I3.kIn (by rw [List.append_nil]; exact hl)
    rw [List.append_nil] at b
    refine codeAny_mono (F.run X.A X.stack s3 H2 ⟨.ref C :: us, []⟩ (.ref C :: us) (.ref C :: vs) Q (E σ) hr I3.env0 b (.cons rfl rv) q2) fun r s' hq => ?_
    cases r with
    | error e => exact hx σ _ H2 s3 e s' I3 hq
    | ok fl =>
      cases fl with
      | ret u => exact I3.after hq
      | next => exact False.elim hq
      | brk => exact False.elim hq
      | cont => exact False.elim hq
  exact thn z fun _ _ y => ClX.unpinE y
end
end So

namespace K15
open PySem PySem.Spec PyProof.Rows L2 So LamX StX TL
abbrev sReadRow : Stmt := topS 43
abbrev sRowRead : Stmt := inClass (topS 28) 1
theorem scReadRow : FnScope ["line", "words", "kind", "_", "told"] ["line", "words"] (defScope sReadRow) := ⟨rfl, rfl, rfl, by decide +kernel, rfl, by decide +kernel, by decide +kernel⟩
theorem scRowRead : FnScope ["cls", "text"] ["cls", "text"] (defScope sRowRead) := ⟨rfl, rfl, rfl, by decide +kernel, rfl, by decide +kernel, by decide +kernel⟩
/-- the first word of a row's words that cannot stand -/
def rowBad : List Str → Option Nat
  | [] => some 0
  | kind :: as => if kinds.contains kind = true then fw (kind :: as) (kind :: formsOf kind) 0 else some 0
theorem foldl_ge : ∀ (cs : List Nat) (a : Nat), NumText.AllDigits cs → a ≤ cs.foldl (fun acc c => acc * 10 + (c - 48)) a
  | [], a, _ => Nat.le_refl _
  | c :: cs, a, h => by
    rw [List.foldl_cons]
    exact Nat.le_trans (by omega) (foldl_ge cs (a * 10 + (c - 48)) h.tail)
theorem num_pos {z : Str} (h : isNum z = true) (h0 : ¬ z = ("0" : Str)) : 1 ≤ numOf z := by
  have h' := h
  unfold isNum at h'
  simp only [Bool.and_eq_true, Bool.or_eq_true, decide_eq_true_eq] at h'
  obtain ⟨⟨⟨l1, _⟩, hd⟩, h3⟩ := h'
  have hall := all_dig hd
  rcases h3 with e | ⟨e, _⟩
  · exact absurd e h0
  · unfold numOf NumText.digitsVal
    cases q : z.cps.toList with
    | nil =>
      have : z.length = z.cps.toList.length := Array.length_toList.symm
      rw [q] at this
      simp at this
      omega
    | cons c r =>
      rw [q] at e hall
      have hc := hall.head
      have e : c ≠ 48 := e
      rw [List.foldl_cons]
      exact Nat.le_trans (by omega) (foldl_ge r _ hall.tail)
theorem val_ok {f z : Str} (hf : f ∈ (["name", "moment", "beginning", "truth"] : List Str)) (h : hasForm f z = true) : okF f (valOf f z) = true := by
  simp only [List.mem_cons, List.not_mem_nil, or_false] at hf
  rcases hf with e | e | e | e <;> subst e
  · rw [okF_n]; exact h
  · rw [okF_m]
    have h : isNum z = true := h
    have := (isNum_le h).2.2.2
    exact decide_eq_true ⟨by omega, this⟩
  · rw [okF_b]
    have h : (isNum z && !decide (z = ("0" : Str))) = true := h
    rw [Bool.and_eq_true] at h
    have h0 : ¬ z = ("0" : Str) := by simpa using h.2
    have := (isNum_le h.1).2.2.2
    have := num_pos h.1 h0
    exact decide_eq_true ⟨by omega, by omega⟩
  · rw [okF_t]; rfl
theorem ok_flat {f : Str} {v : V} (hf : f ∈ (["name", "moment", "beginning", "truth"] : List Str)) (o : okF f v = true) : Flat1 v := by
  simp only [List.mem_cons, List.not_mem_nil, or_false] at hf
  rcases hf with e | e | e | e <;> subst e
  · rw [okF_n] at o
    cases v with
    | str z => exact .nam o
    | _ => cases o
  · rw [okF_m] at o
    cases v with
    | int i => exact .mom (of_decide_eq_true o)
    | _ => cases o
  · rw [okF_b] at o
    cases v with
    | int i => have : 1 ≤ i ∧ i ≤ 1000000000000000000000000000000 := of_decide_eq_true o; exact .mom ⟨by omega, this.2⟩
    | _ => cases o
  · rw [okF_t] at o
    cases v with
    | bl b => exact .tru b
    | _ => cases o
theorem none_bad {CN CM CS : Addr} : ∀ {l : List (V × Str)}, (∀ q ∈ l, okF q.2 q.1 = true) → badL CN CM CS l = none
  | [], _ => rfl
  | (v, f) :: r, h => by
    unfold badL
    rw [if_pos (h (v, f) List.mem_cons_self)]
    exact none_bad fun q hq => h q (List.mem_cons_of_mem _ hq)
theorem flat_bad {CN CM CS : Addr} {kind : Str} {xs : List V} (h : FlatRow kind xs) : badL CN CM CS (xs.zip (formsOf kind)) = none := none_bad fun q hq => (h.2 q hq).1
/-- the words of a row that stands tell a row that stands -/
theorem read_flat {kind : Str} {as : List Str} (hk : kind ∈ kinds) (h : fw (kind :: as) (kind :: formsOf kind) 0 = none) : FlatRow kind (valsOf as (formsOf kind)) := by
  obtain ⟨hlen, hall⟩ := fw_none h
  have hf := forms_in kind hk
  have hl : as.length = (formsOf kind).length := by simpa using hlen
  refine ⟨by unfold valsOf; rw [List.length_map, List.length_zip, hl, Nat.min_self], fun q hq => ?_⟩
  obtain ⟨i, hi, e⟩ := List.mem_iff_getElem.mp hq
  have hz : ((valsOf as (formsOf kind)).zip (formsOf kind))[i]? = some q := by rw [List.getElem?_eq_getElem hi, e]
  obtain ⟨v, f⟩ := q
  rw [List.getElem?_zip_eq_some] at hz
  obtain ⟨h1, h2⟩ := hz
  have h2 : (formsOf kind)[i]? = some f := h2
  have h1 : (valsOf as (formsOf kind))[i]? = some v := h1
  unfold valsOf at h1
  rw [List.getElem?_map] at h1
  cases ez : (as.zip (formsOf kind))[i]? with
  | none => rw [ez] at h1; cases h1
  | some p =>
    rw [ez] at h1
    obtain ⟨a, f'⟩ := p
    have ez' := ez
    rw [List.getElem?_zip_eq_some] at ez'
    obtain ⟨g1, g2⟩ := ez'
    have g2 : (formsOf kind)[i]? = some f' := g2
    rw [h2] at g2
    cases g2
    have h1 : valOf f a = v := by simpa using h1
    subst h1
    have hff := hf f (List.mem_of_getElem? h2)
    have o := val_ok hff (hall (i + 1) a f (by simpa using g1) (by simpa using h2))
    exact ⟨o, ok_flat hff o⟩
theorem kind_form : ∀ kind ∈ kinds, (hasForm kind kind = true) ∧ valOf kind kind = .str kind := by decide +kernel
theorem kind_in {kind : Str} (h : kinds.contains kind = true) : kind ∈ kinds := List.contains_iff_mem.mp h
section
variable {P : Program} {w : World} {K : PySem.W.Frag} {mg : Str → Option Value} {base : Heap}
theorem flat_gv {v : V} (h : Flat1 v) (H : Hp) : ∃ T, Gv H v T := by
  cases h with
  | nam h => exact ⟨_, .str _ (Nat.le_trans (name_len h) (by decide))⟩
  | mom h => exact ⟨_, .int _⟩
  | tru b => exact ⟨_, .bl b⟩
/-- what the top says of Row, to those who read -/
structure RdK (K : PySem.W.Frag) (mg : Str → Option Value) (CR aK : Addr) : Prop where
  gR : mg "Row" = some (.ref CR)
  rd : ClX.CRead K CR (.type "type")
  kv : ClX.CVal K CR (.type "type") "KINDS" (.ref aK) (.ref aK)
  ks : ∀ H : Hp, SqT K H aK (kinds.map V.str)
def spReadRow (Cf : Str → Addr) (CB : Addr) : Sp := fun vs H Q E => ∃ (line : Int) (a : Addr) (ws : List Str), vs = [.int line, .ref a] ∧ H a = some (.lst (ws.map V.str)) ∧ ws ≠ [] ∧ (∀ z ∈ ws, z.length ≤ 2000) ∧
  (∀ kind as, ws = kind :: as → kind ∈ kinds → fw ws (kind :: formsOf kind) 0 = none → ∀ (H' : Hp) (b : Addr), Same H H' → RowAt Cf H' b kind (valsOf as (formsOf kind)) → Q (.ref b) H') ∧
  ∀ n : Nat, rowBad ws = some n → ∀ d H', Same H H' → H' d = some (.xd [("word", .int (n : Nat)), ("line", .int line)]) → E (.ref CB) (some d) H'
theorem ok_readRow {CN CM CS CB CR aK aF f fB fT fR : Addr} {Cf : Str → Addr} {fd fdB fdT fdR : FuncData} (F : Fun K "read_row" "read_row" sReadRow f fd) (RK : RdK K mg CR aK) (TF : Forms K w mg aF) (O : TwoE K mg "BadText" "line" "word" CB fB fdB) (GB : FnOk P w K mg base CX0 1 fB fdB ["self", "line", "word"] (spTwoE CB "line" "word"))
    (FT : Fun K "told_by" "told_by" sTold fT fdT) (bT : Binds K fdT ["line", "words", "forms"] []) (gT : mg "told_by" = some (.ref fT)) (GT : FnOk P w K mg base (L2.CX P w) 4 fT fdT ["line", "words", "forms"] (spTold K CB))
    (FR : Fun K "made_row" "made_row" sMadeRow fR fdR) (bR : Binds K fdR ["kind", "told"] []) (gR : mg "made_row" = some (.ref fR)) (GR : FnOk P w K mg base (L2.CX P w) 8 fR fdR ["kind", "told"] (spMadeRow K CN CM CS Cf)) :
    FnOk P w K mg base (L2.CX P w) 9 f fd ["line", "words"] (spReadRow Cf CB) := by
  refine F.okX scReadRow (fun vs H Q E h => ?_) (fun cdv A outer s H vs Q E hr h => ?_)
  · obtain ⟨_, _, _, rfl, _⟩ := h
    rfl
  · obtain ⟨line, a, ws, rfl, ha, hne, hz, qy, qn⟩ := h
    have hr2 : Room 2 _ := hr.mono (by decide)
    have hr4 : Room 4 _ := hr.mono (by decide)
    refine ⟨_, pss_cons (ps_set (i := 2) scReadRow.nd rfl (.inl rfl) (pe_ix ix_list (pv 1) pe_int (fun _ _ => rfl)))
      (pss_cons (ps_if (pt_cmpR op_notIn_seq (pv 2) (ClX.pe_cval (pe_glob (v := .ref CR) rfl RK.gR rfl)) (by rfl)) (pss_one (ps_raiseTwo O GB rfl hr2 (takes_of rfl rfl rfl rfl) (by rfl) (pa_cons (pv 0) (pa_cons pe_int pa_nil)))) pss_nil)
      (pss_cons (ps_asg (pe_call GT hr4 (by rfl) gT FT.kp bT .nil (passes_call (takes_of rfl rfl rfl rfl) (fun _ _ _ _ h => h)) (pa_cons (pv 0) (pa_cons (pv 1) (pa_cons (pe_tup (pa_cons (pv 2) (pa_star (pe_ix ix_kdict (pe_glob (v := .ref aF) rfl TF.mgF rfl) (pv 2) (fun _ _ => rfl)) pa_nil))) pa_nil))))
        (pg_star rfl (pgs_cons (pg_name (i := 3) scReadRow.nd rfl (Or.inl rfl)) (pgs_cons (pg_name (i := 4) scReadRow.nd rfl (Or.inl rfl)) pgs_nil))))
      (pss_one (ps_ret (pe_call GR hr (by rfl) gR FR.kp bR .nil (passes_call (takes_of rfl rfl rfl rfl) (fun _ _ _ _ h => h)) (pa_cons (pv 2) (pa_cons (pv 4) pa_nil))))))), ?_⟩
    obtain ⟨kind, as, rfl⟩ : ∃ kind as, ws = kind :: as := by
      cases ws with
      | nil => exact absurd rfl hne
      | cons k r => exact ⟨k, r, rfl⟩
    have hsz := sizeLine_eq
    refine ⟨_, rfl, a, _, 0, _, rfl, rfl, SqL.of ha, atI_nat (j := 0) rfl, ?_⟩
    refine ⟨_, rfl, CR, _, _, _, rfl, RK.rd, RK.kv, aK, _, rfl, .inr (RK.ks H), rfl, flat_strs kinds, ?_⟩
    rw [show (if true = true then !inV (V.str kind) (kinds.map V.str) else inV (V.str kind) (kinds.map V.str)) = !kinds.contains kind from by rw [if_pos rfl, inV_strs kind kinds]]
    refine ⟨_, rfl, ?_⟩
    cases hc : kinds.contains kind with
    | false =>
      refine iteT ?_
      refine ⟨_, rfl, mkTwoV rfl fun d H' s _ e => qn 0 (by show (if kinds.contains kind = true then _ else some 0) = some 0; rw [hc]; rfl) d H' s e⟩
    | true =>
      have hk := kind_in hc
      obtain ⟨fa, hd, hft⟩ := TF.tab kind hk
      have hrb : rowBad (kind :: as) = fw (kind :: as) (kind :: formsOf kind) 0 := by
        show (if kinds.contains kind = true then _ else some 0) = _
        rw [hc]
        rfl
      refine iteF ?_
      refine ⟨_, rfl, _, rfl, _, rfl, _, rfl, aF, kind, .ref fa, rfl, rfl, hd, fa, _, rfl, .inl (hft _), ?_⟩
      have h4 := forms_len kind hk
      refine ⟨by rw [List.append_nil, List.length_cons, List.length_map]; omega, fun tp htp => ?_⟩
      have e1 : V.str kind :: (((formsOf kind).map V.str) ++ []) = (kind :: formsOf kind).map V.str := by rw [List.append_nil]; rfl
      rw [e1]
      have s1 := same_upd0 (o := .tup ((kind :: formsOf kind).map V.str)) htp
      have ht1 : (upd H tp (.tup ((kind :: formsOf kind).map V.str))) tp = some (.tup ((kind :: formsOf kind).map V.str)) := upd_same
      have ha1 := s1 _ _ ha
      revert s1 ht1 ha1
      generalize upd H tp (.tup ((kind :: formsOf kind).map V.str)) = H1
      intro s1 ht1 ha1
      refine ⟨line, a, tp, kind :: as, kind :: formsOf kind, rfl, ha1, SqT.of ht1, fun _ s => SqT.of (s _ _ ht1), hz, by rw [List.length_cons]; omega, fun hw H2 l s2 nl hl => ?_, fun n hn d H' s e => qn n (by rw [hrb]; exact hn) d H' (s1.trans s) e⟩
      have hfl := read_flat hk hw
      have ev : valsOf (kind :: as) (kind :: formsOf kind) = .str kind :: valsOf as (formsOf kind) := by
        show valOf kind kind :: valsOf as (formsOf kind) = _
        rw [(kind_form kind hk).2]
      rw [ev] at hl
      have hle : (valsOf as (formsOf kind)).length ≤ 4 := by rw [hfl.1]; exact h4
      refine ⟨l, _, _, rfl, SqL.of hl, by omega, fun D hD => ?_⟩
      have s3 := s2.trans (same_upd0 (o := .lst (valsOf as (formsOf kind))) hD)
      refine ⟨_, _, rfl, _, _, rfl, rfl, ?_⟩
      refine ⟨_, rfl, _, rfl, D, kind, _, rfl, upd_same, hk, hfl.1, fun y hy => ?_, fun _ H3 b s4 B => qy kind as rfl hk hw H3 b ((s1.trans s3).trans s4) B, fun C fl v e => by rw [flat_bad hfl] at e; cases e⟩
      exact flat_gv (hfl.flat y hy) _
theorem fw_lt : ∀ {ws fs : List Str} {m n : Nat}, fw ws fs m = some n → n ≤ m + fs.length
  | ws, [], m, n, h => by
    rw [fw_end] at h
    split at h
    · cases h
    · cases h
      exact Nat.le_refl _
  | [], f :: fs, m, n, h => by
    simp [fw] at h
    omega
  | w :: ws, f :: fs, m, n, h => by
    rw [fw_cons] at h
    split at h
    · have := fw_lt h
      rw [List.length_cons]
      omega
    · cases h
      omega
/-- Row.read -/
def spRowRead (K : PySem.W.Frag) (Cf : Str → Addr) (CB : Addr) : Sp := fun vs H Q E => ∃ (C : Addr) (v : V), vs = [.ref C, v] ∧ ((∃ z : Str, v = .str z ∧ z.length ≤ 2000 ∧
    (∀ kind as, Txt.split z " " = kind :: as → kind ∈ kinds → fw (kind :: as) (kind :: formsOf kind) 0 = none → ∀ (H' : Hp) (b : Addr), Same H H' → RowAt Cf H' b kind (valsOf as (formsOf kind)) → Q (.ref b) H') ∧
    (∀ n : Nat, rowBad (Txt.split z " ") = some n → ∀ d H', Same H H' → H' d = some (.xd [("word", .int (n : Nat)), ("line", .int 0)]) → E (.ref CB) (some d) H')) ∨
  (∃ t, TyX K H v t ∧ PySem.W.kitOne K t (.type "str") = some false ∧ ∀ d H', Same H H' → H' d = some (.xd [("word", .int 0), ("line", .int 0)]) → E (.ref CB) (some d) H'))
theorem ok_rowRead {CB f fR fW : Addr} {Cf : Str → Addr} {fd fdR fdW : FuncData} (F : Fun K "read" "Row.read" sRowRead f fd) (FR : Fun K "read_row" "read_row" sReadRow fR fdR) (bR : Binds K fdR ["line", "words"] []) (gR : mg "read_row" = some (.ref fR)) (GR : FnOk P w K mg base (L2.CX P w) 9 fR fdR ["line", "words"] (spReadRow Cf CB))
    (FW : Fun K "words_of" "words_of" sWordsOf fW fdW) (bW : Binds K fdW ["text"] []) (gW : mg "words_of" = some (.ref fW)) (GW : FnOk P w K mg base (L2.CX P w) 3 fW fdW ["text"] (spWordsOf K CB)) :
    FnOk P w K mg base (L2.CX P w) 10 f fd ["cls", "text"] (spRowRead K Cf CB) := by
  refine F.okX scRowRead (fun vs H Q E h => ?_) (fun cdv A outer s H vs Q E hr h => ?_)
  · obtain ⟨_, _, rfl, _⟩ := h
    rfl
  · obtain ⟨C, v, rfl, h⟩ := h
    have hr3 : Room 3 _ := hr.mono (by decide)
    refine ⟨_, pss_one (ps_ret (pe_call GR hr (by rfl) gR FR.kp bR .nil (passes_call (takes_of rfl rfl rfl rfl) (fun _ _ _ _ h => h)) (pa_cons pe_int (pa_cons (pe_call GW hr3 (by rfl) gW FW.kp bW .nil (passes_call (takes_of rfl rfl rfl rfl) (fun _ _ _ _ h => h)) (pa_cons (pv 1) pa_nil)) pa_nil)))), ?_⟩
    rcases h with ⟨z, rfl, hz, qy, qn⟩ | ⟨t, ty, hk, q⟩
    · refine ⟨_, rfl, _, rfl, .inl ⟨z, rfl, hz, fun H1 a s1 na ha => ?_⟩⟩
      have hne : Txt.split z " " ≠ [] := fun e => by
        have := split_pos z (" " : Str)
        rw [e] at this
        simp at this
      refine ⟨0, a, _, rfl, ha, hne, fun x hx => Nat.le_trans (part_short hx) hz, fun kind as e hk hw H' b s B => ?_, fun n hn d H' s e => qn n hn d H' (s1.trans s) e⟩
      exact qy kind as e hk (by rw [e] at hw; exact hw) H' b (s1.trans s) B
    · exact ⟨_, rfl, _, rfl, .inr ⟨t, ty, hk, q⟩⟩
end
end K15

namespace K15
open PySem PySem.Spec PyProof.Rows L2 So LamX StX TL
abbrev sHeard : Stmt := topS 55
abbrev heardN : List Str := ["_law_ask", "_law_caught", "error", "_law_heard_here"]
theorem scHeard : FnScope heardN ["_law_ask"] (defScope sHeard) := ⟨rfl, rfl, rfl, by decide +kernel, rfl, by decide +kernel, by decide +kernel⟩
theorem pe_imp {X : Cx} {e : Expr} {t : TE} (h : PE X e t) : PE X e (fun σ H Q => ∃ Q0 : VK, t σ H Q0 ∧ ∀ v H', Q0 v H' → Q v H') :=
  ⟨fun pins s σ H Q I ⟨Q0, h1, h2⟩ => thn (h.run pins s σ H Q0 I h1) fun u s' ⟨v, H', I', r, q⟩ => ⟨v, H', I', r, h2 v H' q⟩⟩
theorem takes_len {X : Cx} {W : WX} (tk : Takes X W) : Takes X (fun c d σ H => σ.length = X.N.length → W c d σ H) := fun u s' ⟨a, B, sI, pins, σ, H, cls, d, e, I, nb, up, sky, na, os, ag, w⟩ =>
  tk u s' ⟨a, B, sI, pins, σ, H, cls, d, e, I, nb, up, sky, na, os, ag, w I.len⟩
/-- what is heard of BadText -/
def EchL (CB : Addr) (Q : VK) : XK := fun cls d H' => ∃ (dd : Addr) (m n : V), cls = .ref CB ∧ d = some dd ∧ H' dd = some (.xd [("word", n), ("line", m)]) ∧ ∀ (H'' : Hp) (r : Addr), Same H' H'' → H'' r = some (.tup [.str "text", m, n]) → Q (.ref r) H''
def QtL (Q : VK) : VK := fun v H' => ∀ t, H' t = none → Q (.ref t) (upd H' t (.tup [.str "told", v]))
def TTL (CB : Addr) : (XK → Hp → VK → Prop) → Hp → VK → Prop := fun tl H Q => tl (EchL CB Q) H (QtL Q)
/-- what the top says of the errors, to the law's heard -/
structure HrL (K : PySem.W.Frag) (mg : Str → Option Value) (CT CB CN CM : Addr) : Prop where
  gT : mg "TillError" = some (.ref CT)
  gB : mg "BadText" = some (.ref CB)
  gN : mg "BadName" = some (.ref CN)
  gM : mg "BadMoment" = some (.ref CM)
  gV : mg "ValueError" = none
  isi : mg "isinstance" = none
  len : mg "len" = none
  ex : PySem.W.exmOne K (.ref CB) (.ref CT) = some true
  ve : PySem.W.kitOne K (.ref CB) (.type "ValueError") = some true
  eB : Err K CB
  eN : Err K CN
  eM : Err K CM
  bb : PySem.W.kitOne K (.ref CB) (.ref CB) = some true
  bn : PySem.W.kitOne K (.ref CB) (.ref CN) = some false
  bm : PySem.W.kitOne K (.ref CB) (.ref CM) = some false
  fL : PySem.W.findIn K (.ref CB) "line" = some none
  fW : PySem.W.findIn K (.ref CB) "word" = some none
  fN : PySem.W.findIn K (.ref CN) "name" = some none
  fM : PySem.W.findIn K (.ref CM) "moment" = some none
section
variable {X : Cx}
theorem heard_gives {q : Str} {g CT CB CN CM : Addr} {cdg : Value} (R : HrL X.K X.mg CT CB CN CM) : GivesTo X heardN "_law_heard" (defScope sHeard) g cdg (defBody sHeard) "_law_ask" q (TTL CB) := by
  intro f c' s H Q tl act hc h
  have TB := R.eB
  refine ⟨_, (pss_cons (ps_set (i := 1) scHeard.nd rfl (.inl rfl) pe_non)
      (pss_cons (ps_try_keep (X := (cxOf C8.CX0 X.prog X.w X.K X.mg X.base heardN "_law_heard" (defScope sHeard) g cdg X.A X.stack s H C8.E0).nox) (i := 2) (n := "error") (c := .ref CT)
        (tb := fun W D σ H => ∃ Ech : XK, (∀ cls d σ' H', Ech cls d H' → σ'.length = 4 → W cls d σ' H') ∧ σ[0]? = some (some (.ref f)) ∧ H c' = some (CodeO c' q) ∧ ∃ Q0 : VK, tl Ech H Q0 ∧ ∀ v H', Q0 v H' → ∀ t, H' t = none → D.rt (.ref t) (upd H' t (.tup [.str "told", v])))
        rfl rfl rfl scHeard.nd rfl rfl ⟨rfl, by decide, .inl R.gT⟩ LamX.takes0 (fun W pn xe tk _ => ?_) (fun a pn => pss_one (ps_set (i := 1) scHeard.nd rfl (.inl rfl) (pv 2))))
      (pss_cons (ps_set (i := 3) scHeard.nd rfl (.inl rfl) (pe_lst pa_nil))
      (pss_cons (ps_if (pt_val (pe_callB (So.CallR.or call_isi call_isXo) (by rfl) R.isi (by decide +kernel) (pa_cons (pv 1) (pa_cons (pe_glob (v := .ref CB) rfl R.gB rfl) pa_nil)))) (pss_one (ps_expr (pe_bm PySem.F.plainAttrs_list PySem.F.slot_list_append PySem.F.type_list_append mt_append (pv 3) (pa_cons (pe_tup (pa_cons pe_str (pa_cons (pe_xo TB R.fL (pv 1)) (pa_cons (pe_xo TB R.fW (pv 1)) pa_nil)))) pa_nil)))) pss_nil)
      (pss_cons (ps_if (pt_val (pe_callB (So.CallR.or call_isi call_isXo) (by rfl) R.isi (by decide +kernel) (pa_cons (pv 1) (pa_cons (pe_glob (v := .ref CN) rfl R.gN rfl) pa_nil)))) (pss_one (ps_expr (pe_bm PySem.F.plainAttrs_list PySem.F.slot_list_append PySem.F.type_list_append mt_append (pv 3) (pa_cons (pe_tup (pa_cons pe_str (pa_cons (pe_xo R.eN R.fN (pv 1)) pa_nil))) pa_nil)))) pss_nil)
      (pss_cons (ps_if (pt_val (pe_callB (So.CallR.or call_isi call_isXo) (by rfl) R.isi (by decide +kernel) (pa_cons (pv 1) (pa_cons (pe_glob (v := .ref CM) rfl R.gM rfl) pa_nil)))) (pss_one (ps_expr (pe_bm PySem.F.plainAttrs_list PySem.F.slot_list_append PySem.F.type_list_append mt_append (pv 3) (pa_cons (pe_tup (pa_cons pe_str (pa_cons (pe_xo R.eM R.fM (pv 1)) pa_nil))) pa_nil)))) pss_nil)
      (pss_one (ps_ret (pe_ifExp (PW.pt (pw_and (pt_cmpR op_eq (pe_callB call_len_seq (by rfl) R.len PySem.boot_len (pa_cons (pv 3) pa_nil)) pe_int (nomark _))
        (pw_and1 (pt_val (pe_callB call_isXo (by rfl) R.isi (by decide +kernel) (pa_cons (pv 1) (pa_cons (pe_bltn (v := .ty "ValueError") (by rfl) R.gV (by decide +kernel) rfl) pa_nil)))))))
      (pe_ix ix_list (pv 3) pe_int (fun _ _ => rfl)) pe_str))))))))), ?_⟩
  · refine ⟨fun pins s' σ H' D I h' => ?_⟩
    obtain ⟨Ech, hW, h1, h2, Q0, h3, h4⟩ := h'
    refine (pss_one (ps_ret (pe_tup (pa_cons pe_str (pa_cons (pe_imp (act (fun c d σ H => σ.length = 4 → W c d σ H) pn xe Ech _ _ (takes_len tk) hW)) pa_nil))))).run pins s' σ H' D I ?_
    exact ⟨Q0, ⟨h1, h2, h3⟩, fun v H'' z => ⟨by show 2 ≤ sizeLine; decide, fun t ht => h4 v H'' z t ht⟩⟩
  · refine ⟨EchL CB Q, fun cls d σ' H' ⟨dd, m, n, e1, e2, e3, q3⟩ hl => ?_, rfl, hc, QtL Q, h, fun v H' z t ht => z t ht⟩
    obtain ⟨x0, x1, x2, x3, rfl⟩ : ∃ x0 x1 x2 x3, σ' = [x0, x1, x2, x3] := by
      match σ', hl with
      | [x0, x1, x2, x3], _ => exact ⟨x0, x1, x2, x3, rfl⟩
    subst e1 e2
    refine ⟨true, R.ex, fun _ a ha => ?_, fun y => nomatch y⟩
    refine ⟨_, rfl, by show 0 ≤ sizeLine; decide, fun p hp => ?_⟩
    have s0 : Same H' (upd H' a (Xo (.ref CB) (some dd) a)) := same_upd0 ha
    have s1 := s0.trans (same_upd0 (o := .lst []) hp)
    have HA : (upd (upd H' a (Xo (.ref CB) (some dd) a)) p (.lst [])) a = some (Xo (.ref CB) (some dd) a) := same_upd0 hp _ _ upd_same
    have HD : (upd (upd H' a (Xo (.ref CB) (some dd) a)) p (.lst [])) dd = some (.xd [("word", n), ("line", m)]) := s1 _ _ e3
    have HP : (upd (upd H' a (Xo (.ref CB) (some dd) a)) p (.lst [])) p = some (.lst []) := upd_same
    have hpn : H' p = none := s0.free hp
    revert s1 HA HD HP
    generalize upd (upd H' a (Xo (.ref CB) (some dd) a)) p (.lst []) = H1
    intro s1 HA HD HP
    have l1 : (("line" : Str) == "word") = false := by decide +kernel
    refine ⟨_, rfl, .inr ⟨a, _, dd, _, _, _, true, rfl, HA, HD, TB, .own _, R.bb, _, rfl, iteT ?_⟩⟩
    refine ⟨_, rfl, .inl ⟨rfl, _, SqL.of HP⟩, _, rfl, a, dd, _, m, rfl, HA, HD, by simp [List.lookup, l1], _, rfl, a, dd, _, n, rfl, HA, HD, by simp [List.lookup], by show 3 ≤ sizeLine; decide, fun r hr => ?_⟩
    have s2 := same_upd0 (o := .tup [.str "text", m, n]) hr
    refine ⟨p, _, _, rfl, rfl, s2 _ _ HP, by show 0 < sizeLine; decide, ?_⟩
    have nrp : r ≠ p := fun y => by rw [y, HP] at hr; cases hr
    have nap : a ≠ p := fun y => by rw [y, HP] at HA; cases HA
    have ndp : dd ≠ p := ne_of HD HP (fun y => nomatch y)
    have HA3 := (upd_ne (o := HO.lst [.ref r]) nap).trans (s2 _ _ HA)
    have HD3 := (upd_ne (o := HO.lst [.ref r]) ndp).trans (s2 _ _ HD)
    refine ⟨_, rfl, .inr ⟨a, _, dd, _, _, _, false, rfl, HA3, HD3, TB, .own CN, R.bn, _, rfl, iteF ?_⟩⟩
    refine ⟨_, rfl, .inr ⟨a, _, dd, _, _, _, false, rfl, HA3, HD3, TB, .own CM, R.bm, _, rfl, iteF ?_⟩⟩
    refine ⟨_, rfl, p, _, rfl, .inl (SqL.of upd_same), rfl, _, rfl, ite2 (fun _ => ?_) (fun y => absurd (decide_eq_true rfl) y)⟩
    refine ⟨_, rfl, a, _, dd, _, _, _, true, rfl, HA3, HD3, TB, .ty "ValueError", R.ve, _, rfl, iteT ?_⟩
    refine ⟨_, rfl, p, _, 0, _, rfl, rfl, SqL.of upd_same, atI_nat (j := 0) rfl, q3 _ r (fun b o y => ?_) ((upd_ne nrp).trans upd_same)⟩
    exact (upd_ne (ne_of_none y hpn)).trans (s2 _ _ (s1 _ _ y))
end
end K15

namespace K15
open PySem PySem.Spec PyProof.Rows L2 So LamX StX TL
abbrev sTk : Stmt := topS 57
abbrev tkN : List Str := ["_law_word", "_law_least", "_law_sign"]
theorem scTk : FnScope tkN ["_law_word", "_law_least"] (defScope sTk) := ⟨rfl, rfl, rfl, by decide +kernel, rfl, by decide +kernel, by decide +kernel⟩
/-- a moment not below another one -/
def isTick (least : Bool) (z : Str) : Bool := if least = true then (isNum z && !decide (z = ("0" : Str))) else isNum z
theorem one_zero {z : Str} (h1 : z.length = 1) (h : z.cps.toList.headD 0 = 48) : z = ("0" : Str) := by
  refine ext_tl ?_
  have lz : z.cps.toList.length = 1 := by rw [Array.length_toList]; exact h1
  show z.cps.toList = _
  match e : z.cps.toList, lz with
  | [c], _ =>
    rw [e] at h
    have h : c = 48 := h
    rw [h]
    decide +kernel
theorem tick_of {z : Str} {least : Bool} (h1 : 1 ≤ z.length) (h2 : z.length ≤ 31) (h3 : ¬ (1 < z.length ∧ z.cps.toList.headD 0 = 48)) (hd : z.cps.toList.all isDig = true) :
    isTick least z = (decide ((if least = true then (1 : Int) else 0) ≤ ((numOf z : Nat) : Int)) && decide (((numOf z : Nat) : Int) ≤ 1000000000000000000000000000000)) := by
  have hn : isNum z = decide (((numOf z : Nat) : Int) ≤ 1000000000000000000000000000000) := by
    unfold isNum
    rw [decide_eq_true h1, decide_eq_true h2, hd]
    by_cases h0 : z = ("0" : Str)
    · rw [decide_eq_true h0, h0, zero_num]
      rfl
    · rw [decide_eq_false h0]
      have : z.cps.toList.headD 0 ≠ 48 := fun e => by
        by_cases hl : 1 < z.length
        · exact h3 ⟨hl, e⟩
        · exact h0 (one_zero (by omega) e)
      rw [decide_eq_true this]
      rfl
  unfold isTick
  cases least with
  | false =>
    simp only [Bool.false_eq_true, if_false]
    rw [hn, decide_eq_true (by omega : (0 : Int) ≤ ((numOf z : Nat) : Int)), Bool.true_and]
  | true =>
    simp only [if_true]
    rw [hn]
    by_cases h0 : z = ("0" : Str)
    · rw [decide_eq_true h0, h0, zero_num]
      rfl
    · rw [decide_eq_false h0]
      by_cases hg : ((numOf z : Nat) : Int) ≤ 1000000000000000000000000000000
      · rw [decide_eq_true hg]
        have : isNum z = true := by rw [hn]; exact decide_eq_true hg
        have := num_pos this h0
        rw [decide_eq_true (by omega : (1 : Int) ≤ ((numOf z : Nat) : Int))]
        rfl
      · rw [decide_eq_false hg, Bool.false_and, Bool.and_false]
theorem tick_no {z : Str} {least : Bool} (h : isNum z = false) : isTick least z = false := by
  unfold isTick
  cases least <;> simp [h]
section
variable {P : Program} {w : World} {K : PySem.W.Frag} {mg : Str → Option Value} {base : Heap}
def spTk : Sp := fun vs H Q _ => ∃ (z : Str) (least : Bool), vs = [.str z, .int (if least = true then 1 else 0)] ∧ z.length ≤ 2000 ∧ ∀ H', Same H H' → Q (.bl (isTick least z)) H'
theorem ok_tk {f : Addr} {fd : FuncData} (F : Fun K "_law_is_tick" "_law_is_tick" sTk f fd) (ml : mg "len" = none) (mi : mg "int" = none) : FnOk P w K mg base CX0 1 f fd ["_law_word", "_law_least"] spTk := by
  refine F.ok scTk (fun vs H Q E h => ?_) (fun cdv A outer s H vs Q E hr h => ?_)
  · obtain ⟨_, _, rfl, _⟩ := h
    rfl
  · obtain ⟨z, least, rfl, hz, q⟩ := h
    refine ⟨_, pss_cons (ps_if (PW.pt (pw_or (pt_not (pt_chain op_le op_le pe_int (pe_callB call_len_str (by rfl) ml PySem.boot_len (pa_cons (pv 0) pa_nil)) pe_int)) (pw_or1 (PW.pt (pw_and (pt_cmpR op_gt (pe_callB call_len_str (by rfl) ml PySem.boot_len (pa_cons (pv 0) pa_nil)) pe_int (nomark _)) (pw_and1 (pt_cmpR op_eq (pe_ix ix_str (pv 0) pe_int (fun _ _ => rfl)) pe_str (nomark _)))))))) (pss_one (ps_ret pe_bl)) pss_nil)
      (pss_cons (ps_if (pt_cmpR (op_neNil (by have := hr.units0; exact this)) (pe_lc (own := [("_law_sign", 2)]) (g := gName 2) rfl scTk.nd (pi_str (pv 0)) (blkOk_by (N := tkN) (sc := defScope sTk) (by decide +kernel))
        (fun _ _ _ _ _ => pg_name (i := 2) scTk.nd rfl (Or.inl rfl)) (fun _ _ _ _ _ => pts_one (pt_cmpR op_notIn_sign (pv 2) pe_str (by rfl))) (fun _ _ _ _ _ => pv 2)) (pe_lst pa_nil) (nomark _)) (pss_one (ps_ret pe_bl)) pss_nil)
      (pss_one (ps_ret (pe_chain op_le op_le (pv 1) (pe_callTy call_int_str (by rfl) mi (by decide +kernel) (pa_cons (pv 0) pa_nil)) (pe_op op_pow pe_int pe_int))))), ?_⟩
    have hzl : z.length ≤ sizeLine := Nat.le_trans hz (by decide)
    have no : isNum z = false → ∀ H', Same H H' → Q (.bl false) H' := fun e H' s => by
      have := q H' s
      rw [tick_no e] at this
      exact this
    refine ⟨_, rfl, _, rfl, hzl, _, _, rfl, rfl, _, rfl, ite2 (fun c1 => ?_) (fun c1 => ⟨_, rfl, iteT (no ?_ H (Same.refl H))⟩)⟩
    case refine_2 =>
      have c1' : ¬ (1 : Int) ≤ ((z.length : Nat) : Int) := fun e => c1 (decide_eq_true e)
      unfold isNum
      rw [show decide (1 ≤ z.length) = false from decide_eq_false (by omega)]
      rfl
    have c1' : (1 : Int) ≤ ((z.length : Nat) : Int) := of_decide_eq_true c1
    refine ⟨_, _, rfl, rfl, _, rfl, ?_⟩
    by_cases c2 : ((z.length : Nat) : Int) ≤ 31
    case neg =>
      rw [decide_eq_false c2]
      refine iteT (no ?_ H (Same.refl H))
      unfold isNum
      rw [show decide (z.length ≤ 31) = false from decide_eq_false (by omega), Bool.and_false]
      rfl
    rw [decide_eq_true c2]
    have hz0 : 0 < z.cps.toList.length := by
      have : z.length = z.cps.toList.length := Array.length_toList.symm
      omega
    obtain ⟨c0, cr, hc⟩ : ∃ c0 cr, z.cps.toList = c0 :: cr := by
      cases e : z.cps.toList with
      | nil => rw [e] at hz0; cases hz0
      | cons a r => exact ⟨a, r, rfl⟩
    have hh : z.cps.toList.headD 0 = c0 := by rw [hc]; rfl
    -- a nought ahead
    have zero_no : 1 < z.length → c0 = 48 → isNum z = false := fun l e => by
      cases h : isNum z with
      | false => rfl
      | true =>
        unfold isNum at h
        simp only [Bool.and_eq_true, Bool.or_eq_true, decide_eq_true_eq] at h
        rcases h.2 with e2 | e2
        · rw [e2] at l
          have : ("0" : Str).length = 1 := by decide
          omega
        · exact absurd (by rw [hh, e]) e2.1
    refine iteF ⟨_, rfl, _, rfl, hzl, _, _, rfl, rfl, _, rfl, ?_⟩
    have eqd : ("0123456789" : Str) = digits := rfl
    have main : ¬ (1 < z.length ∧ c0 = 48) → (tSeq
        (tIfS (tTest (tOp (rNil (cxOf CX0 P w K mg base tkN "_law_is_tick" (defScope sTk) f cdv A outer s H E).nox.K true)
          (tLc (iStr (tVar 0)) (gName 2) (tTest (tOp (fun x y H Q => ∃ c z, x = V.str ⟨#[c]⟩ ∧ y = V.str z ∧ Q (V.bl (!decide (c ∈ z.cps.toList))) H) (tVar 2) (tC (V.str "0123456789")))) (tVar 2) [2]) (tLst tNil))) (tRet (tC (V.bl false))) tNext)
        (tRet (tChain (rI0 fun i j => V.bl (decide (i ≤ j))) (rI0 fun i j => V.bl (decide (i ≤ j))) (tVar 1) (tCB (fun xs H Q => ∃ a n, xs = [V.str a] ∧ intText? a = some n ∧ a.length ≤ 640 ∧ Q (V.int n) H) (tCons (tVar 0) tNil)) (tOp (rI CPow fun i j => V.int (i ^ j.toNat)) (tC (V.int 10)) (tC (V.int 30))))))
        { nx := fun x H' => Q V.non H', rt := Q } (L2.start tkN [V.str z, V.int (if least = true then 1 else 0)]) H := by
      intro h0
      refine ⟨_, rfl, _, rfl, fun D hD => lc_it walk_str (fun i H' => H' D = some (.lst ((offs isDig (z.cps.toList.take i)).map V.str)) ∧ Same H H') ⟨?_, ?_⟩ (fun _ _ _ _ => trivial) ?_ ?_⟩
      · exact upd_same
      · exact Same.over (Same.refl H) hD
      · rintro i x H1 H2 hi ⟨h1, s1⟩ ⟨rfl, c, hc1, rfl⟩
        have hc2 : z.cps.toList[i]? = some c := by
          rw [Array.getElem?_toList]
          exact hc1
        refine ⟨rfl, _, rfl, c, _, rfl, rfl, _, rfl, ite2 (fun c5 => ?_) (fun c5 => ?_)⟩
        · have c5' : isDig c = false := by
            have h : (!isDig c) = true := c5
            simpa using h
          refine ⟨_, rfl, _, h1, ?_, ?_, Same.over s1 hD⟩
          · rw [List.length_map]
            refine Nat.lt_of_le_of_lt (offs_len _ _) ?_
            rw [Array.length_toList]
            exact Nat.lt_of_le_of_lt (show z.cps.size ≤ 2000 from hz) (by decide)
          · rw [upd_same, offs_snoc hc2, if_neg (by rw [c5']; exact Bool.false_ne_true), List.map_append]
            rfl
        · have c5' : isDig c = true := by
            have h : ¬ (!isDig c) = true := c5
            simpa using h
          refine ⟨?_, s1⟩
          rw [offs_snoc hc2, if_pos c5', List.append_nil]
          exact h1
      · rintro H1 ⟨h1, s1⟩
        rw [List.take_of_length_le (by rw [Array.length_toList]; exact Nat.le_refl _)] at h1
        refine ⟨Nat.zero_le _, fun p hp => ?_⟩
        have s2 := same_upd0 (o := .lst []) hp
        refine ⟨_, _, _, rfl, rfl, SqL.of (s2 _ _ h1), SqL.of upd_same, ?_⟩
        rw [if_pos rfl, List.isEmpty_map, offs_nil]
        refine ⟨_, rfl, ?_⟩
        cases hd : z.cps.toList.all isDig with
        | false =>
          refine iteT (no ?_ _ (s1.trans s2))
          unfold isNum
          rw [hd, Bool.and_false]
          rfl
        | true =>
          refine iteF ?_
          have e30 : ((10 : Int) ^ Int.toNat 30) = 1000000000000000000000000000000 := by decide +kernel
          have q1 := q _ (s1.trans s2)
          rw [tick_of (by omega) (by omega) (by rw [hh]; exact h0) hd] at q1
          refine ⟨_, rfl, _, rfl, z, _, rfl, int_of (by omega) (by omega) hd, by omega, _, _, rfl, rfl, _, rfl, ite2 (fun g1 => ?_) (fun g1 => ?_)⟩
          · rw [show decide ((if least = true then (1 : Int) else 0) ≤ ((numOf z : Nat) : Int)) = true from g1, Bool.true_and] at q1
            refine ⟨_, _, rfl, rfl, ⟨by decide, by decide, by decide⟩, _, _, rfl, rfl, ?_⟩
            rw [e30]
            exact q1
          · rw [show decide ((if least = true then (1 : Int) else 0) ≤ ((numOf z : Nat) : Int)) = false from Bool.eq_false_iff.mpr g1, Bool.false_and] at q1
            exact q1
    by_cases l1 : 1 < z.length
    · rw [show decide (((z.length : Nat) : Int) > 1) = true from decide_eq_true (by omega)]
      refine iteT ⟨_, rfl, _, _, c0, rfl, rfl, hzl, ?_, rfl, _, rfl, ite2 (fun e => ?_) (fun e => ?_)⟩
      · rw [hc]
        exact atI_nat (j := 0) rfl
      · exact no (zero_no l1 ((ascii_0 c0).mp (of_decide_eq_true e))) H (Same.refl H)
      · exact main fun y => e (decide_eq_true ((ascii_0 c0).mpr y.2))
    · rw [show decide (((z.length : Nat) : Int) > 1) = false from decide_eq_false (by omega)]
      exact iteF (main fun y => l1 y.1)
end
end K15

namespace K15
open PySem PySem.Spec PyProof.Rows L2 So LamX StX TL
abbrev sDue : Stmt := topS 58
abbrev dueN : List Str := ["_law_text_here", "_law_words_here", "_law_forms", "_law_some", "_law_least", "_law_k", "_law_word", "_law_good"]
theorem scDue : FnScope dueN ["_law_text_here"] (defScope sDue) := ⟨rfl, rfl, rfl, by decide +kernel, rfl, by decide +kernel, by decide +kernel⟩
/-- the letters of a kind's forms -/
def kvsF : List (Key × V) := [(.inr "begun", .str "nm"), (.inr "setby", .str "nmn"), (.inr "found", .str "nmt"), (.inr "trusted", .str "n"), (.inr "passed", .str "nmn"), (.inr "failed", .str "nmn")]
def shortOf (kind : Str) : Str := match valV (mergeK [] kvsF) (.inr kind) with
  | some (.str z) => z
  | _ => "nmnm"
def formOf (kind : Str) (c : Nat) : Str := if c = 110 then "name" else if c = 116 then "truth" else if kind = "begun" ∨ kind = "setby" then "beginning" else "moment"
theorem short_facts : ∀ kind ∈ kinds, (shortOf kind).cps.toList.length = (formsOf kind).length ∧ ((shortOf kind).cps.toList.all fun c => decide (c = 110 ∨ c = 109 ∨ c = 116)) = true ∧ (shortOf kind).cps.toList.map (formOf kind) = formsOf kind := by decide +kernel
def leastB (kind : Str) : Bool := (["begun", "setby"] : List Str).contains kind
/-- whether a word is as its letter demands -/
def goodL (least : Bool) (w : Str) (c : Nat) : Bool := if c = 110 then isName w else if c = 109 then isTick least w else (["sound", "unsound"] : List Str).contains w
theorem good_form : ∀ kind ∈ kinds, (leastB kind = true → kind = "begun" ∨ kind = "setby") ∧ (leastB kind = false → ¬ (kind = "begun" ∨ kind = "setby")) := by decide +kernel
theorem good_of {kind w : Str} {c : Nat} (hk : kind ∈ kinds) (hc : c = 110 ∨ c = 109 ∨ c = 116) : goodL (leastB kind) w c = hasForm (formOf kind c) w := by
  obtain ⟨g1, g2⟩ := good_form kind hk
  rcases hc with e | e | e <;> subst e
  · rfl
  · unfold goodL formOf
    rw [if_neg (by decide), if_pos rfl, if_neg (by decide), if_neg (by decide)]
    cases hl : leastB kind with
    | true =>
      rw [if_pos (g1 hl)]
      rfl
    | false =>
      rw [if_neg (g2 hl)]
      rfl
  · rfl
theorem get_good {b1 b2 b3 : Bool} {c : Nat} (hc : c = 110 ∨ c = 109 ∨ c = 116) : valV (putK (mergeK [] [((.inr "n" : Key), V.bl b1), (.inr "m", .bl b2)]) (.inr "t") (.bl b3)) (.inr (⟨#[c]⟩ : Str)) = some (.bl (if c = 110 then b1 else if c = 109 then b2 else b3)) := by
  rcases hc with e | e | e <;> subst e <;> rfl
theorem row_bad {kind : Str} {as : List Str} (hk : kind ∈ kinds) : rowBad (kind :: as) = fw as (formsOf kind) 1 := by
  show (if kinds.contains kind = true then fw (kind :: as) (kind :: formsOf kind) 0 else some 0) = _
  rw [if_pos (List.contains_iff_mem.mpr hk), fw_cons, if_pos (kind_form kind hk).1]
section
variable {P : Program} {w : World} {K : PySem.W.Frag} {mg : Str → Option Value} {base : Heap}
def spDue : Sp := fun vs H Q _ => ∃ z : Str, vs = [.str z] ∧ z.length ≤ 2000 ∧ ∀ H', Same H H' → Q (optV (rowBad (Txt.split z " "))) H'
theorem ok_due {f fK fN fU : Addr} {fd fdK fdN fdU : FuncData} (F : Fun K "_law_due" "_law_due" sDue f fd) (ml : mg "len" = none) (mr : mg "range" = none) (mi : mg "int" = none)
    (FK : Fun K "_law_kinds" "_law_kinds" sKinds fK fdK) (bK : Binds K fdK [] []) (gK : mg "_law_kinds" = some (.ref fK)) (GK : FnOk P w K mg base CX0 1 fK fdK [] spKinds)
    (FN : Fun K "_law_is_name" "_law_is_name" sLIs fN fdN) (bN : Binds K fdN ["_law_word"] []) (gN : mg "_law_is_name" = some (.ref fN)) (GN : FnOk P w K mg base CX0 2 fN fdN ["_law_word"] spLIs)
    (FU : Fun K "_law_is_tick" "_law_is_tick" sTk fU fdU) (bU : Binds K fdU ["_law_word", "_law_least"] []) (gU : mg "_law_is_tick" = some (.ref fU)) (GU : FnOk P w K mg base CX0 1 fU fdU ["_law_word", "_law_least"] spTk) :
    FnOk P w K mg base CX0 3 f fd ["_law_text_here"] spDue := by
  refine F.ok scDue (fun vs H Q E h => ?_) (fun cdv A outer s H vs Q E hr h => ?_)
  · obtain ⟨_, rfl, _⟩ := h
    rfl
  · obtain ⟨z, rfl, hz, q⟩ := h
    have hr1 : Room 1 _ := hr.mono (by decide)
    have hr2 : Room 2 _ := hr.mono (by decide)
    refine ⟨_, pss_cons (ps_set (i := 1) scDue.nd rfl (.inl rfl) (pe_split (pv 0) pe_str))
      (pss_cons (ps_set (i := 2) scDue.nd rfl (.inl rfl) (pe_disp (pps_cons pe_str pe_str (pps_cons pe_str pe_str (pps_cons pe_str pe_str (pps_cons pe_str pe_str (pps_cons pe_str pe_str (pps_cons pe_str pe_str pps_nil)))))) rfl rfl (by simp) (by decide)))
      (pss_cons (ps_if (pt_cmpR op_notIn_seq (pe_ix ix_list (pv 1) pe_int (fun _ _ => rfl)) (pe_call0 GK hr1 (by rfl) gK FK.kp bK .nil pass0) (by rfl)) (pss_one (ps_ret pe_int)) pss_nil)
      (pss_cons (ps_set (i := 3) scDue.nd rfl (.inl rfl) (pe_dget2 (hu_of hr) (pv 2) (pe_ix ix_list (pv 1) pe_int (fun _ _ => rfl)) pe_str ⟨rfl, rfl, rfl, rfl⟩))
      (pss_cons (ps_set (i := 4) scDue.nd rfl (.inl rfl) (pe_callTy call_int1 (by rfl) mi (by decide +kernel) (pa_cons (pe_cmpR op_in_seq (pe_ix ix_list (pv 1) pe_int (fun _ _ => rfl)) (pe_tup (pa_cons pe_str (pa_cons pe_str pa_nil))) (by rfl)) pa_nil)))
      (pss_cons (ps_for PassesOwn.never rfl (pi_range1 (by rfl) mr (pa_cons (pe_callB call_len_str (by rfl) ml PySem.boot_len (pa_cons (pv 3) pa_nil)) pa_nil)) (pg_name (i := 5) scDue.nd rfl (Or.inl rfl))
        (pss_cons (ps_if (pt_cmpR op_eq (pe_op op_add (pv 5) pe_int) (pe_callB call_len_seq (by rfl) ml PySem.boot_len (pa_cons (pv 1) pa_nil)) (nomark _)) (pss_one (ps_ret (pe_op op_add (pv 5) pe_int))) pss_nil)
        (pss_cons (ps_set (i := 6) scDue.nd rfl (.inl rfl) (pe_ix ix_list (pv 1) (pe_op op_add (pv 5) pe_int) (fun _ _ => rfl)))
        (pss_cons (ps_set (i := 7) scDue.nd rfl (.inl rfl) (pe_disp (pps_cons pe_str (pe_call GN hr2 (by rfl) gN FN.kp bN .nil pass0 (pa_cons (pv 6) pa_nil)) (pps_cons pe_str (pe_call GU hr1 (by rfl) gU FU.kp bU .nil pass0 (pa_cons (pv 6) (pa_cons (pv 4) pa_nil))) pps_nil)) rfl rfl (by simp) (by decide)))
        (pss_cons (ps_dput (hu_of hr) (pv 7) pe_str (pe_cmpR op_in_seq (pv 6) (pe_tup (pa_cons pe_str (pa_cons pe_str pa_nil))) (by rfl)) rfl)
        (pss_one (ps_if (pt_not (pt_val (pe_dget (hu_of hr) (pv 7) (pe_ix ix_str (pv 3) (pv 5) (fun _ _ => rfl)) (fun _ _ => rfl)))) (pss_one (ps_ret (pe_op op_add (pv 5) pe_int))) pss_nil)))))))
      (pss_one (ps_ret (pe_ifExp (pt_cmpR op_gt (pe_callB call_len_seq (by rfl) ml PySem.boot_len (pa_cons (pv 1) pa_nil)) (pe_op op_add (pe_callB call_len_str (by rfl) ml PySem.boot_len (pa_cons (pv 3) pa_nil)) pe_int) (nomark _)) (pe_op op_add (pe_callB call_len_str (by rfl) ml PySem.boot_len (pa_cons (pv 3) pa_nil)) pe_int) pe_non)))))))), ?_⟩
    have hsz := sizeLine_eq
    refine ⟨_, rfl, ⟨_, rfl⟩, _, _, rfl, rfl, by decide, Nat.le_trans (Nat.add_le_add_right hz 2) (by decide), fun a ha => ?_⟩
    have s1 := same_upd0 (o := .lst ((Txt.split z " ").map V.str)) ha
    have a1 : (upd H a (.lst ((Txt.split z " ").map V.str))) a = some (.lst ((Txt.split z " ").map V.str)) := upd_same
    have hne : Txt.split z " " ≠ [] := fun e => by
      have := split_pos z (" " : Str)
      rw [e] at this
      simp at this
    have hwl : ∀ x ∈ Txt.split z " ", x.length ≤ 2000 := fun x hx => Nat.le_trans (part_short hx) hz
    have hlen : (Txt.split z " ").length ≤ 2001 := by
      have := split_weight z " " (by decide)
      omega
    revert s1 a1 q hne hwl hlen
    generalize Txt.split z " " = ws
    generalize upd H a (.lst (ws.map V.str)) = H1
    intro q s1 a1 hne hwl hlen
    obtain ⟨kind, as, rfl⟩ : ∃ kind as, ws = kind :: as := by
      cases ws with
      | nil => exact absurd rfl hne
      | cons k r => exact ⟨k, r, rfl⟩
    -- the letters
    intro d hd0
    refine ⟨upd_same, kvsF, rfl, by decide, ?_⟩
    rw [upd_upd]
    have s2 := s1.trans (same_upd0 (o := .dK (mergeK [] kvsF)) hd0)
    have hd2 : (upd H1 d (.dK (mergeK [] kvsF))) d = some (.dK (mergeK [] kvsF)) := upd_same
    have a2 := same_upd0 (o := .dK (mergeK [] kvsF)) hd0 _ _ a1
    revert s2 hd2 a2
    generalize upd H1 d (.dK (mergeK [] kvsF)) = H2
    intro s2 hd2 a2
    refine ⟨_, rfl, a, _, 0, _, rfl, rfl, SqL.of a2, atI_nat (j := 0) rfl, rfl, fun H3 kl s3 nk hkl => ⟨kl, _, rfl, .inl (SqL.of hkl), rfl, flat_strs kinds, ?_⟩⟩
    rw [show (if true = true then !inV (V.str kind) (kinds.map V.str) else inV (V.str kind) (kinds.map V.str)) = !kinds.contains kind from by rw [if_pos rfl, inV_strs kind kinds]]
    refine ⟨_, rfl, ?_⟩
    cases hc : kinds.contains kind with
    | false =>
      refine iteT ?_
      have q1 := q _ (s2.trans s3)
      rw [show rowBad (kind :: as) = some 0 from by show (if kinds.contains kind = true then _ else some 0) = some 0; rw [hc]; rfl] at q1
      exact q1
    | true =>
    have hk := kind_in hc
    have q : ∀ H', Same H H' → Q (optV (fw as (formsOf kind) 1)) H' := fun H' s => by
      have := q H' s
      rw [row_bad hk] at this
      exact this
    refine iteF ?_
    have hd3 := s3 _ _ hd2
    have a3 := s3 _ _ a2
    have hsg : (valV (mergeK [] kvsF) (.inr kind)).getD (.str "nmnm") = .str (shortOf kind) := by
      unfold kinds at hk
      simp only [List.mem_cons, List.not_mem_nil, or_false] at hk
      rcases hk with h | h | h | h | h | h | h | h | h | h <;> subst h <;> rfl
    obtain ⟨hshl, hsa, hsm⟩ := short_facts kind hk
    have hf4 := forms_len kind hk
    refine ⟨_, rfl, d, rfl, .inl ⟨_, .inl hd3⟩, _, rfl, a, _, 0, _, rfl, rfl, SqL.of a3, atI_nat (j := 0) rfl, _, .inl ⟨_, .inr kind, .inl hd3, rfl, rfl⟩, ?_⟩
    rw [hsg]
    refine ⟨_, rfl, a, _, 0, _, rfl, rfl, SqL.of a3, atI_nat (j := 0) rfl, by show 2 ≤ sizeLine; decide, fun tm htm => ⟨tm, _, rfl, .inr (SqT.of upd_same), rfl, flat_strs ["begun", "setby"], ?_⟩⟩
    rw [show (if false = true then !inV (V.str kind) [V.str "begun", V.str "setby"] else inV (V.str kind) [V.str "begun", V.str "setby"]) = leastB kind from inV_strs kind ["begun", "setby"]]
    have s4 := (s2.trans s3).trans (same_upd0 (o := .tup [V.str "begun", V.str "setby"]) htm)
    have a4 := same_upd0 (o := .tup [V.str "begun", V.str "setby"]) htm _ _ a3
    revert s4 a4
    generalize upd H3 tm (.tup [V.str "begun", V.str "setby"]) = H4
    intro s4 a4
    refine .inr ⟨_, rfl, ?_⟩
    have goodF : ∀ w c, (c = 110 ∨ c = 109 ∨ c = 116) → goodL (leastB kind) w c = hasForm (formOf kind c) w := fun w c => good_of hk
    clear hsg hd3 a3 htm hd2 a2 s3 s2 hkl nk hd0 s1 a1 ha hne hc
    generalize shortOf kind = sh at hshl hsa hsm ⊢
    generalize leastB kind = least at goodF ⊢
    have hshz : sh.length = (formsOf kind).length := by rw [← hshl]; exact (Array.length_toList).symm
    generalize hfo : formsOf kind = fo at hshl hsm hf4 hshz q
    refine ⟨_, rfl, sh, rfl, by omega, _, rfl, by omega, by omega, for_range (lo := 0) (n := ((sh.length : Nat) : Int).toNat) (fun k σ G => ∃ (x5 x6 x7 : Option V), σ = [some (.str z), some (.ref a), some (.ref d), some (.str sh), some (.int (if least = true then 1 else 0)), x5, x6, x7] ∧ Same H4 G ∧ k ≤ as.length ∧ fw (as.drop k) (fo.drop k) (k + 1) = fw as fo 1)
      ⟨_, _, _, rfl, Same.refl _, Nat.zero_le _, rfl⟩ ?_ ?_⟩
    case refine_2 =>
      rintro σ G ⟨x5, x6, x7, rfl, sG, hle, hfw⟩
      rw [Int.toNat_natCast, hshz] at hle hfw
      rw [List.drop_of_length_le (Nat.le_refl fo.length), fw_end] at hfw
      have aG := sG _ _ a4
      refine ⟨_, rfl, a, _, rfl, .inl (SqL.of aG), _, rfl, sh, rfl, by omega, _, _, rfl, rfl, _, _, rfl, rfl, _, rfl, ite2 (fun c => ?_) (fun c => ?_)⟩
      · have c' : (((sh.length : Nat) : Int) + 1) < ((((kind :: as).map V.str).length : Nat) : Int) := of_decide_eq_true c
        rw [List.length_map, List.length_cons] at c'
        have q1 := q _ (s4.trans sG)
        rw [← hfw, if_neg (by rw [List.isEmpty_iff]; intro e; have := congrArg List.length e; rw [List.length_drop] at this; simp at this; omega)] at q1
        refine ⟨_, rfl, sh, rfl, by omega, _, _, rfl, rfl, ?_⟩
        rw [hshz]
        exact q1
      · have c' : ¬ (((sh.length : Nat) : Int) + 1) < ((((kind :: as).map V.str).length : Nat) : Int) := fun e => c (decide_eq_true e)
        rw [List.length_map, List.length_cons] at c'
        have q1 := q _ (s4.trans sG)
        rw [← hfw, if_pos (by rw [List.isEmpty_iff]; exact List.drop_of_length_le (by omega))] at q1
        exact q1
    rintro k σ G hk2 ⟨x5, x6, x7, rfl, sG, hle, hfw⟩
    rw [Int.toNat_natCast, hshz] at hk2
    obtain ⟨c, hc⟩ : ∃ c, sh.cps.toList[k]? = some c := ⟨_, List.getElem?_eq_getElem (by rw [hshl]; exact hk2)⟩
    have hfm : fo[k]? = some (formOf kind c) := by rw [← hsm, List.getElem?_map, hc]; rfl
    have hc3 : c = 110 ∨ c = 109 ∨ c = 116 := of_decide_eq_true (List.all_eq_true.mp hsa c (List.mem_of_getElem? hc))
    have ef : fo.drop k = formOf kind c :: fo.drop (k + 1) := by
      obtain ⟨hlt, e⟩ := List.getElem?_eq_some_iff.mp hfm
      rw [List.drop_eq_getElem_cons hlt, e]
    have aG := sG _ _ a4
    have e0 : (0 : Int) + ((k : Nat) : Int) = ((k : Nat) : Int) := by omega
    rw [e0]
    refine ⟨_, rfl, _, _, rfl, rfl, _, rfl, a, _, rfl, .inl (SqL.of aG), rfl, _, rfl, ite2 (fun c1 => ?_) (fun c1 => ?_)⟩
    · have c' : ((k : Nat) : Int) + 1 = ((((kind :: as).map V.str).length : Nat) : Int) := V.int.inj (of_decide_eq_true c1)
      rw [List.length_map, List.length_cons] at c'
      have q1 := q _ (s4.trans sG)
      rw [← hfw, ef, List.drop_of_length_le (by omega)] at q1
      exact ⟨_, rfl, _, _, rfl, rfl, q1⟩
    have c' : ¬ ((k : Nat) : Int) + 1 = ((((kind :: as).map V.str).length : Nat) : Int) := fun e => c1 (decide_eq_true (congrArg V.int e))
    rw [List.length_map, List.length_cons] at c'
    have hlt : k < as.length := by omega
    have ew : as.drop k = as[k] :: as.drop (k + 1) := List.drop_eq_getElem_cons hlt
    have hwi : ((kind :: as).map V.str)[k + 1]? = some (V.str as[k]) := by rw [List.getElem?_map, List.getElem?_cons_succ, List.getElem?_eq_getElem hlt]; rfl
    have hzi : as[k].length ≤ 2000 := hwl _ (List.mem_cons_of_mem _ (List.getElem_mem hlt))
    rw [ef, ew, fw_cons] at hfw
    generalize as[k] = wk at hwi hzi hfw
    refine ⟨_, rfl, _, rfl, _, _, rfl, rfl, a, _, _, _, rfl, rfl, SqL.of aG, (by
      show atI _ (((k : Nat) : Int) + 1) = some (V.str wk)
      rw [show ((k : Nat) : Int) + 1 = ((k + 1 : Nat) : Int) by omega]
      exact atI_nat hwi), ?_⟩
    intro od hod
    have s5 := same_upd0 (o := .dK []) hod
    have hod5 : (upd G od (.dK [])) od = some (.dK []) := upd_same
    refine ⟨_, rfl, wk, rfl, hzi, fun G5 t5 => ?_⟩
    refine ⟨_, rfl, _, rfl, wk, least, rfl, hzi, fun G6 t6 => ?_⟩
    have hod6 := t6 _ _ (t5 _ _ hod5)
    refine ⟨hod6, [(.inr "n", .bl (isName wk)), (.inr "m", .bl (isTick least wk))], rfl, (by show 2 ≤ 15; decide), ?_⟩
    have sG6 : Same G (upd G6 od (.dK (mergeK [] [((.inr "n" : Key), V.bl (isName wk)), (.inr "m", .bl (isTick least wk))]))) := Same.over ((s5.trans t5).trans t6) hod
    have hod7 : (upd G6 od (.dK (mergeK [] [((.inr "n" : Key), V.bl (isName wk)), (.inr "m", .bl (isTick least wk))]))) od = some (.dK (mergeK [] [((.inr "n" : Key), V.bl (isName wk)), (.inr "m", .bl (isTick least wk))])) := upd_same
    revert sG6 hod7
    generalize upd G6 od (.dK (mergeK [] [((.inr "n" : Key), V.bl (isName wk)), (.inr "m", .bl (isTick least wk))])) = G7
    intro sG6 hod7
    refine ⟨_, rfl, by show 2 ≤ sizeLine; decide, fun tm htm => ⟨tm, _, rfl, .inr (SqT.of upd_same), rfl, flat_strs ["sound", "unsound"], ?_⟩⟩
    rw [show (if false = true then !inV (V.str wk) [V.str "sound", V.str "unsound"] else inV (V.str wk) [V.str "sound", V.str "unsound"]) = (["sound", "unsound"] : List Str).contains wk from inV_strs wk ["sound", "unsound"]]
    have s8 := same_upd0 (o := .tup [V.str "sound", V.str "unsound"]) htm
    have hod8 := s8 _ _ hod7
    have sG8 := sG6.trans s8
    refine ⟨_, rfl, od, _, rfl, DPut.k (k := .inr "t") hod8 (by show 2 < sizeLine; decide), ?_⟩
    have sG9 := Same.over (o := .dK (putK (mergeK [] [((.inr "n" : Key), V.bl (isName wk)), (.inr "m", .bl (isTick least wk))]) (.inr "t") (.bl ((["sound", "unsound"] : List Str).contains wk)))) sG8 hod
    refine ⟨_, rfl, _, rfl, _, rfl, _, _, c, rfl, rfl, by omega, atI_nat hc, od, .bl (goodL least wk c), rfl, .inl ⟨_, .inr (⟨#[c]⟩ : Str), .inl upd_same, rfl, (get_good hc3).symm⟩, _, rfl, ?_⟩
    rw [goodF wk c hc3]
    cases hg : hasForm (formOf kind c) wk with
    | false =>
      rw [hg, if_neg Bool.false_ne_true] at hfw
      have q1 := q _ ((s4.trans sG).trans sG9)
      rw [← hfw] at q1
      exact iteT ⟨_, rfl, _, _, rfl, rfl, q1⟩
    | true =>
      rw [hg, if_pos rfl] at hfw
      exact iteF ⟨_, _, _, rfl, sG.trans sG9, hlt, hfw⟩
end
end K15

namespace K15
open PySem PySem.Spec PyProof.Rows L2 So LamX StX TL
abbrev sBent : Stmt := topS 59
abbrev bentN : List Str := ["_law_pen_here", "_law_text_here", "_law_words_here", "_law_k", "_law_way", "_law_some", "_law_spot"]
theorem scBent : FnScope bentN ["_law_pen_here", "_law_text_here"] (defScope sBent) := ⟨rfl, rfl, rfl, by decide +kernel, rfl, by decide +kernel, by decide +kernel⟩
theorem mem_joinL {S : List Nat} {c : Nat} : ∀ {ps : List (List Nat)} {p : List Nat}, p ∈ ps → c ∈ p → c ∈ joinL S ps
  | [], _, h, _ => nomatch h
  | [p], _, h, hc => by
    rw [List.mem_singleton.mp h] at hc
    exact hc
  | p :: q :: r, w, h, hc => by
    show c ∈ p ++ (S ++ joinL S (q :: r))
    rcases List.mem_cons.mp h with e | e
    · exact List.mem_append_left _ (e ▸ hc)
    · exact List.mem_append_right _ (List.mem_append_right _ (mem_joinL e hc))
theorem split_asc {z w : Str} (h : asc z) (hw : w ∈ Txt.split z " ") : asc w := by
  intro c hc
  refine h c ?_
  have e := StrLaws.join_split z " "
  have e2 : tl (Str.join " " (Txt.split z " ")) = tl z := by rw [e]
  rw [tl_join] at e2
  show c ∈ tl z
  rw [← e2]
  exact mem_joinL (List.mem_map_of_mem hw) hc
theorem split_weight2 (z : Str) : ((Txt.split z " ").map (·.length)).sum + (Txt.split z " ").length ≤ z.length + 1 := split_weight z " " (by decide)
theorem split_one (z : Str) : 1 ≤ (Txt.split z " ").length := split_pos z " "
def Lin (L : Nat) (z : Str) : Prop := z.length ≤ L ∧ asc z
def wsum (ws : List Str) : Nat := (ws.map (·.length)).sum + ws.length
theorem Lin.join {L : Nat} {ws : List Str} (h : wsum ws ≤ L) (ha : ∀ w ∈ ws, asc w) : Lin L (Txt.join " " ws) := ⟨Nat.le_trans (join_len ws) h, join_asc ha⟩
theorem wsum_app (a b : List Str) : wsum (a ++ b) = wsum a + wsum b := by
  unfold wsum
  rw [List.map_append, List.sum_append, List.length_append]
  omega
theorem asc_app {a b : Str} (ha : asc a) (hb : asc b) : asc (a ++ b) := by
  intro c hc
  have hc : c ∈ tl (a ++ b) := hc
  rw [tl_append] at hc
  rcases List.mem_append.mp hc with h | h
  · exact ha c h
  · exact hb c h
theorem wsum_take (ws : List Str) (i : Nat) : wsum (ws.take i) ≤ wsum ws := by
  have := wsum_app (ws.take i) (ws.drop i)
  rw [List.take_append_drop] at this
  omega
theorem wsum_drop (ws : List Str) (i : Nat) : wsum (ws.drop i) ≤ wsum ws := by
  have := wsum_app (ws.take i) (ws.drop i)
  rw [List.take_append_drop] at this
  omega
/-- a cut of texts -/
theorem cut_strs (ws : List Str) (lo hi : Option Int) : ∃ vs, cutV (ws.map V.str) lo hi = vs.map V.str ∧ wsum vs ≤ wsum ws ∧ (∀ x ∈ vs, x ∈ ws) ∧ vs.length ≤ ws.length := by
  unfold cutV
  refine ⟨(ws.drop (HT.sIx (ws.map V.str).length 0 lo)).take (HT.sIx (ws.map V.str).length (ws.map V.str).length hi - HT.sIx (ws.map V.str).length 0 lo), ?_, Nat.le_trans (wsum_take _ _) (wsum_drop _ _), fun x hx => List.mem_of_mem_drop (List.mem_of_mem_take hx), ?_⟩
  · rw [← List.map_drop, ← List.map_take]
  · rw [List.length_take, List.length_drop]
    omega
theorem cut_lin {L : Nat} {z : Str} (h : Lin L z) (lo hi : Option Int) : Lin L (cutS z lo hi) := by
  refine ⟨Nat.le_trans ?_ h.1, fun c hc => h.2 c ?_⟩
  · unfold cutS
    show (List.toArray _).size ≤ z.length
    rw [List.size_toArray, List.length_take, List.length_drop]
    show min _ (z.cps.toList.length - _) ≤ z.length
    rw [Array.length_toList]
    show min _ (z.cps.size - _) ≤ z.cps.size
    omega
  · unfold cutS at hc
    exact List.mem_of_mem_drop (List.mem_of_mem_take hc)
theorem lin_app {L M : Nat} {a b : Str} (ha : Lin L a) (hb : Lin M b) : Lin (L + M) (a ++ b) := by
  refine ⟨?_, asc_app ha.2 hb.2⟩
  rw [Str.length_append]
  have := ha.1
  have := hb.1
  omega
def small (o : Str) : Bool := decide (o.length ≤ 32) && o.cps.toList.all fun c => decide (c < 128)
theorem small_of {o : Str} (h : small o = true) : Lin 102 o := by
  unfold small at h
  rw [Bool.and_eq_true] at h
  exact ⟨Nat.le_trans (of_decide_eq_true h.1) (by decide), fun c hc => of_decide_eq_true (List.all_eq_true.mp h.2 c hc)⟩
theorem num_lin {m : Int} (h0 : 0 ≤ m) (h1 : m < 2 ^ 101) : Lin 102 (Str.ofString (toString m)) := by
  refine ⟨?_, fun c hc => ?_⟩
  · rw [PyProof.Rows.ofString_length]
    have : m.natAbs.log2 < 101 := PySem.Flt.log2_lt_of (by decide) (by omega : m.natAbs < 2 ^ 101)
    exact int_text_length_le (k := 101) (by decide) this
  · obtain ⟨k, rfl⟩ : ∃ k : Nat, m = k := ⟨m.toNat, by omega⟩
    have e : (Str.ofString (toString ((k : Nat) : Int))).cps.toList = numL k := tl_num k
    rw [e] at hc
    have := numL_digits k _ hc
    omega
def oddsA : List Str := ["", "a", "A", "0", "1", "01", "-1", "1.0", "sound", "unsound", "Sound", "begun", "trusted", "abcdefghi"]
abbrev n30 : Str := (toString ((10 : Int) ^ Int.toNat 30) : String)
abbrev n31 : Str := (toString ((10 : Int) ^ Int.toNat 30 + 1) : String)
def oddsB : List Str := ["9a", "a9", n30, n31, Txt.mul ("9" : Str) 31, Txt.mul ("0" : Str) 31, Txt.mul ("1" : Str) 32, "found", "none"]
abbrev VA : List V := [.str "", .str "a", .str "A", .str "0", .str "1", .str "01", .str "-1", .str "1.0", .str "sound", .str "unsound", .str "Sound", .str "begun", .str "trusted", .str "abcdefghi"]
abbrev VB : List V := [.str "9a", .str "a9", .str n30, .str n31, .str (Txt.mul ("9" : Str) 31), .str (Txt.mul ("0" : Str) 31), .str (Txt.mul ("1" : Str) 32), .str "found", .str "none"]
theorem oddsA_ok : ∀ o ∈ oddsA, small o = true := by decide +kernel
theorem kinds_small : ∀ o ∈ kinds, small o = true := by decide +kernel
theorem mul_ok : (MulOk ("9" : Str) 31 ∧ MulOk ("0" : Str) 31 ∧ MulOk ("1" : Str) 32) ∧ small (Txt.mul ("9" : Str) 31) = true ∧ small (Txt.mul ("0" : Str) 31) = true ∧ small (Txt.mul ("1" : Str) 32) = true := by
  unfold MulOk
  decide +kernel
theorem oddsB_ok : ∀ o ∈ oddsB, Lin 102 o := by
  have e30 : ((10 : Int) ^ Int.toNat 30) = 1000000000000000000000000000000 := by decide +kernel
  intro o ho
  unfold oddsB at ho
  simp only [List.mem_cons, List.not_mem_nil, or_false] at ho
  rcases ho with h | h | h | h | h | h | h | h | h <;> rw [h]
  · exact small_of (by decide +kernel)
  · exact small_of (by decide +kernel)
  · exact num_lin (by rw [e30]; decide) (by rw [e30]; decide)
  · exact num_lin (by rw [e30]; decide) (by rw [e30]; decide)
  · exact small_of mul_ok.2.1
  · exact small_of mul_ok.2.2.1
  · exact small_of mul_ok.2.2.2
  · exact small_of (by decide +kernel)
  · exact small_of (by decide +kernel)
section
variable {P : Program} {w : World} {K : PySem.W.Frag} {mg : Str → Option Value} {base : Heap}
def spBent : Sp := fun vs H Q _ => ∃ (p l : Addr) (ns : List Int) (n : Nat) (g : Int) (z : Str) (L : Nat), vs = [.ref p, .str z] ∧ Pen H p l ns n g ∧ n < 900000 ∧ Lin L z ∧ L ≤ 2000 ∧
  ∀ (z' : Str) (n' : Nat) (g' : Int) (H' : Hp), Lin (2 * L + 105) z' → n' ≤ n + 4 → Off p H H' → Pen H' p l ns n' g' → Q (.str z') H'
theorem ok_bent {f fD fP fK : Addr} {fd fdD fdP fdK : FuncData} (F : Fun K "_law_bent" "_law_bent" sBent f fd) (ml : mg "len" = none) (ms : mg "str" = none)
    (FD : Fun K "_law_draw" "_law_draw" sDraw fD fdD) (bD : Binds K fdD ["_law_pen_here", "_law_many"] []) (gD : mg "_law_draw" = some (.ref fD)) (GD : FnOk P w K mg base CX0 1 fD fdD ["_law_pen_here", "_law_many"] spDraw)
    (FP : Fun K "_law_pick" "_law_pick" sPick fP fdP) (bP : Binds K fdP ["_law_pen_here", "_law_some"] []) (gP : mg "_law_pick" = some (.ref fP)) (GP : FnOk P w K mg base CX0 2 fP fdP ["_law_pen_here", "_law_some"] (spPick K))
    (FK : Fun K "_law_kinds" "_law_kinds" sKinds fK fdK) (bK : Binds K fdK [] []) (gK : mg "_law_kinds" = some (.ref fK)) (GK : FnOk P w K mg base CX0 1 fK fdK [] spKinds) :
    FnOk P w K mg base CX0 3 f fd ["_law_pen_here", "_law_text_here"] spBent := by
  refine F.ok scBent (fun vs H Q E h => ?_) (fun cdv A outer s H vs Q E hr h => ?_)
  · obtain ⟨_, _, _, _, _, _, _, rfl, _⟩ := h
    rfl
  · obtain ⟨p, l, ns, n, g, z, L, rfl, hp, hn, hL, hL5, q⟩ := h
    have hr1 : Room 1 _ := hr.mono (by decide)
    have hr2 : Room 2 _ := hr.mono (by decide)
    refine ⟨_, (pss_cons (ps_set (i := 2) scBent.nd rfl (.inl rfl) (pe_split (pv 1) pe_str))
      (pss_cons (ps_par (i := 3) (j := 4) (by rfl) scBent.nd rfl rfl (by decide) rfl rfl (pa_cons (pe_call GD hr1 (by rfl) gD FD.kp bD .nil pass0 (pa_cons (pv 0) (pa_cons (pe_callB call_len_seq (by rfl) ml PySem.boot_len (pa_cons (pv 2) pa_nil)) pa_nil))) (pa_cons (pe_call GD hr1 (by rfl) gD FD.kp bD .nil pass0 (pa_cons (pv 0) (pa_cons pe_int pa_nil))) pa_nil)) (by rfl))
      (pss_cons (ps_if (pt_cmpR op_eq (pv 4) pe_int (nomark _)) (pss_one (ps_ret (pe_join pe_str (pe_op op_cat (pe_slice sl_list (pv 2) po_none (po_some (pv 3))) (pe_slice sl_list (pv 2) (po_some (pe_op op_add (pv 3) pe_int)) po_none))))) pss_nil)
      (pss_cons (ps_if (pt_cmpR op_eq (pv 4) pe_int (nomark _)) (pss_one (ps_ret (pe_join pe_str (pe_op op_cat (pe_slice sl_list (pv 2) po_none (po_some (pe_op op_add (pv 3) pe_int))) (pe_slice sl_list (pv 2) (po_some (pv 3)) po_none))))) pss_nil)
      (pss_cons (ps_if (pt_cmpR op_lt (pv 4) pe_int (nomark _)) (pss_cons (ps_set (i := 5) scBent.nd rfl (.inl rfl) (pe_lst (pa_cons pe_str (pa_cons pe_str (pa_cons pe_str (pa_cons pe_str (pa_cons pe_str (pa_cons pe_str (pa_cons pe_str (pa_cons pe_str (pa_cons pe_str (pa_cons pe_str (pa_cons pe_str (pa_cons pe_str (pa_cons pe_str (pa_cons pe_str pa_nil))))))))))))))))
        (pss_cons (ps_set (i := 5) scBent.nd rfl (.inl rfl) (pe_op op_cat (pv 5) (pe_lst (pa_cons pe_str (pa_cons pe_str (pa_cons (pe_callTy call_str_int (by rfl) ms (by decide +kernel) (pa_cons (pe_op op_pow pe_int pe_int) pa_nil)) (pa_cons (pe_callTy call_str_int (by rfl) ms (by decide +kernel) (pa_cons (pe_op op_add (pe_op op_pow pe_int pe_int) pe_int) pa_nil)) (pa_cons (pe_op op_mul_str pe_str pe_int) (pa_cons (pe_op op_mul_str pe_str pe_int) (pa_cons (pe_op op_mul_str pe_str pe_int) (pa_cons pe_str (pa_cons pe_str pa_nil))))))))))))
        (pss_one (ps_ret (pe_join pe_str (pe_op op_cat (pe_op op_cat (pe_slice sl_list (pv 2) po_none (po_some (pv 3))) (pe_lst (pa_cons (pe_call GP hr2 (by rfl) gP FP.kp bP .nil pass0 (pa_cons (pv 0) (pa_cons (pe_op op_cat (pv 5) (pe_call0 GK hr1 (by rfl) gK FK.kp bK .nil pass0)) pa_nil))) pa_nil))) (pe_slice sl_list (pv 2) (po_some (pe_op op_add (pv 3) pe_int)) po_none))))))) pss_nil)
      (pss_cons (ps_set (i := 6) scBent.nd rfl (.inl rfl) (pe_call GD hr1 (by rfl) gD FD.kp bD .nil pass0 (pa_cons (pv 0) (pa_cons (pe_op op_add (pe_callB call_len_str (by rfl) ml PySem.boot_len (pa_cons (pv 1) pa_nil)) pe_int) pa_nil))))
      (pss_cons (ps_if (pt_cmpR op_eq (pv 4) pe_int (nomark _)) (pss_one (ps_ret (pe_op op_add_str (pe_op op_add_str (pe_slice sl_str (pv 1) po_none (po_some (pv 6))) (pe_call GP hr2 (by rfl) gP FP.kp bP .nil pass0 (pa_cons (pv 0) (pa_cons (pe_lst (pa_cons pe_str (pa_cons pe_str (pa_cons pe_str (pa_cons pe_str (pa_cons pe_str (pa_cons pe_str pa_nil))))))) pa_nil)))) (pe_slice sl_str (pv 1) (po_some (pv 6)) po_none)))) pss_nil)
      (pss_cons (ps_if (pt_cmpR op_eq (pv 4) pe_int (nomark _)) (pss_one (ps_ret (pe_op op_add_str (pe_slice sl_str (pv 1) po_none (po_some (pv 6))) (pe_slice sl_str (pv 1) (po_some (pe_op op_add (pv 6) pe_int)) po_none)))) pss_nil)
      (pss_one (ps_ret (pe_call GP hr2 (by rfl) gP FP.kp bP .nil pass0 (pa_cons (pv 0) (pa_cons (pe_lst (pa_cons (pe_op op_add_str pe_str (pv 1)) (pa_cons (pe_op op_add_str (pv 1) pe_str) (pa_cons (pe_op op_add_str (pv 1) pe_str) pa_nil)))) pa_nil))))))))))))), ?_⟩
    have hsz := sizeLine_eq
    have hws1 : 1 ≤ (Txt.split z " ").length := split_one z
    have hwa : ∀ x ∈ Txt.split z " ", asc x := fun x hx => split_asc hL.2 hx
    have hws : wsum (Txt.split z " ") ≤ L + 1 := Nat.le_trans (split_weight2 z) (Nat.add_le_add_right hL.1 1)
    refine ⟨_, rfl, ⟨_, rfl⟩, _, _, rfl, rfl, by decide, Nat.le_trans (Nat.add_le_add_right hL.1 2) (Nat.le_trans (by omega : L + 2 ≤ 2002) (by decide)), fun a ha => ?_⟩
    have s1 := same_upd0 (o := .lst ((Txt.split z " ").map V.str)) ha
    have a1 : (upd H a (.lst ((Txt.split z " ").map V.str))) a = some (.lst ((Txt.split z " ").map V.str)) := upd_same
    have nap := hp.ne ha
    have pen1 := hp.same s1
    revert s1 a1 pen1 hws1 hwa hws
    generalize Txt.split z " " = ws
    generalize upd H a (.lst (ws.map V.str)) = H1
    intro hws1 hwa hws s1 a1 pen1
    have hwn : ws.length ≤ 2001 := by unfold wsum at hws; omega
    refine ⟨_, rfl, _, rfl, a, _, rfl, .inl (SqL.of a1), p, l, ns, n, g, _, rfl, pen1, by omega, by rw [List.length_map]; omega, by rw [List.length_map]; omega, fun k n2 g2 H2 k0 k1 hn2 off2 pen2 => ?_⟩
    have a2 := off2 _ _ nap a1
    refine ⟨_, rfl, p, l, ns, n2, g2, _, rfl, pen2, by omega, by decide, by decide, fun way n4 g4 H4 w0 w1 hn4 off4 pen4 => ⟨_, _, rfl, ?_⟩⟩
    have a4 := off4 _ _ nap a2
    have off04 : Off p H H4 := (offS s1).trans (off2.trans off4)
    clear off2 off4 a1 a2 pen1 pen2 s1
    -- the end of what is joined
    have fin : ∀ (vs : List Str) (n' : Nat) (g' : Int) (G G' : Hp), Off p H4 G → Pen G p l ns n' g' → n' ≤ n + 4 → Same G G' → wsum vs ≤ 2 * L + 105 → (∀ x ∈ vs, asc x) → Q (.str (Txt.join " " vs)) G' := fun vs n' g' G G' o pn hn' s hw has =>
      q _ n' g' G' (Lin.join hw has) hn' ((off04.trans o).trans (offS s)) (pn.same s)
    have jsz : ∀ vs : List Str, wsum vs ≤ 2 * L + 105 → (vs.map (·.length)).sum + vs.length * (" " : Str).length ≤ 16777216 := fun vs hw => by
      rw [show (" " : Str).length = 1 by decide]
      unfold wsum at hw
      omega
    -- no word in its place
    refine ⟨_, rfl, rfl, _, rfl, ite2 (fun _ => ?_) (fun _ => ?_)⟩
    · obtain ⟨v1, e1, hw1, m1, l1⟩ := cut_strs ws none (some k)
      obtain ⟨v2, e2, hw2, m2, l2⟩ := cut_strs ws (some (k + 1)) none
      refine ⟨⟨_, rfl⟩, _, rfl, _, rfl, _, rfl, a, _, rfl, SqL.of a4, fun c1 h1 => ?_⟩
      rw [e1]
      have t1 := same_upd0 (o := .lst (v1.map V.str)) h1
      refine ⟨_, rfl, _, rfl, _, _, rfl, rfl, _, rfl, a, _, rfl, SqL.of (t1 _ _ a4), fun c2 h2 => ?_⟩
      rw [e2]
      have t2 := same_upd0 (o := .lst (v2.map V.str)) h2
      refine ⟨c1, c2, _, _, rfl, rfl, t2 _ _ upd_same, upd_same, by rw [List.length_map, List.length_map]; omega, fun c3 h3 => ?_⟩
      have hw : wsum (v1 ++ v2) ≤ 2 * L + 105 := by rw [wsum_app]; omega
      refine ⟨_, c3, v1 ++ v2, rfl, rfl, .inl (SqL.of ?_), jsz _ hw, fin _ n4 g4 H4 _ Off.refl pen4 (by omega) ((t1.trans t2).trans (same_upd0 h3)) hw fun x hx => ?_⟩
      · rw [upd_same, List.map_append]
      · rcases List.mem_append.mp hx with h | h
        · exact hwa x (m1 x h)
        · exact hwa x (m2 x h)
    -- a word twice
    refine ⟨_, rfl, rfl, _, rfl, ite2 (fun _ => ?_) (fun _ => ?_)⟩
    · obtain ⟨v1, e1, hw1, m1, l1⟩ := cut_strs ws none (some (k + 1))
      obtain ⟨v2, e2, hw2, m2, l2⟩ := cut_strs ws (some k) none
      refine ⟨⟨_, rfl⟩, _, rfl, _, rfl, _, _, rfl, rfl, _, rfl, a, _, rfl, SqL.of a4, fun c1 h1 => ?_⟩
      rw [e1]
      have t1 := same_upd0 (o := .lst (v1.map V.str)) h1
      refine ⟨_, rfl, _, rfl, _, rfl, a, _, rfl, SqL.of (t1 _ _ a4), fun c2 h2 => ?_⟩
      rw [e2]
      have t2 := same_upd0 (o := .lst (v2.map V.str)) h2
      refine ⟨c1, c2, _, _, rfl, rfl, t2 _ _ upd_same, upd_same, by rw [List.length_map, List.length_map]; omega, fun c3 h3 => ?_⟩
      have hw : wsum (v1 ++ v2) ≤ 2 * L + 105 := by rw [wsum_app]; omega
      refine ⟨_, c3, v1 ++ v2, rfl, rfl, .inl (SqL.of ?_), jsz _ hw, fin _ n4 g4 H4 _ Off.refl pen4 (by omega) ((t1.trans t2).trans (same_upd0 h3)) hw fun x hx => ?_⟩
      · rw [upd_same, List.map_append]
      · rcases List.mem_append.mp hx with h | h
        · exact hwa x (m1 x h)
        · exact hwa x (m2 x h)
    -- a word exchanged
    refine ⟨_, rfl, _, _, rfl, rfl, _, rfl, ite2 (fun _ => ?_) (fun _ => ?_)⟩
    · obtain ⟨v1, e1, hw1, m1, l1⟩ := cut_strs ws none (some k)
      obtain ⟨v2, e2, hw2, m2, l2⟩ := cut_strs ws (some (k + 1)) none
      have e30 : ((10 : Int) ^ Int.toNat 30) = 1000000000000000000000000000000 := by decide +kernel
      refine ⟨by show 14 ≤ sizeLine; decide, fun o1 h1 => ?_⟩
      refine ⟨_, rfl, _, _, rfl, rfl, ⟨by decide, by decide, by decide⟩, _, rfl, mom_log (by rw [e30]; decide), _, _, rfl, rfl, ⟨by decide, by decide, by decide⟩, _, _, rfl, rfl, _, rfl, by rw [e30]; decide +kernel, _, _, rfl, rfl, mul_ok.1.1, _, _, rfl, rfl, mul_ok.1.2.1, _, _, rfl, rfl, mul_ok.1.2.2, by show 9 ≤ sizeLine; decide, fun o2 h2 => ?_⟩
      refine ⟨o1, o2, _, _, rfl, rfl, (same_upd0 h2) _ _ upd_same, upd_same, by show 23 ≤ sizeLine; decide, fun o3 h3 => ?_⟩
      have k3 : Same H4 (upd (upd (upd H4 o1 (.lst VA)) o2 (.lst VB)) o3 (.lst (VA ++ VB))) ∧ (upd (upd (upd H4 o1 (.lst VA)) o2 (.lst VB)) o3 (.lst (VA ++ VB))) o3 = some (.lst ((oddsA ++ oddsB).map V.str)) :=
        ⟨((same_upd0 h1).trans (same_upd0 h2)).trans (same_upd0 h3), by rw [upd_same, List.map_append]; rfl⟩
      revert k3
      generalize upd (upd (upd H4 o1 (.lst VA)) o2 (.lst VB)) o3 (.lst (VA ++ VB)) = H5
      rintro ⟨s5, ho5⟩
      clear h1 h2 h3
      have a5 := s5 _ _ a4
      have pen5 := pen4.same s5
      refine ⟨⟨_, rfl⟩, _, rfl, _, rfl, _, rfl, a, _, rfl, SqL.of a5, fun c1 h1 => ?_⟩
      rw [e1]
      have t1 := same_upd0 (o := .lst (v1.map V.str)) h1
      have nc1 := pen5.ne h1
      refine ⟨_, rfl, _, rfl, rfl, fun H6 kl s6 nk hkl => ?_⟩
      have t6 := t1.trans s6
      refine ⟨o3, kl, _, _, rfl, rfl, t6 _ _ ho5, hkl, by rw [List.length_map, List.length_map]; show 33 ≤ sizeLine; decide, fun o4 h4 => ?_⟩
      have t7 := t6.trans (same_upd0 (o := .lst ((oddsA ++ oddsB).map V.str ++ kinds.map V.str)) h4)
      have no4 := (pen5.same t6).ne h4
      have hc1 : (upd H6 o4 (.lst ((oddsA ++ oddsB).map V.str ++ kinds.map V.str))) c1 = some (.lst (v1.map V.str)) := (same_upd0 h4) _ _ (s6 _ _ upd_same)
      refine ⟨p, l, ns, n4, g4, _, rfl, pen5.same t7, by omega, .inl ⟨o4, _, rfl, no4, upd_same, by show 0 < 33; decide, by show 33 ≤ 1000; decide, fun v n6 g6 G6 hv hn6 off6 pen6 => ?_⟩⟩
      obtain ⟨o, rfl, ho⟩ : ∃ o, v = .str o ∧ Lin 102 o := by
        rcases List.mem_append.mp hv with h | h
        · obtain ⟨o, ho, rfl⟩ := List.mem_map.mp h
          rcases List.mem_append.mp ho with h | h
          · exact ⟨o, rfl, small_of (oddsA_ok o h)⟩
          · exact ⟨o, rfl, oddsB_ok o h⟩
        · obtain ⟨o, ho, rfl⟩ := List.mem_map.mp h
          exact ⟨o, rfl, small_of (kinds_small o ho)⟩
      have a6 := off6 _ _ nap (t7 _ _ a5)
      have hc6 := off6 _ _ nc1 hc1
      have o46 : Off p H4 G6 := (offS (s5.trans t7)).trans off6
      refine ⟨by show 1 ≤ sizeLine; decide, fun c5 h5 => ?_⟩
      have t8 := same_upd0 (o := .lst [V.str o]) h5
      refine ⟨c1, c5, _, _, rfl, rfl, t8 _ _ hc6, upd_same, by rw [List.length_map]; show v1.length + 1 ≤ sizeLine; omega, fun c6 h6 => ?_⟩
      have t9 := t8.trans (same_upd0 (o := .lst (v1.map V.str ++ [V.str o])) h6)
      refine ⟨_, rfl, _, rfl, _, _, rfl, rfl, _, rfl, a, _, rfl, SqL.of (t9 _ _ a6), fun c7 h7 => ?_⟩
      rw [e2]
      have tA := same_upd0 (o := .lst (v2.map V.str)) h7
      refine ⟨c6, c7, _, _, rfl, rfl, tA _ _ upd_same, upd_same, by rw [List.length_append, List.length_map, List.length_map]; show v1.length + 1 + v2.length ≤ sizeLine; omega, fun c8 h8 => ?_⟩
      have hw : wsum (v1 ++ [o] ++ v2) ≤ 2 * L + 105 := by
        rw [wsum_app, wsum_app]
        have h1 : wsum [o] = o.length + 1 := by simp [wsum]
        have := ho.1
        have e := wsum_app (v1 ++ [o]) v2
        omega
      refine ⟨_, c8, v1 ++ [o] ++ v2, rfl, rfl, .inl (SqL.of ?_), jsz _ hw, fin _ n6 g6 G6 _ o46 pen6 (by omega) ((t9.trans tA).trans (same_upd0 h8)) hw fun x hx => ?_⟩
      · rw [upd_same, List.map_append, List.map_append]
        rfl
      · rcases List.mem_append.mp hx with h | h
        · rcases List.mem_append.mp h with h | h
          · exact hwa x (m1 x h)
          · rw [List.mem_singleton.mp h]; exact ho.2
        · exact hwa x (m2 x h)
    -- a sign more, a sign less, a blank at an end
    have zl : z.length ≤ sizeLine := by have := hL.1; omega
    refine ⟨_, rfl, _, rfl, z, rfl, zl, _, _, rfl, rfl, p, l, ns, n4, g4, _, rfl, pen4, by omega, by omega, by have := hL.1; omega, fun spot n6 g6 H6 p0 p1 hn6 off6 pen6 => ?_⟩
    have off06 := off04.trans off6
    have fin2 : ∀ (y : Str) (n' : Nat) (g' : Int) (G : Hp), Off p H6 G → Pen G p l ns n' g' → n' ≤ n + 4 → Lin (2 * L + 105) y → Q (.str y) G := fun y n' g' G o pn hn' hw => q y n' g' G hw hn' (off06.trans o) pn
    have c1 := cut_lin hL none (some spot)
    have c2 := cut_lin hL (some spot) none
    have c3 := cut_lin hL (some (spot + 1)) none
    refine ⟨_, rfl, rfl, _, rfl, ite2 (fun _ => ?_) (fun _ => ?_)⟩
    · refine ⟨_, rfl, _, rfl, _, rfl, _, rfl, zl, _, rfl, by show 6 ≤ sizeLine; decide, fun o1 h1 => ?_⟩
      have t1 := same_upd0 (o := .lst [V.str " ", .str "0", .str "a", .str "-", .str "\n", .str "A"]) h1
      refine ⟨p, l, ns, n6, g6, _, rfl, pen6.same t1, by omega, .inl ⟨o1, _, rfl, pen6.ne h1, upd_same, by show 0 < 6; decide, by show 6 ≤ 1000; decide, fun v n7 g7 H7 hv hn7 off7 pen7 => ?_⟩⟩
      obtain ⟨o, rfl, ho⟩ : ∃ o, v = .str o ∧ Lin 1 o := by
        simp only [List.mem_cons, List.not_mem_nil, or_false] at hv
        have one : ∀ o ∈ ([" ", "0", "a", "-", "\n", "A"] : List Str), (decide (o.length ≤ 1) && o.cps.toList.all fun c => decide (c < 128)) = true := by decide +kernel
        have lin1 : ∀ o ∈ ([" ", "0", "a", "-", "\n", "A"] : List Str), Lin 1 o := fun o ho => by
          have := one o ho
          rw [Bool.and_eq_true] at this
          exact ⟨of_decide_eq_true this.1, fun c hc => of_decide_eq_true (List.all_eq_true.mp this.2 c hc)⟩
        rcases hv with e | e | e | e | e | e <;> exact ⟨_, e, lin1 _ (by simp)⟩
      have l1 := lin_app c1 ho
      have l2 := lin_app l1 c2
      refine ⟨_, _, rfl, rfl, by have := c1.1; have := ho.1; omega, _, rfl, _, rfl, _, rfl, _, rfl, zl, _, _, rfl, rfl, by have := l1.1; have := c2.1; omega, ?_⟩
      exact fin2 _ n7 g7 H7 ((offS t1).trans off7) pen7 (by omega) ⟨by have := l2.1; omega, l2.2⟩
    refine ⟨_, rfl, rfl, _, rfl, ite2 (fun _ => ?_) (fun _ => ?_)⟩
    · have l2 := lin_app c1 c3
      refine ⟨_, rfl, _, rfl, _, rfl, _, rfl, zl, _, rfl, _, rfl, _, _, rfl, rfl, _, rfl, _, rfl, zl, _, _, rfl, rfl, by have := c1.1; have := c3.1; omega, ?_⟩
      exact fin2 _ n6 g6 H6 Off.refl pen6 (by omega) ⟨by have := l2.1; omega, l2.2⟩
    have bl : ∀ o ∈ ([" ", " a"] : List Str), Lin 2 o := by
      have one : ∀ o ∈ ([" ", " a"] : List Str), (decide (o.length ≤ 2) && o.cps.toList.all fun c => decide (c < 128)) = true := by decide +kernel
      intro o ho
      have := one o ho
      rw [Bool.and_eq_true] at this
      exact ⟨of_decide_eq_true this.1, fun c hc => of_decide_eq_true (List.all_eq_true.mp this.2 c hc)⟩
    have b1 := bl " " (by simp)
    have b2 := bl " a" (by simp)
    have hz := hL.1
    refine ⟨_, rfl, _, rfl, _, _, rfl, rfl, by have := b1.1; omega, _, rfl, _, _, rfl, rfl, by have := b1.1; omega, _, rfl, _, _, rfl, rfl, by have := b2.1; omega, by show 3 ≤ sizeLine; decide, fun o1 h1 => ?_⟩
    have t1 := same_upd0 (o := .lst [V.str ((" " : Str) ++ z), .str (z ++ (" " : Str)), .str (z ++ (" a" : Str))]) h1
    refine ⟨p, l, ns, n6, g6, _, rfl, pen6.same t1, by omega, .inl ⟨o1, _, rfl, pen6.ne h1, upd_same, by show 0 < 3; decide, by show 3 ≤ 1000; decide, fun v n7 g7 H7 hv hn7 off7 pen7 => ?_⟩⟩
    obtain ⟨o, rfl, ho⟩ : ∃ o, v = .str o ∧ Lin (L + 2) o := by
      simp only [List.mem_cons, List.not_mem_nil, or_false] at hv
      rcases hv with e | e | e
      · exact ⟨_, e, (Nat.add_comm 2 L) ▸ lin_app b1 hL⟩
      · exact ⟨_, e, lin_app hL b1⟩
      · exact ⟨_, e, lin_app hL b2⟩
    exact fin2 _ n7 g7 H7 ((offS t1).trans off7) pen7 (by omega) ⟨by have := ho.1; omega, ho.2⟩
end
end K15

namespace K15
open PySem PySem.Spec PyProof.Rows L2 So LamX StX TL
abbrev sRight : Stmt := topS 60
abbrev rightN : List Str := ["_law_text_here", "_law_due_here", "_law_heard_here"]
theorem scRight : FnScope rightN ["_law_text_here"] (defScope sRight) := ⟨rfl, rfl, rfl, by decide +kernel, rfl, by decide +kernel, by decide +kernel⟩
/-! ### the text of what is read -/
theorem str_tl {x y : Str} (h : tl x = tl y) : x = y := ext_tl h
theorem numL_cs : ∀ {cs : List Nat}, NumText.AllDigits cs → cs ≠ [] → (numL (NumText.digitsVal cs) = cs ↔ (cs = [48] ∨ cs.headD 0 ≠ 48))
  | [], _, h => absurd rfl h
  | c :: cs, ha, _ => by
    have back : ∀ l : List Nat, NumText.AllDigits l → (l.map Char.ofNat).map Char.toNat = l := by
      intro l hl
      rw [List.map_map]
      have : l.map (Char.toNat ∘ Char.ofNat) = l.map id := List.map_congr_left fun d hd => by
        have hd2 := hl d hd
        have : ∀ k < 10, (Char.ofNat (48 + k)).toNat = 48 + k := by decide
        have := this (d - 48) (by omega)
        rw [show 48 + (d - 48) = d by omega] at this
        exact this
      rw [this, List.map_id]
    by_cases e : c = 48
    · subst e
      constructor
      · intro h
        left
        have h2 := NumText.toDigits_all (48 :: cs) ha
        unfold numL at h
        rw [h2] at h
        rw [List.dropWhile_cons] at h
        have le : (cs.dropWhile (· == 48)).length ≤ cs.length := (List.dropWhile_sublist _).length_le
        have hl := congrArg List.length h
        cases hd : cs.dropWhile (· == 48) with
        | nil =>
          simp [hd] at hl
          have : cs = [] := by
            cases cs with
            | nil => rfl
            | cons a r => simp at hl
          rw [this]
        | cons a r =>
          rw [hd] at le
          simp [hd] at hl
          simp at le
          omega
      · rintro (h | h)
        · rw [h]
          decide
        · exact absurd rfl h
    · refine ⟨fun _ => .inr e, fun _ => ?_⟩
      have hc := ha.head
      have h2 := NumText.toDigits_digitsVal cs.length (c :: cs) rfl ha (Or.inr ⟨c, cs, rfl, by omega⟩)
      unfold numL
      rw [h2, back _ ha]
theorem num_text {z : Str} (h1 : 1 ≤ z.length) (ha : z.cps.toList.all isDig = true) : (Str.ofString (toString ((numOf z : Nat) : Int)) = z) ↔ (z = ("0" : Str) ∨ z.cps.toList.headD 0 ≠ 48) := by
  have hne : z.cps.toList ≠ [] := fun e => by
    have : z.length = z.cps.toList.length := Array.length_toList.symm
    rw [e] at this
    simp at this
    omega
  have k := numL_cs (all_dig ha) hne
  have e0 : (z = ("0" : Str)) ↔ z.cps.toList = [48] := by
    constructor
    · intro h
      rw [h]
      decide +kernel
    · intro h
      refine str_tl ?_
      show z.cps.toList = _
      rw [h]
      decide +kernel
  rw [e0, ← k]
  constructor
  · intro h
    have := congrArg tl h
    rw [tl_num] at this
    exact this
  · intro h
    refine str_tl ?_
    rw [tl_num]
    exact h
theorem num_back {z : Str} (h : isNum z = true) : Str.ofString (toString ((numOf z : Nat) : Int)) = z := by
  have h' := h
  unfold isNum at h'
  simp only [Bool.and_eq_true, Bool.or_eq_true, decide_eq_true_eq] at h'
  obtain ⟨⟨⟨l1, _⟩, hd⟩, h3⟩ := h'
  exact (num_text l1 hd).mpr (h3.elim .inl fun e => .inr e.1)
theorem word_back {f z : Str} (hf : f ∈ (["name", "moment", "beginning", "truth"] : List Str)) (h : hasForm f z = true) : wordV (valOf f z) = z := by
  simp only [List.mem_cons, List.not_mem_nil, or_false] at hf
  rcases hf with e | e | e | e <;> subst e
  · rfl
  · exact num_back h
  · have h : (isNum z && !decide (z = ("0" : Str))) = true := h
    rw [Bool.and_eq_true] at h
    exact num_back h.1
  · have h : z ∈ (["sound", "unsound"] : List Str) := List.contains_iff_mem.mp h
    simp only [List.mem_cons, List.not_mem_nil, or_false] at h
    rcases h with e | e <;> subst e <;> decide +kernel
theorem words_back : ∀ {as fs : List Str}, as.length = fs.length → (∀ f ∈ fs, f ∈ (["name", "moment", "beginning", "truth"] : List Str)) → (∀ (i : Nat) (w f : Str), as[i]? = some w → fs[i]? = some f → hasForm f w = true) → (valsOf as fs).map wordV = as
  | [], [], _, _, _ => rfl
  | [], _ :: _, h, _, _ => by cases h
  | _ :: _, [], h, _, _ => by cases h
  | a :: as, f :: fs, h, hf, hh => by
    have ih := words_back (as := as) (fs := fs) (by simpa using h) (fun x hx => hf x (List.mem_cons_of_mem _ hx)) (fun i w g h1 h2 => hh (i + 1) w g (by simpa using h1) (by simpa using h2))
    show wordV (valOf f a) :: (valsOf as fs).map wordV = _
    rw [ih, word_back (hf f List.mem_cons_self) (hh 0 a f rfl rfl)]
theorem text_back {z kind : Str} {as : List Str} (hk : kind ∈ kinds) (e : Txt.split z " " = kind :: as) (h : fw (kind :: as) (kind :: formsOf kind) 0 = none) : rowText kind (valsOf as (formsOf kind)) = z := by
  obtain ⟨hlen, hall⟩ := fw_none h
  unfold rowText
  rw [words_back (by simpa using hlen) (forms_in kind hk) (fun i w f h1 h2 => hall (i + 1) w f (by simpa using h1) (by simpa using h2)), ← e, join_eq]
  exact StrLaws.join_split z " "
def OffN (p : Addr) (H H' : Hp) : Prop := ∀ b o, b ≠ p → H b = some o → (∀ ps, o ≠ .tbl ps) → H' b = some o
theorem extN_of {H H' : Hp} (s : Same H H') : ExtN H H' := fun b o e _ => s b o e
theorem lst_ne {xs : List V} : ∀ ps, HO.lst xs ≠ .tbl ps := fun ps z => nomatch z
theorem tup_ne {xs : List V} : ∀ ps, HO.tup xs ≠ .tbl ps := fun ps z => nomatch z
theorem ins_ne {C d : Addr} {fs : List (Str × V)} : ∀ ps, HO.ins C d fs ≠ .tbl ps := fun ps z => nomatch z
theorem dk_ne {kvs : List (Key × V)} : ∀ ps, HO.dK kvs ≠ .tbl ps := fun ps z => nomatch z
theorem tabs_off {T : List (Addr × Str)} {H H' : Hp} {p : Addr} {xs : List V} (hp : H p = some (.lst xs)) (t : Tabs T H) (o : Off p H H') : Tabs T H' := by
  intro y hy
  obtain ⟨ps, h1, h2, h3⟩ := t y hy
  refine ⟨ps, o _ _ (ne_of h1 hp (fun z => nomatch z)) h1, h2, fun pos cv hc => ?_⟩
  obtain ⟨c, e1, e2⟩ := h3 pos cv hc
  refine ⟨c, e1, o _ _ (fun z => ?_) e2⟩
  rw [z, hp] at e2
  cases e2
theorem tabs_same {T : List (Addr × Str)} {H H' : Hp} (t : Tabs T H) (s : Same H H') : Tabs T H' := t.ext s
theorem pen_ext {H H' : Hp} {p l : Addr} {ns : List Int} {n : Nat} {g : Int} (h : Pen H p l ns n g) (s : ExtN H H') : Pen H' p l ns n g := ⟨s _ _ h.pen lst_ne, s _ _ h.cells lst_ne, h.left⟩
theorem RowAt.ext {Cf : Str → Addr} {H H' : Hp} {a : Addr} {kind : Str} {xs : List V} (h : RowAt Cf H a kind xs) (s : ExtN H H') : RowAt Cf H' a kind xs := by
  obtain ⟨dx, fs, e, t1, ⟨tp, t2, t3⟩, t4⟩ := h
  exact ⟨dx, fs, s _ _ e ins_ne, t1, ⟨tp, t2, s _ _ t3 tup_ne⟩, t4⟩
/-- two like rows, compared -/
def rLike (Cf : Str → Addr) (K : PySem.W.Frag) : R2 := fun x y H Q => ∃ kind, kind ∈ kinds ∧ rOwn (Cf kind) K (spEqR Cf) (fun _ _ _ => False) id x y H Q
section
variable {X : Cx} {Cf : Str → Addr} {f : Addr} {fd : FuncData}
theorem cr_strA (G : FnOk X.prog X.w X.K X.mg X.base CX0 2 f fd ["self"] (spStrR Cf)) (s : ∀ kind ∈ kinds, PySem.W.findIn X.K (.ref (Cf kind)) "__str__" = some (some (.ref f))) (i : PySem.W.isFn X.K (.ref f) = true) (b : Binds X.K fd ["self"] []) (hr : Room 4 X.A) :
    CallR X (.type "str") (fun xs H Q => ∃ kind, kind ∈ kinds ∧ ∃ a dx fs, xs = [.ref a] ∧ H a = some (.ins (Cf kind) dx fs) ∧ spStrR Cf [.ref a] H (fun v H' => ∃ t : Str, v = .str t ∧ Q (.str t) H') (fun _ _ _ => False)) :=
  cr_ex fun kind hk => call_strOwn (C := Cf kind) G (s kind hk) i b pass0 hr
theorem op_eqA (G : FnOk X.prog X.w X.K X.mg X.base CX0 1 f fd ["self", "other"] (spEqR Cf)) (s : ∀ kind ∈ kinds, PySem.W.findIn X.K (.ref (Cf kind)) "__eq__" = some (some (.ref f))) (i : PySem.W.isFn X.K (.ref f) = true) (b : Binds X.K fd ["self", "other"] []) (hr : Room 1 X.A) :
    OpR X (compareOp .Eq) (rLike Cf X.K) := op_ex fun kind hk => op_eqOwn (C := Cf kind) G (s kind hk) i b pass0 hr
end
section
variable {P : Program} {w : World} {K : PySem.W.Frag} {mg : Str → Option Value} {base : Heap}
theorem rLike_of {Cf : Str → Addr} {CR a b : Addr} {H : Hp} {kind : Str} {xs : List V} {Q : VK} (T : RowsC K mg Cf CR) (hk : kind ∈ kinds) (hf : FlatRow kind xs) (A : RowAt Cf H a kind xs) (B : RowAt Cf H b kind xs) (h : Q (.bl true) H) : rLike Cf K (.ref a) (.ref b) H Q := by
  obtain ⟨d1, fs1, h1, t1⟩ := id A
  obtain ⟨d2, fs2, h2, t2⟩ := id B
  exact ⟨kind, hk, a, d1, _, .ref (Cf kind), rfl, h1, .base (.ins h2 (T.c kind hk).cl (T.ha kind hk) T.hn T.htk (T.hm kind hk)), by simp [PySem.W.notFirst], a, b, kind, xs, rfl, hk, hf, A, B, _, rfl, h⟩
end
/-- what of rows the law calls -/
structure Mths (K : PySem.W.Frag) (P : Program) (w : World) (mg : Str → Option Value) (base : Heap) (Cf : Str → Addr) (CR aK CB : Addr) : Prop where
  W : Words K mg
  T : RowsC K mg Cf CR
  R : RdK K mg CR aK
  eq : ∃ (f : Addr) (fd : FuncData), (∀ kind ∈ kinds, PySem.W.findIn K (.ref (Cf kind)) "__eq__" = some (some (.ref f))) ∧ PySem.W.isFn K (.ref f) = true ∧ Binds K fd ["self", "other"] [] ∧ FnOk P w K mg base CX0 1 f fd ["self", "other"] (spEqR Cf)
  str : ∃ (f : Addr) (fd : FuncData), (∀ kind ∈ kinds, PySem.W.findIn K (.ref (Cf kind)) "__str__" = some (some (.ref f))) ∧ PySem.W.isFn K (.ref f) = true ∧ Binds K fd ["self"] [] ∧ FnOk P w K mg base CX0 2 f fd ["self"] (spStrR Cf)
  read : ∃ (p g : Addr) (fd : FuncData), ClX.CMet K CR (.type "type") "read" p g ∧ Binds K fd ["cls", "text"] [] ∧ FnOk P w K mg base (L2.CX P w) 10 g fd ["cls", "text"] (spRowRead K Cf CB)
theorem str_okD {z : Str} (h : Lin 2000 z) : OkD 21000 12 (.str z) := by
  have h5 := PySem.StrLaws.reprText_len z (fun c hc => Nat.lt_trans (h.2 c hc) (by decide))
  have := h.1
  exact ⟨rfl, Nat.zero_le _, by show (reprText _).length ≤ 21000; omega⟩
theorem word_okT {z : Str} (h : (decide ((reprText z).length ≤ 100)) = true) : OkD 21000 12 (.str z) := ⟨rfl, Nat.zero_le _, Nat.le_trans (of_decide_eq_true h) (by decide)⟩
theorem int_okT {n : Nat} (h : n ≤ 100) : OkD 21000 12 (.int (n : Nat)) := (OkD.int (i := (n : Nat)) (by omega)).mono (by decide) (by decide)
theorem tup_okD {ds : List PyData} (h : ∀ d ∈ ds, OkD 21000 12 d) (hl : ds.length ≤ 3) : (PyData.tuple ds).showable = true ∧ (PyData.tuple ds).depth ≤ 60 ∧ (PyData.tuple ds).shown.length ≤ sizeLine :=
  (OkD.tuple (n := 21000) (m := 12) h).repr (by decide) (by omega)
theorem bad_le {ws : List Str} {n : Nat} (h : rowBad ws = some n) : n ≤ 5 := by
  cases ws with
  | nil => cases h; omega
  | cons kind as =>
    have h : (if kinds.contains kind = true then fw (kind :: as) (kind :: formsOf kind) 0 else some 0) = some n := h
    split at h
    · rename_i c
      have := fw_lt h
      have := forms_len kind (kind_in c)
      rw [List.length_cons] at *
      omega
    · cases h; omega
section
variable {P : Program} {w : World} {K : PySem.W.Frag} {mg : Str → Option Value} {base : Heap}
def spRight (T : List (Addr × Str)) : Sp := fun vs H Q _ => ∃ z : Str, vs = [.str z] ∧ Lin 2000 z ∧ Tabs T H ∧ ∀ (H' : Hp), ExtN H H' → Tabs T H' → Q (.bl true) H'
theorem ok_right {T : List (Addr × Str)} {Cf : Str → Addr} {CT CN CM CB CR aK f c1 P1 fU fH : Addr} {fd fdU fdH : FuncData} (F : Fun K "_law_right" "_law_right" sRight f fd) (hcode : fd.code = .ref c1) (TB : TabB base mg c1 P1)
    (hT1 : ∀ n f' c', (P1, (envOfC "_law_right" (defScope sRight) n f' c').qual ++ "<lambda>") ∈ T) (hT2 : ∀ n f' c', ∀ q ∈ T, q.1 = P1 → q.2 = (envOfC "_law_right" (defScope sRight) n f' c').qual ++ "<lambda>")
    (M : Mths K P w mg base Cf CR aK CB) (R : HrL K mg CT CB CN CM) (mp : mg "repr" = none)
    (FU : Fun K "_law_due" "_law_due" sDue fU fdU) (bU : Binds K fdU ["_law_text_here"] []) (gU : mg "_law_due" = some (.ref fU)) (GU : FnOk P w K mg base CX0 3 fU fdU ["_law_text_here"] spDue)
    (FH : Fun K "_law_heard" "_law_heard" sHeard fH fdH) (bH0 : Binds K fdH ["_law_ask"] []) (gH : mg "_law_heard" = some (.ref fH)) :
    FnG P w K mg base CX0 13 f fd ["_law_text_here"] (spRight T) := by
  obtain ⟨f2, fd2, s2, i2, b2, G2⟩ := M.str
  obtain ⟨p3, g3, fd3, c3, b3, G3⟩ := M.read
  have G3R := fnR_of G3 b3
  obtain ⟨ocH, odH, kVH, docH, pmH, anH, cdvH, ctH, oslH, efd, lkH, hcH⟩ := FH.ex
  subst efd
  have bH := bH0
  refine fnG_ofC F hcode scRight (fun vs H Q E h => ?_) (fun A outer s H vs Q E hg hr h => ?_)
  · obtain ⟨_, rfl, _⟩ := h
    rfl
  · obtain ⟨z, rfl, hL, hT, q⟩ := h
    have hr3 : Room 3 _ := hr.mono (by decide)
    refine ⟨_, pss_cons (ps_set (i := 1) scRight.nd rfl (.inl rfl) (pe_call GU hr3 (by rfl) gU FU.kp bU .nil pass0 (pa_cons (pv 0) pa_nil)))
      (pss_cons (ps_cut (ps_set (i := 2) scRight.nd rfl (.inl rfl) (pe_lamcall (T := T) (TT := TTL CB) (t := _) (k := 10) (by rfl) gH FH.kp lkH hcH bH scHeard rfl (Or.inl rfl) (heard_gives R) TB rfl (hT1 _ _ _) (hT2 _ _ _) hr
            (lamS_by (sc := defScope sRight) (by decide +kernel)) rfl (fun _ _ _ _ _ => rfl) (fun A outer s H E f c' hr' => pe_callTy (cr_strA G2 s2 i2 b2 (hr'.mono (by decide))) (by rfl) M.W.str (by decide +kernel) (pa_cons (ClX.pe_cmeth (pe_glob (v := .ref CR) rfl M.R.gR rfl) M.R.rd c3 G3R hr' (passes_call (takes_of rfl rfl rfl rfl) (fun _ _ _ _ h => h)) (pa_cons (pv 0) pa_nil)) pa_nil)))))
      (pss_one (ps_ret (pe_cmpR op_eq (pe_callB (call_reprG hg hr.units) (by rfl) mp (by decide +kernel) (pa_cons (pv 2) pa_nil)) (pe_callB (call_reprG hg hr.units) (by rfl) mp (by decide +kernel) (pa_cons (pe_ifExp (pt_cmpR op_isN (pv 1) pe_non (nomark _)) (pe_tup (pa_cons pe_str (pa_cons (pv 0) pa_nil))) (pe_tup (pa_cons pe_str (pa_cons pe_int (pa_cons (pv 1) pa_nil))))) pa_nil)) (nomark _))))), ?_⟩
    have hsz := sizeLine_eq
    refine ⟨_, rfl, z, rfl, hL.1, fun H1 s1 => ?_⟩
    have t1 := tabs_same hT s1
    have okT := word_okT (z := "told") (by decide +kernel)
    have okX := word_okT (z := "text") (by decide +kernel)
    refine ⟨fun σ G => ∃ (rr : Addr), σ = [some (.str z), some (optV (rowBad (Txt.split z " "))), some (.ref rr)] ∧ ExtN H1 G ∧ Tabs T G ∧ (rowBad (Txt.split z " ") = none → G rr = some (.tup [.str "told", .str z])) ∧ (∀ n, rowBad (Txt.split z " ") = some n → G rr = some (.tup [.str "text", .int 0, .int (n : Nat)])), ?_, ?_⟩
    · refine ⟨t1, fun H7 x7 t7 => ?_⟩
      refine ⟨rfl, _, rfl, CR, _, rfl, .inl ⟨z, rfl, hL.1, fun kind as e hk hw H8 b s8 B8 => ?_, fun n hn d H8 s8 ed => ?_⟩⟩
      · obtain ⟨dx2, fs2, hb, _⟩ := id B8
        have hrb : rowBad (Txt.split z " ") = none := by
          rw [e]
          show (if kinds.contains kind = true then fw (kind :: as) (kind :: formsOf kind) 0 else some 0) = none
          rw [if_pos (List.contains_iff_mem.mpr hk)]
          exact hw
        refine ⟨kind, hk, b, dx2, fs2, rfl, hb, b, kind, _, rfl, hk, read_flat hk hw, B8, fun H9 s9 => ⟨_, rfl, fun tt2 ht2 => ?_⟩⟩
        rw [text_back hk e hw]
        have s10 := (s8.trans s9).trans (same_upd0 (o := .tup [.str "told", .str z]) ht2)
        exact ⟨tt2, rfl, x7.trans (extN_of s10), tabs_same t7 s10, fun _ => upd_same, (fun n hn => by rw [hrb] at hn; cases hn)⟩
      · refine ⟨d, .int 0, .int (n : Nat), rfl, rfl, ed, fun H9 rr s9 hr9 => ?_⟩
        have s10 := s8.trans s9
        exact ⟨rr, rfl, x7.trans (extN_of s10), tabs_same t7 s10, (fun hn' => by rw [hn] at hn'; cases hn'), (fun m hm => by rw [hn] at hm; cases hm; exact hr9)⟩
    rintro _ G ⟨rr, rfl, xG, tG, g0, g1⟩
    have end1 : ∀ G2, Same G G2 → Q (.bl true) G2 := fun G2 s => q G2 (((extN_of s1).trans xG).trans (extN_of s)) (tabs_same tG s)
    cases hb : rowBad (Txt.split z " ") with
    | none =>
      have hrr := g0 hb
      obtain ⟨k1, k2, k3⟩ := tup_okD (ds := [.str "told", .str z]) (fun d hd => by
        simp only [List.mem_cons, List.not_mem_nil, or_false] at hd
        rcases hd with h | h <;> subst h
        · exact okT
        · exact str_okD hL) (by show 2 ≤ 3; decide)
      refine ⟨_, rfl, _, _, rfl, .tup (SqT.of hrr) (.cons (.str _) (.cons (.str _) .nil)), k1, k2, k3, ?_⟩
      refine ⟨_, rfl, rfl, _, rfl, ite2 (fun _ => ?_) (fun e => absurd (decide_eq_true rfl) e)⟩
      refine ⟨_, rfl, by show 2 ≤ sizeLine; decide, fun r2 hr2 => ⟨_, _, rfl, .tup (SqT.of upd_same) (.cons (.str _) (.cons (.str _) .nil)), k1, k2, k3, rfl, ?_⟩⟩
      rw [decide_eq_true rfl]
      exact end1 _ (same_upd0 hr2)
    | some n =>
      have hrr := g1 n hb
      have hn5 := bad_le hb
      obtain ⟨k1, k2, k3⟩ := tup_okD (ds := [.str "text", .int 0, .int (n : Nat)]) (fun d hd => by
        simp only [List.mem_cons, List.not_mem_nil, or_false] at hd
        rcases hd with h | h | h <;> subst h
        · exact okX
        · exact int_okT (n := 0) (by decide)
        · exact int_okT (by omega)) (by show 3 ≤ 3; decide)
      refine ⟨_, rfl, _, _, rfl, .tup (SqT.of hrr) (.cons (.str _) (.cons (.int _) (.cons (.int _) .nil))), k1, k2, k3, ?_⟩
      refine ⟨_, rfl, rfl, _, rfl, ite2 (fun e => nomatch (of_decide_eq_true e)) (fun _ => ?_)⟩
      refine ⟨_, rfl, by show 3 ≤ sizeLine; decide, fun r2 hr2 => ⟨_, _, rfl, .tup (SqT.of upd_same) (.cons (.str _) (.cons (.int _) (.cons (.int _) .nil))), k1, k2, k3, rfl, ?_⟩⟩
      rw [decide_eq_true rfl]
      exact end1 _ (same_upd0 hr2)
end
end K15

namespace K15
open PySem PySem.Spec PyProof.Rows L2 So LamX StX TL
/-! ### the words of a row that stands -/
theorem isNum_text {z : Str} (h1 : 1 ≤ z.length) (h2 : z.length ≤ 31) (ha : z.cps.toList.all isDig = true) : isNum z = (decide (Str.ofString (toString ((numOf z : Nat) : Int)) = z) && decide (((numOf z : Nat) : Int) ≤ 1000000000000000000000000000000)) := by
  have k := num_text h1 ha
  unfold isNum
  rw [decide_eq_true h1, decide_eq_true h2, ha]
  by_cases e0 : z = ("0" : Str)
  · have : Str.ofString (toString ((numOf z : Nat) : Int)) = z := k.mpr (.inl e0)
    rw [decide_eq_true this, decide_eq_true e0, e0, zero_num]
    decide
  · rw [decide_eq_false e0]
    by_cases e1 : z.cps.toList.headD 0 ≠ 48
    · rw [decide_eq_true (k.mpr (.inr e1)), decide_eq_true e1]
      rfl
    · rw [decide_eq_false e1, decide_eq_false (fun h => (k.mp h).elim e0 e1)]
      rfl
theorem name_free {z : Str} (h : isName z = true) : 32 ∉ tl z := by
  unfold isName at h
  simp only [Bool.and_eq_true] at h
  intro hm
  have := List.all_eq_true.mp h.2 32 hm
  revert this
  decide +kernel
theorem num_of {m : Int} (h : 0 ≤ m ∧ m ≤ 1000000000000000000000000000000) : isNum (Str.ofString (toString m)) = true ∧ ((numOf (Str.ofString (toString m)) : Nat) : Int) = m ∧ 32 ∉ tl (Str.ofString (toString m)) ∧ asc (Str.ofString (toString m)) ∧ (Str.ofString (toString m)).length ≤ 31 := by
  obtain ⟨k, rfl⟩ : ∃ k : Nat, m = k := ⟨m.toNat, by omega⟩
  have e := tl_num k
  have hl : (numL k).length ≤ 31 := numL_len (by decide) (by omega)
  have hlen : (Str.ofString (toString ((k : Nat) : Int))).length = (numL k).length := by rw [TL.len_tl, e]
  have hn : numOf (Str.ofString (toString ((k : Nat) : Int))) = k := by
    show NumText.digitsVal (tl _) = k
    rw [e, numL_val]
  have hd : (Str.ofString (toString ((k : Nat) : Int))).cps.toList.all isDig = true := by
    show (tl (Str.ofString (toString ((k : Nat) : Int)))).all isDig = true
    rw [e]
    exact List.all_eq_true.mpr fun c hc => dig_of (numL_digits k c hc)
  have h1 : 1 ≤ (Str.ofString (toString ((k : Nat) : Int))).length := by
    rw [hlen]
    have := numL_ne k
    cases q : numL k with
    | nil => exact absurd q this
    | cons a r => simp
  refine ⟨?_, by rw [hn], ?_, ?_, by rw [hlen]; exact hl⟩
  · rw [isNum_text h1 (by rw [hlen]; exact hl) hd, hn, decide_eq_true rfl]
    exact decide_eq_true h.2
  · rw [e]
    exact numL_free (.inl (by decide))
  · intro c hc
    have hc : c ∈ tl (Str.ofString (toString ((k : Nat) : Int))) := hc
    rw [e] at hc
    have := numL_digits k c hc
    omega
theorem word_fwd {f : Str} {v : V} (hf : f ∈ (["name", "moment", "beginning", "truth"] : List Str)) (o : okF f v = true) : hasForm f (wordV v) = true ∧ valOf f (wordV v) = v ∧ 32 ∉ tl (wordV v) ∧ (wordV v).length ≤ 31 := by
  simp only [List.mem_cons, List.not_mem_nil, or_false] at hf
  rcases hf with e | e | e | e <;> subst e
  · rw [okF_n] at o
    cases v with
    | str z => exact ⟨o, rfl, name_free o, Nat.le_trans (name_len o) (by decide)⟩
    | _ => cases o
  · rw [okF_m] at o
    cases v with
    | int i =>
      obtain ⟨h1, h2, h3, _, h5⟩ := num_of (of_decide_eq_true o : 0 ≤ i ∧ i ≤ 1000000000000000000000000000000)
      refine ⟨h1, ?_, h3, h5⟩
      show V.int ((numOf (Str.ofString (toString i)) : Nat) : Int) = V.int i
      rw [h2]
    | _ => cases o
  · rw [okF_b] at o
    cases v with
    | int i =>
      have hi : 1 ≤ i ∧ i ≤ 1000000000000000000000000000000 := of_decide_eq_true o
      obtain ⟨h1, h2, h3, _, h5⟩ := num_of (⟨by omega, hi.2⟩ : 0 ≤ i ∧ i ≤ 1000000000000000000000000000000)
      refine ⟨?_, ?_, h3, h5⟩
      · show (isNum _ && !decide (_ = ("0" : Str))) = true
        have h0 : ¬ (Str.ofString (toString i)) = ("0" : Str) := fun e => by
          rw [e, zero_num] at h2
          omega
        rw [show isNum (wordV (.int i)) = true from h1, show decide (wordV (.int i) = ("0" : Str)) = false from decide_eq_false h0]
        rfl
      · show V.int ((numOf (Str.ofString (toString i)) : Nat) : Int) = V.int i
        rw [h2]
    | _ => cases o
  · rw [okF_t] at o
    cases v with
    | bl b => cases b <;> decide +kernel
    | _ => cases o
theorem kind_free : ∀ kind ∈ kinds, 32 ∉ tl kind := by decide +kernel
theorem row_fwd {kind : Str} {xs : List V} (hk : kind ∈ kinds) (h : FlatRow kind xs) : fw (xs.map wordV) (formsOf kind) 1 = none ∧ valsOf (xs.map wordV) (formsOf kind) = xs ∧ (∀ w ∈ xs.map wordV, 32 ∉ tl w ∧ w.length ≤ 31) := by
  obtain ⟨hl, h2⟩ := h
  have hf := forms_in kind hk
  generalize 1 = m
  generalize formsOf kind = fo at hl h2 hf
  induction xs generalizing fo m with
  | nil =>
    cases fo with
    | nil => exact ⟨rfl, rfl, fun _ h => nomatch h⟩
    | cons _ _ => cases hl
  | cons u r ih =>
    cases fo with
    | nil => cases hl
    | cons f fr =>
      obtain ⟨i1, i2, i3⟩ := ih (m + 1) fr (by simpa using hl) (fun q hq => h2 q (by rw [List.zip_cons_cons]; exact List.mem_cons_of_mem _ hq)) (fun x hx => hf x (List.mem_cons_of_mem _ hx))
      obtain ⟨w1, w2, w3, w4⟩ := word_fwd (hf f List.mem_cons_self) (h2 (u, f) (by rw [List.zip_cons_cons]; exact List.mem_cons_self)).1
      refine ⟨?_, ?_, fun w hw => ?_⟩
      · rw [List.map_cons, fw_cons, if_pos w1]
        exact i1
      · show valOf f (wordV u) :: valsOf (r.map wordV) fr = _
        rw [w2, i2]
      · rcases List.mem_cons.mp hw with e | e
        · rw [e]; exact ⟨w3, w4⟩
        · exact i3 w e
theorem row_split {kind : Str} {xs : List V} (hk : kind ∈ kinds) (h : FlatRow kind xs) : Txt.split (rowText kind xs) " " = kind :: xs.map wordV := by
  obtain ⟨_, _, h3⟩ := row_fwd hk h
  refine TL.split_join (y := " ") (s := 32) (S := []) (by decide +kernel) (by decide +kernel) (by simp) fun p hp => ?_
  rcases List.mem_cons.mp hp with e | e
  · rw [e]; exact kind_free kind hk
  · exact (h3 p e).1
theorem row_fw {kind : Str} {xs : List V} (hk : kind ∈ kinds) (h : FlatRow kind xs) : fw (kind :: xs.map wordV) (kind :: formsOf kind) 0 = none := by
  rw [fw_cons, if_pos (kind_form kind hk).1]
  exact (row_fwd hk h).1
theorem row_lin {kind : Str} {xs : List V} (hk : kind ∈ kinds) (h : FlatRow kind xs) : Lin 140 (rowText kind xs) := by
  have ha : asc (rowText kind xs) := join_asc fun w hw => by
    rcases List.mem_cons.mp hw with e | e
    · rw [e]; exact kind_asc kind hk
    · obtain ⟨v, hv, rfl⟩ := List.mem_map.mp e
      exact word_asc (h.flat v hv)
  refine ⟨?_, ha⟩
  have hl4 : xs.length ≤ 4 := by rw [h.1]; exact forms_len kind hk
  have h2 := kind_len kind hk
  have h3 := join_len (kind :: xs.map wordV)
  have hs : ∀ ws : List Str, (∀ w ∈ ws, w.length ≤ 31) → (ws.map (·.length)).sum ≤ 31 * ws.length := by
    intro ws
    induction ws with
    | nil => intro _; exact Nat.le_refl _
    | cons a r ih =>
      intro h
      have := h a List.mem_cons_self
      have := ih fun x hx => h x (List.mem_cons_of_mem _ hx)
      simp only [List.map_cons, List.sum_cons, List.length_cons]
      omega
  have h1 := hs (xs.map wordV) fun w hw => ((row_fwd hk h).2.2 w hw).2
  rw [List.length_map] at h1
  rw [List.map_cons, List.sum_cons, List.length_cons, List.length_map] at h3
  show (Txt.join " " (kind :: xs.map wordV)).length ≤ 140
  omega
end K15

namespace K15
open PySem PySem.Spec PyProof.Rows L2 So LamX StX TL
abbrev sLaw : Stmt := topS 61
abbrev lawN : List Str := ["_law_script", "_law_pen_here", "_law_crew", "_law_kind", "_law_row", "_law_text_here", "_law_k", "_law_bent_here", "_law_some", "_law_odd"]
theorem scLaw : FnScope lawN ["_law_script"] (defScope sLaw) := ⟨rfl, rfl, rfl, by decide +kernel, rfl, by decide +kernel, by decide +kernel⟩
theorem passNo {X : Cx} {P : Program} {w : World} : Passes (L2.CX P w) X (fun _ _ _ => False) := fun _ _ _ _ _ _ _ h => by
  obtain ⟨_, _, _, _, _, _, _, _, _, _, _, _, hE⟩ := h
  exact hE.elim
theorem Flat1.gv {v : V} (h : Flat1 v) (H : Hp) : ∃ T, Gv H v T := by
  cases h with
  | nam h => exact ⟨_, .str _ (Nat.le_trans (name_len h) (by decide))⟩
  | mom h => exact ⟨_, .int _⟩
  | tru b => exact ⟨_, .bl b⟩
def textsA : List Str := ["", " ", "trusted", "begun a 0", "setby a 0 b", "passed a 0 b", "found a 01 sound", "begun a 1 b c"]
def fnd (k : Int) : Str := ("found a " : Str) ++ (Str.ofString (toString ((10 : Int) ^ Int.toNat 30 + k))) ++ (" sound" : Str)
def textsB : List Str := [fnd (0 + ((0 : Nat) : Int)), fnd (0 + ((1 : Nat) : Int))]
def textsC : List Str := [("begun a " : Str) ++ Txt.mul ("0" : Str) 31]
theorem e30 : ((10 : Int) ^ Int.toNat 30) = 1000000000000000000000000000000 := by decide +kernel
theorem fnd_num (k : Nat) (h : k < 2) : Lin 102 (Str.ofString (toString ((10 : Int) ^ Int.toNat 30 + (0 + (k : Nat))))) := num_lin (by rw [e30]; omega) (by rw [e30]; omega)
theorem fnd_log (k : Nat) (h : k < 2) : ((10 : Int) ^ Int.toNat 30 + (0 + (k : Nat))).natAbs.log2 < 1920 := by
  have : ((10 : Int) ^ Int.toNat 30 + (0 + (k : Nat))).natAbs < 2 ^ 101 := by rw [e30]; omega
  exact Nat.lt_of_lt_of_le (PySem.Flt.log2_lt_of (by decide) this) (by decide)
theorem fnd_lin (k : Nat) (h : k < 2) : Lin 2000 (fnd (0 + (k : Nat))) := by
  have h1 := small_of (o := "found a ") (by decide +kernel)
  have h2 := small_of (o := " sound") (by decide +kernel)
  have h3 := lin_app (lin_app h1 (fnd_num k h)) h2
  exact ⟨Nat.le_trans h3.1 (by decide), h3.2⟩
theorem lin_small {o : Str} (h : small o = true) : Lin 2000 o := ⟨Nat.le_trans (small_of h).1 (by decide), (small_of h).2⟩
theorem textsA_lin : ∀ z ∈ textsA, Lin 2000 z := by
  have h : ∀ z ∈ textsA, small z = true := by decide +kernel
  exact fun z hz => lin_small (h z hz)
theorem textsB_lin : ∀ z ∈ textsB, Lin 2000 z := by
  intro z hz
  unfold textsB at hz
  simp only [List.mem_cons, List.not_mem_nil, or_false] at hz
  rcases hz with h | h <;> rw [h]
  · exact fnd_lin 0 (by decide)
  · exact fnd_lin 1 (by decide)
theorem textsC_lin : ∀ z ∈ textsC, Lin 2000 z := by
  intro z hz
  unfold textsC at hz
  rw [List.mem_singleton.mp hz]
  have h3 := lin_app (small_of (o := "begun a ") (by decide +kernel)) (small_of mul_ok.2.2.1)
  exact ⟨Nat.le_trans h3.1 (by decide), h3.2⟩
theorem texts_lin : ∀ z ∈ textsA ++ textsB ++ textsC, Lin 2000 z := fun z hz => by
  rcases List.mem_append.mp hz with h | h
  · exact (List.mem_append.mp h).elim (textsA_lin z) (textsB_lin z)
  · exact textsC_lin z h
/-- what else the law reads of the top -/
structure EnvL (K : PySem.W.Frag) (mg : Str → Option Value) (CT3 : Addr) : Prop where
  rng : mg "range" = none
  rpr : mg "repr" = none
  gT : mg "Trusted" = some (.ref CT3)
  noT : ∀ t, t ∈ ["NoneType", "int", "bool", "list", "tuple", "dict"] → PySem.W.kitOne K (.type t) (.type "str") = some false
  noS : PySem.W.kitOne K (.ref CT3) (.type "str") = some false
section
variable {P : Program} {w : World} {K : PySem.W.Frag} {mg : Str → Option Value} {base : Heap}
def spLaw (K : PySem.W.Frag) (T : List (Addr × Str)) : Sp := fun vs H Q _ => ∃ (a : Addr) (ns : List Int), vs = [.ref a] ∧ SqL K H a (ns.map V.int) ∧ Tabs T H ∧ ∀ H', Q (.bl true) H'
theorem ok_law {T : List (Addr × Str)} {Cf : Str → Addr} {CT CN CM CS CB CR aK f c0 P0 fPen fLn fKi fD fX fM fB fR fH : Addr} {fd fdPen fdLn fdKi fdD fdX fdM fdB fdR fdH : FuncData} (F : Fun K "law" "law" sLaw f fd) (hcode : fd.code = .ref c0) (TB : TabB base mg c0 P0)
    (hT1 : ∀ n f' c', (P0, (envOfC "law" (defScope sLaw) n f' c').qual ++ "<lambda>") ∈ T) (hT2 : ∀ n f' c', ∀ q ∈ T, q.1 = P0 → q.2 = (envOfC "law" (defScope sLaw) n f' c').qual ++ "<lambda>")
    (M : Mths K P w mg base Cf CR aK CB) (R : HrL K mg CT CB CN CM) (N : EnvL K mg (Cf "trusted")) (RM : RowM K P w mg base CN CM CS Cf "Trusted" "trusted" ["self", "tool"])
    (FPen : Fun K "_law_pen" "_law_pen" sPen fPen fdPen) (bPen : Binds K fdPen ["_law_script"] []) (gPen : mg "_law_pen" = some (.ref fPen)) (GPen : FnOk P w K mg base CX0 1 fPen fdPen ["_law_script"] (spPen K))
    (FLn : Fun K "_law_name" "_law_name" sLName fLn fdLn) (bLn : Binds K fdLn ["_law_pen_here"] []) (gLn : mg "_law_name" = some (.ref fLn)) (GLn : FnOk P w K mg base CX0 3 fLn fdLn ["_law_pen_here"] spLName)
    (FK : Fun K "_law_kinds" "_law_kinds" sKinds fKi fdKi) (bK : Binds K fdKi [] []) (gK : mg "_law_kinds" = some (.ref fKi)) (GK : FnOk P w K mg base CX0 1 fKi fdKi [] spKinds)
    (FD : Fun K "_law_drawn" "_law_drawn" sDrawn fD fdD) (bD : Binds K fdD ["_law_pen_here", "_law_crew", "_law_kinds_here"] []) (gD : mg "_law_drawn" = some (.ref fD)) (GD : FnOk P w K mg base CX0 4 fD fdD ["_law_pen_here", "_law_crew", "_law_kinds_here"] spDrawn)
    (FX : Fun K "_law_text" "_law_text" sText fX fdX) (bX : Binds K fdX ["_law_row"] []) (gX : mg "_law_text" = some (.ref fX)) (GX : FnOk P w K mg base CX0 1 fX fdX ["_law_row"] spText)
    (FM : Fun K "_law_made" "_law_made" sMade fM fdM) (bM : Binds K fdM ["_law_row"] []) (gM : mg "_law_made" = some (.ref fM)) (GM : FnOk P w K mg base (L2.CX P w) 8 fM fdM ["_law_row"] (spMade CN CM CS Cf))
    (FB : Fun K "_law_bent" "_law_bent" sBent fB fdB) (bB : Binds K fdB ["_law_pen_here", "_law_text_here"] []) (gB : mg "_law_bent" = some (.ref fB)) (GB : FnOk P w K mg base CX0 3 fB fdB ["_law_pen_here", "_law_text_here"] spBent)
    (FR : Fun K "_law_right" "_law_right" sRight fR fdR) (bR : Binds K fdR ["_law_text_here"] []) (gR : mg "_law_right" = some (.ref fR)) (GR : FnG P w K mg base CX0 13 fR fdR ["_law_text_here"] (spRight T))
    (FH : Fun K "_law_heard" "_law_heard" sHeard fH fdH) (bH0 : Binds K fdH ["_law_ask"] []) (gH : mg "_law_heard" = some (.ref fH)) :
    FnG P w K mg base CX0 15 f fd ["_law_script"] (spLaw K T) := by
  obtain ⟨f1, fd1, s1, i1, b1, G1⟩ := M.eq
  obtain ⟨f2, fd2, s2, i2, b2, G2⟩ := M.str
  obtain ⟨p3, g3, fd3, c3, b3, G3⟩ := M.read
  obtain ⟨f4, fd4, g4, m4, b4, G4⟩ := RM
  have G3R := fnR_of G3 b3
  obtain ⟨ocH, odH, kVH, docH, pmH, anH, cdvH, ctH, oslH, efd, lkH, hcH⟩ := FH.ex
  subst efd
  have bH := bH0
  refine fnG_ofC F hcode scLaw (fun vs H Q E h => ?_) (fun A outer s H vs Q E hg hr h => ?_)
  · obtain ⟨_, _, rfl, _⟩ := h
    rfl
  · obtain ⟨a, ns, rfl, hS, hT, q⟩ := h
    have hr1 : Room 1 _ := hr.mono (by decide)
    have hr3 : Room 3 _ := hr.mono (by decide)
    have hr4 : Room 4 _ := hr.mono (by decide)
    have hr7 : Room 7 _ := hr.mono (by decide)
    have hr8 : Room 8 _ := hr.mono (by decide)
    have hr10 : Room 10 _ := hr.mono (by decide)
    have hr12 : Room 12 _ := hr.mono (by decide)
    have hr13 : Room 13 _ := hr.mono (by decide)
    refine ⟨_, (pss_cons (ps_set (i := 1) scLaw.nd rfl (.inl rfl) (pe_call GPen hr1 (by rfl) gPen FPen.kp bPen .nil pass0 (pa_cons (pv 0) pa_nil)))
      (pss_cons (ps_set (i := 2) scLaw.nd rfl (.inl rfl) (pe_lst (pa_cons (pe_call GLn hr3 (by rfl) gLn FLn.kp bLn .nil pass0 (pa_cons (pv 1) pa_nil)) (pa_cons (pe_call GLn hr3 (by rfl) gLn FLn.kp bLn .nil pass0 (pa_cons (pv 1) pa_nil)) pa_nil))))
      (pss_cons (ps_for PassesOwn.never rfl (pi_list (pe_call0 GK hr1 (by rfl) gK FK.kp bK .nil pass0)) (pg_name (i := 3) scLaw.nd rfl (Or.inl rfl))
        (pss_cons (ps_set (i := 4) scLaw.nd rfl (.inl rfl) (pe_call GD hr4 (by rfl) gD FD.kp bD .nil pass0 (pa_cons (pv 1) (pa_cons (pv 2) (pa_cons (pe_lst (pa_cons (pv 3) pa_nil)) pa_nil)))))
        (pss_cons (ps_set (i := 5) scLaw.nd rfl (.inl rfl) (pe_call GX hr1 (by rfl) gX FX.kp bX .nil pass0 (pa_cons (pv 4) pa_nil)))
        (pss_cons (ps_if (PW.pt (pw_or (pt_cmpR op_ne (pe_callTy (cr_strA G2 s2 i2 b2 hr4) (by rfl) M.W.str (by decide +kernel) (pa_cons (pe_call GM hr8 (by rfl) gM FM.kp bM .nil passNo (pa_cons (pv 4) pa_nil)) pa_nil)) (pv 5) (nomark _))
            (pw_or1 (pt_not (pt_cmpR (op_eqA G1 s1 i1 b1 hr1) (ClX.pe_cmeth (pe_glob (v := .ref CR) (by rfl) M.R.gR (by rfl)) M.R.rd c3 G3R hr10 passNo (pa_cons (pv 5) pa_nil)) (pe_call GM hr8 (by rfl) gM FM.kp bM .nil passNo (pa_cons (pv 4) pa_nil)) (nomark _)))))) (pss_one (ps_ret pe_bl)) pss_nil)
        (pss_cons (ps_if (pt_cmpR op_ne (pe_fld (ClX.pe_cmeth (pe_glob (v := .ref CR) (by rfl) M.R.gR (by rfl)) M.R.rd c3 G3R hr10 passNo (pa_cons (pv 5) pa_nil)) rfl) (pv 3) (nomark _)) (pss_one (ps_ret pe_bl)) pss_nil)
        (pss_one (ps_for PassesOwn.never rfl (pi_range1 (by rfl) N.rng (pa_cons pe_int pa_nil)) (pg_name (i := 6) scLaw.nd rfl (Or.inl rfl))
          (pss_cons (ps_set (i := 7) scLaw.nd rfl (.inl rfl) (pe_call GB hr3 (by rfl) gB FB.kp bB .nil pass0 (pa_cons (pv 1) (pa_cons (pv 5) pa_nil))))
          (pss_one (ps_if (PW.pt (pw_or (pt_not (pt_val (pe_callG GR hg hr13 (by rfl) gR FR.kp bR .nil pass0 (pa_cons (pv 7) pa_nil)))) (pw_or1 (pt_not (pt_val (pe_callG GR hg hr13 (by rfl) gR FR.kp bR .nil pass0 (pa_cons (pe_call GB hr3 (by rfl) gB FB.kp bB .nil pass0 (pa_cons (pv 1) (pa_cons (pv 7) pa_nil))) pa_nil))))))) (pss_one (ps_ret pe_bl)) pss_nil))))))))))
      (pss_cons (ps_for PassesOwn.never rfl (pi_list (pe_lst (pa_cons pe_non (pa_cons pe_int (pa_cons pe_bl (pa_cons (pe_lst (pa_cons pe_str (pa_cons pe_str (pa_cons pe_str pa_nil)))) (pa_cons (pe_tup (pa_cons pe_str pa_nil)) (pa_cons pe_dnewK (pa_cons (pe_make m4 G4 hr7 (by rfl) g4 b4 .nil passNo (pa_cons pe_str pa_nil)) pa_nil))))))))) (pg_name (i := 9) scLaw.nd rfl (Or.inr rfl))
        (pss_one (ps_if (pt_cmpR op_ne (pe_callB (call_reprG hg hr.units) (by rfl) N.rpr (by decide +kernel) (pa_cons
            (pe_lamcall (T := T) (TT := TTL CB) (t := _) (k := 10) (by rfl) gH FH.kp lkH hcH bH scHeard rfl (Or.inl rfl) (heard_gives R) TB rfl (by exact hT1 _ _ _) (by exact hT2 _ _ _) hr12
              (lamS_by (sc := defScope sLaw) (by decide +kernel)) rfl (fun _ _ _ _ _ => rfl) (by exact fun A outer s H E f c' hr' => ClX.pe_cmeth (pe_glob (v := .ref CR) rfl M.R.gR rfl) M.R.rd c3 G3R hr' (passes_call (takes_of rfl rfl rfl rfl) (fun _ _ _ _ h => h)) (pa_cons (pv 9) pa_nil))) pa_nil))
            (pe_callB (call_reprG hg hr.units) (by rfl) N.rpr (by decide +kernel) (pa_cons (pe_tup (pa_cons pe_str (pa_cons pe_int (pa_cons pe_int pa_nil)))) pa_nil)) (nomark _)) (pss_one (ps_ret pe_bl)) pss_nil)))
      (pss_cons (ps_set (i := 8) scLaw.nd rfl (.inl rfl) (pe_lst (pa_cons pe_str (pa_cons pe_str (pa_cons pe_str (pa_cons pe_str (pa_cons pe_str (pa_cons pe_str (pa_cons pe_str (pa_cons pe_str pa_nil))))))))))
      (pss_cons (ps_set (i := 8) scLaw.nd rfl (.inl rfl) (pe_op op_cat (pe_op op_cat (pv 8) (pe_lc (own := [("_law_k", 6)]) (g := gName 6) (tt := tYes) rfl scLaw.nd (pi_range1 (by rfl) N.rng (pa_cons pe_int pa_nil)) (blkOk_by (N := lawN) (sc := defScope sLaw) (by decide +kernel)) (fun _ _ _ _ _ => pg_name (i := 6) scLaw.nd rfl (Or.inl rfl)) (fun _ _ _ _ _ => pts_nil)
          (fun _ _ _ _ _ => pe_op op_add_str (pe_op op_add_str pe_str (pe_callTy call_str_int (by rfl) M.W.str (by decide +kernel) (pa_cons (pe_op op_add (pe_op op_pow pe_int pe_int) (pv 6)) pa_nil))) pe_str))) (pe_lst (pa_cons (pe_op op_add_str pe_str (pe_op op_mul_str pe_str pe_int)) pa_nil))))
      (pss_one (ps_ret (pe_cmpR (op_eqNil hr.units0) (pe_lc (own := [("_law_text_here", 5)]) (g := gName 5) rfl scLaw.nd (pi_list (pv 8)) (blkOk_by (N := lawN) (sc := defScope sLaw) (by decide +kernel)) (fun _ _ _ _ _ => pg_name (i := 5) scLaw.nd rfl (Or.inl rfl))
          (fun _ _ _ _ _ => pts_one (pt_not (pt_val (pe_callG GR hg hr13 (by rfl) gR FR.kp bR .nil pass0 (pa_cons (pv 5) pa_nil))))) (fun _ _ _ _ _ => pv 5)) (pe_lst pa_nil) (nomark _)))))))))), ?_⟩
    refine ⟨_, rfl, a, ns, rfl, hS, fun H1 p l cc s1 pen1 => ?_⟩
    have t1 := tabs_same hT s1
    have hsz := sizeLine_eq
    -- the crew
    refine ⟨_, rfl, p, l, cc, 0, 0, rfl, pen1, by omega, fun z1 n2 g2 H2 j1 hn2 off2 pen2 => ⟨_, rfl, p, l, cc, n2, g2, rfl, pen2, by omega, fun z2 n3 g3 H3 j2 hn3 off3 pen3 => ⟨by show 2 ≤ sizeLine; decide, fun cr hcr => ?_⟩⟩⟩
    have s4 := same_upd0 (o := .lst [.str z1, .str z2]) hcr
    have pen4 := pen3.same s4
    have ncp := pen3.ne hcr
    have hcr4 : (L2.upd H3 cr (.lst [.str z1, .str z2])) cr = some (.lst [.str z1, .str z2]) := upd_same
    have t4 := tabs_same (tabs_off pen1.pen t1 (off2.trans off3)) s4
    revert pen4 hcr4 t4
    generalize L2.upd H3 cr (.lst [.str z1, .str z2]) = H4
    intro pen4 hcr4 t4
    clear s4 hcr pen3 pen2 pen1 off2 off3 t1 s1
    have hzs : ∀ z ∈ [z1, z2], isName z = true := fun z hz => by
      simp only [List.mem_cons, List.not_mem_nil, or_false] at hz
      rcases hz with h | h <;> subst h <;> assumption
    -- the kinds
    refine ⟨rfl, fun H5 kl s5 nkl hkl => ?_⟩
    have pen5 := pen4.same s5
    have nkp := pen4.ne nkl
    have hcr5 := s5 _ _ hcr4
    have t5 := tabs_same t4 s5
    clear s5 nkl pen4 hcr4 t4
    refine ⟨kl, rfl, ⟨_, SqL.of hkl⟩, for_it (walk_list (xs := kinds.map V.str)) (fun i σ G => ∃ (x3 x4 x5 x6 x7 : Option V) (n' : Nat) (g' : Int), σ = [some (.ref a), some (.ref p), some (.ref cr), x3, x4, x5, x6, x7, none, none] ∧ Pen G p l cc n' g' ∧ n' ≤ 18 + 40 * i ∧ Tabs T G ∧ G kl = some (.lst (kinds.map V.str)) ∧ G cr = some (.lst [.str z1, .str z2]))
      ⟨none, none, none, none, none, n3, g3, rfl, pen5, by omega, t5, hkl, hcr5⟩ (fun i σ G _ y => ?_) ?_ ?_⟩
    · obtain ⟨_, _, _, _, _, _, _, _, _, _, _, h, _⟩ := y
      exact SqL.of h
    · rintro i x σ G G' hi ⟨x3, x4, x5, x6, x7, n8, g8, rfl, pen8, hn8, t8, hkl8, hcr8⟩ ⟨rfl, hx⟩
      obtain ⟨kind, hk, rfl⟩ : ∃ kind ∈ kinds, x = .str kind := by
        obtain ⟨z, hz, e⟩ := List.mem_map.mp (List.mem_of_getElem? hx)
        exact ⟨z, hz, e.symm⟩
      have hi10 : i < 10 := hi
      -- drawn
      refine ⟨_, rfl, _, rfl, _, rfl, by show 1 ≤ sizeLine; decide, fun kk hkk => ?_⟩
      have s9 := same_upd0 (o := .lst [.str kind]) hkk
      refine ⟨p, l, cr, kk, cc, n8, g8, kind, [z1, z2], rfl, pen8.same s9, by omega, hk, upd_same, pen8.ne hkk, s9 _ _ hcr8, ncp, by show 0 < 2; decide, by show 2 ≤ 1000; decide, hzs, fun xs tr n10 g10 G10 hf hn10 off10 pen10 htr => ?_⟩
      have offA : Off p G' G10 := (offS s9).trans off10
      have t10 := tabs_off pen8.pen t8 offA
      have hkl10 := offA _ _ nkp hkl8
      have hcr10 := offA _ _ ncp hcr8
      clear offA off10 s9 hkk pen8 t8 hkl8 hcr8
      have hgv : ∀ (G : Hp), ∀ y ∈ xs, ∃ T, Gv G y T := fun G y hy => (hf.flat y hy).gv G
      have hbad : badL CN CM CS (xs.zip (formsOf kind)) = none := flat_bad hf
      have hL := row_lin hk hf
      have hsp := row_split hk hf
      have hfw := row_fw hk hf
      have hvs := (row_fwd hk hf).2.1
      have hrb : rowBad (Txt.split (rowText kind xs) " ") = none := by
        rw [hsp]
        show (if kinds.contains kind = true then fw (kind :: xs.map wordV) (kind :: formsOf kind) 0 else some 0) = none
        rw [if_pos (List.contains_iff_mem.mpr hk)]
        exact hfw
      have noB : ∀ {p : Prop} {C : Addr} {fl : Str} {v : V}, badL CN CM CS (xs.zip (formsOf kind)) = some (C, fl, v) → p := fun hb => by rw [hbad] at hb; cases hb
      have noR : ∀ {p : Prop} {n : Nat}, rowBad (Txt.split (rowText kind xs) " ") = some n → p := fun hb => by rw [hrb] at hb; cases hb
      have hl2 : (rowText kind xs).length ≤ 2000 := Nat.le_trans hL.1 (by decide)
      have rdK : ∀ {kind' : Str} {as : List Str} {H8 : Hp} {b : Addr}, Txt.split (rowText kind xs) " " = kind' :: as → RowAt Cf H8 b kind' (valsOf as (formsOf kind')) → RowAt Cf H8 b kind xs := fun {kind' as H8 b} e B8 => by
        rw [hsp] at e
        injection e with e1 e2
        subst e1 e2
        rw [hvs] at B8
        exact B8
      refine ⟨_, rfl, tr, kind, xs, rfl, htr, hk, hf, fun G11 s11 => ?_⟩
      have htr11 := s11 _ _ htr
      refine ⟨_, rfl, tr, kind, xs, rfl, htr11, hk, hf.1, hgv _, fun _ G12 a12 s12 A12 => ?_, fun C fl v hb => noB hb⟩
      obtain ⟨dx12, fs12, ha12, tl12⟩ := id A12
      refine ⟨kind, hk, a12, dx12, fs12, rfl, ha12, a12, kind, xs, rfl, hk, hf, A12, fun G13 s13 => ⟨rowText kind xs, rfl, ?_⟩⟩
      refine ⟨_, rfl, rfl, _, rfl, ite2 (fun e => absurd e (by simp)) (fun _ => ?_)⟩
      have htr13 := (s12.trans s13) _ _ htr11
      refine ⟨rfl, _, rfl, CR, _, rfl, .inl ⟨_, rfl, hl2, fun kind' as e hk' hw H14 b14 s14 B14 => ?_, fun n hn => noR hn⟩⟩
      replace B14 := rdK e B14
      clear e hw hk'
      refine ⟨_, rfl, tr, kind, xs, rfl, s14 _ _ htr13, hk, hf.1, hgv _, fun _ G15 a15 s15 A15 => ?_, fun C fl v hb => noB hb⟩
      refine rLike_of M.T hk hf (B14.same s15) A15 ⟨_, rfl, iteF ?_⟩
      refine ⟨rfl, _, rfl, CR, _, rfl, .inl ⟨_, rfl, hl2, fun kind' as e hk' hw H16 b16 s16 B16 => ?_, fun n hn => noR hn⟩⟩
      replace B16 := rdK e B16
      clear e hw hk'
      obtain ⟨dx16, fs16, hb16, tl16⟩ := id B16
      refine ⟨b16, _, dx16, fs16, _, rfl, hb16, (M.T.c kind hk).cl, (M.T.c kind hk).no _ (.tail _ (.head _)), tl16.1, ?_⟩
      refine ⟨_, rfl, rfl, _, rfl, ite2 (fun e => absurd e (by simp)) (fun _ => ?_)⟩
      have sA : Same G10 H16 := s11.trans (s12.trans (s13.trans (s14.trans (s15.trans s16))))
      have pen16 := pen10.same sA
      have t16 := tabs_same t10 sA
      have hkl16 := sA _ _ hkl10
      have hcr16 := sA _ _ hcr10
      clear sA s11 s12 s13 s14 s15 s16 t10 pen10 hkl10 hcr10 B16 hb16 tl16 A15 B14 htr13 ha12 A12 tl12 htr11 htr
      refine ⟨3, rfl, by decide, by decide, ?_⟩
      refine for_it walk_range (fun j σ G => ∃ (x6 x7 : Option V) (n' : Nat) (g' : Int), σ = [some (.ref a), some (.ref p), some (.ref cr), some (.str kind), some (.ref tr), some (.str (rowText kind xs)), x6, x7, none, none] ∧ Pen G p l cc n' g' ∧ n' ≤ n10 + 8 * j ∧ Tabs T G ∧ G kl = some (.lst (kinds.map V.str)) ∧ G cr = some (.lst [.str z1, .str z2]))
        ⟨x6, x7, n10, g10, rfl, pen16, by omega, t16, hkl16, hcr16⟩ (fun _ _ _ _ _ => trivial) ?_ ?_
      · rintro j x σ U1 U2 hj ⟨y6, y7, n1, g1, rfl, pn, hn1, tn, hkln, hcrn⟩ ⟨rfl, rfl⟩
        replace hj : j < 3 := hj
        refine ⟨_, rfl, _, rfl, p, l, cc, n1, g1, rowText kind xs, 140, rfl, pn, by omega, hL, by decide, fun zA nA gA HA LA hnA offA pnA => ?_⟩
        have tA := tabs_off pn.pen tn offA
        refine ⟨_, rfl, zA, rfl, ⟨Nat.le_trans LA.1 (by decide), LA.2⟩, tA, fun HB xB tB => ⟨_, rfl, iteF ?_⟩⟩
        have pnB := pen_ext pnA xB
        refine ⟨_, rfl, _, rfl, p, l, cc, nA, gA, zA, _, rfl, pnB, by omega, LA, by decide, fun zC nC gC HC LC hnC offC pnC => ?_⟩
        have tC := tabs_off pnB.pen tB offC
        refine ⟨zC, rfl, ⟨Nat.le_trans LC.1 (by decide), LC.2⟩, tC, fun HD xD tD => ⟨_, rfl, iteF ?_⟩⟩
        have mv : ∀ {b : Addr} {o : HO}, b ≠ p → (∀ ps, o ≠ .tbl ps) → U2 b = some o → HD b = some o := fun nb nt e => xD _ _ (offC _ _ nb (xB _ _ (offA _ _ nb e) nt)) nt
        exact ⟨_, _, nC, gC, rfl, pen_ext pnC xD, by omega, tD, mv nkp lst_ne hkln, mv ncp lst_ne hcrn⟩
      · rintro σ U1 ⟨y6, y7, n1, g1, rfl, pn, hn1, tn, hkln, hcrn⟩
        exact ⟨_, _, _, _, _, n1, g1, rfl, pn, by omega, tn, hkln, hcrn⟩
    rintro σ G ⟨x3, x4, x5, x6, x7, n8, g8, rfl, _, _, tG, _, _⟩
    clear hcr5 t5 pen5 hkl hzs nkp
    -- the odd ones
    refine ⟨by show 3 ≤ sizeLine; decide, fun la hla => ⟨by show 1 ≤ sizeLine; decide, fun ta hta => fun da hda => ?_⟩⟩
    have e1 := same_upd0 (o := .lst [V.str "begun", V.str "a", V.str "3"]) hla
    have e2 := same_upd0 (o := .tup [V.str "trusted a"]) hta
    have e3 := same_upd0 (o := .dK []) hda
    refine fun ra rdx nx nd ndx => ⟨ra, rdx, [V.str "a"], rfl, upd_same, by decide +kernel, (fun y hy => ?_), fun _ HR fsr oR hra lkr => ⟨rfl, ?_⟩, fun C fl v hb => ?_⟩
    · rw [List.mem_singleton.mp hy]
      exact ⟨_, .str _ (by decide)⟩
    · have sR := Same.made nx nd (fun b o e nb => oR b o nb e)
      clear oR nx nd ndx
      have hla' := sR _ _ (e3 _ _ (e2 _ _ (upd_same (H := G) (a := la) (o := .lst [V.str "begun", V.str "a", V.str "3"]))))
      have hta' := sR _ _ (e3 _ _ (upd_same (a := ta) (o := .tup [V.str "trusted a"])))
      have hda' := sR _ _ (upd_same (a := da) (o := .dK []))
      have tR := tabs_same tG (e1.trans (e2.trans (e3.trans sR)))
      refine ⟨by show 7 ≤ sizeLine; decide, fun ol hol => ?_⟩
      have e5 := same_upd0 (o := .lst [V.non, .int 7, .bl true, .ref la, .ref ta, .ref da, .ref ra]) hol
      have hla5 := e5 _ _ hla'
      have hta5 := e5 _ _ hta'
      have hda5 := e5 _ _ hda'
      have hra5 := e5 _ _ hra
      have t5 := tabs_same tR e5
      have hol5 := upd_same (H := HR) (a := ol) (o := .lst [V.non, .int 7, .bl true, .ref la, .ref ta, .ref da, .ref ra])
      revert hla5 hta5 hda5 hra5 t5 hol5
      generalize L2.upd HR ol (.lst [V.non, .int 7, .bl true, .ref la, .ref ta, .ref da, .ref ra]) = H5
      intro hla5 hta5 hda5 hra5 t5 hol5
      clear e5 e1 e2 e3 hol hla' hta' hda' hra tR sR lkr hda hta hla tG
      have okX := word_okT (z := "text") (by decide +kernel)
      obtain ⟨k1, k2, k3⟩ := tup_okD (ds := [.str "text", .int 0, .int 0]) (fun d hd => by
        simp only [List.mem_cons, List.not_mem_nil, or_false] at hd
        rcases hd with h | h | h <;> subst h
        · exact okX
        · exact int_okT (n := 0) (by decide)
        · exact int_okT (n := 0) (by decide)) (by show 3 ≤ 3; decide)
      refine ⟨ol, rfl, ⟨_, SqL.of hol5⟩, for_it (walk_list (xs := [V.non, .int 7, .bl true, .ref la, .ref ta, .ref da, .ref ra])) (fun i σ G => ∃ (x9 : Option V), σ = [some (.ref a), some (.ref p), some (.ref cr), x3, x4, x5, x6, x7, none, x9] ∧ Tabs T G ∧ G ol = some (.lst [V.non, .int 7, .bl true, .ref la, .ref ta, .ref da, .ref ra]) ∧ G la = some (.lst [V.str "begun", V.str "a", V.str "3"]) ∧ G ta = some (.tup [V.str "trusted a"]) ∧ G da = some (.dK []) ∧ G ra = some (.ins (Cf "trusted") rdx fsr))
        ⟨none, rfl, t5, hol5, hla5, hta5, hda5, hra5⟩ (fun i σ G _ ⟨_, _, _, h, _⟩ => SqL.of h) ?_ ?_⟩
      · rintro i x σ U1 U2 hi ⟨x9, rfl, tU, holU, hlaU, htaU, hdaU, hraU⟩ ⟨rfl, hx⟩
        have hxm := List.mem_of_getElem? hx
        refine ⟨tU, fun H7 e7 t7 => ?_⟩
        have hty : ∃ t, TyX K H7 x t ∧ PySem.W.kitOne K t (.type "str") = some false := by
          simp only [List.mem_cons, List.not_mem_nil, or_false] at hxm
          rcases hxm with h | h | h | h | h | h | h <;> subst h
          · exact ⟨_, .base .non, N.noT _ (by decide)⟩
          · exact ⟨_, .base (.int _), N.noT _ (by decide)⟩
          · exact ⟨_, .base (.bl _), N.noT _ (by decide)⟩
          · exact ⟨_, .base (.lst (e7 _ _ hlaU lst_ne)), N.noT _ (by decide)⟩
          · exact ⟨_, .base (.tup (e7 _ _ htaU tup_ne)), N.noT _ (by decide)⟩
          · exact ⟨_, .base (.dK (e7 _ _ hdaU dk_ne)), N.noT _ (by decide)⟩
          · exact ⟨_, .base (.ins (e7 _ _ hraU ins_ne) (M.T.c "trusted" (by decide +kernel)).cl (M.T.ha "trusted" (by decide +kernel)) M.T.hn M.T.htk (M.T.hm "trusted" (by decide +kernel))), N.noS⟩
        obtain ⟨ty, hty, hkt⟩ := hty
        refine ⟨rfl, _, rfl, CR, _, rfl, .inr ⟨ty, hty, hkt, fun d H8 s8 ed => ?_⟩⟩
        refine ⟨d, .int 0, .int 0, rfl, rfl, ed, fun H9 rr s9 hr9 => ?_⟩
        have s10 := s8.trans s9
        refine ⟨_, _, rfl, .tup (SqT.of hr9) (.cons (.str _) (.cons (.int _) (.cons (.int _) .nil))), k1, k2, k3, ?_⟩
        refine ⟨by show 3 ≤ sizeLine; decide, fun r2 hr2 => ⟨_, _, rfl, .tup (SqT.of upd_same) (.cons (.str _) (.cons (.int _) (.cons (.int _) .nil))), k1, k2, k3, rfl, ?_⟩⟩
        have s11 := s10.trans (same_upd0 (o := .tup [.str "text", .int 0, .int 0]) hr2)
        have mv : ∀ {b : Addr} {o : HO}, (∀ ps, o ≠ .tbl ps) → U2 b = some o → (L2.upd H9 r2 (.tup [.str "text", .int 0, .int 0])) b = some o := fun nt e => s11 _ _ (e7 _ _ e nt)
        exact ⟨_, rfl, ite2 (fun e => absurd e (by simp)) (fun _ => ⟨_, rfl, tabs_same t7 s11, mv lst_ne holU, mv lst_ne hlaU, mv tup_ne htaU, mv dk_ne hdaU, mv ins_ne hraU⟩)⟩
      · rintro σ U1 ⟨x9, rfl, tU, _⟩
        clear hol5 hla5 hta5 hda5 hra5 t5 k1 k2 k3 okX
        -- the texts
        refine ⟨by show 8 ≤ sizeLine; decide, fun sa hsa => ?_⟩
        have e1 := same_upd0 (o := .lst (textsA.map V.str)) hsa
        have hsa1 := upd_same (H := U1) (a := sa) (o := .lst (textsA.map V.str))
        refine ⟨_, rfl, 2, rfl, by decide, by decide, fun D hD => ?_⟩
        refine lc_it walk_range (fun k H' => Same (L2.upd U1 sa (.lst (textsA.map V.str))) H' ∧ H' D = some (.lst ((textsB.take k).map V.str))) ⟨Same.over (Same.refl _) hD, upd_same⟩ (fun _ _ _ _ => trivial) ?_ ?_
        · rintro k x V1 V2 hk2 ⟨s2, hDk⟩ ⟨rfl, rfl⟩
          replace hk2 : k < 2 := hk2
          have hn := fnd_num k hk2
          refine ⟨rfl, ?_⟩
          simp only [tYes, ↓reduceIte]
          refine ⟨_, _, rfl, rfl, ⟨by decide, by decide, by decide⟩, _, rfl, _, _, rfl, rfl, _, rfl, fnd_log k hk2, _, _, rfl, rfl, ?_, _, _, rfl, rfl, ?_, _, hDk, ?_, Same.over s2 hD, ?_⟩
          · have := hn.1
            show 8 + _ ≤ sizeLine
            omega
          · rw [Str.length_append]
            have := hn.1
            show 8 + _ + 6 ≤ sizeLine
            omega
          · rw [List.length_map]
            have := List.length_take_le' k textsB
            have : textsB.length = 2 := rfl
            omega
          · rw [upd_same, List.take_add_one]
            obtain rfl | rfl : k = 0 ∨ k = 1 := by omega
            · rfl
            · rfl
        · rintro V1 ⟨s2, hD2⟩
          have hsa2 := s2 _ _ hsa1
          have tV := tabs_same (tabs_same tU e1) s2
          refine ⟨sa, D, _, _, rfl, rfl, hsa2, hD2, by show 10 ≤ sizeLine; decide, fun c1 hc1 => ?_⟩
          refine ⟨_, _, rfl, rfl, mul_ok.1.2.1, _, _, rfl, rfl, by decide +kernel, by show 1 ≤ sizeLine; decide, fun c2 hc2 => ?_⟩
          have f1 := same_upd0 (o := .lst (textsA.map V.str ++ (textsB.take 2).map V.str)) hc1
          have f2 := same_upd0 (o := .lst (textsC.map V.str)) hc2
          have hc1' := f2 _ _ (upd_same (a := c1) (o := .lst (textsA.map V.str ++ (textsB.take 2).map V.str)))
          refine ⟨c1, c2, _, _, rfl, rfl, hc1', upd_same (o := .lst (textsC.map V.str)), by show 11 ≤ sizeLine; decide, fun c3 hc3 => ?_⟩
          have f3 := same_upd0 (o := .lst (textsA.map V.str ++ (textsB.take 2).map V.str ++ textsC.map V.str)) hc3
          have tW := tabs_same tV (f1.trans (f2.trans f3))
          have hc3' := upd_same (a := c3) (H := L2.upd (L2.upd V1 c1 (.lst (textsA.map V.str ++ (textsB.take 2).map V.str))) c2 (.lst (textsC.map V.str))) (o := .lst ((textsA ++ textsB ++ textsC).map V.str))
          have e4 : textsA.map V.str ++ (textsB.take 2).map V.str ++ textsC.map V.str = (textsA ++ textsB ++ textsC).map V.str := by rw [List.map_append, List.map_append]; rfl
          rw [← e4] at hc3'
          refine ⟨_, rfl, c3, rfl, ⟨_, SqL.of hc3'⟩, fun D2 hDn => ?_⟩
          rw [e4] at hc3' tW ⊢
          refine lc_it (walk_list (xs := (textsA ++ textsB ++ textsC).map V.str)) (fun k H' => Tabs T H' ∧ H' D2 = some (.lst []) ∧ H' c3 = some (.lst ((textsA ++ textsB ++ textsC).map V.str))) ⟨tabs_same tW (same_upd0 hDn), upd_same, same_upd0 hDn _ _ hc3'⟩ (fun _ _ _ ⟨_, _, h⟩ => SqL.of h) ?_ ?_
          · rintro k x W1 W2 hk2 ⟨tk, hDk, hck⟩ ⟨rfl, hx⟩
            obtain ⟨z, hz, rfl⟩ : ∃ z ∈ textsA ++ textsB ++ textsC, x = .str z := by
              obtain ⟨z, hz, e⟩ := List.mem_map.mp (List.mem_of_getElem? hx)
              exact ⟨z, hz, e.symm⟩
            exact ⟨rfl, _, rfl, z, rfl, texts_lin z hz, tk, fun W3 x3 t3 => ⟨_, rfl, iteF ⟨t3, x3 _ _ hDk lst_ne, x3 _ _ hck lst_ne⟩⟩⟩
          · rintro W1 ⟨tk, hDk, hck⟩
            exact ⟨by show 0 ≤ sizeLine; decide, fun nl hnl => ⟨D2, nl, [], rfl, rfl, SqL.of (same_upd0 hnl _ _ hDk), SqL.of upd_same, q _⟩⟩
    · have gd : badL CN CM CS ([V.str "a"].zip (formsOf "trusted")) = none := none_bad (by decide +kernel)
      rw [gd] at hb
      cases hb
end
end K15

namespace K15
open PySem PySem.Spec PyProof.Rows L2 So LamX
def strOf? : Value → Option Str
  | .str x _ => some x
  | _ => none
theorem vals_strs : ∀ {ss : List Str} {us : List Value}, us.map strOf? = ss.map some → Vals (ss.map V.str) us
  | [], [], _ => .nil
  | [], _ :: _, h => by simp at h
  | _ :: _, [], h => by simp at h
  | x :: ss, u :: us, h => by
    simp only [List.map_cons, List.cons.injEq] at h
    refine .cons ?_ (vals_strs h.2)
    cases u <;> simp [strOf?] at h
    rename_i y t
    exact ⟨t, by rw [h.1]⟩
theorem tab_seq {K : PySem.W.Frag} {a : Addr} {od : Option Addr} {its : Array Value} {n : Nat} {sl : Array (Option Value)} {ss : List Str} (l : K.lookup a = some ⟨.type "tuple", od, .seq its n, sl⟩) (v : its.toList.map strOf? = ss.map some) (hz : ss.length ≤ 1000) (H : Hp) : SqT K H a (ss.map V.str) := by
  have hv := vals_strs v
  refine .inr ⟨_, its, n, l, rfl, rfl, ?_, hv⟩
  have := hv.length
  rw [List.length_map] at this
  rw [← Array.length_toList, ← this]
  exact Nat.le_trans hz (by decide)
section
variable {K : PySem.W.Frag}
theorem exm_own {D S : Addr} (h2 : PySem.W.isClsIn K S = true) (h3 : PySem.W.typeIn K (.ref S) = some (.type "type")) (h1 : PySem.W.subIn K (.ref S) (.type "BaseException") = some true) (h4 : PySem.W.subIn K (.ref D) (.ref S) = some true) (_ : PySem.W.subIn K (.ref S) (.ref S) = some true) : PySem.W.exmOne K (.ref D) (.ref S) = some true := by
  unfold PySem.W.exmOne PySem.W.kitCls
  unfold PySem.W.isClsIn at h2
  simp [h1, h2, h3, h4]
theorem tab_by {x : Str} {f c P : Addr} {o1 u1 : Value} {o2 u2 : Option Addr} {o3 u3 : Array (Option Value)} {fd : FuncData} {vs : Array Value} (a : PySem.W.nsIn K mainGlobals x = some (some (.ref f))) (l : K.lookup f = some ⟨o1, o2, .func fd, o3⟩) (hc : fd.code = .ref c)
    (lc : K.lookup c = some ⟨u1, u2, .fields vs, u3⟩) (hv : (vs[11]? : Option Value) = some (.ref P)) : PySem.W.tabIn K x = some (c, P) := by
  unfold PySem.W.tabIn
  rw [a]
  simp only [l, hc, lc, hv]
theorem kit_VE {D : Addr} (h : PySem.W.subIn K (.ref D) (.type "ValueError") = some true) : PySem.W.kitOne K (.ref D) (.type "ValueError") = some true := by
  unfold PySem.W.kitOne PySem.W.kitCls
  have e : PySem.W.kitMeta "ValueError" = true := by decide +kernel
  simp [h, e]
theorem kit_own {D C : Addr} {b : Bool} (hc : PySem.W.isClsIn K C = true) (ht : PySem.W.typeIn K (.ref C) = some (.type "type")) (hs : PySem.W.subIn K (.ref D) (.ref C) = some b) (self : PySem.W.subIn K (.ref C) (.ref C) = some true) : PySem.W.kitOne K (.ref D) (.ref C) = some b := by
  by_cases e : D = C
  · subst e
    rw [self] at hs
    rw [kit_self, hs]
  · unfold PySem.W.kitOne PySem.W.kitCls
    unfold PySem.W.isClsIn at hc
    simp [hc, ht, hs, e]
end
abbrev sEB : Stmt := inClass (topS 6) 0
theorem scEB : FnScope ["self", "line", "word"] ["self", "line", "word"] (defScope sEB) := ⟨rfl, rfl, rfl, by decide +kernel, rfl, by decide +kernel, by decide +kernel⟩
theorem kit_str {K : PySem.W.Frag} {C : Addr} (h : PySem.W.subIn K (.ref C) (.type "str") = some false) : PySem.W.kitOne K (.ref C) (.type "str") = some false := by
  unfold PySem.W.kitOne PySem.W.kitCls
  have e : PySem.W.kitMeta "str" = true := by decide +kernel
  simp [h, e]
def T2 (P1 P2 : Addr) : List (Addr × Str) := [(P1, (envOfC "_law_right" (defScope sRight) 0 0 .none).qual ++ "<lambda>"), (P2, (envOfC "law" (defScope sLaw) 0 0 .none).qual ++ "<lambda>")]
theorem t2_right {P1 P2 : Addr} (ne : P2 ≠ P1) : ∀ n f' c', ∀ q ∈ T2 P1 P2, q.1 = P1 → q.2 = (envOfC "_law_right" (defScope sRight) n f' c').qual ++ "<lambda>" := by
  intro n f' c' q hq h
  unfold T2 at hq
  simp only [List.mem_cons, List.not_mem_nil, or_false] at hq
  rcases hq with e | e <;> subst e
  · rfl
  · exact absurd h ne
theorem t2_law {P1 P2 : Addr} (ne : P2 ≠ P1) : ∀ n f' c', ∀ q ∈ T2 P1 P2, q.1 = P2 → q.2 = (envOfC "law" (defScope sLaw) n f' c').qual ++ "<lambda>" := by
  intro n f' c' q hq h
  unfold T2 at hq
  simp only [List.mem_cons, List.not_mem_nil, or_false] at hq
  rcases hq with e | e <;> subst e
  · exact absurd h.symm ne
  · rfl
/-- the classes of the kinds -/
def cfOf (C_begun C_setby C_found C_trusted C_passed C_failed C_agreed C_differed C_served C_backed : Addr) : Str → Addr := fun kind => if kind = "begun" then C_begun else if kind = "setby" then C_setby else if kind = "found" then C_found else if kind = "trusted" then C_trusted else if kind = "passed" then C_passed else if kind = "failed" then C_failed else if kind = "agreed" then C_agreed else if kind = "differed" then C_differed else if kind = "served" then C_served else C_backed
theorem cf_all (C_begun C_setby C_found C_trusted C_passed C_failed C_agreed C_differed C_served C_backed : Addr) : cfOf C_begun C_setby C_found C_trusted C_passed C_failed C_agreed C_differed C_served C_backed "begun" = C_begun ∧ cfOf C_begun C_setby C_found C_trusted C_passed C_failed C_agreed C_differed C_served C_backed "setby" = C_setby ∧ cfOf C_begun C_setby C_found C_trusted C_passed C_failed C_agreed C_differed C_served C_backed "found" = C_found ∧ cfOf C_begun C_setby C_found C_trusted C_passed C_failed C_agreed C_differed C_served C_backed "trusted" = C_trusted ∧ cfOf C_begun C_setby C_found C_trusted C_passed C_failed C_agreed C_differed C_served C_backed "passed" = C_passed ∧ cfOf C_begun C_setby C_found C_trusted C_passed C_failed C_agreed C_differed C_served C_backed "failed" = C_failed ∧ cfOf C_begun C_setby C_found C_trusted C_passed C_failed C_agreed C_differed C_served C_backed "agreed" = C_agreed ∧ cfOf C_begun C_setby C_found C_trusted C_passed C_failed C_agreed C_differed C_served C_backed "differed" = C_differed ∧ cfOf C_begun C_setby C_found C_trusted C_passed C_failed C_agreed C_differed C_served C_backed "served" = C_served ∧ cfOf C_begun C_setby C_found C_trusted C_passed C_failed C_agreed C_differed C_served C_backed "backed" = C_backed := by
  refine ⟨?_, ?_, ?_, ?_, ?_, ?_, ?_, ?_, ?_, ?_⟩ <;> unfold cfOf
  · exact if_pos rfl
  · rw [if_neg (by decide +kernel)]; exact if_pos rfl
  · rw [if_neg (by decide +kernel)]; rw [if_neg (by decide +kernel)]; exact if_pos rfl
  · rw [if_neg (by decide +kernel)]; rw [if_neg (by decide +kernel)]; rw [if_neg (by decide +kernel)]; exact if_pos rfl
  · rw [if_neg (by decide +kernel)]; rw [if_neg (by decide +kernel)]; rw [if_neg (by decide +kernel)]; rw [if_neg (by decide +kernel)]; exact if_pos rfl
  · rw [if_neg (by decide +kernel)]; rw [if_neg (by decide +kernel)]; rw [if_neg (by decide +kernel)]; rw [if_neg (by decide +kernel)]; rw [if_neg (by decide +kernel)]; exact if_pos rfl
  · rw [if_neg (by decide +kernel)]; rw [if_neg (by decide +kernel)]; rw [if_neg (by decide +kernel)]; rw [if_neg (by decide +kernel)]; rw [if_neg (by decide +kernel)]; rw [if_neg (by decide +kernel)]; exact if_pos rfl
  · rw [if_neg (by decide +kernel)]; rw [if_neg (by decide +kernel)]; rw [if_neg (by decide +kernel)]; rw [if_neg (by decide +kernel)]; rw [if_neg (by decide +kernel)]; rw [if_neg (by decide +kernel)]; rw [if_neg (by decide +kernel)]; exact if_pos rfl
  · rw [if_neg (by decide +kernel)]; rw [if_neg (by decide +kernel)]; rw [if_neg (by decide +kernel)]; rw [if_neg (by decide +kernel)]; rw [if_neg (by decide +kernel)]; rw [if_neg (by decide +kernel)]; rw [if_neg (by decide +kernel)]; rw [if_neg (by decide +kernel)]; exact if_pos rfl
  · rw [if_neg (by decide +kernel)]; rw [if_neg (by decide +kernel)]; rw [if_neg (by decide +kernel)]; rw [if_neg (by decide +kernel)]; rw [if_neg (by decide +kernel)]; rw [if_neg (by decide +kernel)]; rw [if_neg (by decide +kernel)]; rw [if_neg (by decide +kernel)]; rw [if_neg (by decide +kernel)]
theorem all10 {p : Str → Prop} (h0 : p "begun") (h1 : p "setby") (h2 : p "found") (h3 : p "trusted") (h4 : p "passed") (h5 : p "failed") (h6 : p "agreed") (h7 : p "differed") (h8 : p "served") (h9 : p "backed") : ∀ kind ∈ kinds, p kind := by
  intro kind hk
  unfold kinds at hk
  simp only [List.mem_cons, List.not_mem_nil, or_false] at hk
  rcases hk with h | h | h | h | h | h | h | h | h | h <;> subst h <;> assumption
theorem all_mk {l : PySem.W.OpenLaw} {w : World} {K : PySem.W.Frag} {h : Heap} {mg : Str → Option Value} {fa fpen fdraw fpick fwords flname ftick flkinds fdrawn fltext flmade fheard flis fltk fdue fbent fright c_right P_right flaw c_law P_law fwhole fmoment fisname fcheck fchecked fwordof fmadeRow fnumber fhasf fwordsof ffirst ftold fvalof frdrow CR pread fread aK C_begun fbegun freq frstr C_setby fsetby C_found ffound C_trusted ftrusted C_passed fpassed C_failed ffailed C_agreed fagreed ccagreed cdaagreed fmeet C_differed fdiffered ccdiffered cdadiffered C_served fserved ccserved cdaserved C_backed fbacked ccbacked cdabacked aNo aF t_begun t_setby t_found t_trusted t_passed t_failed t_agreed t_differed t_served t_backed CT CN feN CM feM CS feS CB feB : Addr} (X : K.In h) (G : h.Ns mainGlobals mg) (hfa : mg "law" = some (.ref fa))
    {odpen anpen oddraw andraw odpick anpick odwords anwords odlname anlname odtick antick odlkinds anlkinds oddrawn andrawn odltext anltext odlmade anlmade odheard anheard odlis anlis odltk anltk oddue andue odbent anbent odright anright odlaw anlaw odwhole anwhole odmoment anmoment odisname anisname odcheck ancheck odchecked anchecked odwordof anwordof odmadeRow anmadeRow odnumber annumber odhasf anhasf odwordsof anwordsof odfirst anfirst odtold antold odvalof anvalof odrdrow anrdrow odread anread odK odbegun anbegun odreq anreq odrstr anrstr odsetby ansetby odfound anfound odtrusted antrusted odpassed anpassed odfailed anfailed odagreed anagreed cldagreed cddagreed odmeet anmeet oddiffered andiffered clddiffered cdddiffered odserved anserved cldserved cddserved odbacked anbacked cldbacked cddbacked odN odtbegun odtsetby odtfound odttrusted odtpassed odtfailed odtagreed odtdiffered odtserved odtbacked odeN aneN odeM aneM odeS aneS odeB aneB odcright odclaw : Option Addr} {slpen sldraw slpick slwords sllname sltick sllkinds sldrawn slltext sllmade slheard sllis slltk sldue slbent slright sllaw slwhole slmoment slisname slcheck slchecked slwordof slmadeRow slnumber slhasf slwordsof slfirst sltold slvalof slrdrow slread slK slbegun slreq slrstr slsetby slfound sltrusted slpassed slfailed slagreed cslagreed ccsagreed slmeet sldiffered csldiffered ccsdiffered slserved cslserved ccsserved slbacked cslbacked ccsbacked slN sltbegun sltsetby sltfound slttrusted sltpassed sltfailed sltagreed sltdiffered sltserved sltbacked sleN sleM sleS sleB slcright slclaw : Array (Option Value)} {ocpen kVpen dcpen pmpen ctpen cdpen ocdraw kVdraw dcdraw pmdraw ctdraw cddraw ocpick kVpick dcpick pmpick ctpick cdpick ocwords kVwords dcwords pmwords ctwords cdwords oclname kVlname dclname pmlname ctlname cdlname octick kVtick dctick pmtick cttick cdtick oclkinds kVlkinds dclkinds pmlkinds ctlkinds cdlkinds ocdrawn kVdrawn dcdrawn pmdrawn ctdrawn cddrawn ocltext kVltext dcltext pmltext ctltext cdltext oclmade kVlmade dclmade pmlmade ctlmade cdlmade ocheard kVheard dcheard pmheard ctheard cdheard oclis kVlis dclis pmlis ctlis cdlis ocltk kVltk dcltk pmltk ctltk cdltk ocdue kVdue dcdue pmdue ctdue cddue ocbent kVbent dcbent pmbent ctbent cdbent ocright kVright dcright pmright ctright oclaw kVlaw dclaw pmlaw ctlaw ocwhole kVwhole dcwhole pmwhole ctwhole cdwhole ocmoment kVmoment dcmoment pmmoment ctmoment cdmoment ocisname kVisname dcisname pmisname ctisname cdisname occheck kVcheck dccheck pmcheck ctcheck cdcheck occhecked kVchecked dcchecked pmchecked ctchecked cdchecked ocwordof kVwordof dcwordof pmwordof ctwordof cdwordof ocmadeRow kVmadeRow dcmadeRow pmmadeRow ctmadeRow cdmadeRow ocnumber kVnumber dcnumber pmnumber ctnumber cdnumber ochasf kVhasf dchasf pmhasf cthasf cdhasf ocwordsof kVwordsof dcwordsof pmwordsof ctwordsof cdwordsof ocfirst kVfirst dcfirst pmfirst ctfirst cdfirst octold kVtold dctold pmtold cttold cdtold ocvalof kVvalof dcvalof pmvalof ctvalof cdvalof ocrdrow kVrdrow dcrdrow pmrdrow ctrdrow cdrdrow ocread kVread dcread pmread ctread cdread ocbegun kVbegun dcbegun pmbegun ctbegun cdbegun ocreq kVreq dcreq pmreq ctreq cdreq ocrstr kVrstr dcrstr pmrstr ctrstr cdrstr ocsetby kVsetby dcsetby pmsetby ctsetby cdsetby ocfound kVfound dcfound pmfound ctfound cdfound octrusted kVtrusted dctrusted pmtrusted cttrusted cdtrusted ocpassed kVpassed dcpassed pmpassed ctpassed cdpassed ocfailed kVfailed dcfailed pmfailed ctfailed cdfailed ocagreed kVagreed dcagreed pmagreed ctagreed clagreed cclagreed ocmeet kVmeet dcmeet pmmeet ctmeet cdmeet ocdiffered kVdiffered dcdiffered pmdiffered ctdiffered cldiffered ccldiffered ocserved kVserved dcserved pmserved ctserved clserved cclserved ocbacked kVbacked dcbacked pmbacked ctbacked clbacked cclbacked oceN kVeN dceN pmeN cteN cdeN oceM kVeM dceM pmeM cteM cdeM oceS kVeS dceS pmeS cteS cdeS oceB kVeB dceB pmeB cteB cdeB occright occlaw : Value} {restread : List Value}  {tG tL tA tD : Tok} {itsN : Array Value} {nN nF : Nat} {esF : Array DictEntry} {itsbegun itssetby itsfound itstrusted itspassed itsfailed itsagreed itsdiffered itsserved itsbacked : Array Value} {ntbegun ntsetby ntfound nttrusted ntpassed ntfailed ntagreed ntdiffered ntserved ntbacked : Nat} {vsagreed vsdiffered vsserved vsbacked : Array Value} {fileagreed filediffered fileserved filebacked : Str} {tfagreed tfdiffered tfserved tfbacked : Tok} {cd_agreed cd_differed cd_served cd_backed : ClassData} {vsright vslaw : Array Value} {tLN : Tok} {itsK : Array Value} {nK : Nat} {nmN qN : Str} {NN : Addr} {bsN subN : List Value} {snN : List Str} {abN : Bool} {colN : Option Bool} {ddN : Option Addr} {m0N m1N m2N m3N m5N : Option Value} {nmM qM : Str} {NM : Addr} {bsM subM : List Value} {snM : List Str} {abM : Bool} {colM : Option Bool} {ddM : Option Addr} {m0M m1M m2M m3M m5M : Option Value} {nmS qS : Str} {NS : Addr} {bsS subS : List Value} {snS : List Str} {abS : Bool} {colS : Option Bool} {ddS : Option Addr} {m0S m1S m2S m3S m5S : Option Value} {nmB qB : Str} {NB : Addr} {bsB subB : List Value} {snB : List Str} {abB : Bool} {colB : Option Bool} {ddB : Option Addr} {m0B m1B m2B m3B m5B : Option Value}
    (apen : PySem.W.nsIn K mainGlobals "_law_pen" = some (some (.ref fpen)))
    (lpen : K.lookup fpen = some ⟨ocpen, odpen, .func (PySem.W.fnOf "_law_pen" "_law_pen" (defArgs sPen) (defBody sPen) (defScope sPen) .none kVpen dcpen pmpen anpen cdpen ctpen), slpen⟩)
    (cpen : PySem.W.codeIn K cdpen "_law_pen" = true)
    (kpen : PySem.W.keepIn K (.ref fpen) = true)
    (adraw : PySem.W.nsIn K mainGlobals "_law_draw" = some (some (.ref fdraw)))
    (ldraw : K.lookup fdraw = some ⟨ocdraw, oddraw, .func (PySem.W.fnOf "_law_draw" "_law_draw" (defArgs sDraw) (defBody sDraw) (defScope sDraw) .none kVdraw dcdraw pmdraw andraw cddraw ctdraw), sldraw⟩)
    (cdraw : PySem.W.codeIn K cddraw "_law_draw" = true)
    (kdraw : PySem.W.keepIn K (.ref fdraw) = true)
    (apick : PySem.W.nsIn K mainGlobals "_law_pick" = some (some (.ref fpick)))
    (lpick : K.lookup fpick = some ⟨ocpick, odpick, .func (PySem.W.fnOf "_law_pick" "_law_pick" (defArgs sPick) (defBody sPick) (defScope sPick) .none kVpick dcpick pmpick anpick cdpick ctpick), slpick⟩)
    (cpick : PySem.W.codeIn K cdpick "_law_pick" = true)
    (kpick : PySem.W.keepIn K (.ref fpick) = true)
    (awords : PySem.W.nsIn K mainGlobals "_law_words" = some (some (.ref fwords)))
    (lwords : K.lookup fwords = some ⟨ocwords, odwords, .func (PySem.W.fnOf "_law_words" "_law_words" (defArgs sWords) (defBody sWords) (defScope sWords) .none kVwords dcwords pmwords anwords cdwords ctwords), slwords⟩)
    (cwords : PySem.W.codeIn K cdwords "_law_words" = true)
    (kwords : PySem.W.keepIn K (.ref fwords) = true)
    (alname : PySem.W.nsIn K mainGlobals "_law_name" = some (some (.ref flname)))
    (llname : K.lookup flname = some ⟨oclname, odlname, .func (PySem.W.fnOf "_law_name" "_law_name" (defArgs sLName) (defBody sLName) (defScope sLName) .none kVlname dclname pmlname anlname cdlname ctlname), sllname⟩)
    (clname : PySem.W.codeIn K cdlname "_law_name" = true)
    (klname : PySem.W.keepIn K (.ref flname) = true)
    (atick : PySem.W.nsIn K mainGlobals "_law_tick" = some (some (.ref ftick)))
    (ltick : K.lookup ftick = some ⟨octick, odtick, .func (PySem.W.fnOf "_law_tick" "_law_tick" (defArgs sTick) (defBody sTick) (defScope sTick) .none kVtick dctick pmtick antick cdtick cttick), sltick⟩)
    (ctick : PySem.W.codeIn K cdtick "_law_tick" = true)
    (ktick : PySem.W.keepIn K (.ref ftick) = true)
    (alkinds : PySem.W.nsIn K mainGlobals "_law_kinds" = some (some (.ref flkinds)))
    (llkinds : K.lookup flkinds = some ⟨oclkinds, odlkinds, .func (PySem.W.fnOf "_law_kinds" "_law_kinds" (defArgs sKinds) (defBody sKinds) (defScope sKinds) .none kVlkinds dclkinds pmlkinds anlkinds cdlkinds ctlkinds), sllkinds⟩)
    (clkinds : PySem.W.codeIn K cdlkinds "_law_kinds" = true)
    (klkinds : PySem.W.keepIn K (.ref flkinds) = true)
    (adrawn : PySem.W.nsIn K mainGlobals "_law_drawn" = some (some (.ref fdrawn)))
    (ldrawn : K.lookup fdrawn = some ⟨ocdrawn, oddrawn, .func (PySem.W.fnOf "_law_drawn" "_law_drawn" (defArgs sDrawn) (defBody sDrawn) (defScope sDrawn) .none kVdrawn dcdrawn pmdrawn andrawn cddrawn ctdrawn), sldrawn⟩)
    (cdrawn : PySem.W.codeIn K cddrawn "_law_drawn" = true)
    (kdrawn : PySem.W.keepIn K (.ref fdrawn) = true)
    (altext : PySem.W.nsIn K mainGlobals "_law_text" = some (some (.ref fltext)))
    (lltext : K.lookup fltext = some ⟨ocltext, odltext, .func (PySem.W.fnOf "_law_text" "_law_text" (defArgs sText) (defBody sText) (defScope sText) .none kVltext dcltext pmltext anltext cdltext ctltext), slltext⟩)
    (cltext : PySem.W.codeIn K cdltext "_law_text" = true)
    (kltext : PySem.W.keepIn K (.ref fltext) = true)
    (almade : PySem.W.nsIn K mainGlobals "_law_made" = some (some (.ref flmade)))
    (llmade : K.lookup flmade = some ⟨oclmade, odlmade, .func (PySem.W.fnOf "_law_made" "_law_made" (defArgs sMade) (defBody sMade) (defScope sMade) .none kVlmade dclmade pmlmade anlmade cdlmade ctlmade), sllmade⟩)
    (clmade : PySem.W.codeIn K cdlmade "_law_made" = true)
    (klmade : PySem.W.keepIn K (.ref flmade) = true)
    (aheard : PySem.W.nsIn K mainGlobals "_law_heard" = some (some (.ref fheard)))
    (lheard : K.lookup fheard = some ⟨ocheard, odheard, .func (PySem.W.fnOf "_law_heard" "_law_heard" (defArgs sHeard) (defBody sHeard) (defScope sHeard) .none kVheard dcheard pmheard anheard cdheard ctheard), slheard⟩)
    (cheard : PySem.W.codeIn K cdheard "_law_heard" = true)
    (kheard : PySem.W.keepIn K (.ref fheard) = true)
    (alis : PySem.W.nsIn K mainGlobals "_law_is_name" = some (some (.ref flis)))
    (llis : K.lookup flis = some ⟨oclis, odlis, .func (PySem.W.fnOf "_law_is_name" "_law_is_name" (defArgs sLIs) (defBody sLIs) (defScope sLIs) .none kVlis dclis pmlis anlis cdlis ctlis), sllis⟩)
    (clis : PySem.W.codeIn K cdlis "_law_is_name" = true)
    (klis : PySem.W.keepIn K (.ref flis) = true)
    (altk : PySem.W.nsIn K mainGlobals "_law_is_tick" = some (some (.ref fltk)))
    (lltk : K.lookup fltk = some ⟨ocltk, odltk, .func (PySem.W.fnOf "_law_is_tick" "_law_is_tick" (defArgs sTk) (defBody sTk) (defScope sTk) .none kVltk dcltk pmltk anltk cdltk ctltk), slltk⟩)
    (cltk : PySem.W.codeIn K cdltk "_law_is_tick" = true)
    (kltk : PySem.W.keepIn K (.ref fltk) = true)
    (adue : PySem.W.nsIn K mainGlobals "_law_due" = some (some (.ref fdue)))
    (ldue : K.lookup fdue = some ⟨ocdue, oddue, .func (PySem.W.fnOf "_law_due" "_law_due" (defArgs sDue) (defBody sDue) (defScope sDue) .none kVdue dcdue pmdue andue cddue ctdue), sldue⟩)
    (cdue : PySem.W.codeIn K cddue "_law_due" = true)
    (kdue : PySem.W.keepIn K (.ref fdue) = true)
    (abent : PySem.W.nsIn K mainGlobals "_law_bent" = some (some (.ref fbent)))
    (lbent : K.lookup fbent = some ⟨ocbent, odbent, .func (PySem.W.fnOf "_law_bent" "_law_bent" (defArgs sBent) (defBody sBent) (defScope sBent) .none kVbent dcbent pmbent anbent cdbent ctbent), slbent⟩)
    (cbent : PySem.W.codeIn K cdbent "_law_bent" = true)
    (kbent : PySem.W.keepIn K (.ref fbent) = true)
    (aright : PySem.W.nsIn K mainGlobals "_law_right" = some (some (.ref fright)))
    (lright : K.lookup fright = some ⟨ocright, odright, .func (PySem.W.fnOf "_law_right" "_law_right" (defArgs sRight) (defBody sRight) (defScope sRight) .none kVright dcright pmright anright (.ref c_right) ctright), slright⟩)
    (cright : PySem.W.codeIn K (.ref c_right) "_law_right" = true)
    (kright : PySem.W.keepIn K (.ref fright) = true)
    (alaw : PySem.W.nsIn K mainGlobals "law" = some (some (.ref flaw)))
    (llaw : K.lookup flaw = some ⟨oclaw, odlaw, .func (PySem.W.fnOf "law" "law" (defArgs sLaw) (defBody sLaw) (defScope sLaw) .none kVlaw dclaw pmlaw anlaw (.ref c_law) ctlaw), sllaw⟩)
    (claw : PySem.W.codeIn K (.ref c_law) "law" = true)
    (klaw : PySem.W.keepIn K (.ref flaw) = true)
    (awhole : PySem.W.nsIn K mainGlobals "is_whole" = some (some (.ref fwhole)))
    (lwhole : K.lookup fwhole = some ⟨ocwhole, odwhole, .func (PySem.W.fnOf "is_whole" "is_whole" (defArgs sWhole) (defBody sWhole) (defScope sWhole) .none kVwhole dcwhole pmwhole anwhole cdwhole ctwhole), slwhole⟩)
    (cwhole : PySem.W.codeIn K cdwhole "is_whole" = true)
    (kwhole : PySem.W.keepIn K (.ref fwhole) = true)
    (amoment : PySem.W.nsIn K mainGlobals "is_moment" = some (some (.ref fmoment)))
    (lmoment : K.lookup fmoment = some ⟨ocmoment, odmoment, .func (PySem.W.fnOf "is_moment" "is_moment" (defArgs sMoment) (defBody sMoment) (defScope sMoment) .none kVmoment dcmoment pmmoment anmoment cdmoment ctmoment), slmoment⟩)
    (cmoment : PySem.W.codeIn K cdmoment "is_moment" = true)
    (kmoment : PySem.W.keepIn K (.ref fmoment) = true)
    (aisname : PySem.W.nsIn K mainGlobals "is_name" = some (some (.ref fisname)))
    (lisname : K.lookup fisname = some ⟨ocisname, odisname, .func (PySem.W.fnOf "is_name" "is_name" (defArgs sName) (defBody sName) (defScope sName) .none kVisname dcisname pmisname anisname cdisname ctisname), slisname⟩)
    (cisname : PySem.W.codeIn K cdisname "is_name" = true)
    (kisname : PySem.W.keepIn K (.ref fisname) = true)
    (acheck : PySem.W.nsIn K mainGlobals "check_form" = some (some (.ref fcheck)))
    (lcheck : K.lookup fcheck = some ⟨occheck, odcheck, .func (PySem.W.fnOf "check_form" "check_form" (defArgs sCheck) (defBody sCheck) (defScope sCheck) .none kVcheck dccheck pmcheck ancheck cdcheck ctcheck), slcheck⟩)
    (ccheck : PySem.W.codeIn K cdcheck "check_form" = true)
    (kcheck : PySem.W.keepIn K (.ref fcheck) = true)
    (achecked : PySem.W.nsIn K mainGlobals "checked" = some (some (.ref fchecked)))
    (lchecked : K.lookup fchecked = some ⟨occhecked, odchecked, .func (PySem.W.fnOf "checked" "checked" (defArgs sChecked) (defBody sChecked) (defScope sChecked) .none kVchecked dcchecked pmchecked anchecked cdchecked ctchecked), slchecked⟩)
    (cchecked : PySem.W.codeIn K cdchecked "checked" = true)
    (kchecked : PySem.W.keepIn K (.ref fchecked) = true)
    (awordof : PySem.W.nsIn K mainGlobals "word_of" = some (some (.ref fwordof)))
    (lwordof : K.lookup fwordof = some ⟨ocwordof, odwordof, .func (PySem.W.fnOf "word_of" "word_of" (defArgs sWordOf) (defBody sWordOf) (defScope sWordOf) .none kVwordof dcwordof pmwordof anwordof cdwordof ctwordof), slwordof⟩)
    (cwordof : PySem.W.codeIn K cdwordof "word_of" = true)
    (kwordof : PySem.W.keepIn K (.ref fwordof) = true)
    (amadeRow : PySem.W.nsIn K mainGlobals "made_row" = some (some (.ref fmadeRow)))
    (lmadeRow : K.lookup fmadeRow = some ⟨ocmadeRow, odmadeRow, .func (PySem.W.fnOf "made_row" "made_row" (defArgs sMadeRow) (defBody sMadeRow) (defScope sMadeRow) .none kVmadeRow dcmadeRow pmmadeRow anmadeRow cdmadeRow ctmadeRow), slmadeRow⟩)
    (cmadeRow : PySem.W.codeIn K cdmadeRow "made_row" = true)
    (kmadeRow : PySem.W.keepIn K (.ref fmadeRow) = true)
    (anumber : PySem.W.nsIn K mainGlobals "is_number" = some (some (.ref fnumber)))
    (lnumber : K.lookup fnumber = some ⟨ocnumber, odnumber, .func (PySem.W.fnOf "is_number" "is_number" (defArgs sNumber) (defBody sNumber) (defScope sNumber) .none kVnumber dcnumber pmnumber annumber cdnumber ctnumber), slnumber⟩)
    (cnumber : PySem.W.codeIn K cdnumber "is_number" = true)
    (knumber : PySem.W.keepIn K (.ref fnumber) = true)
    (ahasf : PySem.W.nsIn K mainGlobals "has_form" = some (some (.ref fhasf)))
    (lhasf : K.lookup fhasf = some ⟨ochasf, odhasf, .func (PySem.W.fnOf "has_form" "has_form" (defArgs sHasForm) (defBody sHasForm) (defScope sHasForm) .none kVhasf dchasf pmhasf anhasf cdhasf cthasf), slhasf⟩)
    (chasf : PySem.W.codeIn K cdhasf "has_form" = true)
    (khasf : PySem.W.keepIn K (.ref fhasf) = true)
    (awordsof : PySem.W.nsIn K mainGlobals "words_of" = some (some (.ref fwordsof)))
    (lwordsof : K.lookup fwordsof = some ⟨ocwordsof, odwordsof, .func (PySem.W.fnOf "words_of" "words_of" (defArgs sWordsOf) (defBody sWordsOf) (defScope sWordsOf) .none kVwordsof dcwordsof pmwordsof anwordsof cdwordsof ctwordsof), slwordsof⟩)
    (cwordsof : PySem.W.codeIn K cdwordsof "words_of" = true)
    (kwordsof : PySem.W.keepIn K (.ref fwordsof) = true)
    (afirst : PySem.W.nsIn K mainGlobals "first_wrong" = some (some (.ref ffirst)))
    (lfirst : K.lookup ffirst = some ⟨ocfirst, odfirst, .func (PySem.W.fnOf "first_wrong" "first_wrong" (defArgs sFirst) (defBody sFirst) (defScope sFirst) .none kVfirst dcfirst pmfirst anfirst cdfirst ctfirst), slfirst⟩)
    (cfirst : PySem.W.codeIn K cdfirst "first_wrong" = true)
    (kfirst : PySem.W.keepIn K (.ref ffirst) = true)
    (atold : PySem.W.nsIn K mainGlobals "told_by" = some (some (.ref ftold)))
    (ltold : K.lookup ftold = some ⟨octold, odtold, .func (PySem.W.fnOf "told_by" "told_by" (defArgs sTold) (defBody sTold) (defScope sTold) .none kVtold dctold pmtold antold cdtold cttold), sltold⟩)
    (ctold : PySem.W.codeIn K cdtold "told_by" = true)
    (ktold : PySem.W.keepIn K (.ref ftold) = true)
    (avalof : PySem.W.nsIn K mainGlobals "value_of" = some (some (.ref fvalof)))
    (lvalof : K.lookup fvalof = some ⟨ocvalof, odvalof, .func (PySem.W.fnOf "value_of" "value_of" (defArgs sValueOf) (defBody sValueOf) (defScope sValueOf) .none kVvalof dcvalof pmvalof anvalof cdvalof ctvalof), slvalof⟩)
    (cvalof : PySem.W.codeIn K cdvalof "value_of" = true)
    (kvalof : PySem.W.keepIn K (.ref fvalof) = true)
    (ardrow : PySem.W.nsIn K mainGlobals "read_row" = some (some (.ref frdrow)))
    (lrdrow : K.lookup frdrow = some ⟨ocrdrow, odrdrow, .func (PySem.W.fnOf "read_row" "read_row" (defArgs sReadRow) (defBody sReadRow) (defScope sReadRow) .none kVrdrow dcrdrow pmrdrow anrdrow cdrdrow ctrdrow), slrdrow⟩)
    (crdrow : PySem.W.codeIn K cdrdrow "read_row" = true)
    (krdrow : PySem.W.keepIn K (.ref frdrow) = true)
    (thn : PySem.W.specialIn K (.builtin "object.__class__") "__get__" = some (some (.builtin "getset_descriptor.__get__")))
    (tht : PySem.W.takesIn K (.builtin "object.__class__") = some true)
    (gR : PySem.W.nsIn K mainGlobals "Row" = some (some (.ref CR)))
    (icR : PySem.W.isClsIn K CR = true)
    (tyR : PySem.W.typeIn K (.ref CR) = some (.type "type"))
    (sbR : PySem.W.subIn K (.ref CR) (.ref CR) = some true)
    (rdCR : PySem.W.readsIn K CR (.type "type") = true)
    (gaCR : PySem.W.specialIn K (.ref CR) "__getattribute__" = some (some (.builtin "type.__getattribute__")))
    (atread : PySem.W.findCls K (.ref CR) (.type "type") "read" = some (.get (.builtin "classmethod.__get__") (.ref pread) .none (.ref CR)))
    (rcread : PySem.W.recIn K pread "classmethod" = some (.ref fread :: restread))
    (firead : PySem.W.fnIn K fread = true)
    (lread : K.lookup fread = some ⟨ocread, odread, .func (PySem.W.fnOf "read" "Row.read" (defArgs sRowRead) (defBody sRowRead) (defScope sRowRead) .none kVread dcread pmread anread cdread ctread), slread⟩)
    (cread : PySem.W.codeIn K cdread "Row.read" = true)
    (kread : PySem.W.keepIn K (.ref fread) = true)
    (atK : PySem.W.findCls K (.ref CR) (.type "type") "KINDS" = some (.val (.ref aK)))
    (lK : K.lookup aK = some ⟨.type "tuple", odK, .seq itsK nK, slK⟩)
    (vK : itsK.toList.map strOf? = kinds.map some)
    (aC_begun : PySem.W.nsIn K mainGlobals "Begun" = some (some (.ref C_begun)))
    (pgC_begun : PySem.W.plainGet K C_begun Str.empty = true)
    (hdC_begun : PySem.W.hasDictIn K C_begun = true)
    (poC_begun : PySem.W.plainOver K C_begun = true)
    (saC_begun : PySem.W.findIn K (.ref C_begun) "__setattr__" = some (some (.builtin "object.__setattr__")))
    (mkC_begun : PySem.W.makesIn K C_begun = true)
    (kcC_begun : PySem.W.keepIn K (.ref C_begun) = true)
    (nC_begun__told : PySem.W.findIn K (.ref C_begun) "_told" = some none)
    (nC_begun_kind : PySem.W.findIn K (.ref C_begun) "kind" = some none)
    (nC_begun_tool : PySem.W.findIn K (.ref C_begun) "tool" = some none)
    (nC_begun_moment : PySem.W.findIn K (.ref C_begun) "moment" = some none)
    (abegun : PySem.W.findIn K (.ref C_begun) "__init__" = some (some (.ref fbegun)))
    (ibegun : PySem.W.isFn K (.ref fbegun) = true)
    (lbegun : K.lookup fbegun = some ⟨ocbegun, odbegun, .func (PySem.W.fnOf "__init__" "Begun.__init__" (defArgs sBegun) (defBody sBegun) (defScope sBegun) .none kVbegun dcbegun pmbegun anbegun cdbegun ctbegun), slbegun⟩)
    (cbegun : PySem.W.codeIn K cdbegun "Begun.__init__" = true)
    (kbegun : PySem.W.keepIn K (.ref fbegun) = true)
    (thaC_begun : PySem.W.findIn K (.ref C_begun) "__class__" = some (some (.builtin "object.__class__")))
    (thmC_begun : PySem.W.mroIn K C_begun (.type "object") = some true)
    (areqC_begun : PySem.W.findIn K (.ref C_begun) "__eq__" = some (some (.ref freq)))
    (ireq : PySem.W.isFn K (.ref freq) = true)
    (lreq : K.lookup freq = some ⟨ocreq, odreq, .func (PySem.W.fnOf "__eq__" "Row.__eq__" (defArgs sEqR) (defBody sEqR) (defScope sEqR) .none kVreq dcreq pmreq anreq cdreq ctreq), slreq⟩)
    (creq : PySem.W.codeIn K cdreq "Row.__eq__" = true)
    (kreq : PySem.W.keepIn K (.ref freq) = true)
    (arstrC_begun : PySem.W.findIn K (.ref C_begun) "__str__" = some (some (.ref frstr)))
    (irstr : PySem.W.isFn K (.ref frstr) = true)
    (lrstr : K.lookup frstr = some ⟨ocrstr, odrstr, .func (PySem.W.fnOf "__str__" "Row.__str__" (defArgs sStrR) (defBody sStrR) (defScope sStrR) .none kVrstr dcrstr pmrstr anrstr cdrstr ctrstr), slrstr⟩)
    (crstr : PySem.W.codeIn K cdrstr "Row.__str__" = true)
    (krstr : PySem.W.keepIn K (.ref frstr) = true)
    (sRC_begun : PySem.W.subIn K (.ref C_begun) (.ref CR) = some true)
    (aC_setby : PySem.W.nsIn K mainGlobals "SetBy" = some (some (.ref C_setby)))
    (pgC_setby : PySem.W.plainGet K C_setby Str.empty = true)
    (hdC_setby : PySem.W.hasDictIn K C_setby = true)
    (poC_setby : PySem.W.plainOver K C_setby = true)
    (saC_setby : PySem.W.findIn K (.ref C_setby) "__setattr__" = some (some (.builtin "object.__setattr__")))
    (mkC_setby : PySem.W.makesIn K C_setby = true)
    (kcC_setby : PySem.W.keepIn K (.ref C_setby) = true)
    (nC_setby__told : PySem.W.findIn K (.ref C_setby) "_told" = some none)
    (nC_setby_kind : PySem.W.findIn K (.ref C_setby) "kind" = some none)
    (nC_setby_tool : PySem.W.findIn K (.ref C_setby) "tool" = some none)
    (nC_setby_moment : PySem.W.findIn K (.ref C_setby) "moment" = some none)
    (nC_setby_by : PySem.W.findIn K (.ref C_setby) "by" = some none)
    (asetby : PySem.W.findIn K (.ref C_setby) "__init__" = some (some (.ref fsetby)))
    (isetby : PySem.W.isFn K (.ref fsetby) = true)
    (lsetby : K.lookup fsetby = some ⟨ocsetby, odsetby, .func (PySem.W.fnOf "__init__" "SetBy.__init__" (defArgs sSetBy) (defBody sSetBy) (defScope sSetBy) .none kVsetby dcsetby pmsetby ansetby cdsetby ctsetby), slsetby⟩)
    (csetby : PySem.W.codeIn K cdsetby "SetBy.__init__" = true)
    (ksetby : PySem.W.keepIn K (.ref fsetby) = true)
    (thaC_setby : PySem.W.findIn K (.ref C_setby) "__class__" = some (some (.builtin "object.__class__")))
    (thmC_setby : PySem.W.mroIn K C_setby (.type "object") = some true)
    (areqC_setby : PySem.W.findIn K (.ref C_setby) "__eq__" = some (some (.ref freq)))
    (arstrC_setby : PySem.W.findIn K (.ref C_setby) "__str__" = some (some (.ref frstr)))
    (sRC_setby : PySem.W.subIn K (.ref C_setby) (.ref CR) = some true)
    (aC_found : PySem.W.nsIn K mainGlobals "Found" = some (some (.ref C_found)))
    (pgC_found : PySem.W.plainGet K C_found Str.empty = true)
    (hdC_found : PySem.W.hasDictIn K C_found = true)
    (poC_found : PySem.W.plainOver K C_found = true)
    (saC_found : PySem.W.findIn K (.ref C_found) "__setattr__" = some (some (.builtin "object.__setattr__")))
    (mkC_found : PySem.W.makesIn K C_found = true)
    (kcC_found : PySem.W.keepIn K (.ref C_found) = true)
    (nC_found__told : PySem.W.findIn K (.ref C_found) "_told" = some none)
    (nC_found_kind : PySem.W.findIn K (.ref C_found) "kind" = some none)
    (nC_found_tool : PySem.W.findIn K (.ref C_found) "tool" = some none)
    (nC_found_moment : PySem.W.findIn K (.ref C_found) "moment" = some none)
    (nC_found_is_sound : PySem.W.findIn K (.ref C_found) "is_sound" = some none)
    (afound : PySem.W.findIn K (.ref C_found) "__init__" = some (some (.ref ffound)))
    (ifound : PySem.W.isFn K (.ref ffound) = true)
    (lfound : K.lookup ffound = some ⟨ocfound, odfound, .func (PySem.W.fnOf "__init__" "Found.__init__" (defArgs sFound) (defBody sFound) (defScope sFound) .none kVfound dcfound pmfound anfound cdfound ctfound), slfound⟩)
    (cfound : PySem.W.codeIn K cdfound "Found.__init__" = true)
    (kfound : PySem.W.keepIn K (.ref ffound) = true)
    (thaC_found : PySem.W.findIn K (.ref C_found) "__class__" = some (some (.builtin "object.__class__")))
    (thmC_found : PySem.W.mroIn K C_found (.type "object") = some true)
    (areqC_found : PySem.W.findIn K (.ref C_found) "__eq__" = some (some (.ref freq)))
    (arstrC_found : PySem.W.findIn K (.ref C_found) "__str__" = some (some (.ref frstr)))
    (sRC_found : PySem.W.subIn K (.ref C_found) (.ref CR) = some true)
    (aC_trusted : PySem.W.nsIn K mainGlobals "Trusted" = some (some (.ref C_trusted)))
    (pgC_trusted : PySem.W.plainGet K C_trusted Str.empty = true)
    (hdC_trusted : PySem.W.hasDictIn K C_trusted = true)
    (poC_trusted : PySem.W.plainOver K C_trusted = true)
    (saC_trusted : PySem.W.findIn K (.ref C_trusted) "__setattr__" = some (some (.builtin "object.__setattr__")))
    (mkC_trusted : PySem.W.makesIn K C_trusted = true)
    (kcC_trusted : PySem.W.keepIn K (.ref C_trusted) = true)
    (nC_trusted__told : PySem.W.findIn K (.ref C_trusted) "_told" = some none)
    (nC_trusted_kind : PySem.W.findIn K (.ref C_trusted) "kind" = some none)
    (nC_trusted_tool : PySem.W.findIn K (.ref C_trusted) "tool" = some none)
    (atrusted : PySem.W.findIn K (.ref C_trusted) "__init__" = some (some (.ref ftrusted)))
    (itrusted : PySem.W.isFn K (.ref ftrusted) = true)
    (ltrusted : K.lookup ftrusted = some ⟨octrusted, odtrusted, .func (PySem.W.fnOf "__init__" "Trusted.__init__" (defArgs sTrusted) (defBody sTrusted) (defScope sTrusted) .none kVtrusted dctrusted pmtrusted antrusted cdtrusted cttrusted), sltrusted⟩)
    (ctrusted : PySem.W.codeIn K cdtrusted "Trusted.__init__" = true)
    (ktrusted : PySem.W.keepIn K (.ref ftrusted) = true)
    (thaC_trusted : PySem.W.findIn K (.ref C_trusted) "__class__" = some (some (.builtin "object.__class__")))
    (thmC_trusted : PySem.W.mroIn K C_trusted (.type "object") = some true)
    (areqC_trusted : PySem.W.findIn K (.ref C_trusted) "__eq__" = some (some (.ref freq)))
    (arstrC_trusted : PySem.W.findIn K (.ref C_trusted) "__str__" = some (some (.ref frstr)))
    (sRC_trusted : PySem.W.subIn K (.ref C_trusted) (.ref CR) = some true)
    (aC_passed : PySem.W.nsIn K mainGlobals "Passed" = some (some (.ref C_passed)))
    (pgC_passed : PySem.W.plainGet K C_passed Str.empty = true)
    (hdC_passed : PySem.W.hasDictIn K C_passed = true)
    (poC_passed : PySem.W.plainOver K C_passed = true)
    (saC_passed : PySem.W.findIn K (.ref C_passed) "__setattr__" = some (some (.builtin "object.__setattr__")))
    (mkC_passed : PySem.W.makesIn K C_passed = true)
    (kcC_passed : PySem.W.keepIn K (.ref C_passed) = true)
    (nC_passed__told : PySem.W.findIn K (.ref C_passed) "_told" = some none)
    (nC_passed_kind : PySem.W.findIn K (.ref C_passed) "kind" = some none)
    (nC_passed_tool : PySem.W.findIn K (.ref C_passed) "tool" = some none)
    (nC_passed_moment : PySem.W.findIn K (.ref C_passed) "moment" = some none)
    (nC_passed_by : PySem.W.findIn K (.ref C_passed) "by" = some none)
    (apassed : PySem.W.findIn K (.ref C_passed) "__init__" = some (some (.ref fpassed)))
    (ipassed : PySem.W.isFn K (.ref fpassed) = true)
    (lpassed : K.lookup fpassed = some ⟨ocpassed, odpassed, .func (PySem.W.fnOf "__init__" "Passed.__init__" (defArgs sPassed) (defBody sPassed) (defScope sPassed) .none kVpassed dcpassed pmpassed anpassed cdpassed ctpassed), slpassed⟩)
    (cpassed : PySem.W.codeIn K cdpassed "Passed.__init__" = true)
    (kpassed : PySem.W.keepIn K (.ref fpassed) = true)
    (thaC_passed : PySem.W.findIn K (.ref C_passed) "__class__" = some (some (.builtin "object.__class__")))
    (thmC_passed : PySem.W.mroIn K C_passed (.type "object") = some true)
    (areqC_passed : PySem.W.findIn K (.ref C_passed) "__eq__" = some (some (.ref freq)))
    (arstrC_passed : PySem.W.findIn K (.ref C_passed) "__str__" = some (some (.ref frstr)))
    (sRC_passed : PySem.W.subIn K (.ref C_passed) (.ref CR) = some true)
    (aC_failed : PySem.W.nsIn K mainGlobals "Failed" = some (some (.ref C_failed)))
    (pgC_failed : PySem.W.plainGet K C_failed Str.empty = true)
    (hdC_failed : PySem.W.hasDictIn K C_failed = true)
    (poC_failed : PySem.W.plainOver K C_failed = true)
    (saC_failed : PySem.W.findIn K (.ref C_failed) "__setattr__" = some (some (.builtin "object.__setattr__")))
    (mkC_failed : PySem.W.makesIn K C_failed = true)
    (kcC_failed : PySem.W.keepIn K (.ref C_failed) = true)
    (nC_failed__told : PySem.W.findIn K (.ref C_failed) "_told" = some none)
    (nC_failed_kind : PySem.W.findIn K (.ref C_failed) "kind" = some none)
    (nC_failed_tool : PySem.W.findIn K (.ref C_failed) "tool" = some none)
    (nC_failed_moment : PySem.W.findIn K (.ref C_failed) "moment" = some none)
    (nC_failed_by : PySem.W.findIn K (.ref C_failed) "by" = some none)
    (afailed : PySem.W.findIn K (.ref C_failed) "__init__" = some (some (.ref ffailed)))
    (ifailed : PySem.W.isFn K (.ref ffailed) = true)
    (lfailed : K.lookup ffailed = some ⟨ocfailed, odfailed, .func (PySem.W.fnOf "__init__" "Failed.__init__" (defArgs sFailed) (defBody sFailed) (defScope sFailed) .none kVfailed dcfailed pmfailed anfailed cdfailed ctfailed), slfailed⟩)
    (cfailed : PySem.W.codeIn K cdfailed "Failed.__init__" = true)
    (kfailed : PySem.W.keepIn K (.ref ffailed) = true)
    (thaC_failed : PySem.W.findIn K (.ref C_failed) "__class__" = some (some (.builtin "object.__class__")))
    (thmC_failed : PySem.W.mroIn K C_failed (.type "object") = some true)
    (areqC_failed : PySem.W.findIn K (.ref C_failed) "__eq__" = some (some (.ref freq)))
    (arstrC_failed : PySem.W.findIn K (.ref C_failed) "__str__" = some (some (.ref frstr)))
    (sRC_failed : PySem.W.subIn K (.ref C_failed) (.ref CR) = some true)
    (aC_agreed : PySem.W.nsIn K mainGlobals "Agreed" = some (some (.ref C_agreed)))
    (pgC_agreed : PySem.W.plainGet K C_agreed Str.empty = true)
    (hdC_agreed : PySem.W.hasDictIn K C_agreed = true)
    (poC_agreed : PySem.W.plainOver K C_agreed = true)
    (saC_agreed : PySem.W.findIn K (.ref C_agreed) "__setattr__" = some (some (.builtin "object.__setattr__")))
    (mkC_agreed : PySem.W.makesIn K C_agreed = true)
    (kcC_agreed : PySem.W.keepIn K (.ref C_agreed) = true)
    (nC_agreed__told : PySem.W.findIn K (.ref C_agreed) "_told" = some none)
    (nC_agreed_kind : PySem.W.findIn K (.ref C_agreed) "kind" = some none)
    (nC_agreed_one : PySem.W.findIn K (.ref C_agreed) "one" = some none)
    (nC_agreed_moment : PySem.W.findIn K (.ref C_agreed) "moment" = some none)
    (nC_agreed_other : PySem.W.findIn K (.ref C_agreed) "other" = some none)
    (nC_agreed_later : PySem.W.findIn K (.ref C_agreed) "later" = some none)
    (aagreed : PySem.W.findIn K (.ref C_agreed) "__init__" = some (some (.ref fagreed)))
    (iagreed : PySem.W.isFn K (.ref fagreed) = true)
    (lagreed : K.lookup fagreed = some ⟨ocagreed, odagreed, .func (PySem.W.ksFn "__init__" "Agreed.__init__" (defArgs sAgreed) (defBody sAgreed) (defScope sAgreed) .none kVagreed dcagreed pmagreed anagreed (.ref cdaagreed) ctagreed ccagreed), slagreed⟩)
    (cagreed : PySem.W.codeIn K (.ref cdaagreed) "Agreed.__init__" = true)
    (kagreed : PySem.W.keepIn K (.ref fagreed) = true)
    (eagreed : K.lookup ccagreed = some ⟨clagreed, cldagreed, .cell (some (.ref C_agreed)), cslagreed⟩)
    (dagreed : K.lookup cdaagreed = some ⟨cclagreed, cddagreed, .fields vsagreed, ccsagreed⟩)
    (vagreed : (vsagreed[2]? : Option Value) = some (.str fileagreed tfagreed))
    (wagreed : ((l.prog.main.file : Str) == fileagreed) = true)
    (yagreed : PySem.W.mroIn K C_agreed (.ref C_agreed) = some true)
    (zagreed : PySem.W.clsIn K C_agreed = some cd_agreed)
    (xagreed : PySem.W.ks_superIn K C_agreed C_agreed "__init__" = some (some (.ref fmeet)))
    (lmeet : K.lookup fmeet = some ⟨ocmeet, odmeet, .func (PySem.W.fnOf "__init__" "Meeting.__init__" (defArgs sMeeting) (defBody sMeeting) (defScope sMeeting) .none kVmeet dcmeet pmmeet anmeet cdmeet ctmeet), slmeet⟩)
    (cmeet : PySem.W.codeIn K cdmeet "Meeting.__init__" = true)
    (kmeet : PySem.W.keepIn K (.ref fmeet) = true)
    (tmeet : PySem.W.typeIn K (.ref fmeet) = some (.type "function"))
    (fnmeet : PySem.W.fnIn K fmeet = true)
    (thaC_agreed : PySem.W.findIn K (.ref C_agreed) "__class__" = some (some (.builtin "object.__class__")))
    (thmC_agreed : PySem.W.mroIn K C_agreed (.type "object") = some true)
    (areqC_agreed : PySem.W.findIn K (.ref C_agreed) "__eq__" = some (some (.ref freq)))
    (arstrC_agreed : PySem.W.findIn K (.ref C_agreed) "__str__" = some (some (.ref frstr)))
    (sRC_agreed : PySem.W.subIn K (.ref C_agreed) (.ref CR) = some true)
    (aC_differed : PySem.W.nsIn K mainGlobals "Differed" = some (some (.ref C_differed)))
    (pgC_differed : PySem.W.plainGet K C_differed Str.empty = true)
    (hdC_differed : PySem.W.hasDictIn K C_differed = true)
    (poC_differed : PySem.W.plainOver K C_differed = true)
    (saC_differed : PySem.W.findIn K (.ref C_differed) "__setattr__" = some (some (.builtin "object.__setattr__")))
    (mkC_differed : PySem.W.makesIn K C_differed = true)
    (kcC_differed : PySem.W.keepIn K (.ref C_differed) = true)
    (nC_differed__told : PySem.W.findIn K (.ref C_differed) "_told" = some none)
    (nC_differed_kind : PySem.W.findIn K (.ref C_differed) "kind" = some none)
    (nC_differed_one : PySem.W.findIn K (.ref C_differed) "one" = some none)
    (nC_differed_moment : PySem.W.findIn K (.ref C_differed) "moment" = some none)
    (nC_differed_other : PySem.W.findIn K (.ref C_differed) "other" = some none)
    (nC_differed_later : PySem.W.findIn K (.ref C_differed) "later" = some none)
    (adiffered : PySem.W.findIn K (.ref C_differed) "__init__" = some (some (.ref fdiffered)))
    (idiffered : PySem.W.isFn K (.ref fdiffered) = true)
    (ldiffered : K.lookup fdiffered = some ⟨ocdiffered, oddiffered, .func (PySem.W.ksFn "__init__" "Differed.__init__" (defArgs sDiffered) (defBody sDiffered) (defScope sDiffered) .none kVdiffered dcdiffered pmdiffered andiffered (.ref cdadiffered) ctdiffered ccdiffered), sldiffered⟩)
    (cdiffered : PySem.W.codeIn K (.ref cdadiffered) "Differed.__init__" = true)
    (kdiffered : PySem.W.keepIn K (.ref fdiffered) = true)
    (ediffered : K.lookup ccdiffered = some ⟨cldiffered, clddiffered, .cell (some (.ref C_differed)), csldiffered⟩)
    (ddiffered : K.lookup cdadiffered = some ⟨ccldiffered, cdddiffered, .fields vsdiffered, ccsdiffered⟩)
    (vdiffered : (vsdiffered[2]? : Option Value) = some (.str filediffered tfdiffered))
    (wdiffered : ((l.prog.main.file : Str) == filediffered) = true)
    (ydiffered : PySem.W.mroIn K C_differed (.ref C_differed) = some true)
    (zdiffered : PySem.W.clsIn K C_differed = some cd_differed)
    (xdiffered : PySem.W.ks_superIn K C_differed C_differed "__init__" = some (some (.ref fmeet)))
    (thaC_differed : PySem.W.findIn K (.ref C_differed) "__class__" = some (some (.builtin "object.__class__")))
    (thmC_differed : PySem.W.mroIn K C_differed (.type "object") = some true)
    (areqC_differed : PySem.W.findIn K (.ref C_differed) "__eq__" = some (some (.ref freq)))
    (arstrC_differed : PySem.W.findIn K (.ref C_differed) "__str__" = some (some (.ref frstr)))
    (sRC_differed : PySem.W.subIn K (.ref C_differed) (.ref CR) = some true)
    (aC_served : PySem.W.nsIn K mainGlobals "Served" = some (some (.ref C_served)))
    (pgC_served : PySem.W.plainGet K C_served Str.empty = true)
    (hdC_served : PySem.W.hasDictIn K C_served = true)
    (poC_served : PySem.W.plainOver K C_served = true)
    (saC_served : PySem.W.findIn K (.ref C_served) "__setattr__" = some (some (.builtin "object.__setattr__")))
    (mkC_served : PySem.W.makesIn K C_served = true)
    (kcC_served : PySem.W.keepIn K (.ref C_served) = true)
    (nC_served__told : PySem.W.findIn K (.ref C_served) "_told" = some none)
    (nC_served_kind : PySem.W.findIn K (.ref C_served) "kind" = some none)
    (nC_served_one : PySem.W.findIn K (.ref C_served) "one" = some none)
    (nC_served_moment : PySem.W.findIn K (.ref C_served) "moment" = some none)
    (nC_served_other : PySem.W.findIn K (.ref C_served) "other" = some none)
    (nC_served_later : PySem.W.findIn K (.ref C_served) "later" = some none)
    (aserved : PySem.W.findIn K (.ref C_served) "__init__" = some (some (.ref fserved)))
    (iserved : PySem.W.isFn K (.ref fserved) = true)
    (lserved : K.lookup fserved = some ⟨ocserved, odserved, .func (PySem.W.ksFn "__init__" "Served.__init__" (defArgs sServed) (defBody sServed) (defScope sServed) .none kVserved dcserved pmserved anserved (.ref cdaserved) ctserved ccserved), slserved⟩)
    (cserved : PySem.W.codeIn K (.ref cdaserved) "Served.__init__" = true)
    (kserved : PySem.W.keepIn K (.ref fserved) = true)
    (eserved : K.lookup ccserved = some ⟨clserved, cldserved, .cell (some (.ref C_served)), cslserved⟩)
    (dserved : K.lookup cdaserved = some ⟨cclserved, cddserved, .fields vsserved, ccsserved⟩)
    (vserved : (vsserved[2]? : Option Value) = some (.str fileserved tfserved))
    (wserved : ((l.prog.main.file : Str) == fileserved) = true)
    (yserved : PySem.W.mroIn K C_served (.ref C_served) = some true)
    (zserved : PySem.W.clsIn K C_served = some cd_served)
    (xserved : PySem.W.ks_superIn K C_served C_served "__init__" = some (some (.ref fmeet)))
    (thaC_served : PySem.W.findIn K (.ref C_served) "__class__" = some (some (.builtin "object.__class__")))
    (thmC_served : PySem.W.mroIn K C_served (.type "object") = some true)
    (areqC_served : PySem.W.findIn K (.ref C_served) "__eq__" = some (some (.ref freq)))
    (arstrC_served : PySem.W.findIn K (.ref C_served) "__str__" = some (some (.ref frstr)))
    (sRC_served : PySem.W.subIn K (.ref C_served) (.ref CR) = some true)
    (aC_backed : PySem.W.nsIn K mainGlobals "Backed" = some (some (.ref C_backed)))
    (pgC_backed : PySem.W.plainGet K C_backed Str.empty = true)
    (hdC_backed : PySem.W.hasDictIn K C_backed = true)
    (poC_backed : PySem.W.plainOver K C_backed = true)
    (saC_backed : PySem.W.findIn K (.ref C_backed) "__setattr__" = some (some (.builtin "object.__setattr__")))
    (mkC_backed : PySem.W.makesIn K C_backed = true)
    (kcC_backed : PySem.W.keepIn K (.ref C_backed) = true)
    (nC_backed__told : PySem.W.findIn K (.ref C_backed) "_told" = some none)
    (nC_backed_kind : PySem.W.findIn K (.ref C_backed) "kind" = some none)
    (nC_backed_one : PySem.W.findIn K (.ref C_backed) "one" = some none)
    (nC_backed_moment : PySem.W.findIn K (.ref C_backed) "moment" = some none)
    (nC_backed_other : PySem.W.findIn K (.ref C_backed) "other" = some none)
    (nC_backed_later : PySem.W.findIn K (.ref C_backed) "later" = some none)
    (abacked : PySem.W.findIn K (.ref C_backed) "__init__" = some (some (.ref fbacked)))
    (ibacked : PySem.W.isFn K (.ref fbacked) = true)
    (lbacked : K.lookup fbacked = some ⟨ocbacked, odbacked, .func (PySem.W.ksFn "__init__" "Backed.__init__" (defArgs sBacked) (defBody sBacked) (defScope sBacked) .none kVbacked dcbacked pmbacked anbacked (.ref cdabacked) ctbacked ccbacked), slbacked⟩)
    (cbacked : PySem.W.codeIn K (.ref cdabacked) "Backed.__init__" = true)
    (kbacked : PySem.W.keepIn K (.ref fbacked) = true)
    (ebacked : K.lookup ccbacked = some ⟨clbacked, cldbacked, .cell (some (.ref C_backed)), cslbacked⟩)
    (dbacked : K.lookup cdabacked = some ⟨cclbacked, cddbacked, .fields vsbacked, ccsbacked⟩)
    (vbacked : (vsbacked[2]? : Option Value) = some (.str filebacked tfbacked))
    (wbacked : ((l.prog.main.file : Str) == filebacked) = true)
    (ybacked : PySem.W.mroIn K C_backed (.ref C_backed) = some true)
    (zbacked : PySem.W.clsIn K C_backed = some cd_backed)
    (xbacked : PySem.W.ks_superIn K C_backed C_backed "__init__" = some (some (.ref fmeet)))
    (thaC_backed : PySem.W.findIn K (.ref C_backed) "__class__" = some (some (.builtin "object.__class__")))
    (thmC_backed : PySem.W.mroIn K C_backed (.type "object") = some true)
    (areqC_backed : PySem.W.findIn K (.ref C_backed) "__eq__" = some (some (.ref freq)))
    (arstrC_backed : PySem.W.findIn K (.ref C_backed) "__str__" = some (some (.ref frstr)))
    (sRC_backed : PySem.W.subIn K (.ref C_backed) (.ref CR) = some true)
    (kStr : PySem.W.subIn K (.ref C_trusted) (.type "str") = some false)
    (gLN : PySem.W.nsIn K mainGlobals "LONGEST_NUMBER" = some (some (.int 31 tLN)))
    (opq : PySem.W.nsIn K PySem.cStatics "thirdparty.any" = some none)
    (tops : (l.prog.main.scope.names.lookup ("super" : Str)).isSome = false)
    (gG : PySem.W.nsIn K mainGlobals "GREATEST" = some (some (.int 1000000000000000000000000000000 tG)))
    (gL : PySem.W.nsIn K mainGlobals "LONGEST_NAME" = some (some (.int 8 tL)))
    (gA : PySem.W.nsIn K mainGlobals "LETTERS" = some (some (.str letters tA)))
    (gD : PySem.W.nsIn K mainGlobals "DIGITS" = some (some (.str digits tD)))
    (gN : PySem.W.nsIn K mainGlobals "NO_NAMES" = some (some (.ref aNo)))
    (lN : K.lookup aNo = some ⟨.type "tuple", odN, .seq itsN nN, slN⟩)
    (vN : itsN.toList.map strOf? = noNames.map some)
    (gF : PySem.W.nsIn K mainGlobals "FORMS" = some (some (.ref aF)))
    (lF : K.lookup aF = some ⟨.type "dict", none, .dict esF nF, #[]⟩)
    (klF : PySem.W.KeysLit w.params esF.toList)
    (gtbegun : PySem.W.nsIn K aF "begun" = some (some (.ref t_begun)))
    (ltbegun : K.lookup t_begun = some ⟨.type "tuple", odtbegun, .seq itsbegun ntbegun, sltbegun⟩)
    (vtbegun : itsbegun.toList.map strOf? = (formsOf "begun").map some)
    (gtsetby : PySem.W.nsIn K aF "setby" = some (some (.ref t_setby)))
    (ltsetby : K.lookup t_setby = some ⟨.type "tuple", odtsetby, .seq itssetby ntsetby, sltsetby⟩)
    (vtsetby : itssetby.toList.map strOf? = (formsOf "setby").map some)
    (gtfound : PySem.W.nsIn K aF "found" = some (some (.ref t_found)))
    (ltfound : K.lookup t_found = some ⟨.type "tuple", odtfound, .seq itsfound ntfound, sltfound⟩)
    (vtfound : itsfound.toList.map strOf? = (formsOf "found").map some)
    (gttrusted : PySem.W.nsIn K aF "trusted" = some (some (.ref t_trusted)))
    (lttrusted : K.lookup t_trusted = some ⟨.type "tuple", odttrusted, .seq itstrusted nttrusted, slttrusted⟩)
    (vttrusted : itstrusted.toList.map strOf? = (formsOf "trusted").map some)
    (gtpassed : PySem.W.nsIn K aF "passed" = some (some (.ref t_passed)))
    (ltpassed : K.lookup t_passed = some ⟨.type "tuple", odtpassed, .seq itspassed ntpassed, sltpassed⟩)
    (vtpassed : itspassed.toList.map strOf? = (formsOf "passed").map some)
    (gtfailed : PySem.W.nsIn K aF "failed" = some (some (.ref t_failed)))
    (ltfailed : K.lookup t_failed = some ⟨.type "tuple", odtfailed, .seq itsfailed ntfailed, sltfailed⟩)
    (vtfailed : itsfailed.toList.map strOf? = (formsOf "failed").map some)
    (gtagreed : PySem.W.nsIn K aF "agreed" = some (some (.ref t_agreed)))
    (ltagreed : K.lookup t_agreed = some ⟨.type "tuple", odtagreed, .seq itsagreed ntagreed, sltagreed⟩)
    (vtagreed : itsagreed.toList.map strOf? = (formsOf "agreed").map some)
    (gtdiffered : PySem.W.nsIn K aF "differed" = some (some (.ref t_differed)))
    (ltdiffered : K.lookup t_differed = some ⟨.type "tuple", odtdiffered, .seq itsdiffered ntdiffered, sltdiffered⟩)
    (vtdiffered : itsdiffered.toList.map strOf? = (formsOf "differed").map some)
    (gtserved : PySem.W.nsIn K aF "served" = some (some (.ref t_served)))
    (ltserved : K.lookup t_served = some ⟨.type "tuple", odtserved, .seq itsserved ntserved, sltserved⟩)
    (vtserved : itsserved.toList.map strOf? = (formsOf "served").map some)
    (gtbacked : PySem.W.nsIn K aF "backed" = some (some (.ref t_backed)))
    (ltbacked : K.lookup t_backed = some ⟨.type "tuple", odtbacked, .seq itsbacked ntbacked, sltbacked⟩)
    (vtbacked : itsbacked.toList.map strOf? = (formsOf "backed").map some)
    (b_isinstance : PySem.W.nsIn K mainGlobals "isinstance" = some none)
    (b_int : PySem.W.nsIn K mainGlobals "int" = some none)
    (b_bool : PySem.W.nsIn K mainGlobals "bool" = some none)
    (b_str : PySem.W.nsIn K mainGlobals "str" = some none)
    (b_len : PySem.W.nsIn K mainGlobals "len" = some none)
    (b_all : PySem.W.nsIn K mainGlobals "all" = some none)
    (b_list : PySem.W.nsIn K mainGlobals "list" = some none)
    (b_tuple : PySem.W.nsIn K mainGlobals "tuple" = some none)
    (b_abs : PySem.W.nsIn K mainGlobals "abs" = some none)
    (b_repr : PySem.W.nsIn K mainGlobals "repr" = some none)
    (b_zip : PySem.W.nsIn K mainGlobals "zip" = some none)
    (b_ValueError : PySem.W.nsIn K mainGlobals "ValueError" = some none)
    (b_super : PySem.W.nsIn K mainGlobals "super" = some none)
    (b_enumerate : PySem.W.nsIn K mainGlobals "enumerate" = some none)
    (b_range : PySem.W.nsIn K mainGlobals "range" = some none)
    (aT : PySem.W.nsIn K mainGlobals "TillError" = some (some (.ref CT)))
    (iT : PySem.W.isClsIn K CT = true)
    (tT : PySem.W.typeIn K (.ref CT) = some (.type "type"))
    (eT : PySem.W.subIn K (.ref CT) (.type "BaseException") = some true)
    (sT : PySem.W.subIn K (.ref CT) (.ref CT) = some true)
    (aN : PySem.W.nsIn K mainGlobals "BadName" = some (some (.ref CN)))
    (xN : K.lookup CN = some (excClassObj nmN qN CN NN bsN [.ref CT, .type "ValueError", .type "Exception", .type "BaseException", .type "object"] true snN subN abN colN ddN m0N m1N m2N m3N m5N "ValueError.__new__"))
    (seN : PySem.W.findIn K (.ref CN) "__setattr__" = some (some (.builtin "object.__setattr__")))
    (geN : PySem.W.findIn K (.ref CN) "__getattribute__" = some (some (.builtin "BaseException.__getattribute__")))
    (heN : PySem.W.findIn K (.ref CN) "__getattr__" = some none)
    (neN : PySem.W.findIn K (.ref CN) "name" = some none)
    (aeN : PySem.W.findIn K (.ref CN) "__init__" = some (some (.ref feN)))
    (teN : PySem.W.typeIn K (.ref feN) = some (.type "function"))
    (leN : K.lookup feN = some ⟨oceN, odeN, .func (PySem.W.fnOf "__init__" "BadName.__init__" (defArgs sEN) (defBody sEN) (defScope sEN) .none kVeN dceN pmeN aneN cdeN cteN), sleN⟩)
    (ceN : PySem.W.codeIn K cdeN "BadName.__init__" = true)
    (keN : PySem.W.keepIn K (.ref feN) = true)
    (kkeN : PySem.W.keepIn K (.ref CN) = true)
    (exeN : PySem.W.subIn K (.ref CN) (.type "BaseException") = some true)
    (tyeN : PySem.W.typeIn K (.ref CN) = some (.type "type"))
    (hdeN : PySem.W.hasDictIn K CN = true)
    (iceN : PySem.W.isClsIn K CN = true)
    (veeN : PySem.W.subIn K (.ref CN) (.type "ValueError") = some true)
    (uteN : PySem.W.subIn K (.ref CN) (.ref CT) = some true)
    (caeN : PySem.W.findIn K (.ref CN) "__class__" = some (some (.builtin "object.__class__")))
    (cmeN : PySem.W.mroIn K CN (.type "object") = some true)
    (aM : PySem.W.nsIn K mainGlobals "BadMoment" = some (some (.ref CM)))
    (xM : K.lookup CM = some (excClassObj nmM qM CM NM bsM [.ref CT, .type "ValueError", .type "Exception", .type "BaseException", .type "object"] true snM subM abM colM ddM m0M m1M m2M m3M m5M "ValueError.__new__"))
    (seM : PySem.W.findIn K (.ref CM) "__setattr__" = some (some (.builtin "object.__setattr__")))
    (geM : PySem.W.findIn K (.ref CM) "__getattribute__" = some (some (.builtin "BaseException.__getattribute__")))
    (heM : PySem.W.findIn K (.ref CM) "__getattr__" = some none)
    (neM : PySem.W.findIn K (.ref CM) "moment" = some none)
    (aeM : PySem.W.findIn K (.ref CM) "__init__" = some (some (.ref feM)))
    (teM : PySem.W.typeIn K (.ref feM) = some (.type "function"))
    (leM : K.lookup feM = some ⟨oceM, odeM, .func (PySem.W.fnOf "__init__" "BadMoment.__init__" (defArgs sEM) (defBody sEM) (defScope sEM) .none kVeM dceM pmeM aneM cdeM cteM), sleM⟩)
    (ceM : PySem.W.codeIn K cdeM "BadMoment.__init__" = true)
    (keM : PySem.W.keepIn K (.ref feM) = true)
    (kkeM : PySem.W.keepIn K (.ref CM) = true)
    (exeM : PySem.W.subIn K (.ref CM) (.type "BaseException") = some true)
    (tyeM : PySem.W.typeIn K (.ref CM) = some (.type "type"))
    (hdeM : PySem.W.hasDictIn K CM = true)
    (iceM : PySem.W.isClsIn K CM = true)
    (veeM : PySem.W.subIn K (.ref CM) (.type "ValueError") = some true)
    (uteM : PySem.W.subIn K (.ref CM) (.ref CT) = some true)
    (caeM : PySem.W.findIn K (.ref CM) "__class__" = some (some (.builtin "object.__class__")))
    (cmeM : PySem.W.mroIn K CM (.type "object") = some true)
    (aS : PySem.W.nsIn K mainGlobals "BadSaying" = some (some (.ref CS)))
    (xS : K.lookup CS = some (excClassObj nmS qS CS NS bsS [.ref CT, .type "ValueError", .type "Exception", .type "BaseException", .type "object"] true snS subS abS colS ddS m0S m1S m2S m3S m5S "ValueError.__new__"))
    (seS : PySem.W.findIn K (.ref CS) "__setattr__" = some (some (.builtin "object.__setattr__")))
    (geS : PySem.W.findIn K (.ref CS) "__getattribute__" = some (some (.builtin "BaseException.__getattribute__")))
    (heS : PySem.W.findIn K (.ref CS) "__getattr__" = some none)
    (neS : PySem.W.findIn K (.ref CS) "value" = some none)
    (aeS : PySem.W.findIn K (.ref CS) "__init__" = some (some (.ref feS)))
    (teS : PySem.W.typeIn K (.ref feS) = some (.type "function"))
    (leS : K.lookup feS = some ⟨oceS, odeS, .func (PySem.W.fnOf "__init__" "BadSaying.__init__" (defArgs sES) (defBody sES) (defScope sES) .none kVeS dceS pmeS aneS cdeS cteS), sleS⟩)
    (ceS : PySem.W.codeIn K cdeS "BadSaying.__init__" = true)
    (keS : PySem.W.keepIn K (.ref feS) = true)
    (kkeS : PySem.W.keepIn K (.ref CS) = true)
    (exeS : PySem.W.subIn K (.ref CS) (.type "BaseException") = some true)
    (tyeS : PySem.W.typeIn K (.ref CS) = some (.type "type"))
    (hdeS : PySem.W.hasDictIn K CS = true)
    (iceS : PySem.W.isClsIn K CS = true)
    (veeS : PySem.W.subIn K (.ref CS) (.type "ValueError") = some true)
    (uteS : PySem.W.subIn K (.ref CS) (.ref CT) = some true)
    (caeS : PySem.W.findIn K (.ref CS) "__class__" = some (some (.builtin "object.__class__")))
    (cmeS : PySem.W.mroIn K CS (.type "object") = some true)
    (aB : PySem.W.nsIn K mainGlobals "BadText" = some (some (.ref CB)))
    (xB : K.lookup CB = some (excClassObj nmB qB CB NB bsB [.ref CT, .type "ValueError", .type "Exception", .type "BaseException", .type "object"] true snB subB abB colB ddB m0B m1B m2B m3B m5B "ValueError.__new__"))
    (seB : PySem.W.findIn K (.ref CB) "__setattr__" = some (some (.builtin "object.__setattr__")))
    (geB : PySem.W.findIn K (.ref CB) "__getattribute__" = some (some (.builtin "BaseException.__getattribute__")))
    (heB : PySem.W.findIn K (.ref CB) "__getattr__" = some none)
    (neB : PySem.W.findIn K (.ref CB) "line" = some none)
    (oeB : PySem.W.findIn K (.ref CB) "word" = some none)
    (aeB : PySem.W.findIn K (.ref CB) "__init__" = some (some (.ref feB)))
    (teB : PySem.W.typeIn K (.ref feB) = some (.type "function"))
    (leB : K.lookup feB = some ⟨oceB, odeB, .func (PySem.W.fnOf "__init__" "BadText.__init__" (defArgs sEB) (defBody sEB) (defScope sEB) .none kVeB dceB pmeB aneB cdeB cteB), sleB⟩)
    (ceB : PySem.W.codeIn K cdeB "BadText.__init__" = true)
    (keB : PySem.W.keepIn K (.ref feB) = true)
    (kkeB : PySem.W.keepIn K (.ref CB) = true)
    (exeB : PySem.W.subIn K (.ref CB) (.type "BaseException") = some true)
    (tyeB : PySem.W.typeIn K (.ref CB) = some (.type "type"))
    (hdeB : PySem.W.hasDictIn K CB = true)
    (iceB : PySem.W.isClsIn K CB = true)
    (veeB : PySem.W.subIn K (.ref CB) (.type "ValueError") = some true)
    (uteB : PySem.W.subIn K (.ref CB) (.ref CT) = some true)
    (caeB : PySem.W.findIn K (.ref CB) "__class__" = some (some (.builtin "object.__class__")))
    (cmeB : PySem.W.mroIn K CB (.type "object") = some true)
    (uNN : PySem.W.subIn K (.ref CN) (.ref CN) = some true)
    (uMM : PySem.W.subIn K (.ref CM) (.ref CM) = some true)
    (uBN : PySem.W.subIn K (.ref CB) (.ref CN) = some false)
    (uBM : PySem.W.subIn K (.ref CB) (.ref CM) = some false)
    (lcright : K.lookup c_right = some ⟨occright, odcright, .fields vsright, slcright⟩)
    (vcright : (vsright[11]? : Option Value) = some (.ref P_right))
    (nTright : K.lookup P_right = none)
    (lclaw : K.lookup c_law = some ⟨occlaw, odclaw, .fields vslaw, slclaw⟩)
    (vclaw : (vslaw[11]? : Option Value) = some (.ref P_law))
    (nTlaw : K.lookup P_law = none)
    (nePP : P_law ≠ P_right)
    : ∃ (fd : FuncData) (c1 P1 c2 P2 : Addr), PySem.W.tabIn K "_law_right" = some (c1, P1) ∧ K.lookup P1 = none ∧ PySem.W.tabIn K "law" = some (c2, P2) ∧ K.lookup P2 = none ∧ (∀ (s : Shared) (v : Value), BindsTo s fd ⟨[v], []⟩ [("_law_script", v)]) ∧
      ∀ base : Heap, K.In base → base.Ns mainGlobals mg → (∀ q ∈ [(c1, P1), (c2, P2)], TabB base mg q.1 q.2) → FnG l.prog w K mg base CX0 15 fa fd ["_law_script"] (spLaw K (T2 P1 P2)) := by
  have e := hfa.symm.trans (PySem.W.mg_of X G alaw)
  cases e
  have g1 := fun {n : Str} {v : Value} (e : PySem.W.nsIn K mainGlobals n = some (some v)) => PySem.W.mg_of X G e
  have g0 := fun {n : Str} (e : PySem.W.nsIn K mainGlobals n = some none) => PySem.W.mg_none_of X G e
  have F_pen := fun_mk (st := sPen) lpen cpen kpen
  have F_draw := fun_mk (st := sDraw) ldraw cdraw kdraw
  have F_pick := fun_mk (st := sPick) lpick cpick kpick
  have F_words := fun_mk (st := sWords) lwords cwords kwords
  have F_lname := fun_mk (st := sLName) llname clname klname
  have F_tick := fun_mk (st := sTick) ltick ctick ktick
  have F_lkinds := fun_mk (st := sKinds) llkinds clkinds klkinds
  have F_drawn := fun_mk (st := sDrawn) ldrawn cdrawn kdrawn
  have F_ltext := fun_mk (st := sText) lltext cltext kltext
  have F_lmade := fun_mk (st := sMade) llmade clmade klmade
  have F_heard := fun_mk (st := sHeard) lheard cheard kheard
  have F_lis := fun_mk (st := sLIs) llis clis klis
  have F_ltk := fun_mk (st := sTk) lltk cltk kltk
  have F_due := fun_mk (st := sDue) ldue cdue kdue
  have F_bent := fun_mk (st := sBent) lbent cbent kbent
  have F_right := fun_mk (st := sRight) lright cright kright
  have F_law := fun_mk (st := sLaw) llaw claw klaw
  have F_whole := fun_mk (st := sWhole) lwhole cwhole kwhole
  have F_moment := fun_mk (st := sMoment) lmoment cmoment kmoment
  have F_isname := fun_mk (st := sName) lisname cisname kisname
  have F_check := fun_mk (st := sCheck) lcheck ccheck kcheck
  have F_checked := fun_mk (st := sChecked) lchecked cchecked kchecked
  have F_wordof := fun_mk (st := sWordOf) lwordof cwordof kwordof
  have F_madeRow := fun_mk (st := sMadeRow) lmadeRow cmadeRow kmadeRow
  have F_number := fun_mk (st := sNumber) lnumber cnumber knumber
  have F_hasf := fun_mk (st := sHasForm) lhasf chasf khasf
  have F_wordsof := fun_mk (st := sWordsOf) lwordsof cwordsof kwordsof
  have F_first := fun_mk (st := sFirst) lfirst cfirst kfirst
  have F_told := fun_mk (st := sTold) ltold ctold ktold
  have F_valof := fun_mk (st := sValueOf) lvalof cvalof kvalof
  have F_rdrow := fun_mk (st := sReadRow) lrdrow crdrow krdrow
  have F_read := fun_mk (st := sRowRead) lread cread kread
  have F_begun := fun_mk (st := sBegun) lbegun cbegun kbegun
  have F_req := fun_mk (st := sEqR) lreq creq kreq
  have F_rstr := fun_mk (st := sStrR) lrstr crstr krstr
  have F_setby := fun_mk (st := sSetBy) lsetby csetby ksetby
  have F_found := fun_mk (st := sFound) lfound cfound kfound
  have F_trusted := fun_mk (st := sTrusted) ltrusted ctrusted ktrusted
  have F_passed := fun_mk (st := sPassed) lpassed cpassed kpassed
  have F_failed := fun_mk (st := sFailed) lfailed cfailed kfailed
  have F_meet := fun_mk (st := sMeeting) lmeet cmeet kmeet
  have F_eN := fun_mk (st := sEN) leN ceN keN
  have F_eM := fun_mk (st := sEM) leM ceM keM
  have F_eS := fun_mk (st := sES) leS ceS keS
  have F_eB := fun_mk (st := sEB) leB ceB keB
  have b_pen_ := F_pen.binds (ps := ["_law_script"]) fun _ _ _ _ _ _ us hl => match us, hl with | [_], _ => rfl
  have b_draw_ := F_draw.binds (ps := ["_law_pen_here", "_law_many"]) fun _ _ _ _ _ _ us hl => match us, hl with | [_, _], _ => rfl
  have b_pick_ := F_pick.binds (ps := ["_law_pen_here", "_law_some"]) fun _ _ _ _ _ _ us hl => match us, hl with | [_, _], _ => rfl
  have b_words_ := F_words.binds (ps := []) fun _ _ _ _ _ _ us hl => match us, hl with | [], _ => rfl
  have b_lname_ := F_lname.binds (ps := ["_law_pen_here"]) fun _ _ _ _ _ _ us hl => match us, hl with | [_], _ => rfl
  have b_tick_ := F_tick.binds (ps := ["_law_pen_here"]) fun _ _ _ _ _ _ us hl => match us, hl with | [_], _ => rfl
  have b_lkinds_ := F_lkinds.binds (ps := []) fun _ _ _ _ _ _ us hl => match us, hl with | [], _ => rfl
  have b_drawn_ := F_drawn.binds (ps := ["_law_pen_here", "_law_crew", "_law_kinds_here"]) fun _ _ _ _ _ _ us hl => match us, hl with | [_, _, _], _ => rfl
  have b_ltext_ := F_ltext.binds (ps := ["_law_row"]) fun _ _ _ _ _ _ us hl => match us, hl with | [_], _ => rfl
  have b_lmade_ := F_lmade.binds (ps := ["_law_row"]) fun _ _ _ _ _ _ us hl => match us, hl with | [_], _ => rfl
  have b_heard_ := F_heard.binds (ps := ["_law_ask"]) fun _ _ _ _ _ _ us hl => match us, hl with | [_], _ => rfl
  have b_lis_ := F_lis.binds (ps := ["_law_word"]) fun _ _ _ _ _ _ us hl => match us, hl with | [_], _ => rfl
  have b_ltk_ := F_ltk.binds (ps := ["_law_word", "_law_least"]) fun _ _ _ _ _ _ us hl => match us, hl with | [_, _], _ => rfl
  have b_due_ := F_due.binds (ps := ["_law_text_here"]) fun _ _ _ _ _ _ us hl => match us, hl with | [_], _ => rfl
  have b_bent_ := F_bent.binds (ps := ["_law_pen_here", "_law_text_here"]) fun _ _ _ _ _ _ us hl => match us, hl with | [_, _], _ => rfl
  have b_right_ := F_right.binds (ps := ["_law_text_here"]) fun _ _ _ _ _ _ us hl => match us, hl with | [_], _ => rfl
  have b_law_ := F_law.binds (ps := ["_law_script"]) fun _ _ _ _ _ _ us hl => match us, hl with | [_], _ => rfl
  have b_whole_ := F_whole.binds (ps := ["value"]) fun _ _ _ _ _ _ us hl => match us, hl with | [_], _ => rfl
  have b_moment_ := F_moment.binds (ps := ["value"]) fun _ _ _ _ _ _ us hl => match us, hl with | [_], _ => rfl
  have b_isname_ := F_isname.binds (ps := ["value"]) fun _ _ _ _ _ _ us hl => match us, hl with | [_], _ => rfl
  have b_check_ := F_check.binds (ps := ["value", "form"]) fun _ _ _ _ _ _ us hl => match us, hl with | [_, _], _ => rfl
  have b_checked_ := F_checked.binds (ps := ["kind", "told"]) fun _ _ _ _ _ _ us hl => match us, hl with | [_, _], _ => rfl
  have b_wordof_ := F_wordof.binds (ps := ["value"]) fun _ _ _ _ _ _ us hl => match us, hl with | [_], _ => rfl
  have b_madeRow_ := F_madeRow.binds (ps := ["kind", "told"]) fun _ _ _ _ _ _ us hl => match us, hl with | [_, _], _ => rfl
  have b_number_ := F_number.binds (ps := ["word"]) fun _ _ _ _ _ _ us hl => match us, hl with | [_], _ => rfl
  have b_hasf_ := F_hasf.binds (ps := ["word", "form"]) fun _ _ _ _ _ _ us hl => match us, hl with | [_, _], _ => rfl
  have b_wordsof_ := F_wordsof.binds (ps := ["text"]) fun _ _ _ _ _ _ us hl => match us, hl with | [_], _ => rfl
  have b_first_ := F_first.binds (ps := ["words", "forms"]) fun _ _ _ _ _ _ us hl => match us, hl with | [_, _], _ => rfl
  have b_told_ := F_told.binds (ps := ["line", "words", "forms"]) fun _ _ _ _ _ _ us hl => match us, hl with | [_, _, _], _ => rfl
  have b_valof_ := F_valof.binds (ps := ["word", "form"]) fun _ _ _ _ _ _ us hl => match us, hl with | [_, _], _ => rfl
  have b_rdrow_ := F_rdrow.binds (ps := ["line", "words"]) fun _ _ _ _ _ _ us hl => match us, hl with | [_, _], _ => rfl
  have b_read_ := F_read.binds (ps := ["cls", "text"]) fun _ _ _ _ _ _ us hl => match us, hl with | [_, _], _ => rfl
  have b_begun_ := F_begun.binds (ps := ["self", "tool", "moment"]) fun _ _ _ _ _ _ us hl => match us, hl with | [_, _, _], _ => rfl
  have b_req_ := F_req.binds (ps := ["self", "other"]) fun _ _ _ _ _ _ us hl => match us, hl with | [_, _], _ => rfl
  have b_rstr_ := F_rstr.binds (ps := ["self"]) fun _ _ _ _ _ _ us hl => match us, hl with | [_], _ => rfl
  have b_setby_ := F_setby.binds (ps := ["self", "tool", "moment", "by"]) fun _ _ _ _ _ _ us hl => match us, hl with | [_, _, _, _], _ => rfl
  have b_found_ := F_found.binds (ps := ["self", "tool", "moment", "is_sound"]) fun _ _ _ _ _ _ us hl => match us, hl with | [_, _, _, _], _ => rfl
  have b_trusted_ := F_trusted.binds (ps := ["self", "tool"]) fun _ _ _ _ _ _ us hl => match us, hl with | [_, _], _ => rfl
  have b_passed_ := F_passed.binds (ps := ["self", "tool", "moment", "by"]) fun _ _ _ _ _ _ us hl => match us, hl with | [_, _, _, _], _ => rfl
  have b_failed_ := F_failed.binds (ps := ["self", "tool", "moment", "by"]) fun _ _ _ _ _ _ us hl => match us, hl with | [_, _, _, _], _ => rfl
  have b_meet_ := F_meet.binds (ps := ["self", "kind", "one", "moment", "other", "later"]) fun _ _ _ _ _ _ us hl => match us, hl with | [_, _, _, _, _, _], _ => rfl
  have b_eN_ := F_eN.binds (ps := ["self", "name"]) fun _ _ _ _ _ _ us hl => match us, hl with | [_, _], _ => rfl
  have b_eM_ := F_eM.binds (ps := ["self", "moment"]) fun _ _ _ _ _ _ us hl => match us, hl with | [_, _], _ => rfl
  have b_eS_ := F_eS.binds (ps := ["self", "value"]) fun _ _ _ _ _ _ us hl => match us, hl with | [_, _], _ => rfl
  have b_eB_ := F_eB.binds (ps := ["self", "line", "word"]) fun _ _ _ _ _ _ us hl => match us, hl with | [_, _, _], _ => rfl
  have M_read : ClX.CMet K CR (.type "type") "read" pread fread := ⟨atread, ⟨_, rcread⟩, firead⟩
  have L_C_begun : Cls K C_begun := ⟨pgC_begun, hdC_begun, poC_begun, saC_begun⟩
  have L_C_setby : Cls K C_setby := ⟨pgC_setby, hdC_setby, poC_setby, saC_setby⟩
  have L_C_found : Cls K C_found := ⟨pgC_found, hdC_found, poC_found, saC_found⟩
  have L_C_trusted : Cls K C_trusted := ⟨pgC_trusted, hdC_trusted, poC_trusted, saC_trusted⟩
  have L_C_passed : Cls K C_passed := ⟨pgC_passed, hdC_passed, poC_passed, saC_passed⟩
  have L_C_failed : Cls K C_failed := ⟨pgC_failed, hdC_failed, poC_failed, saC_failed⟩
  have L_C_agreed : Cls K C_agreed := ⟨pgC_agreed, hdC_agreed, poC_agreed, saC_agreed⟩
  have L_C_differed : Cls K C_differed := ⟨pgC_differed, hdC_differed, poC_differed, saC_differed⟩
  have L_C_served : Cls K C_served := ⟨pgC_served, hdC_served, poC_served, saC_served⟩
  have L_C_backed : Cls K C_backed := ⟨pgC_backed, hdC_backed, poC_backed, saC_backed⟩
  have RN : Err K CN := ⟨geN, heN, exeN, hdeN, caeN, thn, tht, cmeN⟩
  have ON : OneE K mg "BadName" "name" CN feN _ := ⟨⟨⟨_, _, _, _, _, _, _, _, _, _, _, _, _, _, _, xN, by rfl⟩, seN, exeN, tyeN, kkeN⟩, aeN, teN, g1 aN, neN, RN, b_eN_⟩
  have RM : Err K CM := ⟨geM, heM, exeM, hdeM, caeM, thn, tht, cmeM⟩
  have OM : OneE K mg "BadMoment" "moment" CM feM _ := ⟨⟨⟨_, _, _, _, _, _, _, _, _, _, _, _, _, _, _, xM, by rfl⟩, seM, exeM, tyeM, kkeM⟩, aeM, teM, g1 aM, neM, RM, b_eM_⟩
  have RS : Err K CS := ⟨geS, heS, exeS, hdeS, caeS, thn, tht, cmeS⟩
  have OS : OneE K mg "BadSaying" "value" CS feS _ := ⟨⟨⟨_, _, _, _, _, _, _, _, _, _, _, _, _, _, _, xS, by rfl⟩, seS, exeS, tyeS, kkeS⟩, aeS, teS, g1 aS, neS, RS, b_eS_⟩
  have RB : Err K CB := ⟨geB, heB, exeB, hdeB, caeB, thn, tht, cmeB⟩
  have OB : TwoE K mg "BadText" "line" "word" CB feB _ := ⟨⟨⟨_, _, _, _, _, _, _, _, _, _, _, _, _, _, _, xB, by rfl⟩, seB, exeB, tyeB, kkeB⟩, aeB, teB, g1 aB, neB, oeB, RB, b_eB_⟩
  have W : Words K mg := ⟨⟨_, g1 gG⟩, ⟨_, g1 gL⟩, ⟨_, g1 gA⟩, ⟨_, g1 gD⟩, ⟨aNo, g1 gN, fun H => tab_seq lN vN (by decide) H⟩, g0 b_isinstance, g0 b_int, g0 b_bool, g0 b_str, g0 b_len, g0 b_all⟩
  have TF : Forms K w mg aF := ⟨g1 gF, fun kind hk => by
    unfold kinds at hk
    simp only [List.mem_cons, List.not_mem_nil, or_false] at hk
    rcases hk with h | h | h | h | h | h | h | h | h | h <;> subst h
    · exact ⟨t_begun, ⟨esF, nF, _, lF, klF, gtbegun, rfl⟩, fun H => tab_seq ltbegun vtbegun (by decide +kernel) H⟩
    · exact ⟨t_setby, ⟨esF, nF, _, lF, klF, gtsetby, rfl⟩, fun H => tab_seq ltsetby vtsetby (by decide +kernel) H⟩
    · exact ⟨t_found, ⟨esF, nF, _, lF, klF, gtfound, rfl⟩, fun H => tab_seq ltfound vtfound (by decide +kernel) H⟩
    · exact ⟨t_trusted, ⟨esF, nF, _, lF, klF, gttrusted, rfl⟩, fun H => tab_seq lttrusted vttrusted (by decide +kernel) H⟩
    · exact ⟨t_passed, ⟨esF, nF, _, lF, klF, gtpassed, rfl⟩, fun H => tab_seq ltpassed vtpassed (by decide +kernel) H⟩
    · exact ⟨t_failed, ⟨esF, nF, _, lF, klF, gtfailed, rfl⟩, fun H => tab_seq ltfailed vtfailed (by decide +kernel) H⟩
    · exact ⟨t_agreed, ⟨esF, nF, _, lF, klF, gtagreed, rfl⟩, fun H => tab_seq ltagreed vtagreed (by decide +kernel) H⟩
    · exact ⟨t_differed, ⟨esF, nF, _, lF, klF, gtdiffered, rfl⟩, fun H => tab_seq ltdiffered vtdiffered (by decide +kernel) H⟩
    · exact ⟨t_served, ⟨esF, nF, _, lF, klF, gtserved, rfl⟩, fun H => tab_seq ltserved vtserved (by decide +kernel) H⟩
    · exact ⟨t_backed, ⟨esF, nF, _, lF, klF, gtbacked, rfl⟩, fun H => tab_seq ltbacked vtbacked (by decide +kernel) H⟩, g0 b_zip⟩
  have RR : Errs K mg CN CM CS := ⟨⟨_, _, ON, F_eN⟩, ⟨_, _, OM, F_eM⟩, ⟨_, _, OS, F_eS⟩⟩
  have HR : HrL K mg CT CB CN CM := ⟨g1 aT, g1 aB, g1 aN, g1 aM, g0 b_ValueError, g0 b_isinstance, g0 b_len, exm_own iT tT eT uteB sT, kit_VE veeB, RB, RN, RM, kit_self, kit_own iceN tyeN uBN uNN, kit_own iceM tyeM uBM uMM, neB, oeB, neN, neM⟩
  obtain ⟨e_begun, e_setby, e_found, e_trusted, e_passed, e_failed, e_agreed, e_differed, e_served, e_backed⟩ := cf_all C_begun C_setby C_found C_trusted C_passed C_failed C_agreed C_differed C_served C_backed
  generalize cfOf C_begun C_setby C_found C_trusted C_passed C_failed C_agreed C_differed C_served C_backed = Cf at e_begun e_setby e_found e_trusted e_passed e_failed e_agreed e_differed e_served e_backed
  have TR : RowsC K mg Cf CR := ⟨g1 gR, all10 (by rw [e_begun, attrs_begun]; exact ⟨L_C_begun, by simp only [List.forall_mem_cons]; exact ⟨nC_begun__told, nC_begun_kind, nC_begun_tool, nC_begun_moment, fun _ h => nomatch h⟩⟩) (by rw [e_setby, attrs_setby]; exact ⟨L_C_setby, by simp only [List.forall_mem_cons]; exact ⟨nC_setby__told, nC_setby_kind, nC_setby_tool, nC_setby_moment, nC_setby_by, fun _ h => nomatch h⟩⟩) (by rw [e_found, attrs_found]; exact ⟨L_C_found, by simp only [List.forall_mem_cons]; exact ⟨nC_found__told, nC_found_kind, nC_found_tool, nC_found_moment, nC_found_is_sound, fun _ h => nomatch h⟩⟩) (by rw [e_trusted, attrs_trusted]; exact ⟨L_C_trusted, by simp only [List.forall_mem_cons]; exact ⟨nC_trusted__told, nC_trusted_kind, nC_trusted_tool, fun _ h => nomatch h⟩⟩) (by rw [e_passed, attrs_passed]; exact ⟨L_C_passed, by simp only [List.forall_mem_cons]; exact ⟨nC_passed__told, nC_passed_kind, nC_passed_tool, nC_passed_moment, nC_passed_by, fun _ h => nomatch h⟩⟩) (by rw [e_failed, attrs_failed]; exact ⟨L_C_failed, by simp only [List.forall_mem_cons]; exact ⟨nC_failed__told, nC_failed_kind, nC_failed_tool, nC_failed_moment, nC_failed_by, fun _ h => nomatch h⟩⟩) (by rw [e_agreed, attrs_meet "agreed" (by decide +kernel)]; exact ⟨L_C_agreed, by simp only [List.forall_mem_cons]; exact ⟨nC_agreed__told, nC_agreed_kind, nC_agreed_one, nC_agreed_moment, nC_agreed_other, nC_agreed_later, fun _ h => nomatch h⟩⟩) (by rw [e_differed, attrs_meet "differed" (by decide +kernel)]; exact ⟨L_C_differed, by simp only [List.forall_mem_cons]; exact ⟨nC_differed__told, nC_differed_kind, nC_differed_one, nC_differed_moment, nC_differed_other, nC_differed_later, fun _ h => nomatch h⟩⟩) (by rw [e_served, attrs_meet "served" (by decide +kernel)]; exact ⟨L_C_served, by simp only [List.forall_mem_cons]; exact ⟨nC_served__told, nC_served_kind, nC_served_one, nC_served_moment, nC_served_other, nC_served_later, fun _ h => nomatch h⟩⟩) (by rw [e_backed, attrs_meet "backed" (by decide +kernel)]; exact ⟨L_C_backed, by simp only [List.forall_mem_cons]; exact ⟨nC_backed__told, nC_backed_kind, nC_backed_one, nC_backed_moment, nC_backed_other, nC_backed_later, fun _ h => nomatch h⟩⟩),
    all10 (by rw [e_begun]; exact kit_own icR tyR sRC_begun sbR) (by rw [e_setby]; exact kit_own icR tyR sRC_setby sbR) (by rw [e_found]; exact kit_own icR tyR sRC_found sbR) (by rw [e_trusted]; exact kit_own icR tyR sRC_trusted sbR) (by rw [e_passed]; exact kit_own icR tyR sRC_passed sbR) (by rw [e_failed]; exact kit_own icR tyR sRC_failed sbR) (by rw [e_agreed]; exact kit_own icR tyR sRC_agreed sbR) (by rw [e_differed]; exact kit_own icR tyR sRC_differed sbR) (by rw [e_served]; exact kit_own icR tyR sRC_served sbR) (by rw [e_backed]; exact kit_own icR tyR sRC_backed sbR),
    all10 (by rw [e_begun]; exact thaC_begun) (by rw [e_setby]; exact thaC_setby) (by rw [e_found]; exact thaC_found) (by rw [e_trusted]; exact thaC_trusted) (by rw [e_passed]; exact thaC_passed) (by rw [e_failed]; exact thaC_failed) (by rw [e_agreed]; exact thaC_agreed) (by rw [e_differed]; exact thaC_differed) (by rw [e_served]; exact thaC_served) (by rw [e_backed]; exact thaC_backed), thn, tht, all10 (by rw [e_begun]; exact thmC_begun) (by rw [e_setby]; exact thmC_setby) (by rw [e_found]; exact thmC_found) (by rw [e_trusted]; exact thmC_trusted) (by rw [e_passed]; exact thmC_passed) (by rw [e_failed]; exact thmC_failed) (by rw [e_agreed]; exact thmC_agreed) (by rw [e_differed]; exact thmC_differed) (by rw [e_served]; exact thmC_served) (by rw [e_backed]; exact thmC_backed)⟩
  refine ⟨PySem.W.fnOf "law" "law" (defArgs sLaw) (defBody sLaw) (defScope sLaw) .none kVlaw dclaw pmlaw anlaw (.ref c_law) ctlaw, c_right, P_right, c_law, P_law, tab_by aright lright rfl lcright vcright, nTright, tab_by alaw llaw rfl lclaw vclaw, nTlaw, fun s v => .of_eq rfl, fun base _ _ TB => ?_⟩
  have GD := ok_draw (P := l.prog) (w := w) (base := base) F_draw (g0 b_len) (g0 b_int) (g0 b_abs)
  have GPk := ok_pick (P := l.prog) (w := w) (base := base) F_pick (g0 b_len) F_draw b_draw_ (g1 adraw) GD
  have GPen := ok_pen (P := l.prog) (w := w) (base := base) F_pen (g0 b_list)
  have GW := ok_words (P := l.prog) (w := w) (mg := mg) (base := base) F_words
  have GLn := ok_lname (P := l.prog) (w := w) (base := base) F_lname (g0 b_range) F_pick b_pick_ (g1 apick) GPk F_words b_words_ (g1 awords) GW
  have GTi := ok_tick (P := l.prog) (w := w) (base := base) F_tick F_pick b_pick_ (g1 apick) GPk F_draw b_draw_ (g1 adraw) GD
  have GKi := ok_kinds (P := l.prog) (w := w) (mg := mg) (base := base) F_lkinds
  have GDr := ok_drawn (P := l.prog) (w := w) (base := base) F_drawn (g0 b_int) F_pick b_pick_ (g1 apick) GPk F_draw b_draw_ (g1 adraw) GD F_tick b_tick_ (g1 atick) GTi
  have GTx := ok_text (P := l.prog) (w := w) (base := base) F_ltext (g0 b_str)
  have GLi := ok_lis (P := l.prog) (w := w) (base := base) F_lis (g0 b_len) F_words b_words_ (g1 awords) GW
  have GTk := ok_tk (P := l.prog) (w := w) (base := base) F_ltk (g0 b_len) (g0 b_int)
  have GDu := ok_due (P := l.prog) (w := w) (base := base) F_due (g0 b_len) (g0 b_range) (g0 b_int) F_lkinds b_lkinds_ (g1 alkinds) GKi F_lis b_lis_ (g1 alis) GLi F_ltk b_ltk_ (g1 altk) GTk
  have GBe := ok_bent (P := l.prog) (w := w) (base := base) F_bent (g0 b_len) (g0 b_str) F_draw b_draw_ (g1 adraw) GD F_pick b_pick_ (g1 apick) GPk F_lkinds b_lkinds_ (g1 alkinds) GKi
  have GM := ok_moment (P := l.prog) (w := w) (base := base) F_moment W F_whole b_whole_ (g1 awhole)
  have GNa := ok_name (P := l.prog) (w := w) (base := base) F_isname W
  have GC := ok_check (P := l.prog) (w := w) (base := base) F_check W RR F_moment b_moment_ (g1 amoment) GM F_isname b_isname_ (g1 aisname) GNa
  have GCk := ok_checked (P := l.prog) (w := w) (base := base) F_checked TF F_check b_check_ (g1 acheck) GC
  have GB := ok_two (P := l.prog) (w := w) (mg := mg) (base := base) F_eB OB.T OB.no1 OB.no2 scEB ⟨_, _, _, _, _, _, _, _, rfl⟩ (by decide) (by decide) (by decide) (by decide)
  have GU := ok_number (P := l.prog) (w := w) (base := base) F_number W ⟨_, g1 gLN⟩
  have GHf := ok_hasForm (P := l.prog) (w := w) (base := base) F_hasf F_isname b_isname_ (g1 aisname) GNa F_number b_number_ (g1 anumber) GU
  have GWs := ok_wordsOf (P := l.prog) (w := w) (base := base) F_wordsof W OB GB
  have GFi := ok_first (P := l.prog) (w := w) (base := base) F_first W (g0 b_enumerate) F_hasf b_hasf_ (g1 ahasf) GHf
  have GVo := ok_valueOf (P := l.prog) (w := w) (base := base) F_valof W
  have GTo := ok_told (P := l.prog) (w := w) (base := base) F_told (g0 b_zip) OB GB F_first b_first_ (g1 afirst) GFi F_valof b_valof_ (g1 avalof) GVo
  have G_begun := ok_Begun (P := l.prog) (w := w) (base := base) (C := C_begun) F_begun ⟨L_C_begun, by simp only [List.forall_mem_cons]; exact ⟨nC_begun__told, nC_begun_kind, nC_begun_tool, nC_begun_moment, fun _ h => nomatch h⟩⟩ F_checked b_checked_ (g1 achecked) GCk
  have G_setby := ok_SetBy (P := l.prog) (w := w) (base := base) (C := C_setby) F_setby ⟨L_C_setby, by simp only [List.forall_mem_cons]; exact ⟨nC_setby__told, nC_setby_kind, nC_setby_tool, nC_setby_moment, nC_setby_by, fun _ h => nomatch h⟩⟩ F_checked b_checked_ (g1 achecked) GCk
  have G_found := ok_Found (P := l.prog) (w := w) (base := base) (C := C_found) F_found ⟨L_C_found, by simp only [List.forall_mem_cons]; exact ⟨nC_found__told, nC_found_kind, nC_found_tool, nC_found_moment, nC_found_is_sound, fun _ h => nomatch h⟩⟩ F_checked b_checked_ (g1 achecked) GCk
  have G_trusted := ok_Trusted (P := l.prog) (w := w) (base := base) (C := C_trusted) F_trusted ⟨L_C_trusted, by simp only [List.forall_mem_cons]; exact ⟨nC_trusted__told, nC_trusted_kind, nC_trusted_tool, fun _ h => nomatch h⟩⟩ F_checked b_checked_ (g1 achecked) GCk
  have G_passed := ok_Passed (P := l.prog) (w := w) (base := base) (C := C_passed) F_passed ⟨L_C_passed, by simp only [List.forall_mem_cons]; exact ⟨nC_passed__told, nC_passed_kind, nC_passed_tool, nC_passed_moment, nC_passed_by, fun _ h => nomatch h⟩⟩ F_checked b_checked_ (g1 achecked) GCk
  have G_failed := ok_Failed (P := l.prog) (w := w) (base := base) (C := C_failed) F_failed ⟨L_C_failed, by simp only [List.forall_mem_cons]; exact ⟨nC_failed__told, nC_failed_kind, nC_failed_tool, nC_failed_moment, nC_failed_by, fun _ h => nomatch h⟩⟩ F_checked b_checked_ (g1 achecked) GCk
  have GMe_agreed := ok_Meeting (P := l.prog) (w := w) (base := base) (C := C_agreed) F_meet ⟨L_C_agreed, by simp only [List.forall_mem_cons]; exact ⟨nC_agreed__told, nC_agreed_kind, nC_agreed_one, nC_agreed_moment, nC_agreed_other, nC_agreed_later, fun _ h => nomatch h⟩⟩ F_checked b_checked_ (g1 achecked) GCk
  have SF_agreed : SupFn K l.prog "__init__" "Agreed.__init__" (defArgs sAgreed) (defBody sAgreed) (defScope sAgreed) C_agreed ccagreed fagreed (.ref cdaagreed) _ := ⟨⟨_, _, _, _, _, _, _, _, rfl, lagreed, cagreed⟩, kagreed, ⟨_, _, _, eagreed⟩, ⟨_, _, _, _, _, _, _, rfl, dagreed, vagreed, wagreed⟩, tops, opq, ⟨_, zagreed⟩⟩
  have G_agreed := ok_Agreed (P := l.prog) (w := w) (base := base) (C := C_agreed) SF_agreed (g0 b_super) yagreed ⟨_, zagreed⟩ xagreed tmeet fnmeet b_meet_ GMe_agreed
  have GMe_differed := ok_Meeting (P := l.prog) (w := w) (base := base) (C := C_differed) F_meet ⟨L_C_differed, by simp only [List.forall_mem_cons]; exact ⟨nC_differed__told, nC_differed_kind, nC_differed_one, nC_differed_moment, nC_differed_other, nC_differed_later, fun _ h => nomatch h⟩⟩ F_checked b_checked_ (g1 achecked) GCk
  have SF_differed : SupFn K l.prog "__init__" "Differed.__init__" (defArgs sDiffered) (defBody sDiffered) (defScope sDiffered) C_differed ccdiffered fdiffered (.ref cdadiffered) _ := ⟨⟨_, _, _, _, _, _, _, _, rfl, ldiffered, cdiffered⟩, kdiffered, ⟨_, _, _, ediffered⟩, ⟨_, _, _, _, _, _, _, rfl, ddiffered, vdiffered, wdiffered⟩, tops, opq, ⟨_, zdiffered⟩⟩
  have G_differed := ok_Differed (P := l.prog) (w := w) (base := base) (C := C_differed) SF_differed (g0 b_super) ydiffered ⟨_, zdiffered⟩ xdiffered tmeet fnmeet b_meet_ GMe_differed
  have GMe_served := ok_Meeting (P := l.prog) (w := w) (base := base) (C := C_served) F_meet ⟨L_C_served, by simp only [List.forall_mem_cons]; exact ⟨nC_served__told, nC_served_kind, nC_served_one, nC_served_moment, nC_served_other, nC_served_later, fun _ h => nomatch h⟩⟩ F_checked b_checked_ (g1 achecked) GCk
  have SF_served : SupFn K l.prog "__init__" "Served.__init__" (defArgs sServed) (defBody sServed) (defScope sServed) C_served ccserved fserved (.ref cdaserved) _ := ⟨⟨_, _, _, _, _, _, _, _, rfl, lserved, cserved⟩, kserved, ⟨_, _, _, eserved⟩, ⟨_, _, _, _, _, _, _, rfl, dserved, vserved, wserved⟩, tops, opq, ⟨_, zserved⟩⟩
  have G_served := ok_Served (P := l.prog) (w := w) (base := base) (C := C_served) SF_served (g0 b_super) yserved ⟨_, zserved⟩ xserved tmeet fnmeet b_meet_ GMe_served
  have GMe_backed := ok_Meeting (P := l.prog) (w := w) (base := base) (C := C_backed) F_meet ⟨L_C_backed, by simp only [List.forall_mem_cons]; exact ⟨nC_backed__told, nC_backed_kind, nC_backed_one, nC_backed_moment, nC_backed_other, nC_backed_later, fun _ h => nomatch h⟩⟩ F_checked b_checked_ (g1 achecked) GCk
  have SF_backed : SupFn K l.prog "__init__" "Backed.__init__" (defArgs sBacked) (defBody sBacked) (defScope sBacked) C_backed ccbacked fbacked (.ref cdabacked) _ := ⟨⟨_, _, _, _, _, _, _, _, rfl, lbacked, cbacked⟩, kbacked, ⟨_, _, _, ebacked⟩, ⟨_, _, _, _, _, _, _, rfl, dbacked, vbacked, wbacked⟩, tops, opq, ⟨_, zbacked⟩⟩
  have G_backed := ok_Backed (P := l.prog) (w := w) (base := base) (C := C_backed) SF_backed (g0 b_super) ybacked ⟨_, zbacked⟩ xbacked tmeet fnmeet b_meet_ GMe_backed
  have RW : Rows K l.prog w mg base CN CM CS Cf := {
    begun := ⟨fbegun, _, by rw [e_begun]; exact g1 aC_begun, by rw [e_begun]; exact ⟨mkC_begun, abegun, ibegun, kcC_begun⟩, b_begun_, by rw [e_begun]; exact G_begun.mono (by decide)⟩
    setby := ⟨fsetby, _, by rw [e_setby]; exact g1 aC_setby, by rw [e_setby]; exact ⟨mkC_setby, asetby, isetby, kcC_setby⟩, b_setby_, by rw [e_setby]; exact G_setby.mono (by decide)⟩
    found := ⟨ffound, _, by rw [e_found]; exact g1 aC_found, by rw [e_found]; exact ⟨mkC_found, afound, ifound, kcC_found⟩, b_found_, by rw [e_found]; exact G_found.mono (by decide)⟩
    trusted := ⟨ftrusted, _, by rw [e_trusted]; exact g1 aC_trusted, by rw [e_trusted]; exact ⟨mkC_trusted, atrusted, itrusted, kcC_trusted⟩, b_trusted_, by rw [e_trusted]; exact G_trusted.mono (by decide)⟩
    passed := ⟨fpassed, _, by rw [e_passed]; exact g1 aC_passed, by rw [e_passed]; exact ⟨mkC_passed, apassed, ipassed, kcC_passed⟩, b_passed_, by rw [e_passed]; exact G_passed.mono (by decide)⟩
    failed := ⟨ffailed, _, by rw [e_failed]; exact g1 aC_failed, by rw [e_failed]; exact ⟨mkC_failed, afailed, ifailed, kcC_failed⟩, b_failed_, by rw [e_failed]; exact G_failed.mono (by decide)⟩
    agreed := ⟨fagreed, _, by rw [e_agreed]; exact g1 aC_agreed, by rw [e_agreed]; exact ⟨mkC_agreed, aagreed, iagreed, kcC_agreed⟩, .all (fun us hl => match us, hl with | [_, _, _, _, _], _ => rfl), by rw [e_agreed]; exact G_agreed⟩
    differed := ⟨fdiffered, _, by rw [e_differed]; exact g1 aC_differed, by rw [e_differed]; exact ⟨mkC_differed, adiffered, idiffered, kcC_differed⟩, .all (fun us hl => match us, hl with | [_, _, _, _, _], _ => rfl), by rw [e_differed]; exact G_differed⟩
    served := ⟨fserved, _, by rw [e_served]; exact g1 aC_served, by rw [e_served]; exact ⟨mkC_served, aserved, iserved, kcC_served⟩, .all (fun us hl => match us, hl with | [_, _, _, _, _], _ => rfl), by rw [e_served]; exact G_served⟩
    backed := ⟨fbacked, _, by rw [e_backed]; exact g1 aC_backed, by rw [e_backed]; exact ⟨mkC_backed, abacked, ibacked, kcC_backed⟩, .all (fun us hl => match us, hl with | [_, _, _, _, _], _ => rfl), by rw [e_backed]; exact G_backed⟩ }
  have GMa := ok_made (P := l.prog) (w := w) (base := base) F_lmade RW
  have GMr := ok_madeRow (P := l.prog) (w := w) (base := base) F_madeRow RW
  have GWo := ok_wordOf (P := l.prog) (w := w) (base := base) F_wordof W
  have GStr := ok_strR (P := l.prog) (w := w) (base := base) F_rstr TR F_wordof b_wordof_ (g1 awordof) GWo
  have GEq := ok_eqR (P := l.prog) (w := w) (base := base) F_req W TR
  have RK : RdK K mg CR aK := ⟨g1 gR, ⟨rdCR, gaCR⟩, ⟨atK, rfl⟩, fun H => tab_seq lK vK (by decide) H⟩
  have GRo := ok_readRow (P := l.prog) (w := w) (base := base) F_rdrow RK TF OB GB F_told b_told_ (g1 atold) GTo F_madeRow b_madeRow_ (g1 amadeRow) GMr
  have GRR := ok_rowRead (P := l.prog) (w := w) (base := base) F_read F_rdrow b_rdrow_ (g1 ardrow) GRo F_wordsof b_wordsof_ (g1 awordsof) GWs
  have MM : Mths K l.prog w mg base Cf CR aK CB := ⟨W, TR, RK, ⟨_, _, all10 (by rw [e_begun]; exact areqC_begun) (by rw [e_setby]; exact areqC_setby) (by rw [e_found]; exact areqC_found) (by rw [e_trusted]; exact areqC_trusted) (by rw [e_passed]; exact areqC_passed) (by rw [e_failed]; exact areqC_failed) (by rw [e_agreed]; exact areqC_agreed) (by rw [e_differed]; exact areqC_differed) (by rw [e_served]; exact areqC_served) (by rw [e_backed]; exact areqC_backed), ireq, b_req_, GEq⟩,
    ⟨_, _, all10 (by rw [e_begun]; exact arstrC_begun) (by rw [e_setby]; exact arstrC_setby) (by rw [e_found]; exact arstrC_found) (by rw [e_trusted]; exact arstrC_trusted) (by rw [e_passed]; exact arstrC_passed) (by rw [e_failed]; exact arstrC_failed) (by rw [e_agreed]; exact arstrC_agreed) (by rw [e_differed]; exact arstrC_differed) (by rw [e_served]; exact arstrC_served) (by rw [e_backed]; exact arstrC_backed), irstr, b_rstr_, GStr⟩, ⟨_, _, _, M_read, b_read_, GRR⟩⟩
  have N0 : EnvL K mg (Cf "trusted") := ⟨g0 b_range, g0 b_repr, by rw [e_trusted]; exact g1 aC_trusted, fun t ht => by
    simp only [List.mem_cons, List.not_mem_nil, or_false] at ht
    rcases ht with h | h | h | h | h | h <;> subst h <;> exact kit_ty (by decide +kernel), by rw [e_trusted]; exact kit_str kStr⟩
  have GRt := ok_right (P := l.prog) (w := w) (base := base) (T := T2 P_right P_law) F_right rfl (TB _ List.mem_cons_self) (fun _ _ _ => List.mem_cons_self) (t2_right nePP) MM HR (g0 b_repr) F_due b_due_ (g1 adue) GDu F_heard b_heard_ (g1 aheard)
  exact ok_law (T := T2 P_right P_law) F_law rfl (TB _ (List.mem_cons_of_mem _ List.mem_cons_self)) (fun _ _ _ => List.mem_cons_of_mem _ List.mem_cons_self) (t2_law nePP) MM HR N0 RW.trusted F_pen b_pen_ (g1 apen) GPen F_lname b_lname_ (g1 alname) GLn F_lkinds b_lkinds_ (g1 alkinds) GKi F_drawn b_drawn_ (g1 adrawn) GDr F_ltext b_ltext_ (g1 altext) GTx F_lmade b_lmade_ (g1 almade) GMa F_bent b_bent_ (g1 abent) GBe F_right b_right_ (g1 aright) GRt F_heard b_heard_ (g1 aheard)
theorem walk {l : PySem.W.OpenLaw} {q : Program} {loose : List Str} {XP : (Str → Option Value) → Heap → Prop} {YP : World → Heap → Prop} {d : DefRec} {K : Params → PySem.W.Frag} (hn : l.most = some 63) (hdf : d.params.defaults = []) (hnm : d.name = "law")
    (hrec1 : ((recsOf q).find? (fun e => e.name == ("_law_right" : Str))).isSome = true) (hrec2 : ((recsOf q).find? (fun e => e.name == ("law" : Str))).isSome = true) (hY : ∀ (w : World) (h : Heap), YP w h → (K w.params).In h)
    (F : ∀ (w : World) (mg : Str → Option Value) (fa : Addr) (h : Heap), (K w.params).In h → h.Ns mainGlobals mg → mg "law" = some (.ref fa) →
      ∃ (fd : FuncData) (c1 P1 c2 P2 : Addr), PySem.W.tabIn (K w.params) "_law_right" = some (c1, P1) ∧ (K w.params).lookup P1 = none ∧ PySem.W.tabIn (K w.params) "law" = some (c2, P2) ∧ (K w.params).lookup P2 = none ∧ (∀ (s : Shared) (u : Value), BindsTo s fd ⟨[u], []⟩ [("_law_script", u)]) ∧
        ∀ base : Heap, (K w.params).In base → base.Ns mainGlobals mg → (∀ q ∈ [(c1, P1), (c2, P2)], TabB base mg q.1 q.2) → FnG l.prog w (K w.params) mg base CX0 15 fa fd ["_law_script"] (spLaw (K w.params) (T2 P1 P2))) :
    PySem.W.WalkO q loose XP YP l.row.toRowW d [] (fun f vs => PySem.call f vs) := by
  apply Att.attach_callB hn hdf
  intro w s₀ s₁ mg mb fa o pm cd doc a vs ns G Y _ _ _ hmg hobj hints hlen hbits hg
  have KX := hY w _ Y
  rw [hnm] at hmg
  obtain ⟨fd, c1, P1, c2, P2, ht1, nT1, ht2, nT2, hb, hF⟩ := F w mg fa _ KX G.T.g hmg
  obtain ⟨d1, hd1⟩ := Option.isSome_iff_exists.mp hrec1
  obtain ⟨C1, tb1⟩ := PySem.W.tab_of G.T KX hd1 ht1
  obtain ⟨d2, hd2⟩ := Option.isSome_iff_exists.mp hrec2
  obtain ⟨C2, tb2⟩ := PySem.W.tab_of G.T KX hd2 ht2
  refine law_callTGs (cs := [(c1, P1), (c2, P2)]) KX G.T.g G.T.b G.T.builtins G.T.nolimit hg (fun q hq => ?_) G.T.bmain hobj hints (Nat.le_trans hlen (by decide)) ⟨rfl, by decide, by decide⟩ hF hb (fun H hT hS => ⟨a, ns, rfl, hS, fun q hq => ?_, fun _ => rfl⟩) fun _ _ _ z => z
  · simp only [List.mem_cons, List.not_mem_nil, or_false] at hq
    rcases hq with e | e <;> subst e
    · exact ⟨tb1, nT1, C1⟩
    · exact ⟨tb2, nT2, C2⟩
  · unfold T2 at hq
    simp only [List.mem_cons, List.not_mem_nil, or_false] at hq
    rcases hq with e | e <;> subst e
    · exact TabS.nil (hT (c1, P1) (by simp))
    · exact TabS.nil (hT (c2, P2) (by simp))
end K15

open PySem PySem.W PySem.Calls PyProof.Rows
noncomputable def K15.Hk : Hook := kHook K15.dummy.heap_1 K15.as K15.as_eq
theorem K15.left : LeftO K15.R.prog K15.q K15.loose (fun s => xlAt K15.q [] s && recOk (RowW.records K15.R.toRowW) s) (Hook.obs K15.Hk) (Hook.val K15.Hk) 16000 true :=
  HeadRun.left_oneK (M := 15300) (by kernel_rfl) (by rfl) (fun s => by kernel_rfl) (by rfl) (K15.byRowAll "special-get-raises" K15.runF K15.runT)

set_option maxRecDepth 100000 in
set_option maxHeartbeats 0 in
theorem PySem.Challenge.cw_soundtill_k15_rows_read_holds : PySem.Challenge.rw_soundtill_k15_rows_read.Holds := by
  w_on; o_law
  refine PySem.W.holds_open (r := K15.R) (q := K15.q) (loose := K15.loose) (Xt := fun s => xlAt K15.q [] s && recOk (RowW.records K15.R.toRowW) s) (XP := XL K15.q []) (Yf := Hook.obs (kHook K15.dummy.heap_1 K15.as K15.as_eq)) (Ya := Hook.val (kHook K15.dummy.heap_1 K15.as K15.as_eq)) (YP := Hook.says (kHook K15.dummy.heap_1 K15.as K15.as_eq)) (N := 16000) K15.left (Hook.of (kHook K15.dummy.heap_1 K15.as K15.as_eq)) (Hook.keeps (kHook K15.dummy.heap_1 K15.as K15.as_eq)) (fun s e => xl_of s (Bool.and_eq_true_iff.mp e).1) XL.keeps (by rfl) (by rfl) (by rfl) (fun s e => recFacts_of (Bool.and_eq_true_iff.mp e).2) (by rfl) (by first | assumption | decide +kernel) (by decide +kernel) ⟨rfl, rfl, rfl, rfl, rfl, by decide +kernel⟩ ?hw ?hc
  (case hw => w_witness2)
  k_fill
  refine K15.walk (l := PySem.Challenge.rw_soundtill_k15_rows_read) rfl rfl rfl (by decide +kernel) (by decide +kernel) (fun w h Y => PySem.W.kIn_of Y) ?F
  case F =>
    intro w mg fa h KX G hmg
    refine' K15.all_mk KX G hmg ?apen ?lpen ?cpen ?kpen ?adraw ?ldraw ?cdraw ?kdraw ?apick ?lpick ?cpick ?kpick ?awords ?lwords ?cwords ?kwords ?alname ?llname ?clname ?klname ?atick ?ltick ?ctick ?ktick ?alkinds ?llkinds ?clkinds ?klkinds ?adrawn ?ldrawn ?cdrawn ?kdrawn ?altext ?lltext ?cltext ?kltext ?almade ?llmade ?clmade ?klmade ?aheard ?lheard ?cheard ?kheard ?alis ?llis ?clis ?klis ?altk ?lltk ?cltk ?kltk ?adue ?ldue ?cdue ?kdue ?abent ?lbent ?cbent ?kbent ?aright ?lright ?cright ?kright ?alaw ?llaw ?claw ?klaw ?awhole ?lwhole ?cwhole ?kwhole ?amoment ?lmoment ?cmoment ?kmoment ?aisname ?lisname ?cisname ?kisname ?acheck ?lcheck ?ccheck ?kcheck ?achecked ?lchecked ?cchecked ?kchecked ?awordof ?lwordof ?cwordof ?kwordof ?amadeRow ?lmadeRow ?cmadeRow ?kmadeRow ?anumber ?lnumber ?cnumber ?knumber ?ahasf ?lhasf ?chasf ?khasf ?awordsof ?lwordsof ?cwordsof ?kwordsof ?afirst ?lfirst ?cfirst ?kfirst ?atold ?ltold ?ctold ?ktold ?avalof ?lvalof ?cvalof ?kvalof ?ardrow ?lrdrow ?crdrow ?krdrow ?thn ?tht ?gR ?icR ?tyR ?sbR ?rdCR ?gaCR ?atread ?rcread ?firead ?lread ?cread ?kread ?atK ?lK ?vK ?aC_begun ?pgC_begun ?hdC_begun ?poC_begun ?saC_begun ?mkC_begun ?kcC_begun ?nC_begun__told ?nC_begun_kind ?nC_begun_tool ?nC_begun_moment ?abegun ?ibegun ?lbegun ?cbegun ?kbegun ?thaC_begun ?thmC_begun ?areqC_begun ?ireq ?lreq ?creq ?kreq ?arstrC_begun ?irstr ?lrstr ?crstr ?krstr ?sRC_begun ?aC_setby ?pgC_setby ?hdC_setby ?poC_setby ?saC_setby ?mkC_setby ?kcC_setby ?nC_setby__told ?nC_setby_kind ?nC_setby_tool ?nC_setby_moment ?nC_setby_by ?asetby ?isetby ?lsetby ?csetby ?ksetby ?thaC_setby ?thmC_setby ?areqC_setby ?arstrC_setby ?sRC_setby ?aC_found ?pgC_found ?hdC_found ?poC_found ?saC_found ?mkC_found ?kcC_found ?nC_found__told ?nC_found_kind ?nC_found_tool ?nC_found_moment ?nC_found_is_sound ?afound ?ifound ?lfound ?cfound ?kfound ?thaC_found ?thmC_found ?areqC_found ?arstrC_found ?sRC_found ?aC_trusted ?pgC_trusted ?hdC_trusted ?poC_trusted ?saC_trusted ?mkC_trusted ?kcC_trusted ?nC_trusted__told ?nC_trusted_kind ?nC_trusted_tool ?atrusted ?itrusted ?ltrusted ?ctrusted ?ktrusted ?thaC_trusted ?thmC_trusted ?areqC_trusted ?arstrC_trusted ?sRC_trusted ?aC_passed ?pgC_passed ?hdC_passed ?poC_passed ?saC_passed ?mkC_passed ?kcC_passed ?nC_passed__told ?nC_passed_kind ?nC_passed_tool ?nC_passed_moment ?nC_passed_by ?apassed ?ipassed ?lpassed ?cpassed ?kpassed ?thaC_passed ?thmC_passed ?areqC_passed ?arstrC_passed ?sRC_passed ?aC_failed ?pgC_failed ?hdC_failed ?poC_failed ?saC_failed ?mkC_failed ?kcC_failed ?nC_failed__told ?nC_failed_kind ?nC_failed_tool ?nC_failed_moment ?nC_failed_by ?afailed ?ifailed ?lfailed ?cfailed ?kfailed ?thaC_failed ?thmC_failed ?areqC_failed ?arstrC_failed ?sRC_failed ?aC_agreed ?pgC_agreed ?hdC_agreed ?poC_agreed ?saC_agreed ?mkC_agreed ?kcC_agreed ?nC_agreed__told ?nC_agreed_kind ?nC_agreed_one ?nC_agreed_moment ?nC_agreed_other ?nC_agreed_later ?aagreed ?iagreed ?lagreed ?cagreed ?kagreed ?eagreed ?dagreed ?vagreed ?wagreed ?yagreed ?zagreed ?xagreed ?lmeet ?cmeet ?kmeet ?tmeet ?fnmeet ?thaC_agreed ?thmC_agreed ?areqC_agreed ?arstrC_agreed ?sRC_agreed ?aC_differed ?pgC_differed ?hdC_differed ?poC_differed ?saC_differed ?mkC_differed ?kcC_differed ?nC_differed__told ?nC_differed_kind ?nC_differed_one ?nC_differed_moment ?nC_differed_other ?nC_differed_later ?adiffered ?idiffered ?ldiffered ?cdiffered ?kdiffered ?ediffered ?ddiffered ?vdiffered ?wdiffered ?ydiffered ?zdiffered ?xdiffered ?thaC_differed ?thmC_differed ?areqC_differed ?arstrC_differed ?sRC_differed ?aC_served ?pgC_served ?hdC_served ?poC_served ?saC_served ?mkC_served ?kcC_served ?nC_served__told ?nC_served_kind ?nC_served_one ?nC_served_moment ?nC_served_other ?nC_served_later ?aserved ?iserved ?lserved ?cserved ?kserved ?eserved ?dserved ?vserved ?wserved ?yserved ?zserved ?xserved ?thaC_served ?thmC_served ?areqC_served ?arstrC_served ?sRC_served ?aC_backed ?pgC_backed ?hdC_backed ?poC_backed ?saC_backed ?mkC_backed ?kcC_backed ?nC_backed__told ?nC_backed_kind ?nC_backed_one ?nC_backed_moment ?nC_backed_other ?nC_backed_later ?abacked ?ibacked ?lbacked ?cbacked ?kbacked ?ebacked ?dbacked ?vbacked ?wbacked ?ybacked ?zbacked ?xbacked ?thaC_backed ?thmC_backed ?areqC_backed ?arstrC_backed ?sRC_backed ?kStr ?gLN ?opq ?tops ?gG ?gL ?gA ?gD ?gN ?lN ?vN ?gF ?lF ?klF ?gtbegun ?ltbegun ?vtbegun ?gtsetby ?ltsetby ?vtsetby ?gtfound ?ltfound ?vtfound ?gttrusted ?lttrusted ?vttrusted ?gtpassed ?ltpassed ?vtpassed ?gtfailed ?ltfailed ?vtfailed ?gtagreed ?ltagreed ?vtagreed ?gtdiffered ?ltdiffered ?vtdiffered ?gtserved ?ltserved ?vtserved ?gtbacked ?ltbacked ?vtbacked ?b_isinstance ?b_int ?b_bool ?b_str ?b_len ?b_all ?b_list ?b_tuple ?b_abs ?b_repr ?b_zip ?b_ValueError ?b_super ?b_enumerate ?b_range ?aT ?iT ?tT ?eT ?sT ?aN ?xN ?seN ?geN ?heN ?neN ?aeN ?teN ?leN ?ceN ?keN ?kkeN ?exeN ?tyeN ?hdeN ?iceN ?veeN ?uteN ?caeN ?cmeN ?aM ?xM ?seM ?geM ?heM ?neM ?aeM ?teM ?leM ?ceM ?keM ?kkeM ?exeM ?tyeM ?hdeM ?iceM ?veeM ?uteM ?caeM ?cmeM ?aS ?xS ?seS ?geS ?heS ?neS ?aeS ?teS ?leS ?ceS ?keS ?kkeS ?exeS ?tyeS ?hdeS ?iceS ?veeS ?uteS ?caeS ?cmeS ?aB ?xB ?seB ?geB ?heB ?neB ?oeB ?aeB ?teB ?leB ?ceB ?keB ?kkeB ?exeB ?tyeB ?hdeB ?iceB ?veeB ?uteB ?caeB ?cmeB ?uNN ?uMM ?uBN ?uBM ?lcright ?vcright ?nTright ?lclaw ?vclaw ?nTlaw ?nePP
    (case apen => k_is)
    (case lpen => k_is)
    (case cpen => k_is)
    (case kpen => k_is)
    (case adraw => k_is)
    (case ldraw => k_is)
    (case cdraw => k_is)
    (case kdraw => k_is)
    (case apick => k_is)
    (case lpick => k_is)
    (case cpick => k_is)
    (case kpick => k_is)
    (case awords => k_is)
    (case lwords => k_is)
    (case cwords => k_is)
    (case kwords => k_is)
    (case alname => k_is)
    (case llname => k_is)
    (case clname => k_is)
    (case klname => k_is)
    (case atick => k_is)
    (case ltick => k_is)
    (case ctick => k_is)
    (case ktick => k_is)
    (case alkinds => k_is)
    (case llkinds => k_is)
    (case clkinds => k_is)
    (case klkinds => k_is)
    (case adrawn => k_is)
    (case ldrawn => k_is)
    (case cdrawn => k_is)
    (case kdrawn => k_is)
    (case altext => k_is)
    (case lltext => k_is)
    (case cltext => k_is)
    (case kltext => k_is)
    (case almade => k_is)
    (case llmade => k_is)
    (case clmade => k_is)
    (case klmade => k_is)
    (case aheard => k_is)
    (case lheard => k_is)
    (case cheard => k_is)
    (case kheard => k_is)
    (case alis => k_is)
    (case llis => k_is)
    (case clis => k_is)
    (case klis => k_is)
    (case altk => k_is)
    (case lltk => k_is)
    (case cltk => k_is)
    (case kltk => k_is)
    (case adue => k_is)
    (case ldue => k_is)
    (case cdue => k_is)
    (case kdue => k_is)
    (case abent => k_is)
    (case lbent => k_is)
    (case cbent => k_is)
    (case kbent => k_is)
    (case aright => k_is)
    (case lright => k_is)
    (case cright => k_is)
    (case kright => k_is)
    (case alaw => k_is)
    (case llaw => k_is)
    (case claw => k_is)
    (case klaw => k_is)
    (case awhole => k_is)
    (case lwhole => k_is)
    (case cwhole => k_is)
    (case kwhole => k_is)
    (case amoment => k_is)
    (case lmoment => k_is)
    (case cmoment => k_is)
    (case kmoment => k_is)
    (case aisname => k_is)
    (case lisname => k_is)
    (case cisname => k_is)
    (case kisname => k_is)
    (case acheck => k_is)
    (case lcheck => k_is)
    (case ccheck => k_is)
    (case kcheck => k_is)
    (case achecked => k_is)
    (case lchecked => k_is)
    (case cchecked => k_is)
    (case kchecked => k_is)
    (case awordof => k_is)
    (case lwordof => k_is)
    (case cwordof => k_is)
    (case kwordof => k_is)
    (case amadeRow => k_is)
    (case lmadeRow => k_is)
    (case cmadeRow => k_is)
    (case kmadeRow => k_is)
    (case anumber => k_is)
    (case lnumber => k_is)
    (case cnumber => k_is)
    (case knumber => k_is)
    (case ahasf => k_is)
    (case lhasf => k_is)
    (case chasf => k_is)
    (case khasf => k_is)
    (case awordsof => k_is)
    (case lwordsof => k_is)
    (case cwordsof => k_is)
    (case kwordsof => k_is)
    (case afirst => k_is)
    (case lfirst => k_is)
    (case cfirst => k_is)
    (case kfirst => k_is)
    (case atold => k_is)
    (case ltold => k_is)
    (case ctold => k_is)
    (case ktold => k_is)
    (case avalof => k_is)
    (case lvalof => k_is)
    (case cvalof => k_is)
    (case kvalof => k_is)
    (case ardrow => k_is)
    (case lrdrow => k_is)
    (case crdrow => k_is)
    (case krdrow => k_is)
    (case thn => k_is)
    (case tht => k_is)
    (case gR => k_is)
    (case icR => k_is)
    (case tyR => k_is)
    (case sbR => k_is)
    (case rdCR => k_is)
    (case gaCR => k_is)
    (case atread => k_is)
    (case rcread => k_is)
    (case firead => k_is)
    (case lread => k_is)
    (case cread => k_is)
    (case kread => k_is)
    (case atK => k_is)
    (case lK => k_is)
    (case vK => rfl)
    (case aC_begun => k_is)
    (case pgC_begun => k_is)
    (case hdC_begun => k_is)
    (case poC_begun => k_is)
    (case saC_begun => k_is)
    (case mkC_begun => k_is)
    (case kcC_begun => k_is)
    (case nC_begun__told => k_is)
    (case nC_begun_kind => k_is)
    (case nC_begun_tool => k_is)
    (case nC_begun_moment => k_is)
    (case abegun => k_is)
    (case ibegun => k_is)
    (case lbegun => k_is)
    (case cbegun => k_is)
    (case kbegun => k_is)
    (case thaC_begun => k_is)
    (case thmC_begun => k_is)
    (case areqC_begun => k_is)
    (case ireq => k_is)
    (case lreq => k_is)
    (case creq => k_is)
    (case kreq => k_is)
    (case arstrC_begun => k_is)
    (case irstr => k_is)
    (case lrstr => k_is)
    (case crstr => k_is)
    (case krstr => k_is)
    (case sRC_begun => k_is)
    (case aC_setby => k_is)
    (case pgC_setby => k_is)
    (case hdC_setby => k_is)
    (case poC_setby => k_is)
    (case saC_setby => k_is)
    (case mkC_setby => k_is)
    (case kcC_setby => k_is)
    (case nC_setby__told => k_is)
    (case nC_setby_kind => k_is)
    (case nC_setby_tool => k_is)
    (case nC_setby_moment => k_is)
    (case nC_setby_by => k_is)
    (case asetby => k_is)
    (case isetby => k_is)
    (case lsetby => k_is)
    (case csetby => k_is)
    (case ksetby => k_is)
    (case thaC_setby => k_is)
    (case thmC_setby => k_is)
    (case areqC_setby => k_is)
    (case arstrC_setby => k_is)
    (case sRC_setby => k_is)
    (case aC_found => k_is)
    (case pgC_found => k_is)
    (case hdC_found => k_is)
    (case poC_found => k_is)
    (case saC_found => k_is)
    (case mkC_found => k_is)
    (case kcC_found => k_is)
    (case nC_found__told => k_is)
    (case nC_found_kind => k_is)
    (case nC_found_tool => k_is)
    (case nC_found_moment => k_is)
    (case nC_found_is_sound => k_is)
    (case afound => k_is)
    (case ifound => k_is)
    (case lfound => k_is)
    (case cfound => k_is)
    (case kfound => k_is)
    (case thaC_found => k_is)
    (case thmC_found => k_is)
    (case areqC_found => k_is)
    (case arstrC_found => k_is)
    (case sRC_found => k_is)
    (case aC_trusted => k_is)
    (case pgC_trusted => k_is)
    (case hdC_trusted => k_is)
    (case poC_trusted => k_is)
    (case saC_trusted => k_is)
    (case mkC_trusted => k_is)
    (case kcC_trusted => k_is)
    (case nC_trusted__told => k_is)
    (case nC_trusted_kind => k_is)
    (case nC_trusted_tool => k_is)
    (case atrusted => k_is)
    (case itrusted => k_is)
    (case ltrusted => k_is)
    (case ctrusted => k_is)
    (case ktrusted => k_is)
    (case thaC_trusted => k_is)
    (case thmC_trusted => k_is)
    (case areqC_trusted => k_is)
    (case arstrC_trusted => k_is)
    (case sRC_trusted => k_is)
    (case aC_passed => k_is)
    (case pgC_passed => k_is)
    (case hdC_passed => k_is)
    (case poC_passed => k_is)
    (case saC_passed => k_is)
    (case mkC_passed => k_is)
    (case kcC_passed => k_is)
    (case nC_passed__told => k_is)
    (case nC_passed_kind => k_is)
    (case nC_passed_tool => k_is)
    (case nC_passed_moment => k_is)
    (case nC_passed_by => k_is)
    (case apassed => k_is)
    (case ipassed => k_is)
    (case lpassed => k_is)
    (case cpassed => k_is)
    (case kpassed => k_is)
    (case thaC_passed => k_is)
    (case thmC_passed => k_is)
    (case areqC_passed => k_is)
    (case arstrC_passed => k_is)
    (case sRC_passed => k_is)
    (case aC_failed => k_is)
    (case pgC_failed => k_is)
    (case hdC_failed => k_is)
    (case poC_failed => k_is)
    (case saC_failed => k_is)
    (case mkC_failed => k_is)
    (case kcC_failed => k_is)
    (case nC_failed__told => k_is)
    (case nC_failed_kind => k_is)
    (case nC_failed_tool => k_is)
    (case nC_failed_moment => k_is)
    (case nC_failed_by => k_is)
    (case afailed => k_is)
    (case ifailed => k_is)
    (case lfailed => k_is)
    (case cfailed => k_is)
    (case kfailed => k_is)
    (case thaC_failed => k_is)
    (case thmC_failed => k_is)
    (case areqC_failed => k_is)
    (case arstrC_failed => k_is)
    (case sRC_failed => k_is)
    (case aC_agreed => k_is)
    (case pgC_agreed => k_is)
    (case hdC_agreed => k_is)
    (case poC_agreed => k_is)
    (case saC_agreed => k_is)
    (case mkC_agreed => k_is)
    (case kcC_agreed => k_is)
    (case nC_agreed__told => k_is)
    (case nC_agreed_kind => k_is)
    (case nC_agreed_one => k_is)
    (case nC_agreed_moment => k_is)
    (case nC_agreed_other => k_is)
    (case nC_agreed_later => k_is)
    (case aagreed => k_is)
    (case iagreed => k_is)
    (case lagreed => k_is)
    (case cagreed => k_is)
    (case kagreed => k_is)
    (case eagreed => k_is)
    (case dagreed => k_is)
    (case vagreed => rfl)
    (case wagreed => rfl)
    (case yagreed => k_is)
    (case zagreed => first | k_is | kernel_rfl | rfl)
    (case xagreed => ks_is)
    (case lmeet => k_is)
    (case cmeet => k_is)
    (case kmeet => k_is)
    (case tmeet => k_is)
    (case fnmeet => k_is)
    (case thaC_agreed => k_is)
    (case thmC_agreed => k_is)
    (case areqC_agreed => k_is)
    (case arstrC_agreed => k_is)
    (case sRC_agreed => k_is)
    (case aC_differed => k_is)
    (case pgC_differed => k_is)
    (case hdC_differed => k_is)
    (case poC_differed => k_is)
    (case saC_differed => k_is)
    (case mkC_differed => k_is)
    (case kcC_differed => k_is)
    (case nC_differed__told => k_is)
    (case nC_differed_kind => k_is)
    (case nC_differed_one => k_is)
    (case nC_differed_moment => k_is)
    (case nC_differed_other => k_is)
    (case nC_differed_later => k_is)
    (case adiffered => k_is)
    (case idiffered => k_is)
    (case ldiffered => k_is)
    (case cdiffered => k_is)
    (case kdiffered => k_is)
    (case ediffered => k_is)
    (case ddiffered => k_is)
    (case vdiffered => rfl)
    (case wdiffered => rfl)
    (case ydiffered => k_is)
    (case zdiffered => first | k_is | kernel_rfl | rfl)
    (case xdiffered => ks_is)
    (case thaC_differed => k_is)
    (case thmC_differed => k_is)
    (case areqC_differed => k_is)
    (case arstrC_differed => k_is)
    (case sRC_differed => k_is)
    (case aC_served => k_is)
    (case pgC_served => k_is)
    (case hdC_served => k_is)
    (case poC_served => k_is)
    (case saC_served => k_is)
    (case mkC_served => k_is)
    (case kcC_served => k_is)
    (case nC_served__told => k_is)
    (case nC_served_kind => k_is)
    (case nC_served_one => k_is)
    (case nC_served_moment => k_is)
    (case nC_served_other => k_is)
    (case nC_served_later => k_is)
    (case aserved => k_is)
    (case iserved => k_is)
    (case lserved => k_is)
    (case cserved => k_is)
    (case kserved => k_is)
    (case eserved => k_is)
    (case dserved => k_is)
    (case vserved => rfl)
    (case wserved => rfl)
    (case yserved => k_is)
    (case zserved => first | k_is | kernel_rfl | rfl)
    (case xserved => ks_is)
    (case thaC_served => k_is)
    (case thmC_served => k_is)
    (case areqC_served => k_is)
    (case arstrC_served => k_is)
    (case sRC_served => k_is)
    (case aC_backed => k_is)
    (case pgC_backed => k_is)
    (case hdC_backed => k_is)
    (case poC_backed => k_is)
    (case saC_backed => k_is)
    (case mkC_backed => k_is)
    (case kcC_backed => k_is)
    (case nC_backed__told => k_is)
    (case nC_backed_kind => k_is)
    (case nC_backed_one => k_is)
    (case nC_backed_moment => k_is)
    (case nC_backed_other => k_is)
    (case nC_backed_later => k_is)
    (case abacked => k_is)
    (case ibacked => k_is)
    (case lbacked => k_is)
    (case cbacked => k_is)
    (case kbacked => k_is)
    (case ebacked => k_is)
    (case dbacked => k_is)
    (case vbacked => rfl)
    (case wbacked => rfl)
    (case ybacked => k_is)
    (case zbacked => first | k_is | kernel_rfl | rfl)
    (case xbacked => ks_is)
    (case thaC_backed => k_is)
    (case thmC_backed => k_is)
    (case areqC_backed => k_is)
    (case arstrC_backed => k_is)
    (case sRC_backed => k_is)
    (case kStr => k_is)
    (case gLN => k_is)
    (case opq => k_is)
    (case tops => rfl)
    (case gG => k_is)
    (case gL => k_is)
    (case gA => k_is)
    (case gD => k_is)
    (case gN => k_is)
    (case lN => k_is)
    (case vN => rfl)
    (case gF => k_is)
    (case lF => k_is)
    (case klF => exact ⟨⟨_, _, rfl, rfl⟩, ⟨_, _, rfl, rfl⟩, ⟨_, _, rfl, rfl⟩, ⟨_, _, rfl, rfl⟩, ⟨_, _, rfl, rfl⟩, ⟨_, _, rfl, rfl⟩, ⟨_, _, rfl, rfl⟩, ⟨_, _, rfl, rfl⟩, ⟨_, _, rfl, rfl⟩, ⟨_, _, rfl, rfl⟩, trivial⟩)
    (case gtbegun => k_is)
    (case ltbegun => k_is)
    (case vtbegun => rfl)
    (case gtsetby => k_is)
    (case ltsetby => k_is)
    (case vtsetby => rfl)
    (case gtfound => k_is)
    (case ltfound => k_is)
    (case vtfound => rfl)
    (case gttrusted => k_is)
    (case lttrusted => k_is)
    (case vttrusted => rfl)
    (case gtpassed => k_is)
    (case ltpassed => k_is)
    (case vtpassed => rfl)
    (case gtfailed => k_is)
    (case ltfailed => k_is)
    (case vtfailed => rfl)
    (case gtagreed => k_is)
    (case ltagreed => k_is)
    (case vtagreed => rfl)
    (case gtdiffered => k_is)
    (case ltdiffered => k_is)
    (case vtdiffered => rfl)
    (case gtserved => k_is)
    (case ltserved => k_is)
    (case vtserved => rfl)
    (case gtbacked => k_is)
    (case ltbacked => k_is)
    (case vtbacked => rfl)
    (case b_isinstance => k_is)
    (case b_int => k_is)
    (case b_bool => k_is)
    (case b_str => k_is)
    (case b_len => k_is)
    (case b_all => k_is)
    (case b_list => k_is)
    (case b_tuple => k_is)
    (case b_abs => k_is)
    (case b_repr => k_is)
    (case b_zip => k_is)
    (case b_ValueError => k_is)
    (case b_super => k_is)
    (case b_enumerate => k_is)
    (case b_range => k_is)
    (case aT => k_is)
    (case iT => k_is)
    (case tT => k_is)
    (case eT => k_is)
    (case sT => k_is)
    (case aN => k_is)
    (case xN => k_is)
    (case seN => k_is)
    (case geN => k_is)
    (case heN => k_is)
    (case neN => k_is)
    (case aeN => k_is)
    (case teN => k_is)
    (case leN => k_is)
    (case ceN => k_is)
    (case keN => k_is)
    (case kkeN => k_is)
    (case exeN => k_is)
    (case tyeN => k_is)
    (case hdeN => k_is)
    (case iceN => k_is)
    (case veeN => k_is)
    (case uteN => k_is)
    (case caeN => k_is)
    (case cmeN => k_is)
    (case aM => k_is)
    (case xM => k_is)
    (case seM => k_is)
    (case geM => k_is)
    (case heM => k_is)
    (case neM => k_is)
    (case aeM => k_is)
    (case teM => k_is)
    (case leM => k_is)
    (case ceM => k_is)
    (case keM => k_is)
    (case kkeM => k_is)
    (case exeM => k_is)
    (case tyeM => k_is)
    (case hdeM => k_is)
    (case iceM => k_is)
    (case veeM => k_is)
    (case uteM => k_is)
    (case caeM => k_is)
    (case cmeM => k_is)
    (case aS => k_is)
    (case xS => k_is)
    (case seS => k_is)
    (case geS => k_is)
    (case heS => k_is)
    (case neS => k_is)
    (case aeS => k_is)
    (case teS => k_is)
    (case leS => k_is)
    (case ceS => k_is)
    (case keS => k_is)
    (case kkeS => k_is)
    (case exeS => k_is)
    (case tyeS => k_is)
    (case hdeS => k_is)
    (case iceS => k_is)
    (case veeS => k_is)
    (case uteS => k_is)
    (case caeS => k_is)
    (case cmeS => k_is)
    (case aB => k_is)
    (case xB => k_is)
    (case seB => k_is)
    (case geB => k_is)
    (case heB => k_is)
    (case neB => k_is)
    (case oeB => k_is)
    (case aeB => k_is)
    (case teB => k_is)
    (case leB => k_is)
    (case ceB => k_is)
    (case keB => k_is)
    (case kkeB => k_is)
    (case exeB => k_is)
    (case tyeB => k_is)
    (case hdeB => k_is)
    (case iceB => k_is)
    (case veeB => k_is)
    (case uteB => k_is)
    (case caeB => k_is)
    (case cmeB => k_is)
    (case uNN => k_is)
    (case uMM => k_is)
    (case uBN => k_is)
    (case uBM => k_is)
    (case lcright => k_is)
    (case vcright => rfl)
    (case nTright => first | kernel_rfl | rfl)
    (case lclaw => k_is)
    (case vclaw => rfl)
    (case nTlaw => first | kernel_rfl | rfl)
    (case nePP => decide)
