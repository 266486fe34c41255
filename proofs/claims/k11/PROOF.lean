import PyProof.Rows.All
import Wide.All
import OpenK.AllK
import Wide.FinOn
import KE.OsRunLaw
import KE.RegKSuper
import HandS.Head2
import HandS.ForMost
import HandS.OwnEq
import HandS.IsInst
import HandS.Wide
import HandS.EndBits
import HandS.Property
import KE.LtData
import HandS.NamedTupSort
import HandS.Exc
import HandS.ExcInit
import HandS.ExcIs
import HandS.ExcField
import HandS.TryOnly
import HandS.Lambda
import HandS.ClsMeth
import HandS.MakeKwOnly
import KE.KOpsOwn
import HandS.WordsExc
import HandS.WordsDict
import HandS.Codes
import HandS.Walk
import HandS.Iter
import KE.GoesEnum
import KE.GoesMore
import KE.KSuper
import HandS.Zip
import HandS.More
import HandS.List
import PyProof.ReprRoads
import PyProof.StrBlock2
import HandS.Words
import PyProof.StrLawsRepr
import HandS.Text
import KE.SortData
import HandS.RaiseMore
import KE.KCallOwn
import HandS.Star
import HandS.Defaults
import HandS.Set
import HandS.Strs
import PyProof.Rows.SortShellAny
import PyProof.Rows.StrMeet
import PyProof.NeKinds
import PyProof.EqAt
import HandS.Call
import HandS.EndTab
import HandS.Dict
import PyProof.StrLawsTight
import PyProof.StrLawsChain
import PyProof.Rows.StrSplitJoin
import PyProof.Rows.StrItems
import PyProof.Rows.StrSplitAre
import HandS.Small
import HandS.LawCells
import HandS.IterVal
import KE.GoesZip
import KE.IntTextText
import KE.KUnpackStar
import HandS.ExcOwn
import HandS.Finally
import PyProof.DictUpdate
import PySem.Challenge.RW_soundtill_k11_rows_made
set_option Elab.async false
set_option linter.all false
set_option maxRecDepth 100000
set_option maxHeartbeats 8000000
section
open PySem PySem.W PySem.Calls PyProof.Rows
theorem K11.keepH (H : Hook) {p : Prop} (h : p) : p := h
local macro_rules
  | `(tactic| o_headL $H:term) => `(tactic| exact K11.keepH $H (by assumption))
set_option maxHeartbeats 0 in
theorem K11.dummy (h : OpenRow.Holds (OpenLaw.row PySem.Challenge.rw_soundtill_k11_rows_made)) : OpenRow.Holds (OpenLaw.row PySem.Challenge.rw_soundtill_k11_rows_made) := by
  k_headL
abbrev K11.R : OpenRow := OpenLaw.row PySem.Challenge.rw_soundtill_k11_rows_made
def K11.q : Program := view K11.R.prog [0, 2, 3, 4, 5, 6, 8, 9, 10, 11, 12, 13, 14, 15, 16, 17, 18, 19, 20, 21, 22, 23, 24, 26, 27, 28, 29, 30, 31, 32, 33, 34, 35, 36, 37, 38, 39, 40, 41, 42, 43, 45, 46, 47, 48, 49, 50, 51, 52, 53, 54, 55, 56, 57, 58, 59, 60]
def K11.loose : List PySem.Str := [PySem.Str.ofString "FORMS", PySem.Str.ofString "Row", PySem.Str.ofString "SetBy"]
def K11.as : List Addr := [2, 3, 15, 17, 18, 20, 21, 22, 29, 30, 31, 32, 35, 42, 44, 45, 47, 48, 49, 50, 51, 54, 61, 63, 64, 66, 67, 68, 69, 70, 73, 80, 82, 83, 85, 86, 87, 88, 89, 92, 99, 101, 102, 104, 105, 106, 107, 108, 111, 112, 114, 115, 117, 118, 119, 121, 122, 124, 125, 126, 129, 130, 131, 133, 134, 136, 137, 138, 141, 142, 143, 145, 146, 148, 149, 150, 152, 153, 155, 156, 157, 159, 160, 162, 163, 164, 167, 168, 169, 171, 172, 174, 175, 176, 178, 179, 181, 182, 183, 184, 185, 186, 187, 188, 189, 190, 191, 192, 193, 194, 196, 197, 199, 200, 208, 209, 211, 212, 214, 215, 216, 217, 218, 219, 221, 222, 224, 225, 226, 227, 229, 230, 232, 233, 234, 235, 237, 238, 240, 241, 242, 243, 246, 247, 248, 250, 251, 253, 254, 255, 258, 259, 260, 262, 263, 265, 266, 267, 269, 270, 272, 273, 274, 277, 278, 279, 280, 281, 282, 283, 286, 293, 294, 295, 298, 305, 306, 307, 310, 317, 319, 320, 322, 323, 324, 325, 326, 329, 336, 338, 339, 341, 342, 343, 345, 346, 348, 349, 350, 351, 352, 355, 362, 364, 365, 367, 368, 369, 371, 372, 374, 375, 376, 377, 378, 381, 388, 390, 391, 393, 394, 395, 397, 398, 400, 401, 402, 403, 404, 407, 414, 416, 417, 419, 420, 421, 423, 424, 426, 427, 428, 429, 430, 433, 440, 442, 443, 445, 446, 447, 449, 450, 452, 453, 454, 455, 456, 459, 466, 468, 469, 471, 472, 473, 475, 476, 478, 479, 480, 481, 482, 485, 488, 493, 494, 496, 497, 499, 500, 501, 503, 504, 506, 507, 508, 509, 510, 513, 516, 521, 522, 524, 525, 527, 528, 529, 531, 532, 534, 535, 536, 537, 538, 541, 544, 549, 550, 552, 553, 555, 556, 557, 559, 560, 562, 563, 564, 565, 566, 569, 572, 577, 578, 580, 581, 583, 584, 585, 587, 588, 590, 591, 592, 593, 594, 597, 599, 600, 602, 603, 604, 606, 607, 609, 610, 611, 613, 614, 616, 617, 618, 620, 621, 623, 624, 625, 627, 628, 630, 631, 632, 634, 635, 637, 638, 639, 641, 642, 644, 645, 646, 648, 649, 651, 652, 653, 655, 656, 658, 659, 660, 662, 663, 665, 666, 667, 670, 671, 672, 675, 676, 677, 679, 680, 682, 683, 684, 686, 687, 689, 690, 691, 693, 694, 696, 697, 698, 701, 702, 703, 705, 706, 708, 709, 710, 713, 714]
theorem K11.as_eq (P : Params) : K11.as = (K11.dummy.heap_1 P).map (·.1) := by kernel_rfl
def K11.Run (w : World) : Prop := ∀ os : OsState, (HeadRun.endF (HeadRun.stepQ (HeadRun.denQ HeadRun.tabQ) K11.R.prog w) 15300 K11.R.prog w os).map (fun s => (HeadRun.looksF K11.R.prog (boot_heap w.params) s.abs, HeadRun.seenQ K11.q K11.loose (importedModules K11.R.prog.main.body) (fun s => xlAt K11.q [] s && recOk (RowW.records K11.R.toRowW) s) s.abs, K11.as.map (HeadRun.getT s))) = some (true, openGood K11.q K11.loose, (K11.dummy.heap_1 w.params).map fun x => some x.2)
end

section
open PySem PySem.W PySem.Calls PyProof.Rows
theorem K11.runF (w : World) : K11.Run (w.withFollow "special-get-raises" false) := by
  intro os
  kernel_rfl
theorem K11.runT (w : World) : K11.Run (w.withFollow "special-get-raises" true) := by
  intro os
  kernel_rfl
theorem K11.byRowAll (row : String) {P : World → Prop} (hf : ∀ w : World, P (w.withFollow row false)) (ht : ∀ w : World, P (w.withFollow row true)) : ∀ w, P w := fun w => byRow2 row hf ht w
end

/-! So: rules of our own over the hand layer. Runs whose guards are known (for repr), repr of data, == and != by an own __eq__ with both answers, < of data, a method's call with keywords. -/
namespace So
open PySem PySem.Spec PyProof.Rows L2

/-! ### repr of data -/
mutual
theorem dp_noDict {K : PySem.W.Frag} {H : Hp} : ∀ (d : PyData) (v : V), Dp K H v d → d.hasDict = false
  | .none, _, _ => rfl
  | .bool _, _, _ => rfl
  | .int _, _, _ => rfl
  | .str _, _, _ => rfl
  | .list ds, _, h => by
    cases h with
    | lst _ ha => simpa [PyData.hasDict] using dp_noDictAll ds _ ha
  | .tuple ds, _, h => by
    cases h with
    | tup _ ha => simpa [PyData.hasDict] using dp_noDictAll ds _ ha
  | .dict _, _, h => by cases h
theorem dp_noDictAll {K : PySem.W.Frag} {H : Hp} : ∀ (ds : List PyData) (vs : List V), DpAll K H vs ds → PyData.hasDictAll ds = false
  | [], _, _ => rfl
  | d :: ds, _, h => by
    cases h with
    | cons h1 h2 => simp [PyData.hasDictAll, dp_noDict d _ h1, dp_noDictAll ds _ h2]
end

/-- repr(x): what it asks -/
def rRepr (K : PySem.W.Frag) : List V → Hp → VK → Prop := fun xs H Q => ∃ v d, xs = [v] ∧ Dp K H v d ∧ d.showable = true ∧ d.depth ≤ 60 ∧ d.shown.length ≤ sizeLine ∧ Q (.str d.shown) H
section
variable {X : Cx}
theorem call_reprD (hg : X.A.guards = some []) (hu : X.A.units + 64 < cLine) : CallR X (.builtin "repr") (rRepr X.K) := by
  intro pins s σ H xs us Q I r h
  obtain ⟨v, d, rfl, hd, hs, hdep, hz, q⟩ := h
  obtain ⟨u, rfl, rv⟩ := vals1 r
  obtain ⟨as, rd⟩ := Dp.reads I d v u hd rv
  have nd : d.hasDict = false := dp_noDict d v hd
  cases v with
  | ref a =>
    cases rv
    refine repr_of_reads' rd hs (fun z => by rw [nd] at z; cases z) hg (by omega) (fun _ _ e => e) (fun h' t tk k => ?_) hz
    exact ⟨.str d.shown, H, I.kept k, ⟨t, rfl⟩, q⟩
  | non =>
    cases hd
    cases rv
    exact PySem.P.repr_of_none ⟨.str _, H, I.tok _, ⟨_, rfl⟩, q⟩
  | bl b =>
    cases hd
    cases rv
    refine PySem.P.repr_of_bool ⟨.str (PyData.shown (.bool b)), H, I.tok _, ⟨s.toks, ?_⟩, q⟩
    cases b <;> rfl
  | int i =>
    cases hd
    obtain ⟨t, rfl⟩ := rv
    exact PySem.P.repr_of_int (by simpa [PyData.showable] using hs) ⟨.str _, H, I.tok _, ⟨_, rfl⟩, q⟩
  | str x =>
    cases hd
    obtain ⟨t, rfl⟩ := rv
    exact PySem.P.repr_of_str ⟨.str _, H, I.tok _, ⟨_, rfl⟩, q⟩ hz
  | byt b => cases hd
  | flt b => cases hd
  | ty n => cases hd

/-! ### < of data -/
def rLtD (K : PySem.W.Frag) : R2 := fun x y H Q => ∃ d e, Dp K H x d ∧ Dp K H y e ∧ PySem.W.alike d e = true ∧ d ≠ .none ∧ d.depth ≤ 60 ∧ Q (.bl (PySem.W.dataLt d e)) H
theorem op_ltD (hu : X.A.units + 64 < cLine) : OpR X (compareOp .Lt) (rLtD X.K) := by
  intro pins s σ H x y v u Q I rx ry h
  obtain ⟨d, e, hd, he, al, nn, dep, q⟩ := h
  obtain ⟨as, r1⟩ := Dp.reads I d x v hd rx
  obtain ⟨bs, r2⟩ := Dp.reads I e y u he ry
  have hm : min d.depth e.depth ≤ d.depth := Nat.min_le_left _ _
  exact PySem.W.rcLt_alike d e X.A s v u as bs r1 r2 al nn (by omega) _ _ _ _ ⟨.bl _, H, I, rfl, q⟩
end
end So

namespace So
open PySem PySem.Spec PyProof.Rows L2

/-! ### == and != by an own __eq__, both answers -/
/-- x is an instance of C, y of a type that is no class below C; the own __eq__ answers b -/
def rOwn (C : Addr) (K : PySem.W.Frag) (sp : Sp) (E : XK) (g : Bool → Bool) : R2 := fun x y H Q => ∃ a dx fs t, x = .ref a ∧ H a = some (.ins C dx fs) ∧ TyX K H y t ∧ PySem.W.notFirst K C t = true ∧
  sp [.ref a, y] H (fun v H' => ∃ b, v = .bl b ∧ Q (.bl (g b)) H') E
section
variable {X : Cx} {CX : CXT} {k : Nat} {C f : Addr} {fd : FuncData} {ps : List Str} {sp : Sp} {E : XK}
/-- what is wanted of a comparison's answer -/
def BlP (X : Cx) (pins : List (Addr × Obj)) (σ : L2.St) (g : Bool → Bool) (Q : VK) (v : Value) (s' : Shared) : Prop := ∃ b H', v = .bool b ∧ Inv X pins σ H' s' ∧ Q (.bl (g b)) H'
theorem run_eq {pins : List (Addr × Obj)} {s : Shared} {σ : L2.St} {H : Hp} {a dx : Addr} {fs : List (Str × V)} {y : V} {u : Value} {Q : VK} {g : Bool → Bool} {A : Around} (F : FnOk X.prog X.w X.K X.mg X.base CX k f fd ps sp) (hb : Binds X.K fd ps [])
    (hx : Passes CX X E) (hr : Room k A) (hf : A.frames = X.A.frames) (I : Inv X pins σ H s) (ry : RelV y u) (h : sp [.ref a, y] H (fun v H' => ∃ b, v = .bl b ∧ Q (.bl (g b)) H') E) :
    wpAny (model X.prog X.w) A (call (.ref f) [.ref a, u]) (fun v s' => BlP X pins σ g Q v s') X.xe s := by
  have e0 : Env0 X.prog X.w X.K X.mg X.base A X.stack s H := by
    have e := I.env0
    exact ⟨hf.trans e.frames, e.mod, e.bs, e.bsz, e.funs, e.frf, e.hok, e.bare⟩
  have hl : ([Value.ref a, u] ++ ([] : List Value)).length = ps.length := (F.len _ _ _ _ h : [V.ref a, y].length = ps.length)
  refine wpAny_call (codeAny_mono (F.run A X.stack s H ⟨[.ref a, u], []⟩ ([.ref a, u] ++ []) [.ref a, y] _ E hr e0 (hb s [.ref a, u] I.kIn hl) (.cons rfl (.cons ry .nil)) h) fun r s' hq => ?_)
  cases r with
  | error e => exact hx pins σ H s e s' I hq
  | ok fl =>
    cases fl with
    | ret w =>
      obtain ⟨z, H', I', rz, b, ez, q⟩ := I.after hq
      subst ez
      cases rz
      exact ⟨b, H', rfl, I', q⟩
    | next => exact False.elim hq
    | brk => exact False.elim hq
    | cont => exact False.elim hq

theorem op_eqOwn (F : FnOk X.prog X.w X.K X.mg X.base CX k f fd ps sp) (hs : PySem.W.findIn X.K (.ref C) "__eq__" = some (some (.ref f))) (hf : PySem.W.isFn X.K (.ref f) = true) (hb : Binds X.K fd ps []) (hx : Passes CX X E) (hr : Room k X.A) :
    OpR X (compareOp .Eq) (rOwn C X.K sp E id) := by
  intro pins s σ H x y v u Q I rx ry h
  obtain ⟨a, dx, fs, t, rfl, ha, ty, nf, q⟩ := h
  cases rx
  obtain ⟨mA, J, _⟩ := ins_get I.hok ha
  obtain ⟨od, J, _⟩ := J.look
  obtain ⟨P, Z, p, _⟩ := kit_of I ry ty
  obtain ⟨m, hF⟩ := I.fr
  show wpAny _ _ (richCompare .Eq (.ref a) u) _ _ s
  refine PySem.W.cmp_K (op := .Eq) (tb := t) hr.units0 hF I.ok.mod.kin J (Z.ty _ _ I.kIn p) nf hs hf ?_
  refine wpAny_mono (run_eq (dx := dx) (fs := fs) F hb hx hr rfl I ry q) (fun w s' z => ?_) fun _ _ z => z
  obtain ⟨b, H', rfl, I', q'⟩ := z
  exact ⟨.bl b, H', I', rfl, q'⟩

/-- != where the class has an own __eq__ and object's __ne__ -/
theorem op_neOwn (F : FnOk X.prog X.w X.K X.mg X.base CX k f fd ps sp) (hs : PySem.W.findIn X.K (.ref C) "__eq__" = some (some (.ref f))) (hf : PySem.W.isFn X.K (.ref f) = true) (hb : Binds X.K fd ps []) (hx : Passes CX X E) (hr : Room (k + 1) X.A)
    (hn : PySem.W.findIn X.K (.ref C) "__ne__" = some (some (.builtin "object.__ne__"))) (hm : PySem.W.mroIn X.K C (.type "object") = some true) : OpR X (compareOp .NotEq) (rOwn C X.K sp E not) := by
  intro pins s σ H x y v u Q I rx ry h
  obtain ⟨a, dx, fs, t, rfl, ha, ty, nf, q⟩ := h
  cases rx
  obtain ⟨mA, J, _⟩ := ins_get I.hok ha
  obtain ⟨od, J, _⟩ := J.look
  obtain ⟨P, Z, p, _⟩ := kit_of I ry ty
  have KI := I.kIn
  have hb' := Z.ty (model X.prog X.w) _ I.kIn p
  have hu : X.A.units < cLine := hr.units0
  show wpAny _ _ (richCompare .NotEq (.ref a) u) _ _ s
  have one : wpAny (model X.prog X.w) X.A (tryCompare (.ref a) "__ne__" u) (fun r s' => ∃ v, r = some v ∧ EP X pins σ Q v s') X.xe s := by
    unfold tryCompare
    refine wpAny_bind (NtL.csib (J.type.andThen (PySem.W.looks_findIn KI hn)) (PySem.F.cmp_object.ne.bind _) (wpAny_call (codeAny_call_builtin PySem.F.cmp_object.ne.plain PySem.F.cmpEntry_ne (PySem.W.check_slot PySem.F.cmpKind_ne PySem.F.cmpSplit_ne (J.type.andThen (PySem.W.looks_mroIn KI hm)) (PySem.F.cmpArgs_ne _ _) ?_))))
    unfold Builtin.«object.__ne__»
    refine wpAny_bind (wpAny_of_eq (a := ((Value.ref a : Value), [u])) (by first | rfl | (simp only [slotArgs]; rfl)) ?_)
    refine wpAny_bind (wpAny_cRoomFor (by show X.A.units + 1 < cLine; have := hr.units; omega) ?_)
    refine wpAny_bind (PySem.W.ifBound_K KI J hs hf (wpAny_mono (run_eq (dx := dx) (fs := fs) F hb hx hr.in1 rfl I ry q) (fun w s' z => ?_) fun _ _ z => z))
    obtain ⟨b, H', rfl, I', q'⟩ := z
    refine wpAny_bind (wpAny_truthy_bool ?_)
    refine wpAny_pure ?_
    exact wpAny_pure ⟨_, rfl, .bl (!b), H', I', rfl, q'⟩
  unfold richCompare
  simp only [oneThing_ref]
  refine wpAny_holding (wpAny_bind (wpAny_cRoomFor hu ?_))
  refine wpAny_bind (J.type.here (wpAny_bind (hb'.here ?_)))
  have fin : wpAny (model X.prog X.w) X.A (tryCompare (.ref a) "__ne__" u) (fun r s' => ∃ v, r = some v ∧ EP X pins σ Q v s') X.xe s := one
  split
  · rename_i z
    have e : PySem.W.subIn X.K t (.ref C) = some false := by
      rcases Bool.or_eq_true_iff.mp nf with e | e
      · rw [beq_iff_eq.mp e] at z; simp at z
      · exact beq_iff_eq.mp e
    refine wpAny_bind ((PySem.W.looks_subIn KI e).here ?_)
    simp only [Bool.false_eq_true, if_false]
    exact wpAny_bind (wpAny_mono fin (fun r s' z => by obtain ⟨v, rfl, hq⟩ := z; exact wpAny_pure hq) fun _ _ e => e)
  · refine wpAny_bind (wpAny_pure ?_)
    simp only [Bool.false_eq_true, if_false]
    exact wpAny_bind (wpAny_mono fin (fun r s' z => by obtain ⟨v, rfl, hq⟩ := z; exact wpAny_pure hq) fun _ _ e => e)
end
end So

namespace So
open PySem PySem.Spec PyProof.Rows L2

/-! ### runs in which no repr is under way -/
/-- as FnOk, where no repr is under way at the call -/
structure FnG (P : Program) (w : World) (K : PySem.W.Frag) (mg : Str → Option Value) (base : Heap) (CX : CXT) (k : Nat) (f : Addr) (fd : FuncData) (ps : List Str) (sp : Sp) : Prop where
  lenG : ∀ (vs : List V) (H : Hp) (Q : VK) (E : XK), sp vs H Q E → vs.length = ps.length
  runG : ∀ (A : Around) (outer : List Env) (s : Shared) (H : Hp) (args : Args) (us : List Value) (vs : List V) (Q : VK) (E : XK), A.guards = some [] → Room k A → Env0 P w K mg base A outer s H →
    BindsTo s fd args (ps.zip us) → Vals vs us → sp vs H Q E → codeAny (model P w) A (.call (.ref f) args) (CR CX outer P w H s Q E) s
section
variable {P : Program} {w : World} {K : PySem.W.Frag} {mg : Str → Option Value} {base : Heap} {CX : CXT} {sp : Sp} {fd : FuncData} {ps N : List Str} {k : Nat} {f : Addr}
theorem FnG.ofOk (F : FnOk P w K mg base CX k f fd ps sp) : FnG P w K mg base CX k f fd ps sp :=
  ⟨F.len, fun A outer s H args us vs Q E _ => F.run A outer s H args us vs Q E⟩
/-- a def by its body, as the layer's rule, the guards told -/
theorem fnG_of {x qual : Str} {st : Stmt} (F : Fun K x qual st f fd) (S : FnScope N ps (defScope st)) (len : ∀ vs H Q E, sp vs H Q E → vs.length = ps.length)
    (hbody : ∀ (cdv : Value) (A : Around) (outer : List Env) (s : Shared) (H : Hp) (vs : List V) (Q : VK) (E : XK), A.guards = some [] → Room k (A.deeper (envOfC qual (defScope st) s.heap.objs.size f cdv)) → sp vs H Q E →
      ∃ t, PSs (cxOf CX P w K mg base N qual (defScope st) f cdv A outer s H E).nox (defBody st) t ∧ t { nx := fun _ H' => Q .non H', rt := Q } (start N vs) H) : FnG P w K mg base CX (k + 1) f fd ps sp := by
  obtain ⟨oc, od, kV, doc, pm, an, cdv, ct, osl, rfl, lk, hcd⟩ := F.ex
  constructor
  · exact len
  intro A outer s H args us vs Q E hg hr e0 hb r hsp
  have old : ∀ b o, base.get? b = some o → s.heap.get? b = some o := fun b o e => (e0.bs b o e).1
  have KX := e0.mod.kin.keeps old
  have lim := e0.mod.nolimit.keeps old
  refine codeAny_call_function hr.depth (KX _ _ lk) rfl S.co S.gen rfl (PySem.W.codeRec_of KX hcd) (hb _ _ _ _ ?_)
  refine wpAny_newFunctionEnv_cells S.kind (fun y hy => ?_) fun env he s1 x => ?_
  · rcases S.par y.1 (List.of_mem_zip (show (y.1, y.2) ∈ ps.zip us from hy)).1 with q | q
    · exact Or.inl q
    · exact Or.inr (And.intro q (PySem.W.cellsFrom_some _ _ _ (Or.inl q)))
  subst he
  refine And.intro (lim.keeps x.toInCall.keep) (codeAny_func ?_)
  obtain ⟨t, ht, hq⟩ := hbody cdv A outer s H vs Q E hg (hr.deeper _) hsp
  refine wpAny_mono (ht.nox.run [] s1 (start N vs) H _ (inv_start S hr.hd e0 (len _ _ _ _ hsp) r x) hq) (fun fl s' hs => ?_) fun _ _ hs => hs
  match fl, hs with
  | .ret u, ⟨v, σ', H', J, rv, q⟩ => exact ⟨v, H', J.os, J.bare, J.base, J.hok, rv, q⟩
  | .next, ⟨σ', H', J, q⟩ => exact ⟨V.non, H', J.os, J.bare, J.base, J.hok, rfl, q⟩
  | .brk, ⟨_, _, _, q⟩ => exact q.elim
  | .cont, ⟨_, _, _, q⟩ => exact q.elim
end

/-! ### calls -/
section
variable {X : Cx} {CX : CXT} {k : Nat} {f C : Addr} {fd : FuncData} {ps ks : List Str} {sp : Sp} {E : XK} {x m : Str} {p pos apos : Pos} {e o : Expr} {es : List Expr} {kws : List Keyword} {ta : TE} {t tk : TA} {dvs : List V} {ds : List Value}
theorem run_fnG {pins : List (Addr × Obj)} {σ : L2.St} {H : Hp} {s : Shared} {Q : VK} {us : List Value} {vs : List V} (F : FnG X.prog X.w X.K X.mg X.base CX k f fd ps sp) (hg : X.A.guards = some []) (hr : Room k X.A) (hb : Binds X.K fd ps ds) (hd : Vals dvs ds)
    (hx : Passes CX X E) (I : Inv X pins σ H s) (r : Vals vs us) (h : sp (vs ++ dvs) H Q E) : wpAny (model X.prog X.w) X.A (call (.ref f) us) (EP X pins σ Q) X.xe s := by
  have r2 := r.append hd
  have hl : (us ++ ds).length = ps.length := r2.length.symm.trans (F.lenG _ _ _ _ h)
  refine wpAny_call (codeAny_mono (F.runG X.A X.stack s H ⟨us, []⟩ (us ++ ds) (vs ++ dvs) Q E hg hr I.env0 (hb s us I.kIn hl) r2 h) fun r s' hq => ?_)
  match r, hq with
  | .error e, hq => exact hx pins σ H s e s' I hq
  | .ok (.ret u), hq => exact I.after hq
  | .ok .next, hq => exact hq.elim
  | .ok .brk, hq => exact hq.elim
  | .ok .cont, hq => exact hq.elim
/-- f(e, ..), f by FnG -/
theorem pe_callG (F : FnG X.prog X.w X.K X.mg X.base CX k f fd ps sp) (hg : X.A.guards = some []) (hr : Room k X.A) (hgl : Gl X x) (hm : X.mg x = some (.ref f)) (hk : PySem.W.keepIn X.K (.ref f) = true) (hb : Binds X.K fd ps ds) (hd : Vals dvs ds) (hx : Passes CX X E)
    (ha : PA X (e :: es) t) (hdb : (x == ("__debug__" : Str)) = false := by decide) (he : starEach (e :: es) X.env = (false, eval e X.env) :: starEach es X.env := by rfl) (hpl : (backTo pos (starEach es X.env)).any (·.1) = false := by rfl) :
    PE X (.Call (.Name x p) (e :: es) [] pos) (tCall sp dvs E t) := by
  constructor
  intro pins s σ H Q I h
  refine wpAny_Call_Name_kw (ld_glob I hgl hm (PySem.W.callWith_K (h₀ := X.base) I.ok.mod.kin hk (thn (ha.run pos pins s σ H _ I h) fun us s1 q => ?_) he hpl) hdb)
  obtain ⟨vs, H1, I1, r, q⟩ := q
  exact ⟨I1.kIn, run_fnG F hg hr hb hd hx I1 r q⟩
/-- o.m(k = v, ..): keywords alone -/
theorem pe_methK {g : List Value → List Value → List Value} {gV : List V → List V → List V} {pl : Sem Bool} (he : PE X o ta) (c : Cls X.K C) (hm : Meth X.K C m f) (F : FnOk X.prog X.w X.K X.mg X.base CX k f fd ps sp) (hr : Room k X.A) (hb : KBinds X.K fd ps ks g gV)
    (hx : Passes CX X E) (hkw : PK X kws tk) (hall : (backToKw pos (keywordEach kws X.env)).all (·.1.isSome) = true := by rfl) (hks : (backToKw pos (keywordEach kws X.env)).filterMap (·.1) = ks := by rfl)
    (hpl : ((backTo pos (starEach [] X.env)).any (·.1) || (backToKw pos (keywordEach kws X.env)).any (·.1.isNone)) = false := by rfl)
    (ht : eval (.Call (.Attribute o m apos) [] kws pos) X.env = (do
      let ov ← eval o X.env
      standAt apos.atName
      let fx ← holding [ov] (getMethod ov m pl)
      callWith pos fx.1 fx.2 (backTo pos (starEach [] X.env)) (backToKw pos (keywordEach kws X.env))) := by rfl) :
    PE X (.Call (.Attribute o m apos) [] kws pos) (fun σ H Q => ta σ H fun x H1 => ∃ a dx fs, x = .ref a ∧ H1 a = some (.ins C dx fs) ∧ fs.lookup m = none ∧ tk σ H1 fun zs H2 => sp (gV [x] zs) H2 Q E) := by
  constructor
  intro pins s σ H Q I h
  refine PySem.W.methodCall_KW (pl := pl) (thn (he.run pins s σ H _ I h) fun u s1 z => ?_) ht
  obtain ⟨x, H1, I1, rx, a, dx, fs, ex, ea, l, q⟩ := z
  subst ex
  cases rx
  refine getmeth_ok I1 ea c hm l ?_
  refine PySem.W.callWith_KW0 (first := [.ref a]) (h₀ := X.base) I.ok.mod.kin hm.kp hall (thn (hkw.run pos pins s1 σ H1 _ I1 q) fun ws s2 z => ?_) hpl
  obtain ⟨zs, H2, I2, rz, q2⟩ := z
  refine ⟨I2.kIn, ?_⟩
  rw [hks]
  exact run_fnk (us := [.ref a]) (vs := [.ref a]) F hr hb hx I2 (.cons rfl .nil) rz q2
end

/-! ### the end of a law -/
theorem law_callG {P : Program} {w : World} {K : PySem.W.Frag} {mg mb : Str → Option Value} {CX : CXT} {k : Nat} {fa a : Addr} {fd : FuncData} {x : Str} {sp : Sp} {s₁ : Shared} {vs : List Value} {ns : List Int}
    (KX : K.In s₁.heap) (hns : s₁.heap.Ns mainGlobals mg) (hb : s₁.heap.Ns builtinsNs mb) (hbb : ∀ x : Str, x ≠ "__name__" → mb x = bootBuiltins x) (hlim : s₁.heap.NoLimit) (hg : s₁.gens = #[])
    (ha : s₁.heap.get? a = some { cls := .type "list", data := .seq vs.toArray }) (hi : IntsAre vs ns) (hl : ns.length ≤ sizeLine) (hr : Room k callerA)
    (F : ∀ base : Heap, K.In base → base.Ns mainGlobals mg → FnG P w K mg base CX k fa fd [x] sp) (hbind : ∀ (s : Shared) (u : Value), BindsTo s fd ⟨[u], []⟩ [(x, u)])
    (hsp : ∀ H : Hp, Only H → SqL K H a (ns.map V.int) → sp [.ref a] H (fun v _ => v = .bl true) fun _ _ _ => False)
    (hCX : ∀ H e s', CX [] H s₁ (fun _ _ _ => False) e s' → False) :
    codeAny (model P w) callerA (.call (.ref fa) ⟨[.ref a], []⟩) (fun r s' => r = .ok (.ret (.bool true)) ∧ OldK s₁.heap s'.heap ∧ s'.os = s₁.os ∧ AllBare s'.gens) s₁ := by
  -- the call itself, for a heap in which the script alone may be tracked
  have go : ∀ H : Hp, Only H → SqL K H a (ns.map V.int) → HOk P w H s₁.heap → (∀ b u, H b = some u → b = a ∧ K.lookup a = none) →
      codeAny (model P w) callerA (.call (.ref fa) ⟨[.ref a], []⟩) (fun r s' => r = .ok (.ret (.bool true)) ∧ OldK s₁.heap s'.heap ∧ s'.os = s₁.os ∧ AllBare s'.gens) s₁ := by
    intro H hO hS hok hA
    have free : ∀ b : Addr, (b ≠ a ∨ K.lookup a ≠ none) → H b = none := by
      intro b z
      cases q : H b with
      | none => rfl
      | some u => exact (z.elim (fun z => z (hA b u q).1) fun z => z (hA b u q).2).elim
    have notSeq : ∀ {b : Addr} {m : Str → Option Value}, s₁.heap.Ns b m → b ≠ a := by
      rintro b m ⟨o, es, ep, e, d, _⟩ rfl
      rw [ha] at e
      cases e
      cases d
    have inH : ∀ {b : Addr} {m : Str → Option Value}, s₁.heap.Ns b m → (hidT s₁.heap H).Ns b m := by
      intro b m n
      have nb := free b (Or.inl (notSeq n))
      obtain ⟨o, es, ep, e, r⟩ := n
      exact ⟨o, es, ep, hidT_get e nb, r⟩
    have kin : K.In (hidT s₁.heap H) := by
      intro b o e
      refine hidT_get (KX b o e) ?_
      by_cases hb : b = a
      · exact free b (Or.inr (by rw [← hb, e]; exact fun z => nomatch z))
      · exact free b (Or.inl hb)
    have lim2 : (hidT s₁.heap H).NoLimit := by
      obtain ⟨mc, h1, h2⟩ := hlim
      exact ⟨mc, inH h1, h2⟩
    have e0 : Env0 P w K mg (hidT s₁.heap H) callerA [] s₁ H := by
      refine ⟨rfl, ⟨kin, inH hns, ⟨mb, inH hb, hbb⟩, lim2⟩, fun b o e => of_hidT e, Nat.le_of_eq (hidT_size _ _), True.intro, ?_, hok, .of_eq hg⟩
      intro b hb
      cases hb
    refine codeAny_mono ((F _ kin (inH hns)).runG callerA [] s₁ H ⟨[.ref a], []⟩ [.ref a] [.ref a] _ _ rfl hr e0 (hbind s₁ (.ref a)) (.cons rfl .nil) (hsp H hO hS)) fun r s' h => ?_
    match r, h with
    | .error e, h => exact (hCX H e s' h).elim
    | .ok .next, h => exact h.elim
    | .ok .brk, h => exact h.elim
    | .ok .cont, h => exact h.elim
    | .ok (.ret u), ⟨v, H', os, bare, un, hok', rv, q⟩ =>
      have q2 : v = .bl true := q
      subst q2
      cases rv
      refine ⟨rfl, OldK.of_keep (fun b o e => ?_), os, bare⟩
      rcases hO b with z | ⟨ob, xs, z⟩
      · exact un.keep b o e z (fun z => nomatch z) (fun z => nomatch z)
      · have z1 := (hok b _ z).1
        have z2 := (hok' b _ (un.frzs b ob _ z)).1
        rw [z1] at e
        rw [z2, e]
  have rv := vals_ints hi
  have hlen : (ns.map V.int).length ≤ sizeLine := by rw [List.length_map]; exact hl
  cases hk : K.lookup a with
  | some o =>
    have e := KX a o hk
    rw [ha] at e
    cases e
    exact go (fun _ => none) (fun _ => Or.inl rfl) (Or.inr ⟨_, vs.toArray, _, hk, rfl, rfl, rfl, by rw [List.size_toArray, hi.length]; exact hl, by simpa using rv⟩) (fun b u z => nomatch z) fun b u z => nomatch z
  | none =>
    have at_ : ∀ b u, (if b = a then some (HO.frz { cls := .type "list", data := .seq vs.toArray } (.lst (ns.map V.int))) else none) = some u → b = a ∧ u = .frz { cls := .type "list", data := .seq vs.toArray } (.lst (ns.map V.int)) := by
      intro b u z
      split at z
      · rename_i hb
        exact ⟨hb, (Option.some.inj z).symm⟩
      · cases z
    refine go (fun b => if b = a then some (.frz { cls := .type "list", data := .seq vs.toArray } (.lst (ns.map V.int))) else none) (fun b => ?_) (Or.inl (Or.inr ⟨_, if_pos rfl⟩)) (fun b u z => ?_) fun b u z => ⟨(at_ b u z).1, hk⟩
    · by_cases hb : b = a
      · exact Or.inr ⟨_, _, if_pos hb⟩
      · exact Or.inl (if_neg hb)
    · obtain ⟨rfl, rfl⟩ := at_ b u z
      exact ⟨ha, hlen, vs, _, rv, ha⟩

theorem walk_ofG {l : PySem.W.OpenLaw} {n k : Nat} {q : Program} {loose : List Str} {XP : (Str → Option Value) → Heap → Prop} {YP : World → Heap → Prop} {d : DefRec} {K : Params → PySem.W.Frag} {CX : World → CXT} {sp : World → Sp} {x : Str}
    (hn : l.most = some n) (hn2 : n ≤ sizeLine) (hdf : d.params.defaults = []) (hr : Room k callerA) (hY : ∀ (w : World) (h : Heap), YP w h → (K w.params).In h)
    (F : ∀ (w : World) (mg : Str → Option Value) (fa : Addr) (h : Heap), (K w.params).In h → h.Ns mainGlobals mg → mg d.name = some (.ref fa) →
      ∃ fd : FuncData, (∀ (s : Shared) (u : Value), BindsTo s fd ⟨[u], []⟩ [(x, u)]) ∧ ∀ base : Heap, (K w.params).In base → base.Ns mainGlobals mg → FnG l.prog w (K w.params) mg base (CX w) k fa fd [x] (sp w))
    (hsp : ∀ (w : World) (H : Hp) (a : Addr) (ns : List Int), ns.length ≤ n → (∀ z ∈ ns, Builtin.Int.intBits z ≤ 1048576) → Only H → SqL (K w.params) H a (ns.map V.int) → sp w [.ref a] H (fun v _ => v = .bl true) fun _ _ _ => False)
    (hCX : ∀ (w : World) (H : Hp) (s : Shared) (e : Value) (s' : Shared), CX w [] H s (fun _ _ _ => False) e s' → False) :
    PySem.W.WalkO q loose XP YP l.row.toRowW d [] (fun f vs => PySem.call f vs) := by
  apply Att.attach_callB hn hdf
  intro w s₀ s₁ mg mb fa o pm cd doc a vs ns G Y _ _ _ hmg hobj hints hlen hbits hg
  obtain ⟨fd, hb, hF⟩ := F w mg fa _ (hY w _ Y) G.T.g hmg
  exact law_callG (hY w _ Y) G.T.g G.T.b G.T.builtins G.T.nolimit hg hobj hints (Nat.le_trans hlen hn2) hr hF hb (fun H hO hS => hsp w H a ns hlen hbits hO hS) fun H e s' => hCX w H s₁ e s'
end So

namespace So
open PySem PySem.Spec PyProof.Rows L2
section
variable {K : PySem.W.Frag} {C : Addr}
theorem kit_self : PySem.W.kitOne K (.ref C) (.ref C) = some true := by
  unfold PySem.W.kitOne
  rw [if_pos]
  simp
/-- no built-in type stands below an own class -/
theorem sub_ty {T : String} (h : (fastBuiltinMro T).map (fun l => l.all fun v => match v with | .type _ => true | _ => false) = some true) : PySem.W.subIn K (.type T) (.ref C) = some false := by
  show (fastBuiltinMro T).map (·.contains (.ref C)) = some false
  cases e : fastBuiltinMro T with
  | none => rw [e] at h; cases h
  | some l =>
    rw [e] at h
    have h2 : (l.all fun v => match v with | .type _ => true | _ => false) = true := Option.some.inj h
    show some (l.contains (.ref C)) = some false
    congr 1
    cases c : l.contains (.ref C) with
    | false => rfl
    | true =>
      have m : (Value.ref C) ∈ l := by simpa using c
      have := List.all_eq_true.mp h2 _ m
      cases this
theorem notFirst_ty {T : String} (h : (fastBuiltinMro T).map (fun l => l.all fun v => match v with | .type _ => true | _ => false) = some true) : PySem.W.notFirst K C (.type T) = true := by
  unfold PySem.W.notFirst
  rw [sub_ty h]
  simp
theorem kit_no {T : String} (hc : PySem.W.isClsIn K C = true) (ht : PySem.W.typeIn K (.ref C) = some (.type "type")) (h : (fastBuiltinMro T).map (fun l => l.all fun v => match v with | .type _ => true | _ => false) = some true) : PySem.W.kitOne K (.type T) (.ref C) = some false := by
  unfold PySem.W.kitOne PySem.W.kitCls
  unfold PySem.W.isClsIn at hc
  have hb : ((PySem.W.clsIn K C).isSome && PySem.W.typeIn K (.ref C) == some (.type "type")) = true := by
    rw [hc, ht]
    simp
  have sb := sub_ty (K := K) (C := C) h
  simp [hb, sb]
end
end So

/-! So, on: exceptions that are kept as values. -/
namespace So
open PySem PySem.Spec PyProof.Rows L2
/-- an exception object of the class cls, its dict at d, that stands at a and is nobody's news -/
def Xo (cls : Value) (d : Option Addr) (a : Addr) : HO := .ext fun h => ∃ (oe : Obj) (vs : Array Value), h.get? a = some oe ∧ Zc cls d oe ∧ oe.data = .fields vs
theorem xo_ok {P : Program} {w : World} {H : Hp} {h : Heap} {a : Addr} {cls : Value} {d : Option Addr} {oe : Obj} {vs : Array Value} (e : h.get? a = some oe) (z : Zc cls d oe) (f : oe.data = .fields vs) : ObjOk P w H h a (Xo cls d a) := by
  refine ⟨⟨oe, vs, e, z, f⟩, ⟨oe, e⟩, ?_⟩
  rintro h1 h2 ⟨o, v, q, r⟩ k
  exact ⟨o, v, k o q, r⟩
theorem xo_at {P : Program} {w : World} {H : Hp} {h : Heap} {a : Addr} {cls : Value} {d : Option Addr} (hok : HOk P w H h) (e : H a = some (Xo cls d a)) : ∃ (oe : Obj) (vs : Array Value), h.get? a = some oe ∧ Zc cls d oe ∧ oe.data = .fields vs := by
  have x : ObjOk P w H h a (.ext fun h => ∃ (oe : Obj) (vs : Array Value), h.get? a = some oe ∧ Zc cls d oe ∧ oe.data = .fields vs) := hok a _ e
  exact x.1
section
variable {X : Cx} {pins : List (Addr × Obj)} {σ : L2.St} {H : Hp} {s sI : Shared} {a : Addr} {cls : Value} {d : Option Addr} {oe : Obj} {vs : Array Value}
/-- an exception that has landed is tracked from now on -/
theorem track (J : Inv X pins σ H sI) (hex : X.ex = []) (hI : sI.heap.get? a = none) (I : Inv X pins σ H s) (he : s.heap.get? a = some oe) (hz : Zc cls d oe) (hd : oe.data = .fields vs) (na : H a = none) (nL : a ≠ X.env.locals) :
    Inv X pins σ (upd H a (Xo cls d a)) s := by
  have h0 : ∀ b o, X.s_0.heap.get? b = some o → b ≠ a := by
    rintro b o e rfl
    obtain ⟨o', e'⟩ := J.base.there b o e (by rw [hex]; exact fun z => nomatch z)
    rw [hI] at e'
    cases e'
  have hs : ∀ {b : Addr} {u : HO}, H b = some u → (upd H a (Xo cls d a)) b = some u := fun e => (upd_ne (ne_of_none e na)).trans e
  refine ⟨I.ok, I.os, I.bare, ⟨I.base.keep, I.base.slot, fun b o e n hx => (upd_ne (h0 b o e)).trans (I.base.free b o e n hx), I.base.there, fun b xs q => hs (I.base.tups b xs q), fun b o u q => hs (I.base.frzs b o u q), fun b ps q => ?_⟩,
    I.loc, I.cell, (upd_ne nL.symm).trans I.free, fun x c e => ?_, fun p hp => ?_, fun b u e => ?_, I.len⟩
  · obtain ⟨m, q'⟩ := I.base.tbls b ps q
    exact ⟨m, hs q'⟩
  · refine (upd_ne ?_).trans (I.freeC x c e)
    rintro rfl
    obtain ⟨v, o, ho, hc⟩ := I.cell x c e
    rw [he] at ho
    cases ho
    rw [hd] at hc
    cases hc
  · obtain ⟨p1, p2, p3, p4, p5⟩ := I.pin p hp
    refine ⟨p1, (upd_ne ?_).trans p2, p3, p4, p5⟩
    intro z
    have := (J.pin p hp).1
    rw [z, hI] at this
    cases this
  · by_cases hb : b = a
    · subst hb
      rw [upd_same] at e
      cases e
      exact xo_ok he hz hd
    · rw [upd_ne hb] at e
      exact (I.hok b u e).stay (fun _ _ _ q => q) (fun c q => hs q) fun c xs q => hs q
end

/-! ### try: body, except x as n: suite, the exception kept as a value -/
/-- what such a clause wishes of an exception of the body -/
def wKeep (K : PySem.W.Frag) (c : Value) (i : Nat) (ts : TS) (Wout : WX) (D : Ends) : WX := fun cls d σ H =>
  ∃ b, PySem.W.exmOne K cls c = some b ∧ (b = true → ∀ a, H a = none → ts { nx := fun σ' H' => D.nx (σ'.set i none) H', rt := D.rt, bk := fun σ' H' => D.bk (σ'.set i none) H', ct := fun σ' H' => D.ct (σ'.set i none) H' } (σ.set i (some (.ref a))) (upd H a (Xo cls d a))) ∧
    (b = false → Wout cls d σ H)
section
variable {X : Cx} {x n : Str} {c : Value} {i : Nat} {body suite : List Stmt} {b₀ : Stmt} {np pos pos' : Pos} {tb : WX → TS} {ts : TS} {Wout : WX}
theorem ps_try_keep (hs : X.stack = X.env :: X.outer) (hf : X.env.frame = some X.env.locals) (hex : X.ex = []) (hN : X.N.Nodup) (hi : X.N[i]? = some n) (hln : X.env.kindOf n = some .local) (hc : Names X x c) (tk : Takes X Wout)
    (hb : ∀ (W : WX) (pn : List (Addr × Obj)) (xe : Value → Shared → Prop), Takes (X.tr pn xe) W → PassesOwn (model X.prog X.w) X.A X.env xe → PSs (X.tr pn xe) body (tb W))
    (hsu : ∀ (a : Addr) (pn : List (Addr × Obj)), PSs (X.suite a pn) (b₀ :: suite) ts) :
    PS X (.Try body [.ExceptHandler (some (.Name x np)) (some n) (b₀ :: suite) pos'] [] [] pos) (fun D σ H => tb (wKeep X.K c i ts Wout D) D σ H) := by
  constructor
  intro pins s σ H D I h
  have ok := I.ok
  have hfr : X.A.frames = some (X.env :: X.outer) := ok.frames.trans (congrArg some hs)
  refine wpAny_Try_except (wpAny_mono ((hb (wKeep X.K c i ts Wout D) (X.pn ++ pins) (fun e s₁ => wpAny (model X.prog X.w) X.A (noteFrame e X.env) (fun _ s₂ => wpAny (model X.prog X.w) X.A (setFlight e none) (fun _ s₃ =>
    wpAny (model X.prog X.w) X.A (handleBy e X.env [.ExceptHandler (some (.Name x np)) (some n) (b₀ :: suite) pos']) (SP X pins D) X.xe s₃) X.xe s₂) X.xe s₁) (fun u s' xx => ?_) PassesOwn.looking).run [] s σ H D (I.toTry _) h) (fun f s1 hsp => ?_) fun e s1 he => he)
  · obtain ⟨a, B, sI, pins', σ', H', cls, d, rfl, J', nb, up, sky, na, os, ag, b, hb1, hyes, hno⟩ := xx
    have J : Inv X pins σ' H' sI := J'.ofTry ok
    have sky' : Sky B (X.env :: X.outer) a (Zc cls d) X.env.locals s'.heap := hs ▸ sky
    refine Sky.land Zc.steady hfr hf sky' fun h3 fl3 up3 => ?_
    have J3 : Inv X pins σ' H' { s' with heap := h3 } := J.landed nb fl3.1 (up.trans up3) os ag
    obtain ⟨oe3, vs3, he3, hz3, hd3⟩ := fl3.there
    have nfr : a ∉ frs (X.env :: X.outer) := fun hm => by
      obtain ⟨_, o', e', hnf⟩ := fl3.2.2.1.mem hm
      rw [he3] at e'
      cases e'
      exact hnf _ hd3
    have nL : a ≠ X.env.locals := fun z => nfr (by
      refine List.mem_filterMap.mpr ⟨X.env, List.mem_cons_self, ?_⟩
      rw [hf, z])
    have hBa : B.get? a = none := fl3.2.1
    have hIa : sI.heap.get? a = none := by
      cases e : sI.heap.get? a with
      | none => rfl
      | some o =>
        have := nb a o e (by rw [hs]; exact nfr)
        rw [hBa] at this
        cases this
    refine wpAny_handleBy_cons (codeAny_handlers_test ?_) (by intro q; cases q)
    have LT : PySem.W.Looks (model X.prog X.w) h3 (typeOf (.ref a)) cls := by
      intro A Q E s k q
      refine wpAny_typeOf_ref (k _ _ he3) ?_
      rw [hz3.1]
      exact q
    have LM := PySem.W.exm_one (M := model X.prog X.w) (J3.kIn) LT hb1
    have S0 : ∀ {h4 : Heap}, Inv X pins σ' H' { s' with heap := h4 } → ∀ {o : Obj} {v : Array Value}, h4.get? a = some o → Zc cls d o → o.data = .fields v → Inv (X.suite a (X.pn ++ pins)) [] σ' (upd H' a (Xo cls d a)) { s' with heap := h4 } := by
      intro h4 J4 o v e z dt
      have T := track J hex hIa J4 e z dt na nL
      exact ⟨T.ok.suite _ _, T.os, T.bare, T.base, T.loc, T.cell, T.free, T.freeC, fun p hp => T.pin p (by rwa [List.append_nil] at hp), T.hok, T.len⟩
    have S3 := S0 J3 he3 hz3 hd3
    have test : ∀ {Q : Value → Shared → Prop} {E : Value → Shared → Prop}, Q c { s' with heap := h3 } → wpAny (model X.prog X.w) (X.A.mark (some (.ref a))) (eval (.Name x np) X.env) Q E { s' with heap := h3 } := by
      intro Q E q
      rcases hc with ⟨hg, hdbg, hm | ⟨hm, hv, hnn⟩⟩
      · exact ld_glob (X := X.suite a (X.pn ++ pins)) S3 hg hm q hdbg
      · exact ld_blt (X := X.suite a (X.pn ++ pins)) S3 hg hm hv q hnn hdbg
    refine test (LM.here ?_)
    cases b with
    | true =>
      refine codeAny_handlers_suite_as (HandSPX.lands_againZ fl3 fun h4 fl4 up4 => ?_)
      have J4 : Inv X pins σ' H' { s' with heap := h4 } := J.landed nb fl4.1 ((up.trans up3).trans up4) os ag
      obtain ⟨oe4, vs4, he4, hz4, hd4⟩ := fl4.there
      have S4 := S0 J4 he4 hz4 hd4
      refine store_ok (X := X.suite a (X.pn ++ pins)) (v := .ref a) S4 hN hi (.inl hln) rfl (fun s5 S5 => ?_) (.inr hln)
      refine wpAny_mono ((hsu a (X.pn ++ pins)).run [] s5 _ _ _ S5 (hyes rfl a na)) (fun f s6 hsp => ?_) (fun _ _ z => z.elim)
      have out : ∀ {σ6 : L2.St} {H6 : Hp}, Inv (X.suite a (X.pn ++ pins)) [] σ6 H6 s6 → Inv X pins σ6 H6 s6 := fun S6 =>
        ⟨ok, S6.os, S6.bare, S6.base, S6.loc, S6.cell, S6.free, S6.freeC, fun p hp => S6.pin p (List.mem_append_left _ hp), S6.hok, S6.len⟩
      match f, hsp with
      | .next, ⟨σ6, H6, S6, q6⟩ => exact gone_ok (out S6) hN hi hln fun s7 J7 => ⟨_, _, J7, q6⟩
      | .brk, ⟨σ6, H6, S6, q6⟩ => exact gone_ok (out S6) hN hi hln fun s7 J7 => ⟨_, _, J7, q6⟩
      | .cont, ⟨σ6, H6, S6, q6⟩ => exact gone_ok (out S6) hN hi hln fun s7 J7 => ⟨_, _, J7, q6⟩
      | .ret u, ⟨v6, σ6, H6, S6, r6, q6⟩ => exact gone_ok (out S6) hN hi hln fun s7 J7 => ⟨_, _, _, J7, r6, q6⟩
    | false =>
      refine wpAny_handleBy_nil ?_
      obtain ⟨_, _, _, oe, vs, T, _, _, he, _, hd, h1, _⟩ := id fl3
      unfold PySem.passOn
      refine wpAny_bind (wpAny_field he hd h1 ?_)
      have nn : ¬ ((Value.ref T == Value.none) = true) := by simp
      rw [if_neg nn]
      have fin : wpAny (model X.prog X.w) X.A (setFlight (.ref a) X.env.frame) (fun _ s4 => wpAny (model X.prog X.w) X.A (throw (.ref a) : Sem Flow) (SP X pins D) X.xe s4) X.xe { s' with heap := h3 } := by
        rw [hf]
        refine HandSPX.setFlight_upZ fl3 fun h4 hh4 up4 => wpAny_throw (tk _ _ ⟨a, B, sI, pins, σ', H', cls, d, rfl, J, nb, (up.trans up3).trans up4, ?_, na, os, ag, hno rfl⟩)
        exact Or.inr (Or.inr (hs ▸ hh4))
      first
        | exact wpAny_bind (wpAny_pure (wpAny_bind fin))
        | exact wpAny_bind fin
  · match f, hsp with
    | .next, ⟨σ', H', J', q⟩ => exact wpAny_execs_nil ⟨σ', H', J'.ofTry ok, q⟩
    | .brk, ⟨σ', H', J', q⟩ => exact ⟨σ', H', J'.ofTry ok, q⟩
    | .cont, ⟨σ', H', J', q⟩ => exact ⟨σ', H', J'.ofTry ok, q⟩
    | .ret u, ⟨v, σ', H', J', r, q⟩ => exact ⟨v, σ', H', J'.ofTry ok, r, q⟩
end
end So

namespace So
open PySem PySem.Spec PyProof.Rows L2
/-- what an error class of the program's own says of its instances -/
structure Err (K : PySem.W.Frag) (C : Addr) : Prop where
  ga : PySem.W.findIn K (.ref C) "__getattribute__" = some (some (.builtin "BaseException.__getattribute__"))
  gg : PySem.W.findIn K (.ref C) "__getattr__" = some none
  exC : PySem.W.subIn K (.ref C) (.type "BaseException") = some true
  hdC : PySem.W.hasDictIn K C = true
  ca : PySem.W.findIn K (.ref C) "__class__" = some (some (.builtin "object.__class__"))
  cn : PySem.W.specialIn K (.builtin "object.__class__") "__get__" = some (some (.builtin "getset_descriptor.__get__"))
  ct : PySem.W.takesIn K (.builtin "object.__class__") = some true
  cm : PySem.W.mroIn K C (.type "object") = some true
section
variable {X : Cx}
/-- e.n, e an exception that is kept -/
theorem pe_xo {C : Addr} {e : Expr} {te : TE} {pos : Pos} {n : Str} (T : Err X.K C) (hno : PySem.W.findIn X.K (.ref C) n = some none) (he : PE X e te) (hb : attributeBase e n X.env (eval e X.env) = eval e X.env := by rfl) :
    PE X (.Attribute e n pos) (fun σ H Q => te σ H fun x H1 => ∃ (a dd : Addr) (fs : List (Str × V)) (v : V), x = .ref a ∧ H1 a = some (Xo (.ref C) (some dd) a) ∧ H1 dd = some (.xd fs) ∧ fs.lookup n = some v ∧ Q v H1) := by
  constructor
  intro pins s σ H Q I h
  refine attr_of hb (thn (he.run pins s σ H _ I h) fun u s1 hh => ?_)
  obtain ⟨x, H1, I1, rx, a, dd, fs, v, rfl, ha, ea, l, q⟩ := hh
  cases rx
  obtain ⟨oe, vs, hg, hz, hd⟩ := xo_at I1.hok ha
  obtain ⟨mA, hns, hr⟩ := (show ObjOk X.prog X.w H1 s1.heap dd (.xd fs) from I1.hok dd _ ea)
  obtain ⟨od, ho, hl⟩ := lookIn_ns hns
  have hrn := hr n
  rw [l] at hrn
  obtain ⟨u, hu, ru⟩ := RelO.some_of hrn
  have nc : PySem.W.notCls oe = true := by
    unfold PySem.W.notCls
    rw [hd]
  have J : PySem.W.InstAt s1.heap a oe C (some od) := by
    refine ⟨hg, hz.1, nc, ?_⟩
    rw [hz.2]
    exact ho
  have fo := PySem.W.findObj_own (K := X.K) (C := C) (od := od) (name := n) (v := u) T.hdC hno rfl (by rw [hl, hu])
  exact HandSPX.exc_get I1.kIn J T.ga T.gg T.exC fo (handed_of ru) ⟨v, H1, I1.tok _, ru, q⟩
end
/-! ### isinstance of a kept exception -/
section
open PySem.W PySem.Calls
variable {prog : Program} {w : World} {A : Around} {E : Value → Shared → Prop} {K : Frag} {x D : Addr} {ox : Obj} {od : Option Obj}
theorem err_class {Q : Option Value → Shared → Prop} (T : Err K D) (hp : Heap) (g : Array GenState) (dr : Drawn) (t : Nat) (os : OsState) (X : K.In hp) (I : InstAt hp x ox D od)
    (h : Q (some (.ref D)) ⟨hp, g, dr, t + 1, os⟩) : wpAny (model prog w) A (getAttr? (.ref x) "__class__") Q E ⟨hp, g, dr, t, os⟩ := by
  have isc : (clsIn K D).isSome = true := by
    obtain ⟨cd, hc, _⟩ := any_some T.hdC
    rw [hc]
    rfl
  have hf : findObj K D od "__class__" = some (.bind (.builtin "getset_descriptor.__get__") (.builtin "object.__class__")) := by
    cases od with
    | none => exact findObj_dataN isc T.ca T.cn T.ct
    | some o => exact findObj_data isc T.ca T.cn T.ct
  have k0 := I.type (M := model prog w)
  have k1 := looks_findIn (M := model prog w) X T.ga
  have k2 := looks_findIn (M := model prog w) X T.gg
  have k3 := looks_find (M := model prog w) X I hf
  have below : Looks (model prog w) hp (isInstance (.ref x) (.type "BaseException")) true := k0.andThen (looks_subIn X T.exC)
  have ne : (Value.builtin "BaseException.__getattribute__" == Value.builtin "object.__getattribute__") = false := by decide +kernel
  have both : (onTheHeap (Value.ref D) && Value.builtin "BaseException.__getattribute__" == Value.builtin "object.__getattribute__") = false := by
    rw [ne]
    exact Bool.and_false _
  have own : onTheHeap (Value.ref D) = true := rfl
  have noheap : (false && onTheHeap (Value.builtin "BaseException.__getattribute__")) = false := rfl
  unfold getAttr? getAttrBy? getAttrBy
  apply wpAny_bind
  apply wpAny_mkText
  apply wpAny_bind
  apply wpAny_attempt
  apply wpAny_holding
  apply wpAny_bind
  apply k0.at
  apply wpAny_bind
  apply k1.at
  show wpAny _ _ (ite ((onTheHeap (Value.ref D) && Value.builtin "BaseException.__getattribute__" == Value.builtin "object.__getattribute__") = true) _ _) _ _ _
  rw [both, if_neg (by decide)]
  unfold getAttrByItsOwn hookBefore
  apply wpAny_bind
  rw [if_pos own]
  apply k2.at
  apply wpAny_bind
  apply wpAny_attempt
  apply wpAny_holding
  unfold callGetattribute
  rw [noheap, if_neg (by decide)]
  unfold boundAndCalled
  rw [F.excAttr_ValueError.ga.bind (.ref x)]
  apply wpAny_bind
  apply wpAny_pure
  show wpAny _ _ (call (.builtin "BaseException.__getattribute__") [.ref x, .str "__class__" t]) _ _ _
  apply wpAny_call
  refine codeAny_call_builtin F.excAttr_ValueError.ga.plain F.entry_bexc_ga (@check_slot (model prog w) _ _ ⟨hp, g, dr, t + 1, os⟩ "BaseException.__getattribute__" "BaseException" "__getattribute__" (.ref x) [.str "__class__" t] [] _ (by decide +kernel) (by decide +kernel) below (F.args_bexc_ga (.ref x) (.str "__class__" t)) ?_)
  unfold Builtin.«object.__getattribute__»
  apply wpAny_bind
  refine wpAny_of_eq (a := ((Value.ref x : Value), [Value.str "__class__" t])) (by first | rfl | (simp only [slotArgs]; rfl)) ?_
  apply wpAny_bind
  apply wpAny_pure
  apply wpAny_bind
  apply k0.at
  apply wpAny_bind
  apply k3.at
  show wpAny _ _ (holding [Value.builtin "object.__class__"] (call (.builtin "getset_descriptor.__get__") [.builtin "object.__class__", .ref x, .ref D]) >>= ret) _ _ _
  apply wpAny_bind
  apply wpAny_holding
  apply wpAny_call
  refine class_get (s := ⟨hp, g, dr, t + 1, os⟩) (ox := ox) (od := od) X I T.cm (wpAny_pure ?_)
  show wpAny _ _ (handedOut (.ref D)) _ _ _
  rw [handedOut_of (v := .ref D) rfl]
  first
    | exact wpAny_pure (wpAny_pure h)
    | exact wpAny_pure h
    | exact wpAny_pure (wpAny_bind (wpAny_pure (wpAny_pure h)))
theorem kitx_err (T : Err K D) : KitX K (.ref x) (.ref D) (fun h => ∃ ox od, InstAt h x ox D od) where
  ty := fun _ _ _ ⟨_, _, I⟩ => I.type
  it := fun _ _ X _ => by
    obtain ⟨cd, hc, _⟩ := any_some T.hdC
    unfold clsIn at hc
    split at hc
    · rename_i ho
      intro A' Q' E' s' k q
      unfold isType loadHead
      exact wpAny_bind (wpAny_loadPart (k _ _ (X _ _ ho)) (wpAny_pure q))
    · cases hc
  ne := fun h tp dd its n sl X htp => by
    cases q : (Value.ref D == Value.ref tp) with
    | false => rfl
    | true =>
      have e : D = tp := Value.ref.inj (beq_iff_eq.mp q)
      subst e
      obtain ⟨cd, hc, _⟩ := any_some T.hdC
      unfold clsIn at hc
      split at hc
      · rename_i ho
        have z := (X _ _ ho).symm.trans htp
        cases z
      · cases hc
  ca := fun {prog w A E Q s} X I k => by
    obtain ⟨ox, od, I⟩ := I
    obtain ⟨hp, g, dr, t, os⟩ := s
    exact err_class T hp g dr t os X I k
end
section
variable {X : Cx}
/-- isinstance(e, c), e a kept exception, c one class -/
theorem call_isXo : CallR X (.builtin "isinstance") (fun xs H Q => ∃ (a D dd : Addr) (fs : List (Str × V)) (c : V) (u : Value) (b : Bool), xs = [.ref a, c] ∧ H a = some (Xo (.ref D) (some dd) a) ∧ H dd = some (.xd fs) ∧ Err X.K D ∧ ClsV c u ∧ PySem.W.kitOne X.K (.ref D) u = some b ∧ Q (.bl b) H) := by
  intro pins s σ H xs us Q I r h
  obtain ⟨a, D, dd, fs, c, u, b, rfl, ha, hd, T, cv, e, q⟩ := h
  obtain ⟨u1, u2, rfl, r1, r2⟩ := vals2 r
  cases r1
  have e2 := cv.eq r2
  subst e2
  obtain ⟨oe, vs, hg, hz, hdat⟩ := xo_at I.hok ha
  obtain ⟨mA, hns, _⟩ := (show ObjOk X.prog X.w H s.heap dd (.xd fs) from I.hok dd _ hd)
  obtain ⟨od, ho, _⟩ := lookIn_ns hns
  have nc : PySem.W.notCls oe = true := by
    unfold PySem.W.notCls
    rw [hdat]
  have J : PySem.W.InstAt s.heap a oe D (some od) := by
    refine ⟨hg, hz.1, nc, ?_⟩
    rw [hz.2]
    exact ho
  exact PySem.W.kia_one (kitx_err T) I.kIn ⟨oe, some od, J⟩ e (fun z => nomatch z) fun tk => ⟨.bl b, H, I.tok tk, rfl, q⟩
end
end So

namespace So
open PySem PySem.Spec PyProof.Rows L2
/-- C.m is a static method: its record at p, its def at g -/
structure Sta (K : PySem.W.Frag) (C : Addr) (mc : Value) (m : Str) (p g : Addr) : Prop where
  rd : PySem.W.readsIn K C mc = true
  ga : PySem.W.specialIn K (.ref C) "__getattribute__" = some (some (.builtin "type.__getattribute__"))
  at_ : PySem.W.findCls K (.ref C) mc m = some (.get (.builtin "staticmethod.__get__") (.ref p) .none (.ref C))
  rc : ∃ rest, PySem.W.recIn K p "staticmethod" = some (.ref g :: rest)
  kp : PySem.W.keepIn K (.ref g) = true
section
variable {X : Cx} {CX : CXT} {k : Nat} {C f p0 : Addr} {mc : Value} {fd : FuncData} {ps ks : List Str} {sp : Sp} {E : XK} {m : Str} {pos apos : Pos} {e o : Expr} {es : List Expr} {kws : List Keyword} {ta : TE} {t tk : TA}
theorem getsta_ok {pins : List (Addr × Obj)} {σ : L2.St} {H : Hp} {s : Shared} {pl : Sem Bool} {A : Around} {E' : Value → Shared → Prop} {Q : Value × List Value → Shared → Prop} (I : Inv X pins σ H s) (S : Sta X.K C mc m p0 f) (h : ∀ s', Inv X pins σ H s' → Q (.ref f, []) s') :
    wpAny (model X.prog X.w) A (getMethod (.ref C) m pl) Q E' s := by
  obtain ⟨rest, hp⟩ := S.rc
  refine PySem.W.method_cls I.kIn S.ga (PySem.W.cls_bind I.kIn S.rd S.at_ (wpAny_call (PySem.W.sm_get (s := { s with toks := s.toks + 1 }) I.kIn hp (PySem.W.handed_on rfl ?_))))
  exact h _ (I.tok _)
/-- C.m(e, ..), m static -/
theorem pe_sta {pl : Sem Bool} (he : PE X o ta) (S : Sta X.K C mc m p0 f) (F : FnOk X.prog X.w X.K X.mg X.base CX k f fd ps sp) (hr : Room k X.A) (hb : Binds X.K fd ps []) (hx : Passes CX X E) (ha : PA X (e :: es) t)
    (hst : starEach (e :: es) X.env = (false, eval e X.env) :: starEach es X.env := by rfl) (hpl : (backTo pos (starEach es X.env)).any (·.1) = false := by rfl)
    (ht : eval (.Call (.Attribute o m apos) (e :: es) [] pos) X.env = (do
      let ov ← eval o X.env
      standAt apos.atName
      let fx ← holding [ov] (getMethod ov m pl)
      callWith pos fx.1 fx.2 (backTo pos (starEach (e :: es) X.env)) (backToKw pos (keywordEach [] X.env))) := by rfl) :
    PE X (.Call (.Attribute o m apos) (e :: es) [] pos) (fun σ H Q => ta σ H fun x H1 => x = .ref C ∧ t σ H1 fun vs H2 => sp vs H2 Q E) := by
  constructor
  intro pins s σ H Q I h
  refine PySem.W.methodCall_KW (pl := pl) (thn (he.run pins s σ H _ I h) fun u s1 z => ?_) ht
  obtain ⟨x, H1, I1, rx, rfl, q⟩ := z
  cases rx
  refine getsta_ok I1 S fun s2 I2 => PySem.W.callWith_K (first := []) (h₀ := X.base) I2.ok.mod.kin S.kp (thn (ha.run pos pins s2 σ H1 _ I2 q) fun us s3 z => ?_) hst hpl
  obtain ⟨vs, H2, I3, r, q2⟩ := z
  refine ⟨I3.kIn, ?_⟩
  have q3 : sp (vs ++ []) H2 Q E := by
    rw [List.append_nil]
    exact q2
  exact run_fn F hr hb .nil hx I3 r q3
/-- C.m(k = v, ..), m static, keywords alone -/
theorem pe_staK {g : List Value → List Value → List Value} {gV : List V → List V → List V} {pl : Sem Bool} (he : PE X o ta) (S : Sta X.K C mc m p0 f) (F : FnOk X.prog X.w X.K X.mg X.base CX k f fd ps sp) (hr : Room k X.A) (hb : KBinds X.K fd ps ks g gV) (hx : Passes CX X E)
    (hkw : PK X kws tk) (hall : (backToKw pos (keywordEach kws X.env)).all (·.1.isSome) = true := by rfl) (hks : (backToKw pos (keywordEach kws X.env)).filterMap (·.1) = ks := by rfl)
    (hpl : ((backTo pos (starEach [] X.env)).any (·.1) || (backToKw pos (keywordEach kws X.env)).any (·.1.isNone)) = false := by rfl)
    (ht : eval (.Call (.Attribute o m apos) [] kws pos) X.env = (do
      let ov ← eval o X.env
      standAt apos.atName
      let fx ← holding [ov] (getMethod ov m pl)
      callWith pos fx.1 fx.2 (backTo pos (starEach [] X.env)) (backToKw pos (keywordEach kws X.env))) := by rfl) :
    PE X (.Call (.Attribute o m apos) [] kws pos) (fun σ H Q => ta σ H fun x H1 => x = .ref C ∧ tk σ H1 fun zs H2 => sp (gV [] zs) H2 Q E) := by
  constructor
  intro pins s σ H Q I h
  refine PySem.W.methodCall_KW (pl := pl) (thn (he.run pins s σ H _ I h) fun u s1 z => ?_) ht
  obtain ⟨x, H1, I1, rx, rfl, q⟩ := z
  cases rx
  refine getsta_ok I1 S fun s2 I2 => PySem.W.callWith_KW0 (first := []) (h₀ := X.base) I2.ok.mod.kin S.kp hall (thn (hkw.run pos pins s2 σ H1 _ I2 q) fun ws s3 z => ?_) hpl
  obtain ⟨zs, H2, I3, rz, q2⟩ := z
  refine ⟨I3.kIn, ?_⟩
  rw [hks]
  exact run_fnk (us := []) (vs := []) F hr hb hx I3 .nil rz q2
/-- ~o by an own __invert__ -/
theorem un_invOwn (F : FnOk X.prog X.w X.K X.mg X.base CX k f fd ps sp) (hs : PySem.W.findIn X.K (.ref C) "__invert__" = some (some (.ref f))) (hf : PySem.W.isFn X.K (.ref f) = true) (hb : Binds X.K fd ps []) (hx : Passes CX X E) (hr : Room k X.A) :
    UnR X (unaryOp .Invert) (fun x H Q => ∃ a dx fs, x = .ref a ∧ H a = some (.ins C dx fs) ∧ sp [.ref a] H Q E) := by
  intro pins s σ H x v Q I rx h
  obtain ⟨a, dx, fs, rfl, ha, q⟩ := h
  cases rx
  obtain ⟨mA, J, _⟩ := ins_get I.hok ha
  obtain ⟨od, J, _⟩ := J.look
  obtain ⟨m, hF⟩ := I.fr
  refine PySem.W.ksp_inv hF I.ok.mod.kin J hs hf ?_
  exact run_fn (us := [.ref a]) (vs := [.ref a]) F hr hb .nil hx I (.cons rfl .nil) q
end
end So

namespace So
open PySem PySem.Spec PyProof.Rows L2
/-! ### own errors with one field -/
/-- the __init__ of such an error: the field is what was passed -/
def spOneE (C : Addr) (n : Str) : Sp := fun vs H Q _ => ∃ (a : Addr) (v : V), vs = [.ref a, v] ∧ H a = some (exo a C none) ∧ ∀ dx, H dx = none → dx ≠ a → Q .non (upd (upd H dx (exd dx [(n, v)])) a (exo a C (some dx)))
/-- what the top says of such an error: its class at C, named x, its field n, its __init__ at f -/
structure OneE (K : PySem.W.Frag) (mg : Str → Option Value) (x n : Str) (C f : Addr) (fd : FuncData) : Prop where
  T : OexC K C
  iC : PySem.W.findIn K (.ref C) "__init__" = some (some (.ref f))
  tI : PySem.W.typeIn K (.ref f) = some (.type "function")
  mgC : mg x = some (.ref C)
  no : PySem.W.findIn K (.ref C) n = some none
  err : Err K C
  hb : Binds K fd ["self", n] []
/-- behind C(v) -/
theorem mkOne {C : Addr} {n : Str} {vs : List V} {v : V} {H1 : Hp} {Q : XK} (e : vs = [v]) (h : ∀ d H', Same H1 H' → H1 d = none → H' d = some (.xd [(n, v)]) → Q (.ref C) (some d) H') :
    vs.length ≤ 1000 ∧ ∀ a, H1 a = none → spOneE C n (.ref a :: (vs ++ [])) (upd H1 a (exo a C none))
      (fun v H2 => v = .non ∧ ∃ (d : Addr) (fs : List (Str × V)), H2 a = some (exo a C (some d)) ∧ H2 d = some (exd d fs) ∧ H1 d = none ∧ Q (.ref C) (some d) (upd (del H2 a) d (.xd fs))) (fun _ _ _ => False) := by
  subst e
  refine ⟨by show 1 ≤ 1000; decide, fun a ha => ⟨a, v, rfl, upd_same, fun dx hdx ne => ⟨rfl, dx, [(n, v)], upd_same, ?_, ?_, h dx _ (fun b o hb => ?_) ?_ upd_same⟩⟩⟩
  · rw [upd_ne ne, upd_same]
  · rw [upd_ne ne] at hdx
    exact hdx
  · rw [upd_ne ne] at hdx
    have hba : b ≠ a := ne_of_none hb ha
    have hbd : b ≠ dx := ne_of_none hb hdx
    rw [upd_ne hbd, del_ne hba, upd_ne hba, upd_ne hbd, upd_ne hba]
    exact hb
  · rw [upd_ne ne] at hdx
    exact hdx
section
variable {X : Cx} {x n : Str} {C f : Addr} {fd : FuncData} {ta : TA} {e : Expr} {p pos pos2 : Pos}
theorem pmk_one (O : OneE X.K X.mg x n C f fd) (F : FnOk X.prog X.w X.K X.mg X.base CX0 1 f fd ["self", n] (spOneE C n)) (hr : Room 2 X.A) (hg : Gl X x) (ha : PA X [e] ta)
    (hdb : (x == ("__debug__" : Str)) = false := by decide) (he : starEach [e] X.env = (false, eval e X.env) :: starEach [] X.env := by rfl) (hpl : (backTo pos (starEach [] X.env)).any (·.1) = false := by rfl) :
    PMk X (.Call (.Name x p) [e] [] pos) (tMkO C (spOneE C n) [] ta) :=
  pmk_oex O.T O.iC O.tI F hr O.hb .nil (fun _ _ _ _ _ _ _ h => h.elim) hg O.mgC ha hdb he hpl
/-- raise C(e) -/
theorem ps_raiseOne {W : WX} (O : OneE X.K X.mg x n C f fd) (F : FnOk X.prog X.w X.K X.mg X.base CX0 1 f fd ["self", n] (spOneE C n)) (hc : X.calm = true) (hr : Room 2 X.A) (tk : Takes X W) (hg : Gl X x) (ha : PA X [e] ta)
    (hdb : (x == ("__debug__" : Str)) = false := by decide) (he : starEach [e] X.env = (false, eval e X.env) :: starEach [] X.env := by rfl) (hpl : (backTo pos (starEach [] X.env)).any (·.1) = false := by rfl) :
    PS X (.Raise (some (.Call (.Name x p) [e] [] pos)) none pos2) (fun _ σ H => tMkO C (spOneE C n) [] ta σ H fun cls d H' => W cls d σ H') := ps_raise hc tk (pmk_one O F hr hg ha hdb he hpl)
end

/-! ### repr of data, of a tuple of a text and an empty dict -/
section
variable {X : Cx}
theorem call_reprT (hg : X.A.guards = some []) (hu : X.A.units + 64 < cLine) : CallR X (.builtin "repr") (fun xs H Q => ∃ (r a : Addr) (w : Str), xs = [.ref r] ∧ SqT X.K H r [.str w, .ref a] ∧ H a = some (.dK []) ∧ (PyData.tuple [.str w, .dict []]).shown.length ≤ sizeLine ∧ Q (.str (PyData.tuple [.str w, .dict []]).shown) H) := by
  intro pins s σ H xs us Q I r h
  obtain ⟨rr, a, w, rfl, ht, ha, hz, q⟩ := h
  obtain ⟨u, rfl, rv⟩ := vals1 r
  cases rv
  obtain ⟨its, rw', ⟨o, ho, hc, n, hd⟩, _⟩ := I.tuple ht
  obtain ⟨hz2, hsm, vs, hk, hD⟩ : ([] : List (Key × V)).length ≤ sizeLine ∧ (a == sysModules) = false ∧ ∃ vs, KV [] vs ∧ s.heap.DictOf (mixKind X.prog X.w) a vs := I.hok a _ ha
  obtain ⟨u1, u2, rfl, r1, r2⟩ := vals2 rw'
  obtain ⟨t1, rfl⟩ := r1
  cases r2
  obtain ⟨o2, es, ep, e1, e2, e3, _, e5, _⟩ := hD
  cases hk
  have es0 : es.toList = [] := by
    cases h : es.toList with
    | nil => rfl
    | cons y ys =>
      rw [h] at e5
      cases e5
  have rdD : Reads s.heap (.ref a) (.dict []) (a :: [] ++ []) := Reads.dict (kvs := []) e1 e2.1 e3 (by rw [es0]; exact ReadsAll.nil) (by rw [es0]; exact ReadsAll.nil)
  have rd : Reads s.heap (.ref rr) (.tuple [.str w, .dict []]) ([] ++ ((a :: [] ++ []) ++ [])) := Reads.tuple ho hc hd (ReadsAll.cons (Reads.str w t1) (ReadsAll.cons rdD ReadsAll.nil))
  refine repr_of_reads' rd rfl (fun _ z => ?_) hg (by show X.A.units + (2 + 1) < cLine; omega) (fun _ _ e => e) (fun h' t tk k => ?_) hz
  · have : sysModules = a := by simpa using z
    rw [this] at hsm
    simp at hsm
  · exact ⟨.str _, H, I.kept k, ⟨t, rfl⟩, q⟩
theorem CallR.or {b : Value} {r r' : List V → Hp → VK → Prop} (h : CallR X b r) (h' : CallR X b r') : CallR X b (fun xs H Q => r xs H Q ∨ r' xs H Q) := by
  intro pins s σ H xs us Q I rv q
  exact q.elim (h pins s σ H xs us Q I rv) (h' pins s σ H xs us Q I rv)
end
end So

namespace K11
open PySem PySem.Spec PyProof.Rows L2 So
/-! ### the text -/
def topS (i : Nat) : Stmt := PySem.Challenge.pw_soundtill_k11_rows_made.main.body.getD i (.Pass ⟨0, 0, 0, 0⟩)
abbrev sPen : Stmt := topS 45
abbrev sDraw : Stmt := topS 46
abbrev sPick : Stmt := topS 47
theorem scPen : FnScope ["_law_script"] ["_law_script"] (defScope sPen) := ⟨rfl, rfl, rfl, by decide +kernel, rfl, by decide +kernel, by decide +kernel⟩
theorem scDraw : FnScope ["_law_pen_here", "_law_many", "_law_digit", "_law_at", "_law_cell", "_law_great", "_law_mixed"] ["_law_pen_here", "_law_many"] (defScope sDraw) := ⟨rfl, rfl, rfl, by decide +kernel, rfl, by decide +kernel, by decide +kernel⟩
theorem scPick : FnScope ["_law_pen_here", "_law_some"] ["_law_pen_here", "_law_some"] (defScope sPick) := ⟨rfl, rfl, rfl, by decide +kernel, rfl, by decide +kernel, by decide +kernel⟩

/-! ### the pen -/
/-- the pen at p: the cells at l, how many were begun, what is left of a great one -/
structure Pen (H : Hp) (p l : Addr) (ns : List Int) (n : Nat) (g : Int) : Prop where
  pen : H p = some (.lst [.ref l, .int n, .int g])
  cells : H l = some (.lst (ns.map V.int))
  left : 0 ≤ g
/-- all that was tracked beside p is as it was -/
def Off (p : Addr) (H H' : Hp) : Prop := ∀ b o, b ≠ p → H b = some o → H' b = some o
theorem Off.refl {p : Addr} {H : Hp} : Off p H H := fun _ _ _ e => e
theorem Off.trans {p : Addr} {H H1 H2 : Hp} (a : Off p H H1) (b : Off p H1 H2) : Off p H H2 := fun c o n e => b c o n (a c o n e)
theorem Off.upd {p : Addr} {H H1 : Hp} {o : HO} (a : Off p H H1) : Off p H (upd H1 p o) := fun c u n e => by
  rw [upd_ne n]
  exact a c u n e
theorem Off.new {p q : Addr} {H H1 : Hp} {o : HO} (a : Off p H H1) (h : H1 q = none) : Off p H (L2.upd H1 q o) := fun c u n e => by
  have e1 := a c u n e
  rw [upd_ne (ne_of_none e1 h)]
  exact e1
theorem dp_ints {K : PySem.W.Frag} {H : Hp} : ∀ ns : List Int, DpAll K H (ns.map V.int) (ns.map PyData.int)
  | [] => .nil
  | n :: r => .cons (.int n) (dp_ints r)
theorem depth_ints : ∀ ns : List Int, PyData.depthAll (ns.map PyData.int) ≤ 1
  | [] => by simp [PyData.depthAll]
  | n :: r => by
    have h := depth_ints r
    simp only [List.map_cons, PyData.depthAll, PyData.depth]
    omega
theorem shaped_ints (ns : List Int) : SeqAt.shaped (.list (ns.map PyData.int)) = true := by
  unfold SeqAt.shaped
  rw [Bool.and_eq_true]
  have hd := depth_ints ns
  refine ⟨?_, decide_eq_true ?_⟩
  · show PyData.canLay0 _ = true
    simp only [PyData.canLay0]
    induction ns with
    | nil => rfl
    | cons a r ih => simpa [PyData.canLayAll0, PyData.canLay0] using ih (depth_ints r)
  · simp only [PyData.depth]
    omega
theorem Pen.apart {H : Hp} {p l : Addr} {ns : List Int} {n : Nat} {g : Int} (h : Pen H p l ns n g) : l ≠ p := by
  refine ne_of h.cells h.pen (fun z => ?_)
  injection z with z
  cases ns with
  | nil => cases z
  | cons a r => cases z
theorem eqv_nil (ds : List PyData) : PyData.eqv (.list ds) (.list []) = ds.isEmpty := by
  cases ds <;> simp [PyData.eqv, PyData.eqvAll]
section
variable {P : Program} {w : World} {K : PySem.W.Frag} {mg : Str → Option Value} {base : Heap}
def spDraw : Sp := fun vs H Q _ => ∃ (p l : Addr) (ns : List Int) (n : Nat) (g many : Int), vs = [.ref p, .int many] ∧ Pen H p l ns n g ∧ n < 1000000 ∧ 0 < many ∧ many.natAbs < 2 ^ 200 ∧
  ∀ (d : Int) (n' : Nat) (g' : Int) (H' : Hp), 0 ≤ d → d < many → n' ≤ n + 1 → Off p H H' → Pen H' p l ns n' g' → Q (.int d) H'
theorem ok_draw {f : Addr} {fd : FuncData} (F : Fun K "_law_draw" "_law_draw" sDraw f fd) (ml : mg "len" = none) (mi : mg "int" = none) (ma : mg "abs" = none) : FnOk P w K mg base CX0 1 f fd ["_law_pen_here", "_law_many"] spDraw := by
  refine F.ok scDraw (fun vs H Q E h => ?_) (fun cdv A outer s H vs Q E hr h => ?_)
  · obtain ⟨p, l, ns, n, g, many, rfl, _⟩ := h
    rfl
  · obtain ⟨p, l, ns, n, g, many, rfl, hp, hn, hm, hm2, q⟩ := h
    refine ⟨_, pss_cons (ps_if (pt_cmpR op_gt (pe_ix ix_list (pv 0) pe_int (fun _ _ => rfl)) pe_int (nomark _))
        (pss_cons (ps_set (i := 2) scDraw.nd rfl (.inl rfl) (pe_op op_mod (pe_callTy call_int1 (by rfl) mi (by decide +kernel) (pa_cons (pe_ix ix_list (pv 0) pe_int (fun _ _ => rfl)) pa_nil)) (pv 1)))
        (pss_cons (ps_asg (pe_op op_fdivW (pe_callTy call_int1 (by rfl) mi (by decide +kernel) (pa_cons (pe_ix ix_list (pv 0) pe_int (fun _ _ => rfl)) pa_nil)) (pv 1)) (pg_sub (pv 0) pe_int set_list))
        (pss_one (ps_ret (pv 2))))) pss_nil)
      (pss_cons (ps_set (i := 3) scDraw.nd rfl (.inl rfl) (pe_ix ix_list (pv 0) pe_int (fun _ _ => rfl)))
      (pss_cons (ps_asg (pe_op op_add (pv 3) pe_int) (pg_sub (pv 0) pe_int set_list))
      (pss_cons (ps_set (i := 4) scDraw.nd rfl (.inl rfl) (pe_op op_add (pe_op op_mul pe_int (pv 3)) pe_int))
      (C8.pss_cut (ps_if (pt_cmpR (op_neD (by have := hr.units; exact this)) (pe_ix ix_list (pv 0) pe_int (fun _ _ => rfl)) (pe_lst pa_nil) (nomark _))
        (pss_one (ps_set (i := 4) scDraw.nd rfl (.inl rfl) (pe_ix ix_list (pe_ix ix_list (pv 0) pe_int (fun _ _ => rfl)) (pe_op op_mod (pe_callTy call_int1 (by rfl) mi (by decide +kernel) (pa_cons (pv 3) pa_nil)) (pe_callB call_len_seq (by rfl) ml PySem.boot_len (pa_cons (pe_ix ix_list (pv 0) pe_int (fun _ _ => rfl)) pa_nil))) (fun _ _ => rfl)))) pss_nil)
      (pss_cons (ps_if (PW.pt (pw_and (pt_cmpR op_lt (pv 3) (pe_callB call_len_seq (by rfl) ml PySem.boot_len (pa_cons (pe_ix ix_list (pv 0) pe_int (fun _ _ => rfl)) pa_nil)) (nomark _))
            (pw_and1 (pt_cmpR op_ge (pe_callB call_abs (by rfl) ma (by decide +kernel) (pa_cons (pv 4) pa_nil)) (pe_op op_pow pe_int pe_int) (nomark _)))))
        (pss_cons (ps_set (i := 5) scDraw.nd rfl (.inl rfl) (pe_op op_add (pe_op op_mul pe_int (pe_op op_sub (pe_callB call_abs (by rfl) ma (by decide +kernel) (pa_cons (pv 4) pa_nil)) (pe_op op_pow pe_int pe_int)))
            (pe_callTy call_int1 (by rfl) mi (by decide +kernel) (pa_cons (pe_cmpR op_lt (pv 4) pe_int (nomark _)) pa_nil))))
        (pss_cons (ps_asg (pe_op op_fdivW (pe_callTy call_int1 (by rfl) mi (by decide +kernel) (pa_cons (pv 5) pa_nil)) (pv 1)) (pg_sub (pv 0) pe_int set_list))
        (pss_one (ps_ret (pe_op op_mod (pe_callTy call_int1 (by rfl) mi (by decide +kernel) (pa_cons (pv 5) pa_nil)) (pv 1)))))) pss_nil)
      (pss_cons (ps_set (i := 6) scDraw.nd rfl (.inl rfl) (pe_op op_mod (pe_callTy call_int1 (by rfl) mi (by decide +kernel) (pa_cons
          (pe_op op_pow (pe_op op_add (pe_op op_add (pe_op op_mod (pe_callTy call_int1 (by rfl) mi (by decide +kernel) (pa_cons (pv 4) pa_nil)) pe_int) (pe_op op_mul pe_int (pv 3))) pe_int) pe_int) pa_nil)) pe_int))
      (pss_cons (ps_set (i := 6) scDraw.nd rfl (.inl rfl) (pe_op op_mod (pe_callTy call_int1 (by rfl) mi (by decide +kernel) (pa_cons
          (pe_op op_pow (pe_op op_add (pe_op op_add (pe_op op_mul (pv 6) (pe_op op_add (pe_op op_mul pe_int (pv 3)) pe_int)) (pe_op op_mul (pe_op op_mul pe_int (pv 3)) (pv 3))) pe_int) pe_int) pa_nil)) pe_int))
      (pss_one (ps_ret (pe_op op_mod (pe_callTy call_int1 (by rfl) mi (by decide +kernel) (pa_cons (pe_op op_fdiv (pv 6) pe_int) pa_nil)) (pv 1))))))))))), ?_⟩
    have hP : SqL K H p [.ref l, .int n, .int g] := SqL.of hp.pen
    refine ⟨_, rfl, p, _, 2, _, rfl, rfl, hP, atI_nat (j := 2) rfl, _, _, rfl, rfl, _, rfl, ite2 (fun e => ?_) (fun e => ?_)⟩
    · refine ⟨_, rfl, p, _, 2, _, rfl, rfl, hP, atI_nat (j := 2) rfl, .inl ⟨_, rfl, _, rfl, _, _, rfl, rfl, hm, ?_⟩⟩
      refine ⟨_, rfl, p, _, 2, _, rfl, rfl, hP, atI_nat (j := 2) rfl, .inl ⟨_, rfl, _, rfl, _, _, rfl, rfl, wide_div hm hm2 (by decide) (by decide), _, rfl, p, _, 2, 2, rfl, rfl, hp.pen, rfl, ?_⟩⟩
      refine ⟨_, rfl, q _ n (g / many) _ (Int.emod_nonneg _ (Int.ne_of_gt hm)) (Int.emod_lt_of_pos _ hm) (by omega) Off.refl.upd ⟨upd_same, (upd_ne hp.apart).trans hp.cells, Int.ediv_nonneg hp.left (Int.le_of_lt hm)⟩⟩
    · refine ⟨_, rfl, p, _, 1, _, rfl, rfl, hP, atI_nat (j := 1) rfl, ?_⟩
      refine ⟨_, rfl, _, _, rfl, rfl, _, rfl, p, _, 1, 1, rfl, rfl, hp.pen, rfl, ?_⟩
      have hP1 : (upd H p (.lst [.ref l, .int (n + 1), .int g])) p = some (.lst [.ref l, .int (n + 1), .int g]) := upd_same
      have hL1 : (upd H p (.lst [.ref l, .int (n + 1), .int g])) l = some (.lst (ns.map V.int)) := (upd_ne hp.apart).trans hp.cells
      have hO1 : Off p H (upd H p (.lst [.ref l, .int (n + 1), .int g])) := Off.refl.upd
      refine ⟨_, rfl, _, _, rfl, rfl, .inl ⟨by decide, by decide⟩, _, _, rfl, rfl, ?_⟩
      refine ⟨fun σ' H2 => ∃ c : Int, σ' = [some (.ref p), some (.int many), none, some (.int n), some (.int c), none, none] ∧ H2 p = some (.lst [.ref l, .int (n + 1), .int g]) ∧ H2 l = some (.lst (ns.map V.int)) ∧ Off p H H2, ?_, ?_⟩
      · refine ⟨_, rfl, p, _, 0, _, rfl, rfl, SqL.of hP1, atI_nat (j := 0) rfl, Nat.zero_le _, fun z hz => ?_⟩
        have hP2 := (upd_ne (o := .lst []) (ne_of_none hP1 hz)).trans hP1
        have hL2 := (upd_ne (o := .lst []) (ne_of_none hL1 hz)).trans hL1
        refine ⟨.list (ns.map PyData.int), .list [], .lst (SqL.of hL2) (dp_ints ns), .lst (SqL.of upd_same) .nil, shaped_ints ns, by decide, _, rfl, ite2 (fun e1 => ?_) (fun e1 => ?_)⟩
        · rw [eqv_nil] at e1
          have hlen : 0 < ns.length := by
            cases ns with
            | nil => cases e1
            | cons a r => exact Nat.succ_pos _
          have hlt : n % ns.length < ns.length := Nat.mod_lt _ hlen
          refine ⟨_, rfl, p, _, 0, _, rfl, rfl, SqL.of hP2, atI_nat (j := 0) rfl, _, rfl, .inl ⟨_, rfl, _, rfl, p, _, 0, _, rfl, rfl, SqL.of hP2, atI_nat (j := 0) rfl, l, _, rfl, .inl (SqL.of hL2), _, _, rfl, rfl, (by rw [List.length_map]; omega), l, _, _, .int ns[n % ns.length], rfl, rfl, SqL.of hL2, ?_, ?_⟩⟩
          · have e2 : ((n : Int) % (((ns.map V.int).length : Nat) : Int)) = ((n % ns.length : Nat) : Int) := by
              rw [List.length_map]
              exact (Int.natCast_emod n ns.length).symm
            rw [e2]
            refine atI_nat ?_
            rw [List.getElem?_map, List.getElem?_eq_getElem hlt]
            rfl
          · exact ⟨_, rfl, hP2, hL2, hO1.new hz⟩
        · exact ⟨_, rfl, hP2, hL2, hO1.new hz⟩
      · rintro σ' H2 ⟨c, rfl, hP2, hL2, hO2⟩
        have hmix : ∀ t : Int, 0 ≤ t % many ∧ t % many < many := fun t => ⟨Int.emod_nonneg _ (Int.ne_of_gt hm), Int.emod_lt_of_pos _ hm⟩
        have bm : ∀ Y : Int, 0 ≤ Y % 2147483587 ∧ Y % 2147483587 < 2147483587 := fun Y => ⟨Int.emod_nonneg _ (by decide), Int.emod_lt_of_pos _ (by decide)⟩
        have bd : ∀ Y : Int, -(2 ^ 64) < Y % 2147483587 ∧ Y % 2147483587 < 2 ^ 64 := fun Y => by
          have := bm Y
          omega
        have key : ∀ Y : Int, ((Y % 2147483587) * (2 * (n : Int) + 59) + 53323 * (n : Int) * (n : Int) + 29).natAbs < 2 ^ 64 := by
          intro Y
          have b2 := bm Y
          revert b2
          generalize Y % 2147483587 = m1
          intro b2
          have b3 : 0 ≤ m1 * (2 * (n : Int) + 59) ∧ m1 * (2 * (n : Int) + 59) ≤ 2147483587 * 2000059 := ⟨Int.mul_nonneg b2.1 (by omega), Int.mul_le_mul (by omega) (by omega) (by omega) (by decide)⟩
          have b4 : 0 ≤ 53323 * (n : Int) * (n : Int) ∧ 53323 * (n : Int) * (n : Int) ≤ (53323 * 1000000) * 1000000 := ⟨Int.mul_nonneg (by omega) (by omega), Int.mul_le_mul (by omega) (by omega) (by omega) (by decide)⟩
          omega
        refine ⟨_, rfl, _, rfl, p, _, 0, _, rfl, rfl, SqL.of hP2, atI_nat (j := 0) rfl, l, _, rfl, .inl (SqL.of hL2), _, _, rfl, rfl, _, rfl, ite2 (fun e1 => ⟨_, rfl, _, rfl, _, _, rfl, rfl, ⟨by decide, by decide, by decide⟩, _, _, rfl, rfl, _, rfl, ite2 (fun e2 => ?great) (fun e2 => ?late)⟩) (fun e1 => ?small)⟩
        case great =>
          have e3 : (10 : Int) ^ (18 : Int).toNat ≤ (if c < 0 then -c else c) := of_decide_eq_true e2
          refine ⟨_, rfl, _, rfl, _, _, rfl, rfl, ⟨by decide, by decide, by decide⟩, _, _, rfl, rfl, _, _, rfl, rfl, .inl ⟨by decide, by decide⟩, _, rfl, _, _, rfl, rfl, .inr ⟨_, rfl, _, _, rfl, rfl, ?_⟩⟩
          have hG : ∀ k : Bool, 0 ≤ 2 * ((if c < 0 then -c else c) - (10 : Int) ^ (18 : Int).toNat) + (if k = true then (1 : Int) else 0) := by
            intro k
            have : (0 : Int) ≤ (if k = true then (1 : Int) else 0) := by cases k <;> decide
            omega
          have hG1 := hG (decide (c < 0))
          refine ⟨_, rfl, .inl ⟨_, rfl, _, rfl, _, _, rfl, rfl, wide_div hm hm2 (by decide) (by decide), _, rfl, p, _, 2, 2, rfl, rfl, hP2, rfl, ?_⟩⟩
          exact ⟨_, rfl, .inl ⟨_, rfl, _, rfl, _, _, rfl, rfl, hm, q _ (n + 1) _ _ (hmix _).1 (hmix _).2 (Nat.le_refl _) hO2.upd ⟨upd_same, (upd_ne (Pen.apart ⟨hP2, hL2, hp.left⟩)).trans hL2, Int.ediv_nonneg hG1 (Int.le_of_lt hm)⟩⟩⟩
        all_goals
          have b1 : 0 ≤ c % 2147483549 ∧ c % 2147483549 < 2147483549 := ⟨Int.emod_nonneg _ (by decide), Int.emod_lt_of_pos _ (by decide)⟩
          refine ⟨_, rfl, .inl ⟨_, rfl, _, _, rfl, rfl, (by decide : (0 : Int) < 2147483549), _, rfl, _, _, rfl, rfl, .inl ⟨by decide, by decide⟩, _, _, rfl, rfl, _, _, rfl, rfl, _, _, rfl, rfl, ⟨by decide, by decide, ?_⟩, .inl ⟨_, rfl, _, _, rfl, rfl, (by decide : (0 : Int) < 2147483587), ?_⟩⟩⟩
          · omega
          refine ⟨_, rfl, _, rfl, _, _, rfl, rfl, .inl ⟨by decide, by decide⟩, _, _, rfl, rfl, _, _, rfl, rfl, .inl (bd _), _, rfl, _, _, rfl, rfl, .inl ⟨by decide, by decide⟩, _, rfl, _, _, rfl, rfl, .inr ⟨?_, ?_⟩, _, _, rfl, rfl, _, _, rfl, rfl, _, _, rfl, rfl, ⟨by decide, by decide, key _⟩, .inl ⟨_, rfl, _, _, rfl, rfl, (by decide : (0 : Int) < 2147483629), ?_⟩⟩
          · omega
          · omega
          exact ⟨_, rfl, _, _, rfl, rfl, ⟨by decide, by decide⟩, .inl ⟨_, rfl, _, rfl, _, _, rfl, rfl, hm, q _ (n + 1) g H2 (hmix _).1 (hmix _).2 (Nat.le_refl _) hO2 ⟨hP2, hL2, hp.left⟩⟩⟩


/-- one of a list's things, one of a text's signs -/
def spPick (K : PySem.W.Frag) : Sp := fun vs H Q _ => ∃ (p l : Addr) (ns : List Int) (n : Nat) (g : Int) (y : V), vs = [.ref p, y] ∧ Pen H p l ns n g ∧ n < 1000000 ∧
  ((∃ (q : Addr) (xs : List V), y = .ref q ∧ q ≠ p ∧ H q = some (.lst xs) ∧ 0 < xs.length ∧ xs.length ≤ 1000 ∧
    ∀ (v : V) (n' : Nat) (g' : Int) (H' : Hp), v ∈ xs → n' ≤ n + 1 → Off p H H' → Pen H' p l ns n' g' → Q v H') ∨
   (∃ z : Str, y = .str z ∧ 0 < z.length ∧ z.length ≤ 1000 ∧
    ∀ (c : Nat) (n' : Nat) (g' : Int) (H' : Hp), c ∈ z.cps.toList → n' ≤ n + 1 → Off p H H' → Pen H' p l ns n' g' → Q (.str (⟨#[c]⟩)) H'))
theorem ok_pick {f fD : Addr} {fd fdD : FuncData} (F : Fun K "_law_pick" "_law_pick" sPick f fd) (ml : mg "len" = none) (FD : Fun K "_law_draw" "_law_draw" sDraw fD fdD) (bD : Binds K fdD ["_law_pen_here", "_law_many"] []) (gD : mg "_law_draw" = some (.ref fD))
    (GD : FnOk P w K mg base CX0 1 fD fdD ["_law_pen_here", "_law_many"] spDraw) : FnOk P w K mg base CX0 2 f fd ["_law_pen_here", "_law_some"] (spPick K) := by
  refine F.ok scPick (fun vs H Q E h => ?_) (fun cdv A outer s H vs Q E hr h => ?_)
  · obtain ⟨p, l, ns, n, g, y, rfl, _⟩ := h
    rfl
  · obtain ⟨p, l, ns, n, g, y, rfl, hp, hn, k⟩ := h
    refine ⟨_, pss_one (ps_ret (pe_ix (ix_list.or ix_str) (pv 1) (pe_call GD hr (by rfl) gD FD.kp bD .nil pass0 (pa_cons (pv 0) (pa_cons (pe_callB (So.CallR.or call_len_seq call_len_str) (by rfl) ml PySem.boot_len (pa_cons (pv 1) pa_nil)) pa_nil))) (fun _ _ => rfl))), ?_⟩
    rcases k with ⟨q, xs, rfl, hne, hq, h0, h1, k⟩ | ⟨z, rfl, h0, h1, k⟩
    · refine ⟨_, rfl, _, rfl, _, rfl, .inl ⟨q, _, rfl, .inl (SqL.of hq), p, l, ns, n, g, _, rfl, hp, hn, by omega, ?_, ?_⟩⟩
      · have : ((xs.length : Nat) : Int).natAbs = xs.length := Int.natAbs_natCast _
        rw [this]
        exact Nat.lt_of_le_of_lt h1 (by decide)
      · intro d n' g' H' d0 d1 hn' off pen
        obtain ⟨j, rfl⟩ : ∃ j : Nat, d = j := ⟨d.toNat, by omega⟩
        have hlt : j < xs.length := by omega
        exact .inl ⟨q, xs, j, xs[j], rfl, rfl, SqL.of (off q _ hne hq), atI_nat (List.getElem?_eq_getElem hlt), k _ n' g' H' (List.getElem_mem hlt) hn' off pen⟩
    · refine ⟨_, rfl, _, rfl, _, rfl, .inr ⟨z, rfl, Nat.le_trans h1 (by decide), p, l, ns, n, g, _, rfl, hp, hn, by omega, ?_, ?_⟩⟩
      · have : ((z.length : Nat) : Int).natAbs = z.length := Int.natAbs_natCast _
        rw [this]
        exact Nat.lt_of_le_of_lt h1 (by decide)
      · intro d n' g' H' d0 d1 hn' off pen
        obtain ⟨j, rfl⟩ : ∃ j : Nat, d = j := ⟨d.toNat, by omega⟩
        have hz : z.length = z.cps.toList.length := Array.length_toList.symm
        have hlt : j < z.cps.toList.length := by omega
        exact .inr ⟨z, j, z.cps.toList[j], rfl, rfl, Nat.le_trans h1 (by decide), atI_nat (List.getElem?_eq_getElem hlt), k _ n' g' H' (List.getElem_mem hlt) hn' off pen⟩
theorem Pen.new {H : Hp} {p l q : Addr} {ns : List Int} {n : Nat} {g : Int} {o : HO} (h : Pen H p l ns n g) (hq : H q = none) : Pen (upd H q o) p l ns n g :=
  ⟨(upd_ne (ne_of_none h.pen hq)).trans h.pen, (upd_ne (ne_of_none h.cells hq)).trans h.cells, h.left⟩
end
end K11

namespace K11
open PySem PySem.Spec PyProof.Rows L2 So
abbrev sWhole : Stmt := topS 14
abbrev sMoment : Stmt := topS 15
abbrev sName : Stmt := topS 16
abbrev sCheck : Stmt := topS 17
abbrev sWordOf : Stmt := topS 24
theorem scWhole : FnScope ["value"] ["value"] (defScope sWhole) := ⟨rfl, rfl, rfl, by decide +kernel, rfl, by decide +kernel, by decide +kernel⟩
theorem scMoment : FnScope ["value"] ["value"] (defScope sMoment) := ⟨rfl, rfl, rfl, by decide +kernel, rfl, by decide +kernel, by decide +kernel⟩
theorem scName : FnScope ["value", "sign"] ["value"] (defScope sName) := ⟨rfl, rfl, rfl, by decide +kernel, rfl, by decide +kernel, by decide +kernel⟩
theorem scCheck : FnScope ["value", "form"] ["value", "form"] (defScope sCheck) := ⟨rfl, rfl, rfl, by decide +kernel, rfl, by decide +kernel, by decide +kernel⟩
theorem scWordOf : FnScope ["value"] ["value"] (defScope sWordOf) := ⟨rfl, rfl, rfl, by decide +kernel, rfl, by decide +kernel, by decide +kernel⟩
/-! ### what a name is -/
def letters : Str := "abcdefghijklmnopqrstuvwxyz"
def digits : Str := "0123456789"
def noNames : List Str := ["begun", "setby", "found", "trusted", "passed", "failed", "agreed", "differed", "served", "backed", "sound", "unsound", "sure", "never", "open", "none", "record", "lot", "menu", "wanted"]
def isAln (c : Nat) : Bool := decide (c ∈ (letters ++ digits).cps.toList)
def isName (z : Str) : Bool := decide (1 ≤ z.length) && decide (z.length ≤ 8) && !(noNames.contains z) && decide (z.cps.toList.headD 0 ∈ letters.cps.toList) && z.cps.toList.all isAln
/-- the module's names that the words of the package read -/
structure Words (K : PySem.W.Frag) (mg : Str → Option Value) : Prop where
  greatest : ∃ t, mg "GREATEST" = some (.int 1000000000000000000000000000000 t)
  longest : ∃ t, mg "LONGEST_NAME" = some (.int 8 t)
  letters : ∃ t, mg "LETTERS" = some (.str letters t)
  digits : ∃ t, mg "DIGITS" = some (.str digits t)
  noNames : ∃ a, mg "NO_NAMES" = some (.ref a) ∧ ∀ H : Hp, SqT K H a (noNames.map V.str)
  isi : mg "isinstance" = none
  int : mg "int" = none
  bool : mg "bool" = none
  str : mg "str" = none
  len : mg "len" = none
  all : mg "all" = none
section
variable {P : Program} {w : World} {K : PySem.W.Frag} {mg : Str → Option Value} {base : Heap}
theorem kit_int_int : PySem.W.kitOne K (.type "int") (.type "int") = some true := kit_ty (by decide +kernel)
theorem kit_int_bool : PySem.W.kitOne K (.type "int") (.type "bool") = some false := kit_ty (by decide +kernel)
theorem kit_str_str : PySem.W.kitOne K (.type "str") (.type "str") = some true := kit_ty (by decide +kernel)
theorem kit_bool_bool : PySem.W.kitOne K (.type "bool") (.type "bool") = some true := kit_ty (by decide +kernel)

/-- the values that the law draws: what each is, by its type's name -/
inductive Gv (H : Hp) : V → String → Prop where
  | non : Gv H .non "NoneType"
  | bl (b : Bool) : Gv H (.bl b) "bool"
  | int (i : Int) : Gv H (.int i) "int"
  | str (z : Str) (h : z.length ≤ 2000) : Gv H (.str z) "str"
  | lst {a : Addr} {xs : List V} (e : H a = some (.lst xs)) : Gv H (.ref a) "list"
  | tup {a : Addr} {xs : List V} (e : H a = some (.tup xs)) : Gv H (.ref a) "tuple"
  | dK {a : Addr} {kvs : List (Key × V)} (e : H a = some (.dK kvs)) : Gv H (.ref a) "dict"
theorem Gv.ty {H : Hp} {v : V} {T : String} (h : Gv H v T) : TyX K H v (.type T) := by
  cases h with
  | non => exact .base .non
  | bl b => exact .base (.bl b)
  | int i => exact .base (.int i)
  | str z h => exact .base (.str z)
  | lst e => exact .base (.lst e)
  | tup e => exact .base (.tup e)
  | dK e => exact .base (.dK e)
theorem Gv.same {H H' : Hp} {v : V} {T : String} (h : Gv H v T) (s : Same H H') : Gv H' v T := by
  cases h with
  | non => exact .non
  | bl b => exact .bl b
  | int i => exact .int i
  | str z h => exact .str z h
  | lst e => exact .lst (s _ _ e)
  | tup e => exact .tup (s _ _ e)
  | dK e => exact .dK (s _ _ e)
theorem Gv.off {H H' : Hp} {v : V} {T : String} {p : Addr} (h : Gv H v T) (n : v ≠ .ref p) (s : Off p H H') : Gv H' v T := by
  cases h with
  | non => exact .non
  | bl b => exact .bl b
  | int i => exact .int i
  | str z h => exact .str z h
  | lst e => exact .lst (s _ _ (fun z => n (by rw [z])) e)
  | tup e => exact .tup (s _ _ (fun z => n (by rw [z])) e)
  | dK e => exact .dK (s _ _ (fun z => n (by rw [z])) e)
def gInt : V → Bool
  | .int _ => true
  | _ => false
def gMom : V → Bool
  | .int i => decide (0 ≤ i ∧ i ≤ 1000000000000000000000000000000)
  | _ => false
def gNam : V → Bool
  | .str z => isName z
  | _ => false
def gTru : V → Bool
  | .bl _ => true
  | _ => false
/-- what isinstance says of such a value and a built-in type -/
theorem Gv.kit {H : Hp} {v : V} {T : String} (h : Gv H v T) (c : String) (hc : c = "int" ∨ c = "bool" ∨ c = "str") : PySem.W.kitOne K (.type T) (.type c) = some (decide (T = c ∨ (T = "bool" ∧ c = "int"))) := by
  rcases hc with rfl | rfl | rfl <;> cases h <;> exact kit_ty (by decide +kernel)
/-- is_whole -/
def spWhole : Sp := fun vs H Q _ => ∃ (v : V) (T : String), vs = [v] ∧ Gv H v T ∧ Q (.bl (gInt v)) H
theorem ok_whole {f : Addr} {fd : FuncData} (F : Fun K "is_whole" "is_whole" sWhole f fd) (W : Words K mg) : FnOk P w K mg base CX0 1 f fd ["value"] spWhole := by
  refine F.ok scWhole (fun vs H Q E h => ?_) (fun cdv A outer s H vs Q E hr h => ?_)
  · obtain ⟨v, T, rfl, _⟩ := h
    rfl
  · obtain ⟨v, T, rfl, hv, q⟩ := h
    refine ⟨_, pss_one (ps_ret (pe_and (pe_callB call_isi (by rfl) W.isi (by decide +kernel) (pa_cons (pv 0) (pa_cons (pe_bltn (v := .ty "int") (by rfl) W.int (by decide +kernel) rfl) pa_nil)))
      (pe_one (pe_not (pe_callB call_isi (by rfl) W.isi (by decide +kernel) (pa_cons (pv 0) (pa_cons (pe_bltn (v := .ty "bool") (by rfl) W.bool (by decide +kernel) rfl) pa_nil))))))), ?_⟩
    refine ⟨_, rfl, _, _, _, _, _, rfl, .ty "int", hv.ty, hv.kit "int" (.inl rfl), _, rfl, ?_⟩
    cases hv with
    | int i =>
      refine iteT ?_
      exact ⟨_, rfl, _, _, _, _, false, rfl, .ty "bool", .base (.int i), kit_int_bool, _, rfl, q⟩
    | bl b =>
      refine iteT ?_
      exact ⟨_, rfl, _, _, _, _, true, rfl, .ty "bool", .base (.bl b), kit_bool_bool, _, rfl, q⟩
    | non => exact iteF q
    | str z h => exact iteF q
    | lst e => exact iteF q
    | tup e => exact iteF q
    | dK e => exact iteF q
/-- is_moment -/
def spMoment : Sp := fun vs H Q _ => ∃ (v : V) (T : String), vs = [v] ∧ Gv H v T ∧ Q (.bl (gMom v)) H
theorem ok_moment {f fW : Addr} {fd fdW : FuncData} (F : Fun K "is_moment" "is_moment" sMoment f fd) (W : Words K mg) (FW : Fun K "is_whole" "is_whole" sWhole fW fdW) (bW : Binds K fdW ["value"] []) (gW : mg "is_whole" = some (.ref fW)) :
    FnOk P w K mg base CX0 2 f fd ["value"] spMoment := by
  have GW : FnOk P w K mg base CX0 1 fW fdW ["value"] spWhole := ok_whole FW W
  refine F.ok scMoment (fun vs H Q E h => ?_) (fun cdv A outer s H vs Q E hr h => ?_)
  · obtain ⟨v, T, rfl, _⟩ := h
    rfl
  · obtain ⟨v, T, rfl, hv, q⟩ := h
    obtain ⟨tG, hG⟩ := W.greatest
    refine ⟨_, pss_one (ps_ret (pe_and (pe_call GW hr (by rfl) gW FW.kp bW .nil pass0 (pa_cons (pv 0) pa_nil)) (pe_one (pe_chain op_le op_le pe_int (pv 0) (pe_glob (v := .int 1000000000000000000000000000000) rfl hG ⟨_, rfl⟩))))), ?_⟩
    refine ⟨_, rfl, v, T, rfl, hv, gInt v, rfl, ?_⟩
    cases hv with
    | int i =>
      refine iteT ?_
      refine ⟨_, rfl, _, _, rfl, rfl, _, rfl, ite2 (fun e => ?_) (fun e => ?_)⟩
      · have e' : 0 ≤ i := of_decide_eq_true e
        refine ⟨_, _, rfl, rfl, ?_⟩
        have : gMom (.int i) = decide (i ≤ 1000000000000000000000000000000) := by simp [gMom, e']
        rw [this] at q
        exact q
      · have e' : ¬ 0 ≤ i := fun z => e (decide_eq_true z)
        have : gMom (.int i) = false := by simp [gMom, e']
        rw [this] at q
        exact q
    | bl b => exact iteF q
    | non => exact iteF q
    | str z h => exact iteF q
    | lst e => exact iteF q
    | tup e => exact iteF q
    | dK e => exact iteF q

theorem inV_strs (z : Str) : ∀ l : List Str, inV (.str z) (l.map V.str) = l.contains z
  | [] => rfl
  | x :: r => by
    have h := inV_strs z r
    have e : eqV (.str x) (.str z) = (z == x) := Bool.beq_comm (a := x) (b := z)
    show (eqV (.str x) (.str z) || inV (.str z) (r.map V.str)) = _
    rw [h, e, List.contains_cons]
theorem flat_strs (l : List Str) : (l.map V.str).all flatV = true := by
  rw [List.all_map]
  exact List.all_eq_true.mpr fun _ _ => rfl
theorem Same.over {H H1 : Hp} {D : Addr} {o : HO} (s : Same H H1) (h : H D = none) : Same H (upd H1 D o) := fun b u e => by
  rw [upd_ne (ne_of_none e h)]
  exact s b u e
/-- is_name -/
def spName : Sp := fun vs H Q _ => ∃ (v : V) (T : String), vs = [v] ∧ Gv H v T ∧ ∀ H', Same H H' → Q (.bl (gNam v)) H'
theorem ok_name {f : Addr} {fd : FuncData} (F : Fun K "is_name" "is_name" sName f fd) (W : Words K mg) : FnOk P w K mg base CX0 1 f fd ["value"] spName := by
  refine F.ok scName (fun vs H Q E h => ?_) (fun cdv A outer s H vs Q E hr h => ?_)
  · obtain ⟨v, T, rfl, _⟩ := h
    rfl
  · obtain ⟨v, T, rfl, hv, q⟩ := h
    obtain ⟨tL, hL⟩ := W.longest
    obtain ⟨tA, hA⟩ := W.letters
    obtain ⟨tD, hD⟩ := W.digits
    obtain ⟨aN, gN, hN⟩ := W.noNames
    have gA : ∀ {X : Cx}, X.mg = mg → True := fun _ => trivial
    refine ⟨_, pss_cons (ps_if (PW.pt (pw_or (pt_not (pt_val (pe_callB call_isi (by rfl) W.isi (by decide +kernel) (pa_cons (pv 0) (pa_cons (pe_bltn (v := .ty "str") (by rfl) W.str (by decide +kernel) rfl) pa_nil)))))
        (pw_or (pt_not (pt_chain op_le op_le pe_int (pe_callB call_len_str (by rfl) W.len PySem.boot_len (pa_cons (pv 0) pa_nil)) (pe_glob (v := .int 8) rfl hL ⟨_, rfl⟩)))
          (pw_or1 (pt_cmpR op_in_seq (pv 0) (pe_glob (v := .ref aN) rfl gN rfl) (by rfl))))))
        (pss_one (ps_ret pe_bl)) pss_nil)
      (pss_one (ps_ret (pe_and (pe_cmpR op_in_sign (pe_ix ix_str (pv 0) pe_int (fun _ _ => rfl)) (pe_glob (v := .str letters) rfl hA ⟨_, rfl⟩) (by rfl))
        (pe_one (pe_callB (cr_all rfl) (by rfl) W.all (by decide +kernel) (pa_cons (pe_lc (own := [("sign", 1)]) (g := gName 1) (tt := tYes) rfl scName.nd (pi_str (pv 0)) (blkOk_by (N := ["value", "sign"]) (sc := defScope sName) (by decide +kernel))
          (fun _ _ _ _ _ => pg_name (i := 1) scName.nd rfl (Or.inl rfl)) (fun _ _ _ _ _ => pts_nil)
          (fun _ _ _ _ _ => pe_cmpR op_in_sign (pv 1) (pe_op op_add_str (pe_glob (v := .str letters) rfl hA ⟨_, rfl⟩) (pe_glob (v := .str digits) rfl hD ⟨_, rfl⟩)) (by rfl))) pa_nil)))))), ?_⟩
    refine ⟨_, rfl, _, _, _, _, _, rfl, .ty "str", hv.ty, hv.kit "str" (.inr (.inr rfl)), _, rfl, ?_⟩
    cases hv with
    | non => exact iteT (q H (Same.refl H))
    | bl b => exact iteT (q H (Same.refl H))
    | int i => exact iteT (q H (Same.refl H))
    | lst e => exact iteT (q H (Same.refl H))
    | tup e => exact iteT (q H (Same.refl H))
    | dK e => exact iteT (q H (Same.refl H))
    | str z hz => ?_
    have q : ∀ H', Same H H' → Q (.bl (isName z)) H' := q
    have hzl : z.length ≤ sizeLine := Nat.le_trans hz (by decide)
    refine iteF ?_
    have no : isName z = false → Q (.bl false) H := fun e => by
      have := q H (Same.refl H)
      rw [e] at this
      exact this
    refine ⟨_, rfl, _, rfl, hzl, _, _, rfl, rfl, _, rfl, ite2 (fun c1 => ?_) (fun c1 => ⟨_, rfl, iteT (no ?_)⟩)⟩
    case refine_2 =>
      have c1' : ¬ (1 : Int) ≤ ((z.length : Nat) : Int) := fun e => c1 (decide_eq_true e)
      unfold isName
      rw [show decide (1 ≤ z.length) = false from decide_eq_false (by omega)]
      rfl
    have c1' : (1 : Int) ≤ ((z.length : Nat) : Int) := of_decide_eq_true c1
    refine ⟨_, _, rfl, rfl, _, rfl, ?_⟩
    by_cases c2 : ((z.length : Nat) : Int) ≤ 8
    case neg =>
      rw [decide_eq_false c2]
      refine iteT (no ?_)
      unfold isName
      rw [show decide (z.length ≤ 8) = false from decide_eq_false (by omega), Bool.and_false]
      rfl
    rw [decide_eq_true c2]
    refine iteF ⟨_, rfl, aN, _, rfl, .inr (hN H), rfl, flat_strs _, ?_⟩
    refine ⟨_, rfl, ?_⟩
    rw [show inV (.str z) (noNames.map V.str) = noNames.contains z from inV_strs z noNames]
    cases c3 : noNames.contains z with
    | true =>
      refine iteT (no ?_)
      unfold isName
      rw [c3, Bool.not_true, Bool.and_false]
      rfl
    | false =>
      refine iteF ?_
      have hz0 : 0 < z.cps.toList.length := by
        have : z.length = z.cps.toList.length := Array.length_toList.symm
        omega
      obtain ⟨c0, cr, hc⟩ : ∃ c0 cr, z.cps.toList = c0 :: cr := by
        cases e : z.cps.toList with
        | nil => rw [e] at hz0; cases hz0
        | cons a r => exact ⟨a, r, rfl⟩
      have e1 : decide (1 ≤ z.length) = true := decide_eq_true (by omega)
      have e2 : decide (z.length ≤ 8) = true := decide_eq_true (by omega)
      have e3 : isName z = (decide (c0 ∈ letters.cps.toList) && z.cps.toList.all isAln) := by
        unfold isName
        rw [e1, e2, c3, hc]
        rfl
      refine ⟨_, rfl, _, _, c0, rfl, rfl, hzl, ?_, _, _, rfl, rfl, _, rfl, ite2 (fun c4 => ?_) (fun c4 => ?_)⟩
      · rw [hc]
        exact atI_nat (j := 0) rfl
      · refine ⟨_, rfl, _, rfl, fun D hD => lc_it walk_str (fun i H' => H' D = some (.lst ((z.cps.toList.take i).map fun c => V.bl (isAln c))) ∧ Same H H') ⟨?_, ?_⟩ (fun _ _ _ _ => trivial) ?_ ?_⟩
        · exact upd_same
        · exact Same.over (Same.refl H) hD
        · rintro i x H1 H2 hi ⟨h1, s1⟩ ⟨rfl, c, hc1, rfl⟩
          have hc2 : z.cps.toList[i]? = some c := by
            rw [Array.getElem?_toList]
            exact hc1
          refine ⟨rfl, _, rfl, _, _, rfl, rfl, by decide, c, _, rfl, rfl, _, h1, ?_, ?_, Same.over s1 hD⟩
          · rw [List.length_map, List.length_take]
            have : z.cps.toList.length = z.length := Array.length_toList
            exact Nat.lt_of_le_of_lt (Nat.le_trans (Nat.min_le_right _ _) (by omega)) (by decide : 2000 < sizeLine)
          · rw [upd_same, List.take_add_one, hc2, List.map_append]
            rfl
        · rintro H1 ⟨h1, s1⟩
          refine ⟨D, z.cps.toList.map isAln, rfl, SqL.of ?_, ?_⟩
          · rw [h1, List.take_of_length_le (by rw [Array.length_toList]; exact Nat.le_refl _), List.map_map]
            rfl
          · have := q H1 s1
            rw [e3, show decide (c0 ∈ letters.cps.toList) = true from c4, Bool.true_and] at this
            rw [List.all_map]
            exact this
      · refine no ?_
        rw [e3]
        have : decide (c0 ∈ letters.cps.toList) = false := by
          cases h : decide (c0 ∈ letters.cps.toList) with
          | true => exact absurd h c4
          | false => rfl
        rw [this]
        rfl
end
end K11

namespace K11
open PySem PySem.Spec PyProof.Rows L2 So
abbrev sEN : Stmt := inClass (topS 3) 0
abbrev sEM : Stmt := inClass (topS 4) 0
abbrev sES : Stmt := inClass (topS 5) 0
theorem scEN : FnScope ["self", "name"] ["self", "name"] (defScope sEN) := ⟨rfl, rfl, rfl, by decide +kernel, rfl, by decide +kernel, by decide +kernel⟩
theorem scEM : FnScope ["self", "moment"] ["self", "moment"] (defScope sEM) := ⟨rfl, rfl, rfl, by decide +kernel, rfl, by decide +kernel, by decide +kernel⟩
theorem scES : FnScope ["self", "value"] ["self", "value"] (defScope sES) := ⟨rfl, rfl, rfl, by decide +kernel, rfl, by decide +kernel, by decide +kernel⟩
section
variable {P : Program} {w : World} {K : PySem.W.Frag} {mg : Str → Option Value} {base : Heap}
theorem ok_eN {C f : Addr} {fd : FuncData} (F : Fun K "__init__" "BadName.__init__" sEN f fd) (O : OneE K mg "BadName" "name" C f fd) : FnOk P w K mg base CX0 1 f fd ["self", "name"] (spOneE C "name") := by
  refine F.ok scEN (fun vs H Q E h => ?_) (fun cdv A outer s H vs Q E hr h => ?_)
  · obtain ⟨a, v, rfl, _⟩ := h
    rfl
  · obtain ⟨a, v, rfl, ha, q⟩ := h
    exact ⟨_, pss_one (ps_ost (pv 0) (pv 1)), _, rfl, _, rfl, a, C, rfl, O.T, O.no, .inl ⟨ha, fun dx h n => q dx h n⟩⟩
theorem ok_eM {C f : Addr} {fd : FuncData} (F : Fun K "__init__" "BadMoment.__init__" sEM f fd) (O : OneE K mg "BadMoment" "moment" C f fd) : FnOk P w K mg base CX0 1 f fd ["self", "moment"] (spOneE C "moment") := by
  refine F.ok scEM (fun vs H Q E h => ?_) (fun cdv A outer s H vs Q E hr h => ?_)
  · obtain ⟨a, v, rfl, _⟩ := h
    rfl
  · obtain ⟨a, v, rfl, ha, q⟩ := h
    exact ⟨_, pss_one (ps_ost (pv 0) (pv 1)), _, rfl, _, rfl, a, C, rfl, O.T, O.no, .inl ⟨ha, fun dx h n => q dx h n⟩⟩
theorem ok_eS {C f : Addr} {fd : FuncData} (F : Fun K "__init__" "BadSaying.__init__" sES f fd) (O : OneE K mg "BadSaying" "value" C f fd) : FnOk P w K mg base CX0 1 f fd ["self", "value"] (spOneE C "value") := by
  refine F.ok scES (fun vs H Q E h => ?_) (fun cdv A outer s H vs Q E hr h => ?_)
  · obtain ⟨a, v, rfl, _⟩ := h
    rfl
  · obtain ⟨a, v, rfl, ha, q⟩ := h
    exact ⟨_, pss_one (ps_ost (pv 0) (pv 1)), _, rfl, _, rfl, a, C, rfl, O.T, O.no, .inl ⟨ha, fun dx h n => q dx h n⟩⟩
/-- the three errors of arguments -/
structure Errs (K : PySem.W.Frag) (mg : Str → Option Value) (CN CM CS : Addr) : Prop where
  n : ∃ (f : Addr) (fd : FuncData), OneE K mg "BadName" "name" CN f fd ∧ Fun K "__init__" "BadName.__init__" sEN f fd
  m : ∃ (f : Addr) (fd : FuncData), OneE K mg "BadMoment" "moment" CM f fd ∧ Fun K "__init__" "BadMoment.__init__" sEM f fd
  s : ∃ (f : Addr) (fd : FuncData), OneE K mg "BadSaying" "value" CS f fd ∧ Fun K "__init__" "BadSaying.__init__" sES f fd
def gBeg : V → Bool
  | .int i => decide (1 ≤ i ∧ i ≤ 1000000000000000000000000000000)
  | _ => false
/-- the forms: whether a value has it, the class and the field of the error where not -/
def Form (CN CM CS : Addr) (form : Str) (v : V) (ok : Bool) (C : Addr) (fl : Str) : Prop :=
  (form = "name" ∧ ok = gNam v ∧ C = CN ∧ fl = "name") ∨ (form = "moment" ∧ ok = gMom v ∧ C = CM ∧ fl = "moment") ∨ (form = "beginning" ∧ ok = gBeg v ∧ C = CM ∧ fl = "moment") ∨ (form = "truth" ∧ ok = gTru v ∧ C = CS ∧ fl = "value")
theorem notS {a b : Str} (h : a ≠ b) : ¬ (decide (V.str a = V.str b) = true) := fun e => h (V.str.inj (of_decide_eq_true e))
def spCheck (CN CM CS : Addr) : Sp := fun vs H Q E => ∃ (v : V) (T : String) (form : Str) (ok : Bool) (C : Addr) (fl : Str), vs = [v, .str form] ∧ Gv H v T ∧ Form CN CM CS form v ok C fl ∧
  (ok = true → ∀ H', Same H H' → Q .non H') ∧ (ok = false → ∀ d H', Same H H' → H' d = some (.xd [(fl, v)]) → E (.ref C) (some d) H')
theorem ok_check {CN CM CS f fM fN : Addr} {fd fdM fdN : FuncData} (F : Fun K "check_form" "check_form" sCheck f fd) (W : Words K mg) (R : Errs K mg CN CM CS) (FM : Fun K "is_moment" "is_moment" sMoment fM fdM) (bM : Binds K fdM ["value"] []) (gM : mg "is_moment" = some (.ref fM))
    (GM : FnOk P w K mg base CX0 2 fM fdM ["value"] spMoment) (FN : Fun K "is_name" "is_name" sName fN fdN) (bN : Binds K fdN ["value"] []) (gN : mg "is_name" = some (.ref fN)) (GN : FnOk P w K mg base CX0 1 fN fdN ["value"] spName) :
    FnOk P w K mg base (L2.CX P w) 3 f fd ["value", "form"] (spCheck CN CM CS) := by
  obtain ⟨f1, fd1, O1, F1⟩ := R.n
  obtain ⟨f2, fd2, O2, F2⟩ := R.m
  obtain ⟨f3, fd3, O3, F3⟩ := R.s
  have G1 : FnOk P w K mg base CX0 1 f1 fd1 ["self", "name"] (spOneE CN "name") := ok_eN F1 O1
  have G2 : FnOk P w K mg base CX0 1 f2 fd2 ["self", "moment"] (spOneE CM "moment") := ok_eM F2 O2
  have G3 : FnOk P w K mg base CX0 1 f3 fd3 ["self", "value"] (spOneE CS "value") := ok_eS F3 O3
  refine F.okX scCheck (fun vs H Q E h => ?_) (fun cdv A outer s H vs Q E hr h => ?_)
  · obtain ⟨v, T, form, ok, C, fl, rfl, _⟩ := h
    rfl
  · obtain ⟨v, T, form, ok, C, fl, rfl, hv, hf, qy, qn⟩ := h
    have hr1 : Room 1 _ := hr.mono (by decide)
    refine ⟨_, pss_cons (ps_if (PW.pt (pw_and (pt_cmpR op_eq (pv 1) pe_str (nomark _)) (pw_and1 (pt_not (pt_val (pe_call GN hr1 (by rfl) gN FN.kp bN .nil pass0 (pa_cons (pv 0) pa_nil))))))) (pss_one (ps_raiseOne O1 G1 rfl hr (takes_of rfl rfl rfl rfl) (by rfl) (pa_cons (pv 0) pa_nil))) pss_nil)
      (pss_cons (ps_if (PW.pt (pw_and (pt_cmpR op_eq (pv 1) pe_str (nomark _)) (pw_and1 (pt_not (pt_val (pe_call GM hr (by rfl) gM FM.kp bM .nil pass0 (pa_cons (pv 0) pa_nil))))))) (pss_one (ps_raiseOne O2 G2 rfl hr (takes_of rfl rfl rfl rfl) (by rfl) (pa_cons (pv 0) pa_nil))) pss_nil)
      (pss_cons (ps_if (PW.pt (pw_and (pt_cmpR op_eq (pv 1) pe_str (nomark _)) (pw_and1 (pt_not (PW.pt (pw_and (pt_val (pe_call GM hr (by rfl) gM FM.kp bM .nil pass0 (pa_cons (pv 0) pa_nil))) (pw_and1 (pt_cmpR op_gt (pv 0) pe_int (nomark _))))))))) (pss_one (ps_raiseOne O2 G2 rfl hr (takes_of rfl rfl rfl rfl) (by rfl) (pa_cons (pv 0) pa_nil))) pss_nil)
      (pss_one (ps_if (PW.pt (pw_and (pt_cmpR op_eq (pv 1) pe_str (nomark _)) (pw_and1 (pt_not (pt_val (pe_callB call_isi (by rfl) W.isi (by decide +kernel) (pa_cons (pv 0) (pa_cons (pe_bltn (v := .ty "bool") (by rfl) W.bool (by decide +kernel) rfl) pa_nil))))))))
        (pss_one (ps_raiseOne O3 G3 rfl hr (takes_of rfl rfl rfl rfl) (by rfl) (pa_cons (pv 0) pa_nil))) pss_nil)))), ?_⟩
    rcases hf with ⟨rfl, rfl, rfl, rfl⟩ | ⟨rfl, rfl, rfl, rfl⟩ | ⟨rfl, rfl, rfl, rfl⟩ | ⟨rfl, rfl, rfl, rfl⟩
    · refine ⟨_, rfl, rfl, _, rfl, ite2 (fun _ => ?_) (fun e => absurd (decide_eq_true rfl) e)⟩
      refine ⟨_, rfl, v, T, rfl, hv, fun H1 s1 => ⟨_, rfl, ?_⟩⟩
      cases hg : gNam v with
      | true =>
        refine iteF ?_
        refine ⟨_, rfl, rfl, _, rfl, ite2 (fun e => absurd e (notS (by decide +kernel))) (fun _ => ?_)⟩
        refine ⟨_, rfl, rfl, _, rfl, ite2 (fun e => absurd e (notS (by decide +kernel))) (fun _ => ?_)⟩
        refine ⟨_, rfl, rfl, _, rfl, ite2 (fun e => absurd e (notS (by decide +kernel))) (fun _ => ?_)⟩
        exact qy hg H1 s1
      | false =>
        refine iteT ?_
        exact ⟨_, rfl, mkOne rfl fun d H' s2 _ e => qn hg d H' (s1.trans s2) e⟩
    · refine ⟨_, rfl, rfl, _, rfl, ite2 (fun e => absurd e (notS (by decide +kernel))) (fun _ => ?_)⟩
      refine ⟨_, rfl, rfl, _, rfl, ite2 (fun _ => ?_) (fun e => absurd (decide_eq_true rfl) e)⟩
      refine ⟨_, rfl, v, T, rfl, hv, _, rfl, ?_⟩
      cases hg : gMom v with
      | true =>
        refine iteF ?_
        refine ⟨_, rfl, rfl, _, rfl, ite2 (fun e => absurd e (notS (by decide +kernel))) (fun _ => ?_)⟩
        refine ⟨_, rfl, rfl, _, rfl, ite2 (fun e => absurd e (notS (by decide +kernel))) (fun _ => ?_)⟩
        exact qy hg H (Same.refl H)
      | false =>
        refine iteT ?_
        exact ⟨_, rfl, mkOne rfl fun d H' s2 _ e => qn hg d H' s2 e⟩
    · refine ⟨_, rfl, rfl, _, rfl, ite2 (fun e => absurd e (notS (by decide +kernel))) (fun _ => ?_)⟩
      refine ⟨_, rfl, rfl, _, rfl, ite2 (fun e => absurd e (notS (by decide +kernel))) (fun _ => ?_)⟩
      refine ⟨_, rfl, rfl, _, rfl, ite2 (fun _ => ?_) (fun e => absurd (decide_eq_true rfl) e)⟩
      refine ⟨_, rfl, v, T, rfl, hv, _, rfl, ?_⟩
      have no : gBeg v = false → tMkO C (spOneE C "moment") [] (tCons (tVar 0) tNil) [some v, some (.str "beginning")] H fun cls d H' => E cls d H' := fun e =>
        ⟨_, rfl, mkOne rfl fun d H' s2 _ e2 => qn e d H' s2 e2⟩
      cases hg : gMom v with
      | true =>
        refine iteT ?_
        obtain ⟨i, rfl⟩ : ∃ i, v = .int i := by
          cases v with
          | int i => exact ⟨i, rfl⟩
          | _ => cases hg
        have hi : 0 ≤ i ∧ i ≤ 1000000000000000000000000000000 := of_decide_eq_true hg
        refine ⟨_, rfl, _, _, rfl, rfl, _, rfl, ?_⟩
        by_cases z : 0 < i
        · rw [show decide (i > 0) = true from decide_eq_true z]
          refine iteF ?_
          refine ⟨_, rfl, rfl, _, rfl, ite2 (fun e => absurd e (notS (by decide +kernel))) (fun _ => ?_)⟩
          exact qy (decide_eq_true ⟨by omega, hi.2⟩) H (Same.refl H)
        · rw [show decide (i > 0) = false from decide_eq_false z]
          refine iteT ?_
          exact no (decide_eq_false (by omega))
      | false =>
        refine iteF (iteT (no ?_))
        cases v with
        | int i =>
          have : ¬ (0 ≤ i ∧ i ≤ 1000000000000000000000000000000) := of_decide_eq_false hg
          exact decide_eq_false (by omega)
        | _ => rfl
    · refine ⟨_, rfl, rfl, _, rfl, ite2 (fun e => absurd e (notS (by decide +kernel))) (fun _ => ?_)⟩
      refine ⟨_, rfl, rfl, _, rfl, ite2 (fun e => absurd e (notS (by decide +kernel))) (fun _ => ?_)⟩
      refine ⟨_, rfl, rfl, _, rfl, ite2 (fun e => absurd e (notS (by decide +kernel))) (fun _ => ?_)⟩
      refine ⟨_, rfl, rfl, _, rfl, ite2 (fun _ => ?_) (fun e => absurd (decide_eq_true rfl) e)⟩
      refine ⟨_, rfl, _, _, _, _, _, rfl, .ty "bool", hv.ty, hv.kit "bool" (.inr (.inl rfl)), _, rfl, ?_⟩
      have no : gTru v = false → tMkO C (spOneE C "value") [] (tCons (tVar 0) tNil) [some v, some (.str "truth")] H fun cls d H' => E cls d H' := fun e =>
        ⟨_, rfl, mkOne rfl fun d H' s2 _ e2 => qn e d H' s2 e2⟩
      cases hv with
      | bl b => exact iteF (qy rfl H (Same.refl H))
      | non => exact iteT (no rfl)
      | int i => exact iteT (no rfl)
      | str z h => exact iteT (no rfl)
      | lst e => exact iteT (no rfl)
      | tup e => exact iteT (no rfl)
      | dK e => exact iteT (no rfl)
end
end K11

namespace K11
open PySem PySem.Spec PyProof.Rows L2 So
abbrev sLName : Stmt := topS 49
abbrev sWords : Stmt := topS 48
theorem scLName : FnScope ["_law_pen_here", "_law_letters", "_law_made_here", "_law_k"] ["_law_pen_here"] (defScope sLName) := ⟨rfl, rfl, rfl, by decide +kernel, rfl, by decide +kernel, by decide +kernel⟩
theorem scWords : FnScope ["_law_some"] [] (defScope sWords) := ⟨rfl, rfl, rfl, by decide +kernel, rfl, by decide +kernel, by decide +kernel⟩
theorem cut63 (xs : List V) : cutV xs none (some 63) = xs.take 63 := by
  unfold cutV
  rw [HT.sIx_none, show HT.sIx xs.length xs.length (some 63) = min 63 xs.length from HT.sIx_nat xs.length xs.length 63]
  simp
theorem same_upd0 {H : Hp} {p : Addr} {o : HO} (h : H p = none) : Same H (upd H p o) := Same.over (Same.refl H) h
theorem same3 {H : Hp} {a b c : Addr} {o1 o2 o3 : HO} (ha : H a = none) (hb : upd H a o1 b = none) (hc : upd (upd H a o1) b o2 c = none) : Same H (upd (upd (upd H a o1) b o2) c o3) ∧ H c = none :=
  have s2 := (same_upd0 (o := o1) ha).trans (same_upd0 (o := o2) hb)
  ⟨s2.trans (same_upd0 hc), s2.free hc⟩
section
variable {P : Program} {w : World} {K : PySem.W.Frag} {mg : Str → Option Value} {base : Heap}
def spPen (K : PySem.W.Frag) : Sp := fun vs H Q _ => ∃ (a : Addr) (ns : List Int), vs = [.ref a] ∧ SqL K H a (ns.map V.int) ∧ ∀ (H' : Hp) (p l : Addr) (ns' : List Int), Same H H' → Pen H' p l ns' 0 0 → Q (.ref p) H'
theorem ok_pen {f : Addr} {fd : FuncData} (F : Fun K "_law_pen" "_law_pen" sPen f fd) (ml : mg "list" = none) : FnOk P w K mg base CX0 1 f fd ["_law_script"] (spPen K) := by
  refine F.ok scPen (fun vs H Q E h => ?_) (fun cdv A outer s H vs Q E hr h => ?_)
  · obtain ⟨a, ns, rfl, _⟩ := h
    rfl
  · obtain ⟨a, ns, rfl, hS, q⟩ := h
    refine ⟨_, pss_one (ps_ret (pe_lst (pa_cons (pe_callTy call_list_of (by rfl) ml (by decide +kernel) (pa_cons (pe_slice sl_list (pv 0) po_none (po_some pe_int)) pa_nil)) (pa_cons pe_int (pa_cons pe_int pa_nil))))), ?_⟩
    refine ⟨_, rfl, 63, rfl, a, ns.map V.int, rfl, hS, fun c hc => ?_⟩
    rw [cut63, ← List.map_take]
    refine ⟨c, _, rfl, .inl (SqL.of upd_same), fun l hl => ?_⟩
    refine ⟨by show 3 ≤ sizeLine; decide, fun p hp => ?_⟩
    have s1 : Same H (upd (upd (upd H c (.lst ((ns.take 63).map V.int))) l (.lst ((ns.take 63).map V.int))) p (.lst [.ref l, .int 0, .int 0])) := by
      refine ((same_upd0 hc).trans (same_upd0 hl)).trans (same_upd0 hp)
    have nlp : l ≠ p := fun e => by
      rw [e, upd_same] at hp
      cases hp
    exact q _ p l (ns.take 63) s1 ⟨upd_same, (upd_ne nlp).trans upd_same, Int.le_refl 0⟩
/-- the words that are no names -/
def spWords : Sp := fun vs H Q _ => vs = [] ∧ ∀ (H' : Hp) (a : Addr), Same H H' → H a = none → H' a = some (.lst (noNames.map V.str)) → Q (.ref a) H'
theorem ok_words {f : Addr} {fd : FuncData} (F : Fun K "_law_words" "_law_words" sWords f fd) : FnOk P w K mg base CX0 1 f fd [] spWords := by
  refine F.ok scWords (fun vs H Q E h => ?_) (fun cdv A outer s H vs Q E hr h => ?_)
  · obtain ⟨rfl, _⟩ := h
    rfl
  · obtain ⟨rfl, q⟩ := h
    refine ⟨_, (pss_cons (ps_set (i := 0) scWords.nd rfl (.inl rfl) (pe_lst (pa_cons pe_str (pa_cons pe_str (pa_cons pe_str (pa_cons pe_str (pa_cons pe_str (pa_cons pe_str (pa_cons pe_str (pa_cons pe_str (pa_cons pe_str (pa_cons pe_str pa_nil))))))))))))
      (pss_one (ps_ret (pe_op op_cat (pv 0) (pe_lst (pa_cons pe_str (pa_cons pe_str (pa_cons pe_str (pa_cons pe_str (pa_cons pe_str (pa_cons pe_str (pa_cons pe_str (pa_cons pe_str (pa_cons pe_str (pa_cons pe_str pa_nil))))))))))))))), ?_⟩
    refine ⟨by show 10 ≤ sizeLine; decide, fun a ha => ?_⟩
    refine ⟨_, rfl, by show 10 ≤ sizeLine; decide, fun b hb => ?_⟩
    refine ⟨a, b, _, _, rfl, rfl, (upd_ne (ne_of_none upd_same hb)).trans upd_same, upd_same, by show 20 ≤ sizeLine; decide, fun c hc => ?_⟩
    exact q _ c (same3 ha hb hc).1 (same3 (o3 := .lst []) ha hb hc).2 upd_same
/-- what is being written of a name -/
def Nm (z : Str) (k : Nat) : Prop := 1 ≤ z.length ∧ z.length ≤ k ∧ z.cps.toList.headD 0 ∈ letters.cps.toList ∧ z.cps.toList.all isAln = true
theorem Nm.one {c : Nat} (h : c ∈ letters.cps.toList) : Nm ⟨#[c]⟩ 1 := by
  refine ⟨Nat.le_refl _, Nat.le_refl _, h, ?_⟩
  have : isAln c = true := decide_eq_true (by
    show c ∈ (letters.cps ++ digits.cps).toList
    rw [Array.toList_append]
    exact List.mem_append_left _ h)
  simp [this]
theorem Nm.more {z : Str} {k c : Nat} (h : Nm z k) (hc : c ∈ (letters ++ digits).cps.toList) : Nm (z ++ ⟨#[c]⟩) (k + 1) := by
  obtain ⟨h1, h2, h3, h4⟩ := h
  have e : (z ++ (⟨#[c]⟩ : Str)).cps.toList = z.cps.toList ++ [c] := Array.toList_append
  have el : (z ++ (⟨#[c]⟩ : Str)).length = z.length + 1 := by
    show (z ++ (⟨#[c]⟩ : Str)).cps.size = z.cps.size + 1
    rw [← Array.length_toList, e, List.length_append, Array.length_toList]
    rfl
  refine ⟨by omega, by omega, ?_, ?_⟩
  · rw [e]
    cases q : z.cps.toList with
    | nil =>
      have : z.length = z.cps.toList.length := Array.length_toList.symm
      rw [q] at this
      simp at this
      omega
    | cons a r =>
      rw [q] at h3
      exact h3
  · rw [e, List.all_append, h4]
    simp [isAln, hc]
theorem Nm.name {z : Str} (h : Nm z 8) (hn : noNames.contains z = false) : isName z = true := by
  obtain ⟨h1, h2, h3, h4⟩ := h
  unfold isName
  rw [decide_eq_true h1, decide_eq_true h2, hn, decide_eq_true h3, h4]
  rfl
theorem x_name : ∀ z ∈ noNames, isName (("x" : Str) ++ cutS z (some 1) none) = true := by decide +kernel
theorem x_len : ∀ z ∈ noNames, ("x" : Str).length + (cutS z (some 1) none).length ≤ 100 := by decide +kernel
theorem len_noNames : ∀ z ∈ noNames, z.length ≤ 8 := by decide +kernel
/-- a drawn name -/
def spLName : Sp := fun vs H Q _ => ∃ (p l : Addr) (ns : List Int) (n : Nat) (g : Int), vs = [.ref p] ∧ Pen H p l ns n g ∧ n < 999000 ∧
  ∀ (z : Str) (n' : Nat) (g' : Int) (H' : Hp), isName z = true → n' ≤ n + 9 → Off p H H' → Pen H' p l ns n' g' → Q (.str z) H'
theorem ok_lname {f fP fW : Addr} {fd fdP fdW : FuncData} (F : Fun K "_law_name" "_law_name" sLName f fd) (mr : mg "range" = none) (FP : Fun K "_law_pick" "_law_pick" sPick fP fdP) (bP : Binds K fdP ["_law_pen_here", "_law_some"] []) (gP : mg "_law_pick" = some (.ref fP))
    (GP : FnOk P w K mg base CX0 2 fP fdP ["_law_pen_here", "_law_some"] (spPick K)) (FW : Fun K "_law_words" "_law_words" sWords fW fdW) (bW : Binds K fdW [] []) (gW : mg "_law_words" = some (.ref fW)) (GW : FnOk P w K mg base CX0 1 fW fdW [] spWords) :
    FnOk P w K mg base CX0 3 f fd ["_law_pen_here"] spLName := by
  refine F.ok scLName (fun vs H Q E h => ?_) (fun cdv A outer s H vs Q E hr h => ?_)
  · obtain ⟨p, l, ns, n, g, rfl, _⟩ := h
    rfl
  · obtain ⟨p, l, ns, n, g, rfl, hp, hn, k⟩ := h
    have hr1 : Room 1 _ := hr.mono (by decide)
    refine ⟨_, pss_cons (ps_set (i := 1) scLName.nd rfl (.inl rfl) pe_str)
      (pss_cons (ps_set (i := 2) scLName.nd rfl (.inl rfl) (pe_call GP hr (by rfl) gP FP.kp bP .nil pass0 (pa_cons (pv 0) (pa_cons (pv 1) pa_nil))))
      (pss_cons (ps_for PassesOwn.never rfl (pi_range1 (by rfl) mr (pa_cons (pe_call GP hr (by rfl) gP FP.kp bP .nil pass0 (pa_cons (pv 0) (pa_cons (pe_lst (pa_cons pe_int (pa_cons pe_int (pa_cons pe_int (pa_cons pe_int (pa_cons pe_int pa_nil)))))) pa_nil))) pa_nil)) (pg_name (i := 3) scLName.nd rfl (Or.inl rfl))
        (pss_one (ps_set (i := 2) scLName.nd rfl (.inl rfl) (pe_op op_add_str (pv 2) (pe_call GP hr (by rfl) gP FP.kp bP .nil pass0 (pa_cons (pv 0) (pa_cons (pe_op op_add_str (pv 1) pe_str) pa_nil)))))))
      (pss_one (ps_ret (pe_ifExp (pt_cmpR op_notIn_seq (pv 2) (pe_call0 GW hr1 (by rfl) gW FW.kp bW .nil pass0) (by rfl)) (pv 2) (pe_op op_add_str pe_str (pe_slice sl_str (pv 2) (po_some pe_int) po_none))))))), ?_⟩
    have s26 : (0 : Nat) < letters.length ∧ letters.length ≤ 1000 := by decide +kernel
    have s36 : (0 : Nat) < (letters ++ digits).length ∧ (letters ++ digits).length ≤ 1000 ∧ letters.length + digits.length ≤ sizeLine := by decide +kernel
    refine ⟨_, rfl, _, rfl, p, l, ns, n, g, _, rfl, hp, by omega, .inr ⟨_, rfl, s26.1, s26.2, fun c n1 g1 H1 hc hn1 off1 pen1 => ?_⟩⟩
    refine ⟨_, rfl, (by show 5 ≤ sizeLine; decide), fun q1 hq1 => ?_⟩
    refine ⟨p, l, ns, n1, g1, _, rfl, pen1.new hq1, by omega, .inl ⟨q1, _, rfl, (ne_of_none pen1.pen hq1).symm, upd_same, (by show 0 < 5; decide), (by show 5 ≤ 1000; decide), fun v n2 g2 H2 hv hn2 off2 pen2 => ?_⟩⟩
    obtain ⟨r, hr7, rfl⟩ : ∃ r : Nat, r ≤ 7 ∧ v = .int r := by
      simp only [List.mem_cons, List.not_mem_nil, or_false] at hv
      rcases hv with h | h | h | h | h <;> subst h
      · exact ⟨0, by decide, rfl⟩
      · exact ⟨0, by decide, rfl⟩
      · exact ⟨1, by decide, rfl⟩
      · exact ⟨2, by decide, rfl⟩
      · exact ⟨7, by decide, rfl⟩
    have off12 : Off p H H2 := Off.trans (off1.new hq1) off2
    refine ⟨r, rfl, by omega, by omega, for_range (n := r) (fun i σ' H' => ∃ (z : Str) (x : Option V) (n' : Nat) (g' : Int), σ' = [some (.ref p), some (.str letters), some (.str z), x] ∧ Nm z (i + 1) ∧ n' ≤ n + 2 + i ∧ Off p H H' ∧ Pen H' p l ns n' g') ⟨_, none, n2, g2, rfl, Nm.one hc, by omega, off12, pen2⟩ ?_ ?_⟩
    · rintro i σ' H3 hi ⟨z, x, n3, g3, rfl, hz, hn3, off3, pen3⟩
      refine ⟨_, rfl, _, rfl, _, rfl, _, _, rfl, rfl, s36.2.2, p, l, ns, n3, g3, _, rfl, pen3, by omega, .inr ⟨_, rfl, s36.1, s36.2.1, fun c' n4 g4 H4 hc' hn4 off4 pen4 => ?_⟩⟩
      refine ⟨z, _, rfl, rfl, ?_, ?_⟩
      · have := hz.2.1
        show z.length + 1 ≤ sizeLine
        exact Nat.le_trans (by omega : z.length + 1 ≤ 100) (by decide)
      · exact ⟨_, _, n4, g4, rfl, hz.more hc', by omega, off3.trans off4, pen4⟩
    · rintro σ' H3 ⟨z, x, n3, g3, rfl, hz, hn3, off3, pen3⟩
      have hz8 : Nm z 8 := ⟨hz.1, by have := hz.2.1; omega, hz.2.2⟩
      refine ⟨_, rfl, rfl, fun H4 aW s4 hW hH4 => ?_⟩
      have pen4 : Pen H4 p l ns n3 g3 := ⟨s4 _ _ pen3.pen, s4 _ _ pen3.cells, pen3.left⟩
      have off4 : Off p H H4 := off3.trans fun b o _ e => s4 b o e
      refine ⟨aW, _, rfl, .inl (SqL.of hH4), rfl, flat_strs _, _, rfl, ?_⟩
      rw [show inV (.str z) (noNames.map V.str) = noNames.contains z from inV_strs z noNames]
      cases c3 : noNames.contains z with
      | false =>
        refine iteT ?_
        exact ⟨_, rfl, k z n3 g3 H4 (hz8.name c3) (by omega) off4 pen4⟩
      | true =>
        refine iteF ?_
        have hm : z ∈ noNames := by simpa using c3
        refine ⟨_, rfl, 1, rfl, z, rfl, ?_, _, _, rfl, rfl, ?_, k _ n3 g3 H4 (x_name z hm) (by omega) off4 pen4⟩
        · have := len_noNames z hm
          exact Nat.le_trans (by omega : z.length ≤ 100) (by decide)
        · exact Nat.le_trans (x_len z hm) (by decide)
end
end K11

/-! enumerate(a tuple) as what a for goes through -/
namespace So
open PySem PySem.Spec PyProof.Rows L2
/-- enumerate(v): what pyIter of v makes, in an enumerate's cell -/
theorem enum_new1 {v : Value} {o : Obj} {Hp0 : Heap → Prop} (B : Begins v o Hp0) : Meets (Builtin.«enumerate.__new__» ⟨[.type "enumerate", v], []⟩) (fun _ R s => Hp0 s.heap ∧
    R (.ok (.ret (.ref (s.heap.push o).objs.size))) { s with heap := (s.heap.push o).push { cls := .type "enumerate", data := .fields #[.none, .bool false, .ref s.heap.objs.size, rawInt 0, .none, .none] } }) :=
  .of_wp fun prog w A R s h => by
    obtain ⟨hp, g, d, tk, os⟩ := s
    obtain ⟨h1, h⟩ := h
    have hsub := sub_enumerate
    have q1 : ∀ {A' : Around} {E : Value → Shared → Prop} {Q : Value → Shared → Prop}, Q (.ref hp.objs.size) ⟨hp.push o, g, d, tk, os⟩ → wpAny (model prog w) A' (pyIter v) Q E ⟨hp, g, d, tk, os⟩ :=
      fun q => B.iter prog w _ _ ⟨hp, g, d, tk, os⟩ _ h1 q
    wp_walk using q1
    refine wpAny_stack_any fun st => wpAny_pure ?_
    split
    · rename_i c _ _ _ _ _
      cases (c == Value.type "enumerate") <;> (wp_walk using q1; exact ⟨_, rfl, h⟩)
    · wp_walk using q1
      exact ⟨_, rfl, h⟩
/-- behind the last item -/
theorem enum_endT {prog : Program} {w : World} {A : Around} {E : Value → Shared → Prop} {s : Shared} {e it a : Addr} {i : Int} {j : Nat} {items : Array Value} {old : Value} {Q : Option Value → Shared → Prop} (hh : A.handled = none) (he : IsEnum s.heap e it i old)
    (hit : s.heap.IsTupleIter it a j) (ht : s.heap.IsTuple a items) (hx : items[j]? = none) (hQ : ∀ h', Heap.ExtBut it s.heap h' → Q none { s with heap := h' }) : wpAny (model prog w) A (pyNext (.ref e)) Q E s := by
  have hT : s.TypeIs (.ref e) "enumerate" := ⟨_, he, rfl⟩
  unfold pyNext
  refine wpAny_bind (wpAny_attempt (wpAny_callSpecial?_slot (name := Str.ofString "__next__") hT PySem.F.slot_enumerate_next (wpAny_call_entry PySem.F.slot_enumerate_next hT PySem.F.entry_enumerate_next ?_ (PySem.F.args_enumerate_next_1 _))))
  show wpAny _ _ (field (.ref e) 2 >>= _) _ _ _
  refine wpAny_bind (wpAny_field he rfl (x := .ref it) rfl (wpAny_bind (wpAny_nextOf_tuple_end (A := A.in1) hh hit ht hx fun h' x he' hx' => ?_)))
  obtain ⟨o, ho, hc⟩ := hx'
  exact wpAny_bind (wpAny_isInstance (T := "StopIteration") (b := true) ⟨o, ho, hc⟩ isSubtype_stop (wpAny_pure (hQ _ he')))
/-- the tuple at a, each item in a new pair with its index -/
def IteT (K : PySem.W.Frag) (a : Addr) : It :=
  ⟨fun i H => ∃ (xs : List V) (x : V), SqT K H a xs ∧ xs[i]? = some x, fun i H v H' => ∃ T x, v = .ref T ∧ H T = none ∧ H' = upd H T (.tup [.int (i : Nat), x]) ∧ ∀ xs, SqT K H a xs → xs[i]? = some x, fun i H => ∃ xs : List V, SqT K H a xs ∧ xs.length ≤ i⟩
theorem walk_enumT {K : PySem.W.Frag} {a : Addr} {xs : List V} : Walk (IteT K a) xs.length (fun H => SqT K H a xs) (YPair (fun i => some (.int (i : Nat))) (fun i => xs[i]?)) := by
  refine ⟨fun i _ hi q => ⟨xs, xs[i], q, by simp [hi]⟩, fun _ q => ⟨xs, q, Nat.le_refl _⟩, fun i H v H' _ q y => ?_⟩
  obtain ⟨T, x, h1, h2, h3, h4⟩ := y
  exact ⟨T, .int (i : Nat), x, h1, h2, h3, rfl, h4 xs q⟩
theorem turn_enumT {P : Program} {w : World} {K : PySem.W.Frag} {elts : List Expr} {kk : Nat} {tpos : Pos} (a e it : Addr) :
    Turn P w K (.Tuple elts kk tpos) (IteT K a) [e, it] e (fun i h => (∃ old, IsEnum h e it ((i : Nat) : Int) old) ∧ h.IsTupleIter it a i ∧ e ≠ it ∧ a ≠ it ∧ a ≠ e) where
  mem := by simp
  obj := fun i h st b hb => by
    obtain ⟨⟨old, he⟩, ⟨o, ho, hc, hd⟩, _⟩ := st
    have e' : b = e ∨ b = it := by simpa using hb
    rcases e' with z | z
    · rw [z]
      exact ⟨_, he, fun v q => nomatch q⟩
    · rw [z]
      exact ⟨o, ho, fun v q => by rw [hd] at q; cases q⟩
  keep := fun i h h' st k => by
    obtain ⟨⟨old, he⟩, hi, ne⟩ := st
    exact ⟨⟨old, k e (by simp) _ he⟩, hi.at fun o q => k it (by simp) o q, ne⟩
  item := by
    intro X hP hw hK hc i pins s σ H E I hf st hg
    subst hP hw hK
    obtain ⟨⟨old, he⟩, hit, ne, nai, nae⟩ := st
    obtain ⟨xs, x, hq, hx⟩ := hg
    obtain ⟨its, rv, p, hz⟩ := I.tuple hq
    obtain ⟨u, hu, ru⟩ := rv.get hx
    have hel : e < s.heap.objs.size := Heap.lt_size he
    have hil : it < s.heap.objs.size := by
      obtain ⟨_, q, _⟩ := hit
      exact Heap.lt_size q
    have hT0 : s.heap.IsTuple a its.toArray := p
    have hi : i < its.toArray.size := by
      have := (List.getElem?_eq_some_iff.mp hu).1
      simpa using this
    refine wpAny_pyNext_enum_itemD (Draws.tuple (A := X.A.in1) (show X.A.in1.handled = none from I.ok.hd hc) it a nai its.toArray) he ⟨hit, hT0⟩ hi ne (by simp [ne, Ne.symm nae]) fun x' h' tk hp ho hst hT hsz hk => ?_
    have ex : x' = u := by
      have h1 : its.toArray[i]? = some x' := hp
      have h2 : its.toArray[i]? = some u := by simpa using hu
      exact Option.some.inj (h1.symm.trans h2)
    subst ex
    refine ⟨_, rfl, wpAny_letOwnedTupleGo_enum (s := { s with heap := h', toks := tk + 1 }) ho fun h'' he' sb => ?_⟩
    have hT2 : h''.get? s.heap.objs.size = some { cls := .type "tuple", data := .seq #[.int i tk, x'] } := (sb.2 _ (Nat.ne_of_gt hel)).trans hT
    have new : ObjOk X.prog X.w (upd H s.heap.objs.size (.tup [.int (i : Nat), x])) h'' s.heap.objs.size (.tup [.int (i : Nat), x]) :=
      ⟨by show 2 ≤ sizeLine; decide, [.int i tk, x'], .cons ⟨_, rfl⟩ (.cons ru .nil), ⟨_, hT2, rfl, _, rfl⟩⟩
    have I1 : Inv X pins σ (upd H s.heap.objs.size (.tup [.int (i : Nat), x])) { s with heap := h'', toks := tk + 1 } :=
      I.turnedNew (ch := [e, it]) (fun b ob hb q => (sb.2 b (fun z => hb (by simp [z]))).trans (hk b ob (fun z => hb (by simp [z])) (fun z => hb (by simp [z])) q)) hf (Nat.le_refl _) new
    refine ⟨.ref s.heap.objs.size, _, I1, rfl, ⟨_, x, rfl, I.hok.fresh (Nat.le_refl _), rfl, fun ys hy => by rw [I.tuple_inj hy hq]; exact hx⟩, ⟨⟨x', ?_⟩, hst.1.at fun o q => (sb.2 it (Ne.symm ne)).trans q, ne, nai, nae⟩, fun b hb => ?_⟩
    · have e1 : ((i + 1 : Nat) : Int) = (i : Int) + 1 := by omega
      rw [e1]
      exact he'
    · have hb' : b < s.heap.objs.size := by
        have e' : b = e ∨ b = it := by simpa using hb
        rcases e' with z | z
        · rw [z]
          exact hel
        · rw [z]
          exact hil
      rw [upd_ne (Nat.ne_of_lt hb')]
      exact (hf b hb).1
  done := by
    intro X hP hw hK hc i pins s σ H E I hf st hg
    subst hP hw hK
    obtain ⟨⟨old, he⟩, hit, ne, nai, nae⟩ := st
    obtain ⟨xs, hq, hx⟩ := hg
    obtain ⟨its, rv, p, hz⟩ := I.tuple hq
    obtain ⟨f0, f1, f2, f3, f4, f5⟩ := hf it (by simp)
    have hl := rv.length
    exact enum_endT (I.ok.hd hc) he hit (show s.heap.IsTuple a its.toArray from p) (by simp; omega) fun h' eb => ⟨rfl, I.turned (t' := s.toks) (fun b o hb q => eb b o hb q) f0 f1 f3 f4 f5⟩
  self := fun A i s Q E st h => by
    obtain ⟨⟨_, he⟩, _⟩ := st
    exact wpAny_pyIter_enum he h
def iEnumT (K : PySem.W.Frag) (ta : TA) : TI := fun σ H R => ta σ H fun vs H1 => ∃ a xs, vs = [.ref a] ∧ SqT K H1 a xs ∧ R (IteT K a) H1
theorem pi_enumT {X : Cx} {e : Expr} {ta : TA} {p pos tpos : Pos} {elts : List Expr} {kk : Nat} (hg : Gl X "enumerate") (hm : X.mg "enumerate" = none) (ha : PA X [e] ta) (hs : starEach [e] X.env = [(false, eval e X.env)] := by rfl) :
    PI X (.Tuple elts kk tpos) (.Call (.Name "enumerate" p) [e] [] pos) (iEnumT X.K ta) := by
  refine ⟨fun pins s σ H R I h => ?_⟩
  refine Call_ (ld_blt I hg hm boot_enumerate (PyProof.Rows.callWith_type1 (thn (ha.run pos pins s σ H _ I h) fun us s1 ⟨vs, H1, I1, r1, q1⟩ => ?_) hs rfl))
  obtain ⟨a, xs, rfl, hq, q⟩ := q1
  obtain ⟨u, rfl, ru⟩ := vals1 r1
  obtain rfl : u = Value.ref a := ru
  obtain ⟨its, rv, p', hz⟩ := I1.tuple hq
  have ht : s1.heap.IsTuple a its.toArray := p'
  have al : a < s1.heap.objs.size := by
    obtain ⟨o, ho, _⟩ := ht
    exact Heap.lt_size ho
  have sz : (s1.heap.push { cls := .type "tuple_iterator", data := .fields #[.ref a, .int 0 0] }).objs.size = s1.heap.objs.size + 1 := Heap.size_push ..
  refine callType_new PySem.F.called_enumerate (by decide) (PySem.F.typeCall_enumerate_1 _) (PySem.F.newCall_enumerate_1 _) (fun obj => PySem.F.args_object_init_2 obj _) PySem.F.entry_enumerate_new (enum_new1 (begins_tuple a its.toArray)) ⟨ht, ?_⟩
  show _ ∧ _
  rw [sz]
  have he : IsEnum ((s1.heap.push { cls := .type "tuple_iterator", data := .fields #[.ref a, .int 0 0] }).push { cls := .type "enumerate", data := .fields #[.none, .bool false, .ref s1.heap.objs.size, rawInt 0, .none, .none] }) (s1.heap.objs.size + 1) s1.heap.objs.size 0 .none := by
    have := Heap.get?_push_size (s1.heap.push { cls := .type "tuple_iterator", data := .fields #[.ref a, .int 0 0] }) (o := { cls := .type "enumerate", data := .fields #[.none, .bool false, .ref s1.heap.objs.size, rawInt 0, .none, .none] }) rfl
    rw [sz] at this
    exact this
  refine ⟨⟨_, he, rfl⟩, wpAny_pyIter_enum he ?_⟩
  have I2 : Inv X pins σ H1 { s1 with heap := (s1.heap.push { cls := .type "tuple_iterator", data := .fields #[.ref a, .int 0 0] }).push { cls := .type "enumerate", data := .fields #[.none, .bool false, .ref s1.heap.objs.size, rawInt 0, .none, .none] } } :=
    I1.kept (t' := s1.toks) fun b o x => Heap.get?_push_of_some _ (Heap.get?_push_of_some _ x)
  refine ⟨s1.heap.objs.size + 1, [s1.heap.objs.size + 1, s1.heap.objs.size], _, _, H1, rfl, I2, turn_enumT a (s1.heap.objs.size + 1) s1.heap.objs.size, ⟨⟨.none, he⟩, ⟨_, Heap.get?_push_of_some _ (Heap.get?_push_size _ rfl), rfl, rfl⟩, Nat.succ_ne_self _, Nat.ne_of_lt al, Nat.ne_of_lt (Nat.lt_succ_of_lt al)⟩, fun b hb => ?_, q⟩
  have e' : b = s1.heap.objs.size + 1 ∨ b = s1.heap.objs.size := by simpa using hb
  have hle : s1.heap.objs.size ≤ b := by
    rcases e' with z | z
    · rw [z]
      exact Nat.le_add_right _ _
    · rw [z]
      exact Nat.le_refl _
  exact I1.fpOk hle (I1.hok.fresh hle)
end So

/-! a method whose body is the one row super().m(..) -/
namespace So
open PySem PySem.Spec PyProof.Rows L2
/-- the env of a def that closes over its class's cell -/
abbrev envS (qual : Str) (scope : Scope) (L f : Addr) (cd : Value) (cc : Addr) : Env := PySem.W.ksEnv qual scope L f cd cc
def cxS (CX : CXT) (P : Program) (w : World) (K : PySem.W.Frag) (mg : Str → Option Value) (base : Heap) (N : List Str) (qual : Str) (scope : Scope) (f : Addr) (cd : Value) (cc : Addr) (A : Around) (outer : List Env) (s : Shared) (H : Hp) (E : XK) : Cx where
  prog := P
  w := w
  K := K
  mg := mg
  base := base
  A := A.deeper (envS qual scope s.heap.objs.size f cd cc)
  N := N
  s_0 := s
  H_0 := H
  env := envS qual scope s.heap.objs.size f cd cc
  outer := outer
  stack := envS qual scope s.heap.objs.size f cd cc :: outer
  ex := []
  calm := true
  fn := fun _ => false
  pn := []
  xe := fun e s' => wpAny (model P w) (A.deeper (envS qual scope s.heap.objs.size f cd cc)) (leaving (envS qual scope s.heap.objs.size f cd cc) e) (fun _ s'' => CX outer H s E e s'') (fun e' s'' => CX outer H s E e' s'') s'
/-- the names of such a def: all of them parameters, super and its class beside -/
structure SupScope (ps : List Str) (sc : Scope) : Prop where
  kind : sc.kind = .function
  co : sc.isCoroutine = false
  gen : sc.isGenerator = false
  nd : ps.Nodup
  par : ∀ x ∈ ps, sc.names.lookup x = some .local
  nocell : ∀ y ∈ sc.names, y.2 ≠ .cell
  free : ∀ y, sc.names.lookup y = some .free → y = "__class__"
  sup : sc.names.lookup ("super" : Str) = some .globalImplicit
  cls : sc.names.lookup ("__class__" : Str) = some .free
section
variable {CX : CXT} {P : Program} {w : World} {K : PySem.W.Frag} {mg : Str → Option Value} {base : Heap} {ps : List Str} {qual : Str} {scope : Scope} {f cc D : Addr} {cd : Value} {A : Around} {outer : List Env} {s : Shared} {H : Hp} {E : XK} {us : List Value} {vs : List V} {h₀ : Heap} {tk : Nat}
theorem zip_sub : ∀ (ps : List Str) (us : List Value), ((ps.zip us).map Prod.fst).Sublist ps
  | [], _ => by simp
  | p :: r, [] => by simp
  | p :: r, u :: t => by
    rw [List.zip_cons_cons, List.map_cons]
    exact (zip_sub r t).cons_cons p
theorem bindL_rev {qual : Str} {L f : Addr} {cd : Value} {x : Str} {v : Value} {us : List Value} {i : Nat} (nd : ps.Nodup) (h1 : ps[i]? = some x) (h2 : us[i]? = some v) : (ps.zip us).reverse.lookup x = some v := by
  have hm : (x, v) ∈ ps.zip us := by
    refine List.mem_of_getElem? (i := i) ?_
    rw [List.getElem?_zip_eq_some]
    exact ⟨h1, h2⟩
  have nd2 : ((ps.zip us).reverse.map Prod.fst).Nodup := by
    rw [List.map_reverse]
    have n0 : ((ps.zip us).map Prod.fst).Nodup := nd.sublist (zip_sub ps us)
    show List.Pairwise (· ≠ ·) _
    rw [List.pairwise_reverse]
    exact List.Pairwise.imp (fun h => Ne.symm h) n0
  have hm2 : (x, v) ∈ (ps.zip us).reverse := List.mem_reverse.mpr hm
  revert hm2 nd2
  generalize (ps.zip us).reverse = l
  intro nd2 hm2
  induction l with
  | nil => cases hm2
  | cons p r ih =>
    obtain ⟨y, u⟩ := p
    rw [List.map_cons, List.nodup_cons] at nd2
    rcases List.mem_cons.mp hm2 with e | e
    · cases e
      simp [List.lookup]
    · have ne : x ≠ y := fun z => nd2.1 (by
        rw [← z]
        exact List.mem_map.mpr ⟨_, e, rfl⟩)
      have : (x == y) = false := by simp [ne]
      rw [List.lookup_cons, this]
      exact ih nd2.2 e
theorem inv_sup (S : SupScope ps scope) (hd : A.handled = none) (e0 : Env0 P w K mg base A outer s H) (hl : vs.length = ps.length) (r : Vals vs us) {cl : Value} {cld : Option Addr} {csl : Array (Option Value)} (hcell : K.lookup cc = some ⟨cl, cld, .cell (some (.ref D)), csl⟩)
    (hns : h₀.Ns s.heap.objs.size (fun x => (ps.zip us).reverse.lookup x)) (hk : ∀ b o, s.heap.get? b = some o → h₀.get? b = some o) :
    Inv (cxS CX P w K mg base ps qual scope f cd cc A outer s H E) [] (L2.start ps vs) H { s with heap := h₀, toks := tk } := by
  have KX : K.In base := e0.mod.kin
  have cb := KX _ _ hcell
  have noA : ∀ b : Addr, b ∉ (cxS CX P w K mg base ps qual scope f cd cc A outer s H E).ex := fun b z => absurd (show b ∈ ([] : List Addr) from z) (by simp)
  have lk : ∀ {x : Str} {c : Addr}, List.lookup x [(("__class__" : Str), cc)] = some c → x = "__class__" ∧ c = cc := fun {x c} h => by
    by_cases e : x = "__class__"
    · subst e
      simp [List.lookup] at h
      exact ⟨rfl, h.symm⟩
    · have : (x == ("__class__" : Str)) = false := by simp [e]
      rw [List.lookup_cons, this] at h
      cases h
  refine ⟨⟨e0.mod, S.kind, rfl, rfl, Nat.le_refl _, fun y z c h1 h2 => ?_, fun y hy => ?_, fun y c h _ => (by cases h), fun _ => hd, Around.frames_deeper e0.frames, .inr ⟨rfl, rfl⟩, fun b z => absurd z (noA b), e0.bs, e0.bsz, fun b _ _ => noA b, fun b z => absurd z (noA b), e0.funs, e0.frf⟩,
    rfl, e0.bare, Un.kept hk, ⟨_, hns, fun i y v h1 h2 h3 => ?_⟩, fun y c h => ?_, e0.hok.fresh (Nat.le_refl _), fun y c h => ?_, fun p hp => absurd (show p ∈ ([] : List (Addr × Obj)) from hp) (by simp), e0.hok.kept hk, ?_⟩
  · exact (lk h1).1.trans (lk h2).1.symm
  · have hy : scope.names.lookup y = some .cell ∨ scope.names.lookup y = some .free := hy
    rcases hy with hy | hy
    · exact absurd rfl (S.nocell _ (PySem.mem_of_lookup hy))
    · rw [S.free y hy]
      exact ⟨cc, by show List.lookup _ [_] = _; simp [List.lookup]⟩
  · unfold L2.start at h2
    rw [hl, Nat.sub_self, List.replicate_zero, List.append_nil, List.getElem?_map] at h2
    obtain ⟨v', e1, e2⟩ : ∃ v', vs[i]? = some v' ∧ some v' = some v := by
      cases e : vs[i]? with
      | none => rw [e] at h2; cases h2
      | some a => rw [e] at h2; exact ⟨a, rfl, Option.some.inj h2⟩
    cases e2
    obtain ⟨u, hu, rv⟩ := r.get e1
    exact ⟨u, rv, .inl ⟨S.par y (List.mem_of_getElem? h1), bindL_rev (qual := qual) (L := 0) (f := 0) (cd := cd) S.nd h1 hu⟩⟩
  · obtain ⟨_, rfl⟩ := lk h
    exact ⟨_, ⟨_, hk _ _ (e0.bs _ _ cb).1, rfl⟩⟩
  · obtain ⟨_, rfl⟩ := lk h
    exact (e0.bs _ _ cb).2
  · unfold L2.start
    show _ = ps.length
    rw [List.length_append, List.length_map, List.length_replicate]
    omega
/-- what the written part says of such a def -/
structure SupFn (K : PySem.W.Frag) (P : Program) (name qual : Str) (params : Arguments) (body : List Stmt) (scope : Scope) (D cc f : Addr) (cd : Value) (fd : FuncData) : Prop where
  ex : ∃ (oc : Value) (od : Option Addr) (kV doc pm : Value) (an : Option Addr) (ct : Value) (osl : Array (Option Value)), fd = PySem.W.ksFn name qual params body scope .none kV doc pm an cd ct cc ∧ K.lookup f = some ⟨oc, od, .func fd, osl⟩ ∧ PySem.W.codeIn K cd qual = true
  kp : PySem.W.keepIn K (.ref f) = true
  cell : ∃ (cl : Value) (cld : Option Addr) (csl : Array (Option Value)), K.lookup cc = some ⟨cl, cld, .cell (some (.ref D)), csl⟩
  code : ∃ (cda : Addr) (ccl : Value) (cdd : Option Addr) (vs : Array Value) (ccs : Array (Option Value)) (file : Str) (tf : Tok), cd = .ref cda ∧ K.lookup cda = some ⟨ccl, cdd, .fields vs, ccs⟩ ∧ vs[2]? = some (.str file tf) ∧ ((P.main.file : Str) == file) = true
  top : (P.main.scope.names.lookup ("super" : Str)).isSome = false
  opq : PySem.W.nsIn K PySem.cStatics "thirdparty.any" = some none
  cls : ∃ cdD, PySem.W.clsIn K D = some cdD
theorem ok_super {k : Nat} {name self m : Str} {params : Arguments} {e : Expr} {es : List Expr} {p0 p1 pa pc pe : Pos} {fd fd2 : FuncData} {f2 C : Addr} {ps2 : List Str} {sp2 : Sp} {t : TA} {cd : Value}
    (F : SupFn K P name qual params [.Expr (.Call (.Attribute (.Call (.Name "super" p0) [] [] p1) m pa) (e :: es) [] pc) pe] scope D cc f cd fd) (S : SupScope ps scope) (hps : ps.head? = some self) (hpar : (params.posonlyargs ++ params.args).head?.map (·.arg) = some self)
    (hsup : mg "super" = none) (sub : PySem.W.mroIn K C (.ref D) = some true) (hcl : ∃ cdC, PySem.W.clsIn K C = some cdC) (hm : PySem.W.ks_superIn K C D m = some (some (.ref f2))) (ht : PySem.W.typeIn K (.ref f2) = some (.type "function")) (hfn : PySem.W.fnIn K f2 = true) (hmc : (m == ("__class__" : Str)) = false)
    (F2 : FnOk P w K mg base (L2.CX P w) k f2 fd2 ps2 sp2) (b2 : Binds K fd2 ps2 [])
    (ha : ∀ A outer s H E, PA (cxS (L2.CX P w) P w K mg base ps qual scope f cd cc A outer s H E) (e :: es) t)
    (hst : ∀ env, starEach (e :: es) env = (false, eval e env) :: starEach es env) (hpl : ∀ env, (backTo pc (starEach es env)).any (·.1) = false)
    (hsw : ∀ env, swapsWith (.Call (.Attribute (.Call (.Name "super" p0) [] [] p1) m pa) (e :: es) [] pc) none pe.line env = pure false)
    {pl : Env → Sem Bool} (hev : ∀ env, eval (.Call (.Attribute (.Call (.Name "super" p0) [] [] p1) m pa) (e :: es) [] pc) env = (do
      let ov ← attributeBase (.Call (.Name "super" p0) [] [] p1) m env (eval (.Call (.Name "super" p0) [] [] p1) env)
      standAt pa.atName
      let (f, first) ← holding [ov] (getMethod ov m (pl env))
      callWith pc f first (backTo pc (starEach (e :: es) env)) [])) :
    FnOk P w K mg base (L2.CX P w) (k + 1) f fd ps (fun vs H Q E => vs.length = ps.length ∧ ∃ (x dx : Addr) (fs : List (Str × V)) (rest : List V), vs = .ref x :: rest ∧ H x = some (.ins C dx fs) ∧ t (L2.start ps vs) H fun zs H' => sp2 (.ref x :: zs) H' (fun _ H'' => Q .non H'') E) := by
  refine ⟨fun _ _ _ _ h => h.1, fun A outer s H args us vs Q E hr e0 hb r hsp => ?_⟩
  obtain ⟨hl, x, dx, fs, rest, rfl, hx, hsp⟩ := hsp
  obtain ⟨oc, od, kV, doc, pm, an, ct, osl, rfl, lk, hcd⟩ := F.ex
  obtain ⟨cl, cld, csl, hcell⟩ := F.cell
  obtain ⟨cda, ccl, cdd, fv, ccs, file, tf, rfl, hcode, hvs, hfile⟩ := F.code
  obtain ⟨cdD, hD⟩ := F.cls
  have KX : K.In s.heap := e0.mod.kin.keeps fun b o e => (e0.bs b o e).1
  have lim : s.heap.NoLimit := e0.mod.nolimit.keeps fun b o e => (e0.bs b o e).1
  refine PySem.ks_codeAny_call_defAt (binds := ps.zip us) hr.depth (KX _ _ lk) rfl lim (PySem.W.codeRec_of KX hcd) rfl hb S.nocell (fun y hy => S.par y.1 (List.of_mem_zip (a := y.1) (b := y.2) hy).1) (fun h₀ hns hk => ?_) S.co S.gen S.kind
  have I := inv_sup (CX := L2.CX P w) (P := P) (w := w) (mg := mg) (qual := qual) (f := f) (cd := .ref cda) (A := A) (outer := outer) (E := E) (tk := s.toks + (ps.zip us).length) S hr.hd e0 hl r hcell hns hk
  obtain ⟨ar, har, hself⟩ : ∃ ar, (params.posonlyargs ++ params.args).head? = some ar ∧ ar.arg = self := by
    cases e1 : (params.posonlyargs ++ params.args).head? with
    | none => rw [e1] at hpar; cases hpar
    | some ar => rw [e1] at hpar; exact ⟨ar, rfl, Option.some.inj hpar⟩
  have K0 : K.In h₀ := KX.keeps hk
  obtain ⟨oD, hD1, hD2⟩ : ∃ oD, h₀.get? D = some oD ∧ oD.data = .cls cdD := by
    unfold PySem.W.clsIn at hD
    split at hD
    · rename_i c d cd' sl ho
      cases hD
      exact ⟨_, K0 _ _ ho, rfl⟩
    · cases hD
  refine PySem.ks_wpAt_execs_cons (PySem.ks_wpAt_Expr_any (PySem.ks_wpAt_MethodCall ?_ (hev _)) (hi := by show (scope.kind == .module && _) = false; rw [S.kind]; rfl) (hs := hsw _))
  refine PySem.ks_wpAt_super_base S.sup S.cls hmc rfl (K0 _ _ lk) rfl har rfl (K0 _ _ hcode) rfl hvs hfile F.top ?_
  obtain ⟨mb, hb1, hb2⟩ := I.mod.blt
  refine PySem.W.ks_loadName_global S.kind S.sup (Calls.loadGlobal_builtin (I.mod.glob.keeps I.bk) hsup (hb1.keeps I.bk) ((hb2 "super" (by decide)).trans PyProof.Rows.Boot.«super») ⟨rfl, ?_⟩)
  refine wpAny_loadName_free S.kind S.cls (c := cc) (by rfl) ⟨_, K0 _ _ hcell, rfl⟩ ?_
  obtain ⟨u0, us', rfl, r1, r2⟩ : ∃ u0 us', us = u0 :: us' ∧ RelV (.ref x) u0 ∧ Vals rest us' := by
    cases r with
    | cons r1 r2 => exact ⟨_, _, rfl, r1, r2⟩
  obtain rfl : u0 = .ref x := r1
  have hp0 : ps[0]? = some ar.arg := by
    rw [hself, ← hps]
    cases ps <;> rfl
  refine wpAny_loadName_local S.kind (S.par _ (List.mem_of_getElem? hp0)) hns (bindL_rev (qual := qual) (L := 0) (f := 0) (cd := .none) S.nd hp0 (by rfl)) ?_
  refine PySem.ks_wpAny_isType_cls hD1 hD2 ⟨rfl, ?_⟩
  obtain ⟨mA, J, _⟩ := ins_get I.hok hx
  obtain ⟨odx, J, _⟩ := J.look
  obtain ⟨cdC, hC⟩ := hcl
  refine PySem.ks_wpAny_call_super hD1 hD2 J.at_ J.cls (fun c e => ?_) (PySem.W.looks_mroIn K0 sub) (fun h1 ho1 k1 => ?_)
  · have := J.no
    unfold PySem.W.notCls at this
    rw [e] at this
    exact Bool.noConfusion this
  have I1 := I.kept (t' := s.toks + (ps.zip (Value.ref x :: us')).length) k1
  have K1 : K.In h1 := K0.keeps k1
  have J1 := (ins_get I1.hok hx)
  obtain ⟨of2, hof, hofc⟩ : ∃ of, h1.get? f2 = some of ∧ of.cls = .type "function" := by
    have ht' : (K.lookup f2).map (·.cls) = some (.type "function") := ht
    cases z : K.lookup f2 with
    | none => rw [z] at ht'; cases ht'
    | some of => rw [z] at ht'; exact ⟨of, K1 _ _ z, Option.some.inj ht'⟩
  have hm' : PySem.W.alongIn K m ((cdC.mro.dropWhile (· != .ref D)).drop 1) = some (some (.ref f2)) := by
    unfold PySem.W.ks_superIn at hm
    rw [hC] at hm
    exact hm
  refine PySem.ks_wpAny_getMethod_super ho1 (PySem.W.looks_opaque K1 F.opq) (l₀ := cdC.mro) ?_ rfl K1 hm' hof hofc (PySem.W.ks_ne K0 J hC) hmc ?_
  · exact fun A Q E s k q => wpAny_bind ((PySem.W.looks_clsIn K1 hC) A _ E s k (wpAny_pure q))
  have hf0 : H h1.objs.size = none := I1.hok.fresh (Nat.le_refl _)
  have hfp := I1.fpOk (Nat.le_refl _) hf0
  have hget : (h1.push (PySem.W.methodObj (.ref f2) (.ref x))).get? h1.objs.size = some (PySem.W.methodObj (.ref f2) (.ref x)) := Heap.get?_push_at rfl rfl
  have I2 := I1.kept (h' := h1.push (PySem.W.methodObj (.ref f2) (.ref x))) (t' := s.toks + (ps.zip (Value.ref x :: us')).length + 1) (fun b o e => Heap.get?_push_of_some _ e)
  have I3 : Inv (cxS (L2.CX P w) P w K mg base ps qual scope f (.ref cda) cc A outer s H E) [(h1.objs.size, PySem.W.methodObj (.ref f2) (.ref x))] _ H _ := I2.pins_of fun p hp => by
    rw [List.mem_singleton.mp hp]
    exact ⟨hget, hf0, hfp.2.1, hfp.2.2.1, fun v z => nomatch z⟩
  have hX : Passes (L2.CX P w) (cxS (L2.CX P w) P w K mg base ps qual scope f (.ref cda) cc A outer s H E) E := passes_call (takes_of rfl rfl rfl rfl) (fun _ _ _ _ h => h)
  have hnb : base.get? h1.objs.size = none := by
    cases z : base.get? h1.objs.size with
    | none => rfl
    | some o => exact absurd (Heap.lt_size (k1 _ _ (hk _ _ (e0.bs _ _ z).1))) (Nat.lt_irrefl _)
  refine PySem.W.callWith_M (K := K) (h₀ := base) (L := s.heap.objs.size) (news := [(h1.objs.size, PySem.W.methodObj (.ref f2) (.ref x))]) e0.mod.kin (fun p hp => by rw [List.mem_singleton.mp hp]; exact ⟨hget, hfp.2.1, hnb⟩) (List.mem_singleton.mpr rfl) hfn ?_ (hst _) (hpl _)
  refine thn ((ha A outer s H E).run pc _ _ _ H _ I3 hsp) fun us2 s2 ⟨zs, H2, I4, rz, q2⟩ => ?_
  have hq := (I4.pin _ (List.mem_append_right _ (List.mem_singleton.mpr rfl))).1
  refine ⟨⟨hq, I4.kIn⟩, ?_⟩
  have r3 : Vals (.ref x :: zs) (.ref x :: us2) := .cons rfl rz
  have hl2 : (Value.ref x :: us2).length = ps2.length := by rw [← r3.length]; exact F2.len _ _ _ _ q2
  refine wpAny_call (PySem.W.method_call hq (codeAny_mono (F2.run _ _ s2 H2 ⟨.ref x :: us2, []⟩ (.ref x :: us2) (.ref x :: zs) _ E (hr.deeper _) I4.env0 (by have := b2 s2 (.ref x :: us2) I4.kIn (by rw [List.append_nil]; exact hl2); rw [List.append_nil] at this; exact this) r3 q2) fun r s' hq' => ?_))
  cases r with
  | error e => exact hX _ _ H2 s2 e s' I4 hq'
  | ok fl =>
    cases fl with
    | ret u =>
      obtain ⟨v, H', J', rv, q3⟩ := I4.after hq'
      exact wpAt_of_wpAny (wpAny_pure ⟨.non, H', J'.os, J'.bare, J'.base, J'.hok, rfl, q3⟩)
    | next => exact False.elim hq'
    | brk => exact False.elim hq'
    | cont => exact False.elim hq'
end
end So

namespace K11
open PySem PySem.Spec PyProof.Rows L2 So
abbrev sChecked : Stmt := topS 27
abbrev checkedN : List Str := ["kind", "told", "value", "form"]
theorem scChecked : FnScope checkedN ["kind", "told"] (defScope sChecked) := ⟨rfl, rfl, rfl, by decide +kernel, rfl, by decide +kernel, by decide +kernel⟩
/-- zip of two tuples, walked -/
theorem walk_zipT {K : PySem.W.Frag} {a b : Addr} {xs ys : List V} {n : Nat} (hn : n = min xs.length ys.length) : Walk (RZ.ItzT K a b) n (fun H => SqT K H a xs ∧ SqT K H b ys) (YPair (fun i => xs[i]?) (fun i => ys[i]?)) := by
  subst hn
  refine ⟨fun i _ hi q => ?_, fun _ q => ⟨xs, ys, q.1, q.2, by omega⟩, fun i H v H' _ q y => ?_⟩
  · have h1 : i < xs.length := by omega
    have h2 : i < ys.length := by omega
    exact ⟨xs, ys, xs[i], ys[i], q.1, q.2, by simp [h1], by simp [h2]⟩
  · obtain ⟨T, x, z, h1, h2, h3, h4, h5⟩ := y
    exact ⟨T, x, z, h1, h2, h3, h4 xs q.1, h5 ys q.2⟩
/-- the forms of a kind's arguments -/
def formsOf (kind : Str) : List Str :=
  if kind = "begun" then ["name", "beginning"] else if kind = "setby" then ["name", "beginning", "name"] else if kind = "found" then ["name", "moment", "truth"] else if kind = "trusted" then ["name"]
  else if kind = "passed" ∨ kind = "failed" then ["name", "moment", "name"] else ["name", "moment", "name", "moment"]
def kinds : List Str := ["begun", "setby", "found", "trusted", "passed", "failed", "agreed", "differed", "served", "backed"]
def okF (form : Str) (v : V) : Bool := if form = "name" then gNam v else if form = "moment" then gMom v else if form = "beginning" then gBeg v else gTru v
/-- the first value that has not its form: the error's class, the field, the value -/
def badL (CN CM CS : Addr) : List (V × Str) → Option (Addr × Str × V)
  | [] => none
  | (v, f) :: r => if okF f v = true then badL CN CM CS r else some (if f = "name" then (CN, "name", v) else if f = "truth" then (CS, "value", v) else (CM, "moment", v))
theorem badL_at {CN CM CS : Addr} {v : V} {f : Str} : ∀ {l : List (V × Str)} {i : Nat}, badL CN CM CS (l.take i) = none → l[i]? = some (v, f) → (okF f v = true → badL CN CM CS (l.take (i + 1)) = none) ∧ (okF f v = false → badL CN CM CS l = some (if f = "name" then (CN, ("name" : Str), v) else if f = "truth" then (CS, ("value" : Str), v) else (CM, ("moment" : Str), v)))
  | [], _, _, e => by simp at e
  | p :: r, 0, _, e => by
    have e : p = (v, f) := by simpa using e
    subst e
    refine ⟨fun h => ?_, fun h => ?_⟩
    · show badL CN CM CS [(v, f)] = none
      unfold badL
      rw [if_pos h]
      rfl
    · unfold badL
      rw [if_neg (by rw [h]; exact Bool.false_ne_true)]
  | (v', f') :: r, i + 1, h, e => by
    have h : badL CN CM CS ((v', f') :: r.take i) = none := h
    unfold badL at h
    split at h
    · rename_i c
      obtain ⟨a, b⟩ := badL_at (l := r) (i := i) h (by simpa using e)
      refine ⟨fun z => ?_, fun z => ?_⟩
      · show badL CN CM CS ((v', f') :: r.take (i + 1)) = none
        unfold badL
        rw [if_pos c]
        exact a z
      · unfold badL
        rw [if_pos c]
        exact b z
    · cases h
theorem forms_in : ∀ kind ∈ kinds, ∀ f ∈ formsOf kind, f ∈ (["name", "moment", "beginning", "truth"] : List Str) := by decide +kernel
theorem form_of {CN CM CS : Addr} {f : Str} {v : V} (h : f ∈ (["name", "moment", "beginning", "truth"] : List Str)) : ∃ C fl, Form CN CM CS f v (okF f v) C fl ∧ (if f = "name" then (CN, ("name" : Str), v) else if f = "truth" then (CS, "value", v) else (CM, "moment", v)) = (C, fl, v) := by
  simp only [List.mem_cons, List.not_mem_nil, or_false] at h
  rcases h with h | h | h | h <;> subst h
  · exact ⟨CN, "name", .inl ⟨rfl, rfl, rfl, rfl⟩, rfl⟩
  · exact ⟨CM, "moment", .inr (.inl ⟨rfl, rfl, rfl, rfl⟩), rfl⟩
  · exact ⟨CM, "moment", .inr (.inr (.inl ⟨rfl, rfl, rfl, rfl⟩)), rfl⟩
  · exact ⟨CS, "value", .inr (.inr (.inr ⟨rfl, rfl, rfl, rfl⟩)), rfl⟩
section
variable {P : Program} {w : World} {K : PySem.W.Frag} {mg : Str → Option Value} {base : Heap}
/-- what the top says of the table of forms, at aF -/
structure Forms (K : PySem.W.Frag) (w : World) (mg : Str → Option Value) (aF : Addr) : Prop where
  mgF : mg "FORMS" = some (.ref aF)
  tab : ∀ kind ∈ kinds, ∃ ft, KDct K w aF kind (.ref ft) ∧ ∀ H, SqT K H ft ((formsOf kind).map V.str)
  zip : mg "zip" = none
/-- both ways out of what looks at these values -/
def WaysL (CN CM CS : Addr) (l : List (V × Str)) (H : Hp) (E : XK) (q : Prop) : Prop :=
  (badL CN CM CS l = none → q) ∧ ∀ C fl v, badL CN CM CS l = some (C, fl, v) → ∀ d H', Same H H' → H' d = some (.xd [(fl, v)]) → E (.ref C) (some d) H'
def spChecked (CN CM CS : Addr) : Sp := fun vs H Q E => ∃ (kind : Str) (tt : Addr) (xs : List V), vs = [.str kind, .ref tt] ∧ kind ∈ kinds ∧ H tt = some (.tup xs) ∧ xs.length = (formsOf kind).length ∧ (∀ x ∈ xs, ∃ T, Gv H x T) ∧
  WaysL CN CM CS (xs.zip (formsOf kind)) H E (∀ H', Same H H' → Q (.ref tt) H')
theorem ok_checked {CN CM CS f fC aF : Addr} {fd fdC : FuncData} (F : Fun K "checked" "checked" sChecked f fd) (T : Forms K w mg aF) (FC : Fun K "check_form" "check_form" sCheck fC fdC) (bC : Binds K fdC ["value", "form"] []) (gC : mg "check_form" = some (.ref fC))
    (GC : FnOk P w K mg base (L2.CX P w) 3 fC fdC ["value", "form"] (spCheck CN CM CS)) : FnOk P w K mg base (L2.CX P w) 4 f fd ["kind", "told"] (spChecked CN CM CS) := by
  refine F.okX scChecked (fun vs H Q E h => ?_) (fun cdv A outer s H vs Q E hr h => ?_)
  · obtain ⟨_, _, _, rfl, _⟩ := h
    rfl
  · obtain ⟨kind, tt, xs, rfl, hk, ht, hl, hg, qy, qn⟩ := h
    obtain ⟨ft, hd, hft⟩ := T.tab kind hk
    have hfo := forms_in kind hk
    refine ⟨_, pss_cons (ps_for PassesOwn.leaving rfl (RZ.pi_zipA (by rfl) T.zip (pa_cons (pv 1) (pa_cons (pe_ix ix_kdict (pe_glob (v := .ref aF) rfl T.mgF rfl) (pv 0) (fun _ _ => rfl)) pa_nil))) (pg_tup rfl (pgs_cons (pg_name (i := 2) scChecked.nd rfl (Or.inl rfl)) (pgs_cons (pg_name (i := 3) scChecked.nd rfl (Or.inl rfl)) pgs_nil)))
        (pss_one (ps_expr (pe_call GC hr (by rfl) gC FC.kp bC .nil (passes_call (takes_of rfl rfl rfl rfl) (fun _ _ _ _ h => h)) (pa_cons (pv 2) (pa_cons (pv 3) pa_nil))))))
      (pss_one (ps_ret (pv 1))), ?_⟩
    generalize formsOf kind = fo at hl hft hfo qy qn
    refine ⟨_, rfl, _, rfl, aF, kind, .ref ft, rfl, rfl, hd, tt, ft, xs, fo.map V.str, rfl, .inr ⟨SqT.of ht, hft _, ?_⟩⟩
    refine for_it (walk_zipT rfl) (fun i σ H' => (∃ x2 x3, σ = [some (.str kind), some (.ref tt), x2, x3]) ∧ Same H H' ∧ badL CN CM CS ((xs.zip fo).take i) = none) ⟨⟨none, none, rfl⟩, Same.refl _, rfl⟩ (fun _ _ _ _ y => ⟨SqT.of (y.2.1 _ _ ht), hft _⟩) ?_ ?_
    · rintro i x σ H2 H3 hi ⟨⟨x2, x3, rfl⟩, s2, hb⟩ ⟨T0, u, y, rfl, hT0, rfl, hu, hy⟩
      have s3 := s2.trans (same_upd0 (o := .tup [u, y]) hT0)
      replace hy : (fo.map V.str)[i]? = some y := hy
      rw [List.getElem?_map] at hy
      obtain ⟨fm, hfm, rfl⟩ : ∃ fm, fo[i]? = some fm ∧ y = .str fm := by
        cases e : fo[i]? with
        | none => rw [e] at hy; cases hy
        | some m => rw [e] at hy; exact ⟨m, rfl, (Option.some.inj hy).symm⟩
      replace hu : xs[i]? = some u := hu
      obtain ⟨Tu, hgu⟩ := hg u (List.mem_of_getElem? hu)
      have hz : (xs.zip fo)[i]? = some (u, fm) := by
        rw [List.getElem?_zip_eq_some]
        exact ⟨hu, hfm⟩
      obtain ⟨C, fl, hF, he⟩ := form_of (CN := CN) (CM := CM) (CS := CS) (v := u) (hfo fm (List.mem_of_getElem? hfm))
      obtain ⟨b1, b2⟩ := badL_at hb hz
      refine ⟨T0, _, rfl, SqT.of upd_same, rfl, _, _, rfl, _, _, rfl, rfl, ?_⟩
      refine ⟨_, rfl, _, rfl, u, Tu, fm, _, C, fl, rfl, hgu.same s3, hF, fun g H4 s4 => ⟨⟨_, _, rfl⟩, s3.trans s4, b1 g⟩, fun g d H4 s4 e => ?_⟩
      exact qn C fl u (by rw [b2 g, he]) d H4 (s3.trans s4) e
    · rintro σ H2 ⟨⟨x2, x3, rfl⟩, s2, hb⟩
      refine ⟨_, rfl, qy ?_ H2 s2⟩
      rw [List.take_of_length_le (by rw [List.length_zip, List.length_map]; exact Nat.le_refl _)] at hb
      exact hb
end
end K11

namespace K11
open PySem PySem.Spec PyProof.Rows L2 So
theorem lenC {n : Str} {v : V} {fs : List (Str × V)} {k : Nat} (h : fs.length ≤ k) : (putF n v fs).length ≤ k + 1 := Nat.le_trans (length_putF _ _ _) (Nat.succ_le_succ h)
section
variable {P : Program} {w : World} {K : PySem.W.Frag} {mg : Str → Option Value} {base : Heap}
/-- what the top says of a row's class -/
structure RowC (K : PySem.W.Frag) (C : Addr) (l : List Str) : Prop where
  cl : Cls K C
  no : ∀ n ∈ l, NoAttr K C n
/-- the names of a row's arguments -/
def attrsOf (kind : Str) : List Str := if kind = "begun" then ["tool", "moment"] else if kind = "found" then ["tool", "moment", "is_sound"] else if kind = "trusted" then ["tool"] else if kind = "setby" ∨ kind = "passed" ∨ kind = "failed" then ["tool", "moment", "by"] else ["one", "moment", "other", "later"]
/-- the methods of rows are no fields -/
abbrev methR : List Str := ["renamed", "pairs", "_excluded", "_told_as", "tools", "moments", "begins", "read"]
def NoM (fs : List (Str × V)) : Prop := ∀ m ∈ methR, fs.lookup m = none
theorem NoM.nil : NoM [] := fun _ _ => rfl
theorem NoM.put {fs : List (Str × V)} {n : Str} {v : V} (h : NoM fs) (hn : n ∉ methR) : NoM (putF n v fs) := fun m hm => by
  rw [lookup_putF, if_neg (fun z : m = n => hn (by rw [← z]; exact hm))]
  exact h m hm
/-- what a row keeps -/
def Told (kind : Str) (xs : List V) (H : Hp) (fs : List (Str × V)) : Prop := fs.lookup ("kind" : Str) = some (V.str kind) ∧ (∃ tp, fs.lookup ("_told" : Str) = some (.ref tp) ∧ H tp = some (.tup xs)) ∧ (∀ q ∈ (attrsOf kind).zip xs, fs.lookup q.1 = some q.2) ∧ NoM fs
theorem attrs_begun : attrsOf "begun" = (["tool", "moment"] : List Str) := by decide +kernel
theorem attrs_setby : attrsOf "setby" = (["tool", "moment", "by"] : List Str) := by decide +kernel
theorem attrs_found : attrsOf "found" = (["tool", "moment", "is_sound"] : List Str) := by decide +kernel
theorem attrs_trusted : attrsOf "trusted" = (["tool"] : List Str) := by decide +kernel
theorem attrs_passed : attrsOf "passed" = (["tool", "moment", "by"] : List Str) := by decide +kernel
theorem attrs_failed : attrsOf "failed" = (["tool", "moment", "by"] : List Str) := by decide +kernel
theorem attrs_meet : ∀ kind ∈ (["agreed", "differed", "served", "backed"] : List Str), attrsOf kind = (["one", "moment", "other", "later"] : List Str) := by decide +kernel
def spRow (CN CM CS C : Addr) (kind : Str) : Sp := fun vs H Q E => ∃ (x dx : Addr) (xs : List V), vs = .ref x :: xs ∧ H x = some (.ins C dx []) ∧ xs.length = (formsOf kind).length ∧ (∀ y ∈ xs, ∃ T, Gv H y T) ∧
  WaysL CN CM CS (xs.zip (formsOf kind)) H E (∀ H' fs, Off x H H' → H' x = some (.ins C dx fs) → Told kind xs H' fs → Q .non H')
abbrev sBegun : Stmt := inClass (topS 32) 0
theorem scBegun : FnScope ["self", "tool", "moment"] ["self", "tool", "moment"] (defScope sBegun) := ⟨rfl, rfl, rfl, by decide +kernel, rfl, by decide +kernel, by decide +kernel⟩
theorem ok_Begun {CN CM CS C f fK : Addr} {fd fdK : FuncData} (F : Fun K "__init__" "Begun.__init__" sBegun f fd) (T : RowC K C ["_told", "kind", "tool", "moment"]) (FK : Fun K "checked" "checked" sChecked fK fdK) (bK : Binds K fdK ["kind", "told"] []) (gK : mg "checked" = some (.ref fK))
    (GK : FnOk P w K mg base (L2.CX P w) 4 fK fdK ["kind", "told"] (spChecked CN CM CS)) : FnOk P w K mg base (L2.CX P w) 5 f fd ["self", "tool", "moment"] (spRow CN CM CS C "begun") := by
  refine F.okX scBegun (fun vs H Q E h => ?_) (fun cdv A outer s H vs Q E hr h => ?_)
  · obtain ⟨x, dx, xs, rfl, _, hl, _⟩ := h
    show xs.length + 1 = 3
    have : (formsOf "begun").length = 2 := by decide +kernel
    omega
  · obtain ⟨x, dx, xs, rfl, hx, hl, hg, qy, qn⟩ := h
    have hkin : ("begun" : Str) ∈ kinds := by decide +kernel
    have hl4 : (formsOf "begun").length = 2 := by decide +kernel
    obtain ⟨v0, v1, rfl⟩ : ∃ v0 v1, xs = [v0, v1] := by
      rw [hl4] at hl
      match xs, hl with
      | [v0, v1], _ => exact ⟨_, _, rfl⟩
    have no := T.no
    simp only [List.forall_mem_cons] at no
    obtain ⟨n0, n1, n2, n3, _⟩ := no
    refine ⟨_, pss_cons (ps_fld (pv 0) (pe_call GK hr (by rfl) gK FK.kp bK .nil (passes_call (takes_of rfl rfl rfl rfl) (fun _ _ _ _ h => h)) (pa_cons pe_str (pa_cons (pe_tup (pa_cons (pv 1) (pa_cons (pv 2) pa_nil))) pa_nil))) rfl)
      (pss_cons (ps_fld (pv 0) pe_str rfl)
      (pss_cons (ps_fld (pv 0) (pv 1) rfl) (pss_one (ps_fld (pv 0) (pv 2) rfl)))), ?_⟩
    refine ⟨_, rfl, _, rfl, by show 2 ≤ sizeLine; decide, fun tp htp => ?_⟩
    have s1 := same_upd0 (o := .tup [v0, v1]) htp
    refine ⟨"begun", tp, [v0, v1], rfl, hkin, upd_same, hl, (fun y hy => (hg y hy).elim fun T h => ⟨T, h.same s1⟩), fun gd H2 s2 => ?_, fun C' fl v g d H' s e => qn C' fl v g d H' (s1.trans s) e⟩
    have hx2 := s2 _ _ (s1 _ _ hx)
    have s12 := s1.trans s2
    refine ⟨_, rfl, x, C, dx, [], rfl, hx2, T.cl, n0, by show 0 < 1000; decide, ?_⟩
    refine ⟨_, rfl, x, C, dx, _, rfl, upd_same, T.cl, n1, Nat.lt_of_le_of_lt (lenC (Nat.le_refl 0)) (by decide), ?_⟩
    refine ⟨_, rfl, _, rfl, x, C, dx, _, rfl, upd_same, T.cl, n2, Nat.lt_of_le_of_lt (lenC (lenC (Nat.le_refl 0))) (by decide), ?_⟩
    refine ⟨_, rfl, _, rfl, x, C, dx, _, rfl, upd_same, T.cl, n3, Nat.lt_of_le_of_lt (lenC (lenC (lenC (Nat.le_refl 0)))) (by decide), ?_⟩
    refine qy gd _ _ (fun c o nc e => ?_) upd_same ?_
    · rw [upd_ne nc, upd_ne nc, upd_ne nc, upd_ne nc]
      exact s12 c o e
    · have ntp : tp ≠ x := fun z => by rw [z, hx] at htp; cases htp
      have etp := s2 _ _ (show (upd H tp (.tup _)) tp = _ from upd_same)
      refine ⟨?_, ⟨tp, ?_, ?_⟩, ?_, (by repeat (first | exact NoM.nil | refine NoM.put ?_ (by decide +kernel)))⟩
      · simp only [lookup_putF, show ¬ (("kind" : Str) = "_told") by decide +kernel, show ¬ (("kind" : Str) = "tool") by decide +kernel, show ¬ (("kind" : Str) = "moment") by decide +kernel, show ¬ (("kind" : Str) = "by") by decide +kernel, show ¬ (("kind" : Str) = "is_sound") by decide +kernel, show ¬ (("kind" : Str) = "one") by decide +kernel, show ¬ (("kind" : Str) = "other") by decide +kernel, show ¬ (("kind" : Str) = "later") by decide +kernel, show ¬ (("_told" : Str) = "kind") by decide +kernel, show ¬ (("_told" : Str) = "tool") by decide +kernel, show ¬ (("_told" : Str) = "moment") by decide +kernel, show ¬ (("_told" : Str) = "by") by decide +kernel, show ¬ (("_told" : Str) = "is_sound") by decide +kernel, show ¬ (("_told" : Str) = "one") by decide +kernel, show ¬ (("_told" : Str) = "other") by decide +kernel, show ¬ (("_told" : Str) = "later") by decide +kernel, show ¬ (("tool" : Str) = "kind") by decide +kernel, show ¬ (("tool" : Str) = "_told") by decide +kernel, show ¬ (("tool" : Str) = "moment") by decide +kernel, show ¬ (("tool" : Str) = "by") by decide +kernel, show ¬ (("tool" : Str) = "is_sound") by decide +kernel, show ¬ (("tool" : Str) = "one") by decide +kernel, show ¬ (("tool" : Str) = "other") by decide +kernel, show ¬ (("tool" : Str) = "later") by decide +kernel, show ¬ (("moment" : Str) = "kind") by decide +kernel, show ¬ (("moment" : Str) = "_told") by decide +kernel, show ¬ (("moment" : Str) = "tool") by decide +kernel, show ¬ (("moment" : Str) = "by") by decide +kernel, show ¬ (("moment" : Str) = "is_sound") by decide +kernel, show ¬ (("moment" : Str) = "one") by decide +kernel, show ¬ (("moment" : Str) = "other") by decide +kernel, show ¬ (("moment" : Str) = "later") by decide +kernel, show ¬ (("by" : Str) = "kind") by decide +kernel, show ¬ (("by" : Str) = "_told") by decide +kernel, show ¬ (("by" : Str) = "tool") by decide +kernel, show ¬ (("by" : Str) = "moment") by decide +kernel, show ¬ (("by" : Str) = "is_sound") by decide +kernel, show ¬ (("by" : Str) = "one") by decide +kernel, show ¬ (("by" : Str) = "other") by decide +kernel, show ¬ (("by" : Str) = "later") by decide +kernel, show ¬ (("is_sound" : Str) = "kind") by decide +kernel, show ¬ (("is_sound" : Str) = "_told") by decide +kernel, show ¬ (("is_sound" : Str) = "tool") by decide +kernel, show ¬ (("is_sound" : Str) = "moment") by decide +kernel, show ¬ (("is_sound" : Str) = "by") by decide +kernel, show ¬ (("is_sound" : Str) = "one") by decide +kernel, show ¬ (("is_sound" : Str) = "other") by decide +kernel, show ¬ (("is_sound" : Str) = "later") by decide +kernel, show ¬ (("one" : Str) = "kind") by decide +kernel, show ¬ (("one" : Str) = "_told") by decide +kernel, show ¬ (("one" : Str) = "tool") by decide +kernel, show ¬ (("one" : Str) = "moment") by decide +kernel, show ¬ (("one" : Str) = "by") by decide +kernel, show ¬ (("one" : Str) = "is_sound") by decide +kernel, show ¬ (("one" : Str) = "other") by decide +kernel, show ¬ (("one" : Str) = "later") by decide +kernel, show ¬ (("other" : Str) = "kind") by decide +kernel, show ¬ (("other" : Str) = "_told") by decide +kernel, show ¬ (("other" : Str) = "tool") by decide +kernel, show ¬ (("other" : Str) = "moment") by decide +kernel, show ¬ (("other" : Str) = "by") by decide +kernel, show ¬ (("other" : Str) = "is_sound") by decide +kernel, show ¬ (("other" : Str) = "one") by decide +kernel, show ¬ (("other" : Str) = "later") by decide +kernel, show ¬ (("later" : Str) = "kind") by decide +kernel, show ¬ (("later" : Str) = "_told") by decide +kernel, show ¬ (("later" : Str) = "tool") by decide +kernel, show ¬ (("later" : Str) = "moment") by decide +kernel, show ¬ (("later" : Str) = "by") by decide +kernel, show ¬ (("later" : Str) = "is_sound") by decide +kernel, show ¬ (("later" : Str) = "one") by decide +kernel, show ¬ (("later" : Str) = "other") by decide +kernel, if_true, if_false]
      · simp only [lookup_putF, show ¬ (("kind" : Str) = "_told") by decide +kernel, show ¬ (("kind" : Str) = "tool") by decide +kernel, show ¬ (("kind" : Str) = "moment") by decide +kernel, show ¬ (("kind" : Str) = "by") by decide +kernel, show ¬ (("kind" : Str) = "is_sound") by decide +kernel, show ¬ (("kind" : Str) = "one") by decide +kernel, show ¬ (("kind" : Str) = "other") by decide +kernel, show ¬ (("kind" : Str) = "later") by decide +kernel, show ¬ (("_told" : Str) = "kind") by decide +kernel, show ¬ (("_told" : Str) = "tool") by decide +kernel, show ¬ (("_told" : Str) = "moment") by decide +kernel, show ¬ (("_told" : Str) = "by") by decide +kernel, show ¬ (("_told" : Str) = "is_sound") by decide +kernel, show ¬ (("_told" : Str) = "one") by decide +kernel, show ¬ (("_told" : Str) = "other") by decide +kernel, show ¬ (("_told" : Str) = "later") by decide +kernel, show ¬ (("tool" : Str) = "kind") by decide +kernel, show ¬ (("tool" : Str) = "_told") by decide +kernel, show ¬ (("tool" : Str) = "moment") by decide +kernel, show ¬ (("tool" : Str) = "by") by decide +kernel, show ¬ (("tool" : Str) = "is_sound") by decide +kernel, show ¬ (("tool" : Str) = "one") by decide +kernel, show ¬ (("tool" : Str) = "other") by decide +kernel, show ¬ (("tool" : Str) = "later") by decide +kernel, show ¬ (("moment" : Str) = "kind") by decide +kernel, show ¬ (("moment" : Str) = "_told") by decide +kernel, show ¬ (("moment" : Str) = "tool") by decide +kernel, show ¬ (("moment" : Str) = "by") by decide +kernel, show ¬ (("moment" : Str) = "is_sound") by decide +kernel, show ¬ (("moment" : Str) = "one") by decide +kernel, show ¬ (("moment" : Str) = "other") by decide +kernel, show ¬ (("moment" : Str) = "later") by decide +kernel, show ¬ (("by" : Str) = "kind") by decide +kernel, show ¬ (("by" : Str) = "_told") by decide +kernel, show ¬ (("by" : Str) = "tool") by decide +kernel, show ¬ (("by" : Str) = "moment") by decide +kernel, show ¬ (("by" : Str) = "is_sound") by decide +kernel, show ¬ (("by" : Str) = "one") by decide +kernel, show ¬ (("by" : Str) = "other") by decide +kernel, show ¬ (("by" : Str) = "later") by decide +kernel, show ¬ (("is_sound" : Str) = "kind") by decide +kernel, show ¬ (("is_sound" : Str) = "_told") by decide +kernel, show ¬ (("is_sound" : Str) = "tool") by decide +kernel, show ¬ (("is_sound" : Str) = "moment") by decide +kernel, show ¬ (("is_sound" : Str) = "by") by decide +kernel, show ¬ (("is_sound" : Str) = "one") by decide +kernel, show ¬ (("is_sound" : Str) = "other") by decide +kernel, show ¬ (("is_sound" : Str) = "later") by decide +kernel, show ¬ (("one" : Str) = "kind") by decide +kernel, show ¬ (("one" : Str) = "_told") by decide +kernel, show ¬ (("one" : Str) = "tool") by decide +kernel, show ¬ (("one" : Str) = "moment") by decide +kernel, show ¬ (("one" : Str) = "by") by decide +kernel, show ¬ (("one" : Str) = "is_sound") by decide +kernel, show ¬ (("one" : Str) = "other") by decide +kernel, show ¬ (("one" : Str) = "later") by decide +kernel, show ¬ (("other" : Str) = "kind") by decide +kernel, show ¬ (("other" : Str) = "_told") by decide +kernel, show ¬ (("other" : Str) = "tool") by decide +kernel, show ¬ (("other" : Str) = "moment") by decide +kernel, show ¬ (("other" : Str) = "by") by decide +kernel, show ¬ (("other" : Str) = "is_sound") by decide +kernel, show ¬ (("other" : Str) = "one") by decide +kernel, show ¬ (("other" : Str) = "later") by decide +kernel, show ¬ (("later" : Str) = "kind") by decide +kernel, show ¬ (("later" : Str) = "_told") by decide +kernel, show ¬ (("later" : Str) = "tool") by decide +kernel, show ¬ (("later" : Str) = "moment") by decide +kernel, show ¬ (("later" : Str) = "by") by decide +kernel, show ¬ (("later" : Str) = "is_sound") by decide +kernel, show ¬ (("later" : Str) = "one") by decide +kernel, show ¬ (("later" : Str) = "other") by decide +kernel, if_true, if_false]
      · repeat rw [upd_ne ntp]
        exact etp
      · rw [attrs_begun]
        simp only [List.zip_cons_cons, List.zip_nil_right, List.forall_mem_cons]
        refine ⟨(by simp only [lookup_putF, show ¬ (("kind" : Str) = "_told") by decide +kernel, show ¬ (("kind" : Str) = "tool") by decide +kernel, show ¬ (("kind" : Str) = "moment") by decide +kernel, show ¬ (("kind" : Str) = "by") by decide +kernel, show ¬ (("kind" : Str) = "is_sound") by decide +kernel, show ¬ (("kind" : Str) = "one") by decide +kernel, show ¬ (("kind" : Str) = "other") by decide +kernel, show ¬ (("kind" : Str) = "later") by decide +kernel, show ¬ (("_told" : Str) = "kind") by decide +kernel, show ¬ (("_told" : Str) = "tool") by decide +kernel, show ¬ (("_told" : Str) = "moment") by decide +kernel, show ¬ (("_told" : Str) = "by") by decide +kernel, show ¬ (("_told" : Str) = "is_sound") by decide +kernel, show ¬ (("_told" : Str) = "one") by decide +kernel, show ¬ (("_told" : Str) = "other") by decide +kernel, show ¬ (("_told" : Str) = "later") by decide +kernel, show ¬ (("tool" : Str) = "kind") by decide +kernel, show ¬ (("tool" : Str) = "_told") by decide +kernel, show ¬ (("tool" : Str) = "moment") by decide +kernel, show ¬ (("tool" : Str) = "by") by decide +kernel, show ¬ (("tool" : Str) = "is_sound") by decide +kernel, show ¬ (("tool" : Str) = "one") by decide +kernel, show ¬ (("tool" : Str) = "other") by decide +kernel, show ¬ (("tool" : Str) = "later") by decide +kernel, show ¬ (("moment" : Str) = "kind") by decide +kernel, show ¬ (("moment" : Str) = "_told") by decide +kernel, show ¬ (("moment" : Str) = "tool") by decide +kernel, show ¬ (("moment" : Str) = "by") by decide +kernel, show ¬ (("moment" : Str) = "is_sound") by decide +kernel, show ¬ (("moment" : Str) = "one") by decide +kernel, show ¬ (("moment" : Str) = "other") by decide +kernel, show ¬ (("moment" : Str) = "later") by decide +kernel, show ¬ (("by" : Str) = "kind") by decide +kernel, show ¬ (("by" : Str) = "_told") by decide +kernel, show ¬ (("by" : Str) = "tool") by decide +kernel, show ¬ (("by" : Str) = "moment") by decide +kernel, show ¬ (("by" : Str) = "is_sound") by decide +kernel, show ¬ (("by" : Str) = "one") by decide +kernel, show ¬ (("by" : Str) = "other") by decide +kernel, show ¬ (("by" : Str) = "later") by decide +kernel, show ¬ (("is_sound" : Str) = "kind") by decide +kernel, show ¬ (("is_sound" : Str) = "_told") by decide +kernel, show ¬ (("is_sound" : Str) = "tool") by decide +kernel, show ¬ (("is_sound" : Str) = "moment") by decide +kernel, show ¬ (("is_sound" : Str) = "by") by decide +kernel, show ¬ (("is_sound" : Str) = "one") by decide +kernel, show ¬ (("is_sound" : Str) = "other") by decide +kernel, show ¬ (("is_sound" : Str) = "later") by decide +kernel, show ¬ (("one" : Str) = "kind") by decide +kernel, show ¬ (("one" : Str) = "_told") by decide +kernel, show ¬ (("one" : Str) = "tool") by decide +kernel, show ¬ (("one" : Str) = "moment") by decide +kernel, show ¬ (("one" : Str) = "by") by decide +kernel, show ¬ (("one" : Str) = "is_sound") by decide +kernel, show ¬ (("one" : Str) = "other") by decide +kernel, show ¬ (("one" : Str) = "later") by decide +kernel, show ¬ (("other" : Str) = "kind") by decide +kernel, show ¬ (("other" : Str) = "_told") by decide +kernel, show ¬ (("other" : Str) = "tool") by decide +kernel, show ¬ (("other" : Str) = "moment") by decide +kernel, show ¬ (("other" : Str) = "by") by decide +kernel, show ¬ (("other" : Str) = "is_sound") by decide +kernel, show ¬ (("other" : Str) = "one") by decide +kernel, show ¬ (("other" : Str) = "later") by decide +kernel, show ¬ (("later" : Str) = "kind") by decide +kernel, show ¬ (("later" : Str) = "_told") by decide +kernel, show ¬ (("later" : Str) = "tool") by decide +kernel, show ¬ (("later" : Str) = "moment") by decide +kernel, show ¬ (("later" : Str) = "by") by decide +kernel, show ¬ (("later" : Str) = "is_sound") by decide +kernel, show ¬ (("later" : Str) = "one") by decide +kernel, show ¬ (("later" : Str) = "other") by decide +kernel, if_true, if_false]), (by simp only [lookup_putF, show ¬ (("kind" : Str) = "_told") by decide +kernel, show ¬ (("kind" : Str) = "tool") by decide +kernel, show ¬ (("kind" : Str) = "moment") by decide +kernel, show ¬ (("kind" : Str) = "by") by decide +kernel, show ¬ (("kind" : Str) = "is_sound") by decide +kernel, show ¬ (("kind" : Str) = "one") by decide +kernel, show ¬ (("kind" : Str) = "other") by decide +kernel, show ¬ (("kind" : Str) = "later") by decide +kernel, show ¬ (("_told" : Str) = "kind") by decide +kernel, show ¬ (("_told" : Str) = "tool") by decide +kernel, show ¬ (("_told" : Str) = "moment") by decide +kernel, show ¬ (("_told" : Str) = "by") by decide +kernel, show ¬ (("_told" : Str) = "is_sound") by decide +kernel, show ¬ (("_told" : Str) = "one") by decide +kernel, show ¬ (("_told" : Str) = "other") by decide +kernel, show ¬ (("_told" : Str) = "later") by decide +kernel, show ¬ (("tool" : Str) = "kind") by decide +kernel, show ¬ (("tool" : Str) = "_told") by decide +kernel, show ¬ (("tool" : Str) = "moment") by decide +kernel, show ¬ (("tool" : Str) = "by") by decide +kernel, show ¬ (("tool" : Str) = "is_sound") by decide +kernel, show ¬ (("tool" : Str) = "one") by decide +kernel, show ¬ (("tool" : Str) = "other") by decide +kernel, show ¬ (("tool" : Str) = "later") by decide +kernel, show ¬ (("moment" : Str) = "kind") by decide +kernel, show ¬ (("moment" : Str) = "_told") by decide +kernel, show ¬ (("moment" : Str) = "tool") by decide +kernel, show ¬ (("moment" : Str) = "by") by decide +kernel, show ¬ (("moment" : Str) = "is_sound") by decide +kernel, show ¬ (("moment" : Str) = "one") by decide +kernel, show ¬ (("moment" : Str) = "other") by decide +kernel, show ¬ (("moment" : Str) = "later") by decide +kernel, show ¬ (("by" : Str) = "kind") by decide +kernel, show ¬ (("by" : Str) = "_told") by decide +kernel, show ¬ (("by" : Str) = "tool") by decide +kernel, show ¬ (("by" : Str) = "moment") by decide +kernel, show ¬ (("by" : Str) = "is_sound") by decide +kernel, show ¬ (("by" : Str) = "one") by decide +kernel, show ¬ (("by" : Str) = "other") by decide +kernel, show ¬ (("by" : Str) = "later") by decide +kernel, show ¬ (("is_sound" : Str) = "kind") by decide +kernel, show ¬ (("is_sound" : Str) = "_told") by decide +kernel, show ¬ (("is_sound" : Str) = "tool") by decide +kernel, show ¬ (("is_sound" : Str) = "moment") by decide +kernel, show ¬ (("is_sound" : Str) = "by") by decide +kernel, show ¬ (("is_sound" : Str) = "one") by decide +kernel, show ¬ (("is_sound" : Str) = "other") by decide +kernel, show ¬ (("is_sound" : Str) = "later") by decide +kernel, show ¬ (("one" : Str) = "kind") by decide +kernel, show ¬ (("one" : Str) = "_told") by decide +kernel, show ¬ (("one" : Str) = "tool") by decide +kernel, show ¬ (("one" : Str) = "moment") by decide +kernel, show ¬ (("one" : Str) = "by") by decide +kernel, show ¬ (("one" : Str) = "is_sound") by decide +kernel, show ¬ (("one" : Str) = "other") by decide +kernel, show ¬ (("one" : Str) = "later") by decide +kernel, show ¬ (("other" : Str) = "kind") by decide +kernel, show ¬ (("other" : Str) = "_told") by decide +kernel, show ¬ (("other" : Str) = "tool") by decide +kernel, show ¬ (("other" : Str) = "moment") by decide +kernel, show ¬ (("other" : Str) = "by") by decide +kernel, show ¬ (("other" : Str) = "is_sound") by decide +kernel, show ¬ (("other" : Str) = "one") by decide +kernel, show ¬ (("other" : Str) = "later") by decide +kernel, show ¬ (("later" : Str) = "kind") by decide +kernel, show ¬ (("later" : Str) = "_told") by decide +kernel, show ¬ (("later" : Str) = "tool") by decide +kernel, show ¬ (("later" : Str) = "moment") by decide +kernel, show ¬ (("later" : Str) = "by") by decide +kernel, show ¬ (("later" : Str) = "is_sound") by decide +kernel, show ¬ (("later" : Str) = "one") by decide +kernel, show ¬ (("later" : Str) = "other") by decide +kernel, if_true, if_false]), fun _ h => nomatch h⟩
abbrev sSetBy : Stmt := inClass (topS 33) 0
theorem scSetBy : FnScope ["self", "tool", "moment", "by"] ["self", "tool", "moment", "by"] (defScope sSetBy) := ⟨rfl, rfl, rfl, by decide +kernel, rfl, by decide +kernel, by decide +kernel⟩
theorem ok_SetBy {CN CM CS C f fK : Addr} {fd fdK : FuncData} (F : Fun K "__init__" "SetBy.__init__" sSetBy f fd) (T : RowC K C ["_told", "kind", "tool", "moment", "by"]) (FK : Fun K "checked" "checked" sChecked fK fdK) (bK : Binds K fdK ["kind", "told"] []) (gK : mg "checked" = some (.ref fK))
    (GK : FnOk P w K mg base (L2.CX P w) 4 fK fdK ["kind", "told"] (spChecked CN CM CS)) : FnOk P w K mg base (L2.CX P w) 5 f fd ["self", "tool", "moment", "by"] (spRow CN CM CS C "setby") := by
  refine F.okX scSetBy (fun vs H Q E h => ?_) (fun cdv A outer s H vs Q E hr h => ?_)
  · obtain ⟨x, dx, xs, rfl, _, hl, _⟩ := h
    show xs.length + 1 = 4
    have : (formsOf "setby").length = 3 := by decide +kernel
    omega
  · obtain ⟨x, dx, xs, rfl, hx, hl, hg, qy, qn⟩ := h
    have hkin : ("setby" : Str) ∈ kinds := by decide +kernel
    have hl4 : (formsOf "setby").length = 3 := by decide +kernel
    obtain ⟨v0, v1, v2, rfl⟩ : ∃ v0 v1 v2, xs = [v0, v1, v2] := by
      rw [hl4] at hl
      match xs, hl with
      | [v0, v1, v2], _ => exact ⟨_, _, _, rfl⟩
    have no := T.no
    simp only [List.forall_mem_cons] at no
    obtain ⟨n0, n1, n2, n3, n4, _⟩ := no
    refine ⟨_, pss_cons (ps_fld (pv 0) (pe_call GK hr (by rfl) gK FK.kp bK .nil (passes_call (takes_of rfl rfl rfl rfl) (fun _ _ _ _ h => h)) (pa_cons pe_str (pa_cons (pe_tup (pa_cons (pv 1) (pa_cons (pv 2) (pa_cons (pv 3) pa_nil)))) pa_nil))) rfl)
      (pss_cons (ps_fld (pv 0) pe_str rfl)
      (pss_cons (ps_fld (pv 0) (pv 1) rfl) (pss_cons (ps_fld (pv 0) (pv 2) rfl) (pss_one (ps_fld (pv 0) (pv 3) rfl))))), ?_⟩
    refine ⟨_, rfl, _, rfl, _, rfl, by show 3 ≤ sizeLine; decide, fun tp htp => ?_⟩
    have s1 := same_upd0 (o := .tup [v0, v1, v2]) htp
    refine ⟨"setby", tp, [v0, v1, v2], rfl, hkin, upd_same, hl, (fun y hy => (hg y hy).elim fun T h => ⟨T, h.same s1⟩), fun gd H2 s2 => ?_, fun C' fl v g d H' s e => qn C' fl v g d H' (s1.trans s) e⟩
    have hx2 := s2 _ _ (s1 _ _ hx)
    have s12 := s1.trans s2
    refine ⟨_, rfl, x, C, dx, [], rfl, hx2, T.cl, n0, by show 0 < 1000; decide, ?_⟩
    refine ⟨_, rfl, x, C, dx, _, rfl, upd_same, T.cl, n1, Nat.lt_of_le_of_lt (lenC (Nat.le_refl 0)) (by decide), ?_⟩
    refine ⟨_, rfl, _, rfl, x, C, dx, _, rfl, upd_same, T.cl, n2, Nat.lt_of_le_of_lt (lenC (lenC (Nat.le_refl 0))) (by decide), ?_⟩
    refine ⟨_, rfl, _, rfl, x, C, dx, _, rfl, upd_same, T.cl, n3, Nat.lt_of_le_of_lt (lenC (lenC (lenC (Nat.le_refl 0)))) (by decide), ?_⟩
    refine ⟨_, rfl, _, rfl, x, C, dx, _, rfl, upd_same, T.cl, n4, Nat.lt_of_le_of_lt (lenC (lenC (lenC (lenC (Nat.le_refl 0))))) (by decide), ?_⟩
    refine qy gd _ _ (fun c o nc e => ?_) upd_same ?_
    · rw [upd_ne nc, upd_ne nc, upd_ne nc, upd_ne nc, upd_ne nc]
      exact s12 c o e
    · have ntp : tp ≠ x := fun z => by rw [z, hx] at htp; cases htp
      have etp := s2 _ _ (show (upd H tp (.tup _)) tp = _ from upd_same)
      refine ⟨?_, ⟨tp, ?_, ?_⟩, ?_, (by repeat (first | exact NoM.nil | refine NoM.put ?_ (by decide +kernel)))⟩
      · simp only [lookup_putF, show ¬ (("kind" : Str) = "_told") by decide +kernel, show ¬ (("kind" : Str) = "tool") by decide +kernel, show ¬ (("kind" : Str) = "moment") by decide +kernel, show ¬ (("kind" : Str) = "by") by decide +kernel, show ¬ (("kind" : Str) = "is_sound") by decide +kernel, show ¬ (("kind" : Str) = "one") by decide +kernel, show ¬ (("kind" : Str) = "other") by decide +kernel, show ¬ (("kind" : Str) = "later") by decide +kernel, show ¬ (("_told" : Str) = "kind") by decide +kernel, show ¬ (("_told" : Str) = "tool") by decide +kernel, show ¬ (("_told" : Str) = "moment") by decide +kernel, show ¬ (("_told" : Str) = "by") by decide +kernel, show ¬ (("_told" : Str) = "is_sound") by decide +kernel, show ¬ (("_told" : Str) = "one") by decide +kernel, show ¬ (("_told" : Str) = "other") by decide +kernel, show ¬ (("_told" : Str) = "later") by decide +kernel, show ¬ (("tool" : Str) = "kind") by decide +kernel, show ¬ (("tool" : Str) = "_told") by decide +kernel, show ¬ (("tool" : Str) = "moment") by decide +kernel, show ¬ (("tool" : Str) = "by") by decide +kernel, show ¬ (("tool" : Str) = "is_sound") by decide +kernel, show ¬ (("tool" : Str) = "one") by decide +kernel, show ¬ (("tool" : Str) = "other") by decide +kernel, show ¬ (("tool" : Str) = "later") by decide +kernel, show ¬ (("moment" : Str) = "kind") by decide +kernel, show ¬ (("moment" : Str) = "_told") by decide +kernel, show ¬ (("moment" : Str) = "tool") by decide +kernel, show ¬ (("moment" : Str) = "by") by decide +kernel, show ¬ (("moment" : Str) = "is_sound") by decide +kernel, show ¬ (("moment" : Str) = "one") by decide +kernel, show ¬ (("moment" : Str) = "other") by decide +kernel, show ¬ (("moment" : Str) = "later") by decide +kernel, show ¬ (("by" : Str) = "kind") by decide +kernel, show ¬ (("by" : Str) = "_told") by decide +kernel, show ¬ (("by" : Str) = "tool") by decide +kernel, show ¬ (("by" : Str) = "moment") by decide +kernel, show ¬ (("by" : Str) = "is_sound") by decide +kernel, show ¬ (("by" : Str) = "one") by decide +kernel, show ¬ (("by" : Str) = "other") by decide +kernel, show ¬ (("by" : Str) = "later") by decide +kernel, show ¬ (("is_sound" : Str) = "kind") by decide +kernel, show ¬ (("is_sound" : Str) = "_told") by decide +kernel, show ¬ (("is_sound" : Str) = "tool") by decide +kernel, show ¬ (("is_sound" : Str) = "moment") by decide +kernel, show ¬ (("is_sound" : Str) = "by") by decide +kernel, show ¬ (("is_sound" : Str) = "one") by decide +kernel, show ¬ (("is_sound" : Str) = "other") by decide +kernel, show ¬ (("is_sound" : Str) = "later") by decide +kernel, show ¬ (("one" : Str) = "kind") by decide +kernel, show ¬ (("one" : Str) = "_told") by decide +kernel, show ¬ (("one" : Str) = "tool") by decide +kernel, show ¬ (("one" : Str) = "moment") by decide +kernel, show ¬ (("one" : Str) = "by") by decide +kernel, show ¬ (("one" : Str) = "is_sound") by decide +kernel, show ¬ (("one" : Str) = "other") by decide +kernel, show ¬ (("one" : Str) = "later") by decide +kernel, show ¬ (("other" : Str) = "kind") by decide +kernel, show ¬ (("other" : Str) = "_told") by decide +kernel, show ¬ (("other" : Str) = "tool") by decide +kernel, show ¬ (("other" : Str) = "moment") by decide +kernel, show ¬ (("other" : Str) = "by") by decide +kernel, show ¬ (("other" : Str) = "is_sound") by decide +kernel, show ¬ (("other" : Str) = "one") by decide +kernel, show ¬ (("other" : Str) = "later") by decide +kernel, show ¬ (("later" : Str) = "kind") by decide +kernel, show ¬ (("later" : Str) = "_told") by decide +kernel, show ¬ (("later" : Str) = "tool") by decide +kernel, show ¬ (("later" : Str) = "moment") by decide +kernel, show ¬ (("later" : Str) = "by") by decide +kernel, show ¬ (("later" : Str) = "is_sound") by decide +kernel, show ¬ (("later" : Str) = "one") by decide +kernel, show ¬ (("later" : Str) = "other") by decide +kernel, if_true, if_false]
      · simp only [lookup_putF, show ¬ (("kind" : Str) = "_told") by decide +kernel, show ¬ (("kind" : Str) = "tool") by decide +kernel, show ¬ (("kind" : Str) = "moment") by decide +kernel, show ¬ (("kind" : Str) = "by") by decide +kernel, show ¬ (("kind" : Str) = "is_sound") by decide +kernel, show ¬ (("kind" : Str) = "one") by decide +kernel, show ¬ (("kind" : Str) = "other") by decide +kernel, show ¬ (("kind" : Str) = "later") by decide +kernel, show ¬ (("_told" : Str) = "kind") by decide +kernel, show ¬ (("_told" : Str) = "tool") by decide +kernel, show ¬ (("_told" : Str) = "moment") by decide +kernel, show ¬ (("_told" : Str) = "by") by decide +kernel, show ¬ (("_told" : Str) = "is_sound") by decide +kernel, show ¬ (("_told" : Str) = "one") by decide +kernel, show ¬ (("_told" : Str) = "other") by decide +kernel, show ¬ (("_told" : Str) = "later") by decide +kernel, show ¬ (("tool" : Str) = "kind") by decide +kernel, show ¬ (("tool" : Str) = "_told") by decide +kernel, show ¬ (("tool" : Str) = "moment") by decide +kernel, show ¬ (("tool" : Str) = "by") by decide +kernel, show ¬ (("tool" : Str) = "is_sound") by decide +kernel, show ¬ (("tool" : Str) = "one") by decide +kernel, show ¬ (("tool" : Str) = "other") by decide +kernel, show ¬ (("tool" : Str) = "later") by decide +kernel, show ¬ (("moment" : Str) = "kind") by decide +kernel, show ¬ (("moment" : Str) = "_told") by decide +kernel, show ¬ (("moment" : Str) = "tool") by decide +kernel, show ¬ (("moment" : Str) = "by") by decide +kernel, show ¬ (("moment" : Str) = "is_sound") by decide +kernel, show ¬ (("moment" : Str) = "one") by decide +kernel, show ¬ (("moment" : Str) = "other") by decide +kernel, show ¬ (("moment" : Str) = "later") by decide +kernel, show ¬ (("by" : Str) = "kind") by decide +kernel, show ¬ (("by" : Str) = "_told") by decide +kernel, show ¬ (("by" : Str) = "tool") by decide +kernel, show ¬ (("by" : Str) = "moment") by decide +kernel, show ¬ (("by" : Str) = "is_sound") by decide +kernel, show ¬ (("by" : Str) = "one") by decide +kernel, show ¬ (("by" : Str) = "other") by decide +kernel, show ¬ (("by" : Str) = "later") by decide +kernel, show ¬ (("is_sound" : Str) = "kind") by decide +kernel, show ¬ (("is_sound" : Str) = "_told") by decide +kernel, show ¬ (("is_sound" : Str) = "tool") by decide +kernel, show ¬ (("is_sound" : Str) = "moment") by decide +kernel, show ¬ (("is_sound" : Str) = "by") by decide +kernel, show ¬ (("is_sound" : Str) = "one") by decide +kernel, show ¬ (("is_sound" : Str) = "other") by decide +kernel, show ¬ (("is_sound" : Str) = "later") by decide +kernel, show ¬ (("one" : Str) = "kind") by decide +kernel, show ¬ (("one" : Str) = "_told") by decide +kernel, show ¬ (("one" : Str) = "tool") by decide +kernel, show ¬ (("one" : Str) = "moment") by decide +kernel, show ¬ (("one" : Str) = "by") by decide +kernel, show ¬ (("one" : Str) = "is_sound") by decide +kernel, show ¬ (("one" : Str) = "other") by decide +kernel, show ¬ (("one" : Str) = "later") by decide +kernel, show ¬ (("other" : Str) = "kind") by decide +kernel, show ¬ (("other" : Str) = "_told") by decide +kernel, show ¬ (("other" : Str) = "tool") by decide +kernel, show ¬ (("other" : Str) = "moment") by decide +kernel, show ¬ (("other" : Str) = "by") by decide +kernel, show ¬ (("other" : Str) = "is_sound") by decide +kernel, show ¬ (("other" : Str) = "one") by decide +kernel, show ¬ (("other" : Str) = "later") by decide +kernel, show ¬ (("later" : Str) = "kind") by decide +kernel, show ¬ (("later" : Str) = "_told") by decide +kernel, show ¬ (("later" : Str) = "tool") by decide +kernel, show ¬ (("later" : Str) = "moment") by decide +kernel, show ¬ (("later" : Str) = "by") by decide +kernel, show ¬ (("later" : Str) = "is_sound") by decide +kernel, show ¬ (("later" : Str) = "one") by decide +kernel, show ¬ (("later" : Str) = "other") by decide +kernel, if_true, if_false]
      · repeat rw [upd_ne ntp]
        exact etp
      · rw [attrs_setby]
        simp only [List.zip_cons_cons, List.zip_nil_right, List.forall_mem_cons]
        refine ⟨(by simp only [lookup_putF, show ¬ (("kind" : Str) = "_told") by decide +kernel, show ¬ (("kind" : Str) = "tool") by decide +kernel, show ¬ (("kind" : Str) = "moment") by decide +kernel, show ¬ (("kind" : Str) = "by") by decide +kernel, show ¬ (("kind" : Str) = "is_sound") by decide +kernel, show ¬ (("kind" : Str) = "one") by decide +kernel, show ¬ (("kind" : Str) = "other") by decide +kernel, show ¬ (("kind" : Str) = "later") by decide +kernel, show ¬ (("_told" : Str) = "kind") by decide +kernel, show ¬ (("_told" : Str) = "tool") by decide +kernel, show ¬ (("_told" : Str) = "moment") by decide +kernel, show ¬ (("_told" : Str) = "by") by decide +kernel, show ¬ (("_told" : Str) = "is_sound") by decide +kernel, show ¬ (("_told" : Str) = "one") by decide +kernel, show ¬ (("_told" : Str) = "other") by decide +kernel, show ¬ (("_told" : Str) = "later") by decide +kernel, show ¬ (("tool" : Str) = "kind") by decide +kernel, show ¬ (("tool" : Str) = "_told") by decide +kernel, show ¬ (("tool" : Str) = "moment") by decide +kernel, show ¬ (("tool" : Str) = "by") by decide +kernel, show ¬ (("tool" : Str) = "is_sound") by decide +kernel, show ¬ (("tool" : Str) = "one") by decide +kernel, show ¬ (("tool" : Str) = "other") by decide +kernel, show ¬ (("tool" : Str) = "later") by decide +kernel, show ¬ (("moment" : Str) = "kind") by decide +kernel, show ¬ (("moment" : Str) = "_told") by decide +kernel, show ¬ (("moment" : Str) = "tool") by decide +kernel, show ¬ (("moment" : Str) = "by") by decide +kernel, show ¬ (("moment" : Str) = "is_sound") by decide +kernel, show ¬ (("moment" : Str) = "one") by decide +kernel, show ¬ (("moment" : Str) = "other") by decide +kernel, show ¬ (("moment" : Str) = "later") by decide +kernel, show ¬ (("by" : Str) = "kind") by decide +kernel, show ¬ (("by" : Str) = "_told") by decide +kernel, show ¬ (("by" : Str) = "tool") by decide +kernel, show ¬ (("by" : Str) = "moment") by decide +kernel, show ¬ (("by" : Str) = "is_sound") by decide +kernel, show ¬ (("by" : Str) = "one") by decide +kernel, show ¬ (("by" : Str) = "other") by decide +kernel, show ¬ (("by" : Str) = "later") by decide +kernel, show ¬ (("is_sound" : Str) = "kind") by decide +kernel, show ¬ (("is_sound" : Str) = "_told") by decide +kernel, show ¬ (("is_sound" : Str) = "tool") by decide +kernel, show ¬ (("is_sound" : Str) = "moment") by decide +kernel, show ¬ (("is_sound" : Str) = "by") by decide +kernel, show ¬ (("is_sound" : Str) = "one") by decide +kernel, show ¬ (("is_sound" : Str) = "other") by decide +kernel, show ¬ (("is_sound" : Str) = "later") by decide +kernel, show ¬ (("one" : Str) = "kind") by decide +kernel, show ¬ (("one" : Str) = "_told") by decide +kernel, show ¬ (("one" : Str) = "tool") by decide +kernel, show ¬ (("one" : Str) = "moment") by decide +kernel, show ¬ (("one" : Str) = "by") by decide +kernel, show ¬ (("one" : Str) = "is_sound") by decide +kernel, show ¬ (("one" : Str) = "other") by decide +kernel, show ¬ (("one" : Str) = "later") by decide +kernel, show ¬ (("other" : Str) = "kind") by decide +kernel, show ¬ (("other" : Str) = "_told") by decide +kernel, show ¬ (("other" : Str) = "tool") by decide +kernel, show ¬ (("other" : Str) = "moment") by decide +kernel, show ¬ (("other" : Str) = "by") by decide +kernel, show ¬ (("other" : Str) = "is_sound") by decide +kernel, show ¬ (("other" : Str) = "one") by decide +kernel, show ¬ (("other" : Str) = "later") by decide +kernel, show ¬ (("later" : Str) = "kind") by decide +kernel, show ¬ (("later" : Str) = "_told") by decide +kernel, show ¬ (("later" : Str) = "tool") by decide +kernel, show ¬ (("later" : Str) = "moment") by decide +kernel, show ¬ (("later" : Str) = "by") by decide +kernel, show ¬ (("later" : Str) = "is_sound") by decide +kernel, show ¬ (("later" : Str) = "one") by decide +kernel, show ¬ (("later" : Str) = "other") by decide +kernel, if_true, if_false]), (by simp only [lookup_putF, show ¬ (("kind" : Str) = "_told") by decide +kernel, show ¬ (("kind" : Str) = "tool") by decide +kernel, show ¬ (("kind" : Str) = "moment") by decide +kernel, show ¬ (("kind" : Str) = "by") by decide +kernel, show ¬ (("kind" : Str) = "is_sound") by decide +kernel, show ¬ (("kind" : Str) = "one") by decide +kernel, show ¬ (("kind" : Str) = "other") by decide +kernel, show ¬ (("kind" : Str) = "later") by decide +kernel, show ¬ (("_told" : Str) = "kind") by decide +kernel, show ¬ (("_told" : Str) = "tool") by decide +kernel, show ¬ (("_told" : Str) = "moment") by decide +kernel, show ¬ (("_told" : Str) = "by") by decide +kernel, show ¬ (("_told" : Str) = "is_sound") by decide +kernel, show ¬ (("_told" : Str) = "one") by decide +kernel, show ¬ (("_told" : Str) = "other") by decide +kernel, show ¬ (("_told" : Str) = "later") by decide +kernel, show ¬ (("tool" : Str) = "kind") by decide +kernel, show ¬ (("tool" : Str) = "_told") by decide +kernel, show ¬ (("tool" : Str) = "moment") by decide +kernel, show ¬ (("tool" : Str) = "by") by decide +kernel, show ¬ (("tool" : Str) = "is_sound") by decide +kernel, show ¬ (("tool" : Str) = "one") by decide +kernel, show ¬ (("tool" : Str) = "other") by decide +kernel, show ¬ (("tool" : Str) = "later") by decide +kernel, show ¬ (("moment" : Str) = "kind") by decide +kernel, show ¬ (("moment" : Str) = "_told") by decide +kernel, show ¬ (("moment" : Str) = "tool") by decide +kernel, show ¬ (("moment" : Str) = "by") by decide +kernel, show ¬ (("moment" : Str) = "is_sound") by decide +kernel, show ¬ (("moment" : Str) = "one") by decide +kernel, show ¬ (("moment" : Str) = "other") by decide +kernel, show ¬ (("moment" : Str) = "later") by decide +kernel, show ¬ (("by" : Str) = "kind") by decide +kernel, show ¬ (("by" : Str) = "_told") by decide +kernel, show ¬ (("by" : Str) = "tool") by decide +kernel, show ¬ (("by" : Str) = "moment") by decide +kernel, show ¬ (("by" : Str) = "is_sound") by decide +kernel, show ¬ (("by" : Str) = "one") by decide +kernel, show ¬ (("by" : Str) = "other") by decide +kernel, show ¬ (("by" : Str) = "later") by decide +kernel, show ¬ (("is_sound" : Str) = "kind") by decide +kernel, show ¬ (("is_sound" : Str) = "_told") by decide +kernel, show ¬ (("is_sound" : Str) = "tool") by decide +kernel, show ¬ (("is_sound" : Str) = "moment") by decide +kernel, show ¬ (("is_sound" : Str) = "by") by decide +kernel, show ¬ (("is_sound" : Str) = "one") by decide +kernel, show ¬ (("is_sound" : Str) = "other") by decide +kernel, show ¬ (("is_sound" : Str) = "later") by decide +kernel, show ¬ (("one" : Str) = "kind") by decide +kernel, show ¬ (("one" : Str) = "_told") by decide +kernel, show ¬ (("one" : Str) = "tool") by decide +kernel, show ¬ (("one" : Str) = "moment") by decide +kernel, show ¬ (("one" : Str) = "by") by decide +kernel, show ¬ (("one" : Str) = "is_sound") by decide +kernel, show ¬ (("one" : Str) = "other") by decide +kernel, show ¬ (("one" : Str) = "later") by decide +kernel, show ¬ (("other" : Str) = "kind") by decide +kernel, show ¬ (("other" : Str) = "_told") by decide +kernel, show ¬ (("other" : Str) = "tool") by decide +kernel, show ¬ (("other" : Str) = "moment") by decide +kernel, show ¬ (("other" : Str) = "by") by decide +kernel, show ¬ (("other" : Str) = "is_sound") by decide +kernel, show ¬ (("other" : Str) = "one") by decide +kernel, show ¬ (("other" : Str) = "later") by decide +kernel, show ¬ (("later" : Str) = "kind") by decide +kernel, show ¬ (("later" : Str) = "_told") by decide +kernel, show ¬ (("later" : Str) = "tool") by decide +kernel, show ¬ (("later" : Str) = "moment") by decide +kernel, show ¬ (("later" : Str) = "by") by decide +kernel, show ¬ (("later" : Str) = "is_sound") by decide +kernel, show ¬ (("later" : Str) = "one") by decide +kernel, show ¬ (("later" : Str) = "other") by decide +kernel, if_true, if_false]), (by simp only [lookup_putF, show ¬ (("kind" : Str) = "_told") by decide +kernel, show ¬ (("kind" : Str) = "tool") by decide +kernel, show ¬ (("kind" : Str) = "moment") by decide +kernel, show ¬ (("kind" : Str) = "by") by decide +kernel, show ¬ (("kind" : Str) = "is_sound") by decide +kernel, show ¬ (("kind" : Str) = "one") by decide +kernel, show ¬ (("kind" : Str) = "other") by decide +kernel, show ¬ (("kind" : Str) = "later") by decide +kernel, show ¬ (("_told" : Str) = "kind") by decide +kernel, show ¬ (("_told" : Str) = "tool") by decide +kernel, show ¬ (("_told" : Str) = "moment") by decide +kernel, show ¬ (("_told" : Str) = "by") by decide +kernel, show ¬ (("_told" : Str) = "is_sound") by decide +kernel, show ¬ (("_told" : Str) = "one") by decide +kernel, show ¬ (("_told" : Str) = "other") by decide +kernel, show ¬ (("_told" : Str) = "later") by decide +kernel, show ¬ (("tool" : Str) = "kind") by decide +kernel, show ¬ (("tool" : Str) = "_told") by decide +kernel, show ¬ (("tool" : Str) = "moment") by decide +kernel, show ¬ (("tool" : Str) = "by") by decide +kernel, show ¬ (("tool" : Str) = "is_sound") by decide +kernel, show ¬ (("tool" : Str) = "one") by decide +kernel, show ¬ (("tool" : Str) = "other") by decide +kernel, show ¬ (("tool" : Str) = "later") by decide +kernel, show ¬ (("moment" : Str) = "kind") by decide +kernel, show ¬ (("moment" : Str) = "_told") by decide +kernel, show ¬ (("moment" : Str) = "tool") by decide +kernel, show ¬ (("moment" : Str) = "by") by decide +kernel, show ¬ (("moment" : Str) = "is_sound") by decide +kernel, show ¬ (("moment" : Str) = "one") by decide +kernel, show ¬ (("moment" : Str) = "other") by decide +kernel, show ¬ (("moment" : Str) = "later") by decide +kernel, show ¬ (("by" : Str) = "kind") by decide +kernel, show ¬ (("by" : Str) = "_told") by decide +kernel, show ¬ (("by" : Str) = "tool") by decide +kernel, show ¬ (("by" : Str) = "moment") by decide +kernel, show ¬ (("by" : Str) = "is_sound") by decide +kernel, show ¬ (("by" : Str) = "one") by decide +kernel, show ¬ (("by" : Str) = "other") by decide +kernel, show ¬ (("by" : Str) = "later") by decide +kernel, show ¬ (("is_sound" : Str) = "kind") by decide +kernel, show ¬ (("is_sound" : Str) = "_told") by decide +kernel, show ¬ (("is_sound" : Str) = "tool") by decide +kernel, show ¬ (("is_sound" : Str) = "moment") by decide +kernel, show ¬ (("is_sound" : Str) = "by") by decide +kernel, show ¬ (("is_sound" : Str) = "one") by decide +kernel, show ¬ (("is_sound" : Str) = "other") by decide +kernel, show ¬ (("is_sound" : Str) = "later") by decide +kernel, show ¬ (("one" : Str) = "kind") by decide +kernel, show ¬ (("one" : Str) = "_told") by decide +kernel, show ¬ (("one" : Str) = "tool") by decide +kernel, show ¬ (("one" : Str) = "moment") by decide +kernel, show ¬ (("one" : Str) = "by") by decide +kernel, show ¬ (("one" : Str) = "is_sound") by decide +kernel, show ¬ (("one" : Str) = "other") by decide +kernel, show ¬ (("one" : Str) = "later") by decide +kernel, show ¬ (("other" : Str) = "kind") by decide +kernel, show ¬ (("other" : Str) = "_told") by decide +kernel, show ¬ (("other" : Str) = "tool") by decide +kernel, show ¬ (("other" : Str) = "moment") by decide +kernel, show ¬ (("other" : Str) = "by") by decide +kernel, show ¬ (("other" : Str) = "is_sound") by decide +kernel, show ¬ (("other" : Str) = "one") by decide +kernel, show ¬ (("other" : Str) = "later") by decide +kernel, show ¬ (("later" : Str) = "kind") by decide +kernel, show ¬ (("later" : Str) = "_told") by decide +kernel, show ¬ (("later" : Str) = "tool") by decide +kernel, show ¬ (("later" : Str) = "moment") by decide +kernel, show ¬ (("later" : Str) = "by") by decide +kernel, show ¬ (("later" : Str) = "is_sound") by decide +kernel, show ¬ (("later" : Str) = "one") by decide +kernel, show ¬ (("later" : Str) = "other") by decide +kernel, if_true, if_false]), fun _ h => nomatch h⟩
abbrev sFound : Stmt := inClass (topS 34) 0
theorem scFound : FnScope ["self", "tool", "moment", "is_sound"] ["self", "tool", "moment", "is_sound"] (defScope sFound) := ⟨rfl, rfl, rfl, by decide +kernel, rfl, by decide +kernel, by decide +kernel⟩
theorem ok_Found {CN CM CS C f fK : Addr} {fd fdK : FuncData} (F : Fun K "__init__" "Found.__init__" sFound f fd) (T : RowC K C ["_told", "kind", "tool", "moment", "is_sound"]) (FK : Fun K "checked" "checked" sChecked fK fdK) (bK : Binds K fdK ["kind", "told"] []) (gK : mg "checked" = some (.ref fK))
    (GK : FnOk P w K mg base (L2.CX P w) 4 fK fdK ["kind", "told"] (spChecked CN CM CS)) : FnOk P w K mg base (L2.CX P w) 5 f fd ["self", "tool", "moment", "is_sound"] (spRow CN CM CS C "found") := by
  refine F.okX scFound (fun vs H Q E h => ?_) (fun cdv A outer s H vs Q E hr h => ?_)
  · obtain ⟨x, dx, xs, rfl, _, hl, _⟩ := h
    show xs.length + 1 = 4
    have : (formsOf "found").length = 3 := by decide +kernel
    omega
  · obtain ⟨x, dx, xs, rfl, hx, hl, hg, qy, qn⟩ := h
    have hkin : ("found" : Str) ∈ kinds := by decide +kernel
    have hl4 : (formsOf "found").length = 3 := by decide +kernel
    obtain ⟨v0, v1, v2, rfl⟩ : ∃ v0 v1 v2, xs = [v0, v1, v2] := by
      rw [hl4] at hl
      match xs, hl with
      | [v0, v1, v2], _ => exact ⟨_, _, _, rfl⟩
    have no := T.no
    simp only [List.forall_mem_cons] at no
    obtain ⟨n0, n1, n2, n3, n4, _⟩ := no
    refine ⟨_, pss_cons (ps_fld (pv 0) (pe_call GK hr (by rfl) gK FK.kp bK .nil (passes_call (takes_of rfl rfl rfl rfl) (fun _ _ _ _ h => h)) (pa_cons pe_str (pa_cons (pe_tup (pa_cons (pv 1) (pa_cons (pv 2) (pa_cons (pv 3) pa_nil)))) pa_nil))) rfl)
      (pss_cons (ps_fld (pv 0) pe_str rfl)
      (pss_cons (ps_fld (pv 0) (pv 1) rfl) (pss_cons (ps_fld (pv 0) (pv 2) rfl) (pss_one (ps_fld (pv 0) (pv 3) rfl))))), ?_⟩
    refine ⟨_, rfl, _, rfl, _, rfl, by show 3 ≤ sizeLine; decide, fun tp htp => ?_⟩
    have s1 := same_upd0 (o := .tup [v0, v1, v2]) htp
    refine ⟨"found", tp, [v0, v1, v2], rfl, hkin, upd_same, hl, (fun y hy => (hg y hy).elim fun T h => ⟨T, h.same s1⟩), fun gd H2 s2 => ?_, fun C' fl v g d H' s e => qn C' fl v g d H' (s1.trans s) e⟩
    have hx2 := s2 _ _ (s1 _ _ hx)
    have s12 := s1.trans s2
    refine ⟨_, rfl, x, C, dx, [], rfl, hx2, T.cl, n0, by show 0 < 1000; decide, ?_⟩
    refine ⟨_, rfl, x, C, dx, _, rfl, upd_same, T.cl, n1, Nat.lt_of_le_of_lt (lenC (Nat.le_refl 0)) (by decide), ?_⟩
    refine ⟨_, rfl, _, rfl, x, C, dx, _, rfl, upd_same, T.cl, n2, Nat.lt_of_le_of_lt (lenC (lenC (Nat.le_refl 0))) (by decide), ?_⟩
    refine ⟨_, rfl, _, rfl, x, C, dx, _, rfl, upd_same, T.cl, n3, Nat.lt_of_le_of_lt (lenC (lenC (lenC (Nat.le_refl 0)))) (by decide), ?_⟩
    refine ⟨_, rfl, _, rfl, x, C, dx, _, rfl, upd_same, T.cl, n4, Nat.lt_of_le_of_lt (lenC (lenC (lenC (lenC (Nat.le_refl 0))))) (by decide), ?_⟩
    refine qy gd _ _ (fun c o nc e => ?_) upd_same ?_
    · rw [upd_ne nc, upd_ne nc, upd_ne nc, upd_ne nc, upd_ne nc]
      exact s12 c o e
    · have ntp : tp ≠ x := fun z => by rw [z, hx] at htp; cases htp
      have etp := s2 _ _ (show (upd H tp (.tup _)) tp = _ from upd_same)
      refine ⟨?_, ⟨tp, ?_, ?_⟩, ?_, (by repeat (first | exact NoM.nil | refine NoM.put ?_ (by decide +kernel)))⟩
      · simp only [lookup_putF, show ¬ (("kind" : Str) = "_told") by decide +kernel, show ¬ (("kind" : Str) = "tool") by decide +kernel, show ¬ (("kind" : Str) = "moment") by decide +kernel, show ¬ (("kind" : Str) = "by") by decide +kernel, show ¬ (("kind" : Str) = "is_sound") by decide +kernel, show ¬ (("kind" : Str) = "one") by decide +kernel, show ¬ (("kind" : Str) = "other") by decide +kernel, show ¬ (("kind" : Str) = "later") by decide +kernel, show ¬ (("_told" : Str) = "kind") by decide +kernel, show ¬ (("_told" : Str) = "tool") by decide +kernel, show ¬ (("_told" : Str) = "moment") by decide +kernel, show ¬ (("_told" : Str) = "by") by decide +kernel, show ¬ (("_told" : Str) = "is_sound") by decide +kernel, show ¬ (("_told" : Str) = "one") by decide +kernel, show ¬ (("_told" : Str) = "other") by decide +kernel, show ¬ (("_told" : Str) = "later") by decide +kernel, show ¬ (("tool" : Str) = "kind") by decide +kernel, show ¬ (("tool" : Str) = "_told") by decide +kernel, show ¬ (("tool" : Str) = "moment") by decide +kernel, show ¬ (("tool" : Str) = "by") by decide +kernel, show ¬ (("tool" : Str) = "is_sound") by decide +kernel, show ¬ (("tool" : Str) = "one") by decide +kernel, show ¬ (("tool" : Str) = "other") by decide +kernel, show ¬ (("tool" : Str) = "later") by decide +kernel, show ¬ (("moment" : Str) = "kind") by decide +kernel, show ¬ (("moment" : Str) = "_told") by decide +kernel, show ¬ (("moment" : Str) = "tool") by decide +kernel, show ¬ (("moment" : Str) = "by") by decide +kernel, show ¬ (("moment" : Str) = "is_sound") by decide +kernel, show ¬ (("moment" : Str) = "one") by decide +kernel, show ¬ (("moment" : Str) = "other") by decide +kernel, show ¬ (("moment" : Str) = "later") by decide +kernel, show ¬ (("by" : Str) = "kind") by decide +kernel, show ¬ (("by" : Str) = "_told") by decide +kernel, show ¬ (("by" : Str) = "tool") by decide +kernel, show ¬ (("by" : Str) = "moment") by decide +kernel, show ¬ (("by" : Str) = "is_sound") by decide +kernel, show ¬ (("by" : Str) = "one") by decide +kernel, show ¬ (("by" : Str) = "other") by decide +kernel, show ¬ (("by" : Str) = "later") by decide +kernel, show ¬ (("is_sound" : Str) = "kind") by decide +kernel, show ¬ (("is_sound" : Str) = "_told") by decide +kernel, show ¬ (("is_sound" : Str) = "tool") by decide +kernel, show ¬ (("is_sound" : Str) = "moment") by decide +kernel, show ¬ (("is_sound" : Str) = "by") by decide +kernel, show ¬ (("is_sound" : Str) = "one") by decide +kernel, show ¬ (("is_sound" : Str) = "other") by decide +kernel, show ¬ (("is_sound" : Str) = "later") by decide +kernel, show ¬ (("one" : Str) = "kind") by decide +kernel, show ¬ (("one" : Str) = "_told") by decide +kernel, show ¬ (("one" : Str) = "tool") by decide +kernel, show ¬ (("one" : Str) = "moment") by decide +kernel, show ¬ (("one" : Str) = "by") by decide +kernel, show ¬ (("one" : Str) = "is_sound") by decide +kernel, show ¬ (("one" : Str) = "other") by decide +kernel, show ¬ (("one" : Str) = "later") by decide +kernel, show ¬ (("other" : Str) = "kind") by decide +kernel, show ¬ (("other" : Str) = "_told") by decide +kernel, show ¬ (("other" : Str) = "tool") by decide +kernel, show ¬ (("other" : Str) = "moment") by decide +kernel, show ¬ (("other" : Str) = "by") by decide +kernel, show ¬ (("other" : Str) = "is_sound") by decide +kernel, show ¬ (("other" : Str) = "one") by decide +kernel, show ¬ (("other" : Str) = "later") by decide +kernel, show ¬ (("later" : Str) = "kind") by decide +kernel, show ¬ (("later" : Str) = "_told") by decide +kernel, show ¬ (("later" : Str) = "tool") by decide +kernel, show ¬ (("later" : Str) = "moment") by decide +kernel, show ¬ (("later" : Str) = "by") by decide +kernel, show ¬ (("later" : Str) = "is_sound") by decide +kernel, show ¬ (("later" : Str) = "one") by decide +kernel, show ¬ (("later" : Str) = "other") by decide +kernel, if_true, if_false]
      · simp only [lookup_putF, show ¬ (("kind" : Str) = "_told") by decide +kernel, show ¬ (("kind" : Str) = "tool") by decide +kernel, show ¬ (("kind" : Str) = "moment") by decide +kernel, show ¬ (("kind" : Str) = "by") by decide +kernel, show ¬ (("kind" : Str) = "is_sound") by decide +kernel, show ¬ (("kind" : Str) = "one") by decide +kernel, show ¬ (("kind" : Str) = "other") by decide +kernel, show ¬ (("kind" : Str) = "later") by decide +kernel, show ¬ (("_told" : Str) = "kind") by decide +kernel, show ¬ (("_told" : Str) = "tool") by decide +kernel, show ¬ (("_told" : Str) = "moment") by decide +kernel, show ¬ (("_told" : Str) = "by") by decide +kernel, show ¬ (("_told" : Str) = "is_sound") by decide +kernel, show ¬ (("_told" : Str) = "one") by decide +kernel, show ¬ (("_told" : Str) = "other") by decide +kernel, show ¬ (("_told" : Str) = "later") by decide +kernel, show ¬ (("tool" : Str) = "kind") by decide +kernel, show ¬ (("tool" : Str) = "_told") by decide +kernel, show ¬ (("tool" : Str) = "moment") by decide +kernel, show ¬ (("tool" : Str) = "by") by decide +kernel, show ¬ (("tool" : Str) = "is_sound") by decide +kernel, show ¬ (("tool" : Str) = "one") by decide +kernel, show ¬ (("tool" : Str) = "other") by decide +kernel, show ¬ (("tool" : Str) = "later") by decide +kernel, show ¬ (("moment" : Str) = "kind") by decide +kernel, show ¬ (("moment" : Str) = "_told") by decide +kernel, show ¬ (("moment" : Str) = "tool") by decide +kernel, show ¬ (("moment" : Str) = "by") by decide +kernel, show ¬ (("moment" : Str) = "is_sound") by decide +kernel, show ¬ (("moment" : Str) = "one") by decide +kernel, show ¬ (("moment" : Str) = "other") by decide +kernel, show ¬ (("moment" : Str) = "later") by decide +kernel, show ¬ (("by" : Str) = "kind") by decide +kernel, show ¬ (("by" : Str) = "_told") by decide +kernel, show ¬ (("by" : Str) = "tool") by decide +kernel, show ¬ (("by" : Str) = "moment") by decide +kernel, show ¬ (("by" : Str) = "is_sound") by decide +kernel, show ¬ (("by" : Str) = "one") by decide +kernel, show ¬ (("by" : Str) = "other") by decide +kernel, show ¬ (("by" : Str) = "later") by decide +kernel, show ¬ (("is_sound" : Str) = "kind") by decide +kernel, show ¬ (("is_sound" : Str) = "_told") by decide +kernel, show ¬ (("is_sound" : Str) = "tool") by decide +kernel, show ¬ (("is_sound" : Str) = "moment") by decide +kernel, show ¬ (("is_sound" : Str) = "by") by decide +kernel, show ¬ (("is_sound" : Str) = "one") by decide +kernel, show ¬ (("is_sound" : Str) = "other") by decide +kernel, show ¬ (("is_sound" : Str) = "later") by decide +kernel, show ¬ (("one" : Str) = "kind") by decide +kernel, show ¬ (("one" : Str) = "_told") by decide +kernel, show ¬ (("one" : Str) = "tool") by decide +kernel, show ¬ (("one" : Str) = "moment") by decide +kernel, show ¬ (("one" : Str) = "by") by decide +kernel, show ¬ (("one" : Str) = "is_sound") by decide +kernel, show ¬ (("one" : Str) = "other") by decide +kernel, show ¬ (("one" : Str) = "later") by decide +kernel, show ¬ (("other" : Str) = "kind") by decide +kernel, show ¬ (("other" : Str) = "_told") by decide +kernel, show ¬ (("other" : Str) = "tool") by decide +kernel, show ¬ (("other" : Str) = "moment") by decide +kernel, show ¬ (("other" : Str) = "by") by decide +kernel, show ¬ (("other" : Str) = "is_sound") by decide +kernel, show ¬ (("other" : Str) = "one") by decide +kernel, show ¬ (("other" : Str) = "later") by decide +kernel, show ¬ (("later" : Str) = "kind") by decide +kernel, show ¬ (("later" : Str) = "_told") by decide +kernel, show ¬ (("later" : Str) = "tool") by decide +kernel, show ¬ (("later" : Str) = "moment") by decide +kernel, show ¬ (("later" : Str) = "by") by decide +kernel, show ¬ (("later" : Str) = "is_sound") by decide +kernel, show ¬ (("later" : Str) = "one") by decide +kernel, show ¬ (("later" : Str) = "other") by decide +kernel, if_true, if_false]
      · repeat rw [upd_ne ntp]
        exact etp
      · rw [attrs_found]
        simp only [List.zip_cons_cons, List.zip_nil_right, List.forall_mem_cons]
        refine ⟨(by simp only [lookup_putF, show ¬ (("kind" : Str) = "_told") by decide +kernel, show ¬ (("kind" : Str) = "tool") by decide +kernel, show ¬ (("kind" : Str) = "moment") by decide +kernel, show ¬ (("kind" : Str) = "by") by decide +kernel, show ¬ (("kind" : Str) = "is_sound") by decide +kernel, show ¬ (("kind" : Str) = "one") by decide +kernel, show ¬ (("kind" : Str) = "other") by decide +kernel, show ¬ (("kind" : Str) = "later") by decide +kernel, show ¬ (("_told" : Str) = "kind") by decide +kernel, show ¬ (("_told" : Str) = "tool") by decide +kernel, show ¬ (("_told" : Str) = "moment") by decide +kernel, show ¬ (("_told" : Str) = "by") by decide +kernel, show ¬ (("_told" : Str) = "is_sound") by decide +kernel, show ¬ (("_told" : Str) = "one") by decide +kernel, show ¬ (("_told" : Str) = "other") by decide +kernel, show ¬ (("_told" : Str) = "later") by decide +kernel, show ¬ (("tool" : Str) = "kind") by decide +kernel, show ¬ (("tool" : Str) = "_told") by decide +kernel, show ¬ (("tool" : Str) = "moment") by decide +kernel, show ¬ (("tool" : Str) = "by") by decide +kernel, show ¬ (("tool" : Str) = "is_sound") by decide +kernel, show ¬ (("tool" : Str) = "one") by decide +kernel, show ¬ (("tool" : Str) = "other") by decide +kernel, show ¬ (("tool" : Str) = "later") by decide +kernel, show ¬ (("moment" : Str) = "kind") by decide +kernel, show ¬ (("moment" : Str) = "_told") by decide +kernel, show ¬ (("moment" : Str) = "tool") by decide +kernel, show ¬ (("moment" : Str) = "by") by decide +kernel, show ¬ (("moment" : Str) = "is_sound") by decide +kernel, show ¬ (("moment" : Str) = "one") by decide +kernel, show ¬ (("moment" : Str) = "other") by decide +kernel, show ¬ (("moment" : Str) = "later") by decide +kernel, show ¬ (("by" : Str) = "kind") by decide +kernel, show ¬ (("by" : Str) = "_told") by decide +kernel, show ¬ (("by" : Str) = "tool") by decide +kernel, show ¬ (("by" : Str) = "moment") by decide +kernel, show ¬ (("by" : Str) = "is_sound") by decide +kernel, show ¬ (("by" : Str) = "one") by decide +kernel, show ¬ (("by" : Str) = "other") by decide +kernel, show ¬ (("by" : Str) = "later") by decide +kernel, show ¬ (("is_sound" : Str) = "kind") by decide +kernel, show ¬ (("is_sound" : Str) = "_told") by decide +kernel, show ¬ (("is_sound" : Str) = "tool") by decide +kernel, show ¬ (("is_sound" : Str) = "moment") by decide +kernel, show ¬ (("is_sound" : Str) = "by") by decide +kernel, show ¬ (("is_sound" : Str) = "one") by decide +kernel, show ¬ (("is_sound" : Str) = "other") by decide +kernel, show ¬ (("is_sound" : Str) = "later") by decide +kernel, show ¬ (("one" : Str) = "kind") by decide +kernel, show ¬ (("one" : Str) = "_told") by decide +kernel, show ¬ (("one" : Str) = "tool") by decide +kernel, show ¬ (("one" : Str) = "moment") by decide +kernel, show ¬ (("one" : Str) = "by") by decide +kernel, show ¬ (("one" : Str) = "is_sound") by decide +kernel, show ¬ (("one" : Str) = "other") by decide +kernel, show ¬ (("one" : Str) = "later") by decide +kernel, show ¬ (("other" : Str) = "kind") by decide +kernel, show ¬ (("other" : Str) = "_told") by decide +kernel, show ¬ (("other" : Str) = "tool") by decide +kernel, show ¬ (("other" : Str) = "moment") by decide +kernel, show ¬ (("other" : Str) = "by") by decide +kernel, show ¬ (("other" : Str) = "is_sound") by decide +kernel, show ¬ (("other" : Str) = "one") by decide +kernel, show ¬ (("other" : Str) = "later") by decide +kernel, show ¬ (("later" : Str) = "kind") by decide +kernel, show ¬ (("later" : Str) = "_told") by decide +kernel, show ¬ (("later" : Str) = "tool") by decide +kernel, show ¬ (("later" : Str) = "moment") by decide +kernel, show ¬ (("later" : Str) = "by") by decide +kernel, show ¬ (("later" : Str) = "is_sound") by decide +kernel, show ¬ (("later" : Str) = "one") by decide +kernel, show ¬ (("later" : Str) = "other") by decide +kernel, if_true, if_false]), (by simp only [lookup_putF, show ¬ (("kind" : Str) = "_told") by decide +kernel, show ¬ (("kind" : Str) = "tool") by decide +kernel, show ¬ (("kind" : Str) = "moment") by decide +kernel, show ¬ (("kind" : Str) = "by") by decide +kernel, show ¬ (("kind" : Str) = "is_sound") by decide +kernel, show ¬ (("kind" : Str) = "one") by decide +kernel, show ¬ (("kind" : Str) = "other") by decide +kernel, show ¬ (("kind" : Str) = "later") by decide +kernel, show ¬ (("_told" : Str) = "kind") by decide +kernel, show ¬ (("_told" : Str) = "tool") by decide +kernel, show ¬ (("_told" : Str) = "moment") by decide +kernel, show ¬ (("_told" : Str) = "by") by decide +kernel, show ¬ (("_told" : Str) = "is_sound") by decide +kernel, show ¬ (("_told" : Str) = "one") by decide +kernel, show ¬ (("_told" : Str) = "other") by decide +kernel, show ¬ (("_told" : Str) = "later") by decide +kernel, show ¬ (("tool" : Str) = "kind") by decide +kernel, show ¬ (("tool" : Str) = "_told") by decide +kernel, show ¬ (("tool" : Str) = "moment") by decide +kernel, show ¬ (("tool" : Str) = "by") by decide +kernel, show ¬ (("tool" : Str) = "is_sound") by decide +kernel, show ¬ (("tool" : Str) = "one") by decide +kernel, show ¬ (("tool" : Str) = "other") by decide +kernel, show ¬ (("tool" : Str) = "later") by decide +kernel, show ¬ (("moment" : Str) = "kind") by decide +kernel, show ¬ (("moment" : Str) = "_told") by decide +kernel, show ¬ (("moment" : Str) = "tool") by decide +kernel, show ¬ (("moment" : Str) = "by") by decide +kernel, show ¬ (("moment" : Str) = "is_sound") by decide +kernel, show ¬ (("moment" : Str) = "one") by decide +kernel, show ¬ (("moment" : Str) = "other") by decide +kernel, show ¬ (("moment" : Str) = "later") by decide +kernel, show ¬ (("by" : Str) = "kind") by decide +kernel, show ¬ (("by" : Str) = "_told") by decide +kernel, show ¬ (("by" : Str) = "tool") by decide +kernel, show ¬ (("by" : Str) = "moment") by decide +kernel, show ¬ (("by" : Str) = "is_sound") by decide +kernel, show ¬ (("by" : Str) = "one") by decide +kernel, show ¬ (("by" : Str) = "other") by decide +kernel, show ¬ (("by" : Str) = "later") by decide +kernel, show ¬ (("is_sound" : Str) = "kind") by decide +kernel, show ¬ (("is_sound" : Str) = "_told") by decide +kernel, show ¬ (("is_sound" : Str) = "tool") by decide +kernel, show ¬ (("is_sound" : Str) = "moment") by decide +kernel, show ¬ (("is_sound" : Str) = "by") by decide +kernel, show ¬ (("is_sound" : Str) = "one") by decide +kernel, show ¬ (("is_sound" : Str) = "other") by decide +kernel, show ¬ (("is_sound" : Str) = "later") by decide +kernel, show ¬ (("one" : Str) = "kind") by decide +kernel, show ¬ (("one" : Str) = "_told") by decide +kernel, show ¬ (("one" : Str) = "tool") by decide +kernel, show ¬ (("one" : Str) = "moment") by decide +kernel, show ¬ (("one" : Str) = "by") by decide +kernel, show ¬ (("one" : Str) = "is_sound") by decide +kernel, show ¬ (("one" : Str) = "other") by decide +kernel, show ¬ (("one" : Str) = "later") by decide +kernel, show ¬ (("other" : Str) = "kind") by decide +kernel, show ¬ (("other" : Str) = "_told") by decide +kernel, show ¬ (("other" : Str) = "tool") by decide +kernel, show ¬ (("other" : Str) = "moment") by decide +kernel, show ¬ (("other" : Str) = "by") by decide +kernel, show ¬ (("other" : Str) = "is_sound") by decide +kernel, show ¬ (("other" : Str) = "one") by decide +kernel, show ¬ (("other" : Str) = "later") by decide +kernel, show ¬ (("later" : Str) = "kind") by decide +kernel, show ¬ (("later" : Str) = "_told") by decide +kernel, show ¬ (("later" : Str) = "tool") by decide +kernel, show ¬ (("later" : Str) = "moment") by decide +kernel, show ¬ (("later" : Str) = "by") by decide +kernel, show ¬ (("later" : Str) = "is_sound") by decide +kernel, show ¬ (("later" : Str) = "one") by decide +kernel, show ¬ (("later" : Str) = "other") by decide +kernel, if_true, if_false]), (by simp only [lookup_putF, show ¬ (("kind" : Str) = "_told") by decide +kernel, show ¬ (("kind" : Str) = "tool") by decide +kernel, show ¬ (("kind" : Str) = "moment") by decide +kernel, show ¬ (("kind" : Str) = "by") by decide +kernel, show ¬ (("kind" : Str) = "is_sound") by decide +kernel, show ¬ (("kind" : Str) = "one") by decide +kernel, show ¬ (("kind" : Str) = "other") by decide +kernel, show ¬ (("kind" : Str) = "later") by decide +kernel, show ¬ (("_told" : Str) = "kind") by decide +kernel, show ¬ (("_told" : Str) = "tool") by decide +kernel, show ¬ (("_told" : Str) = "moment") by decide +kernel, show ¬ (("_told" : Str) = "by") by decide +kernel, show ¬ (("_told" : Str) = "is_sound") by decide +kernel, show ¬ (("_told" : Str) = "one") by decide +kernel, show ¬ (("_told" : Str) = "other") by decide +kernel, show ¬ (("_told" : Str) = "later") by decide +kernel, show ¬ (("tool" : Str) = "kind") by decide +kernel, show ¬ (("tool" : Str) = "_told") by decide +kernel, show ¬ (("tool" : Str) = "moment") by decide +kernel, show ¬ (("tool" : Str) = "by") by decide +kernel, show ¬ (("tool" : Str) = "is_sound") by decide +kernel, show ¬ (("tool" : Str) = "one") by decide +kernel, show ¬ (("tool" : Str) = "other") by decide +kernel, show ¬ (("tool" : Str) = "later") by decide +kernel, show ¬ (("moment" : Str) = "kind") by decide +kernel, show ¬ (("moment" : Str) = "_told") by decide +kernel, show ¬ (("moment" : Str) = "tool") by decide +kernel, show ¬ (("moment" : Str) = "by") by decide +kernel, show ¬ (("moment" : Str) = "is_sound") by decide +kernel, show ¬ (("moment" : Str) = "one") by decide +kernel, show ¬ (("moment" : Str) = "other") by decide +kernel, show ¬ (("moment" : Str) = "later") by decide +kernel, show ¬ (("by" : Str) = "kind") by decide +kernel, show ¬ (("by" : Str) = "_told") by decide +kernel, show ¬ (("by" : Str) = "tool") by decide +kernel, show ¬ (("by" : Str) = "moment") by decide +kernel, show ¬ (("by" : Str) = "is_sound") by decide +kernel, show ¬ (("by" : Str) = "one") by decide +kernel, show ¬ (("by" : Str) = "other") by decide +kernel, show ¬ (("by" : Str) = "later") by decide +kernel, show ¬ (("is_sound" : Str) = "kind") by decide +kernel, show ¬ (("is_sound" : Str) = "_told") by decide +kernel, show ¬ (("is_sound" : Str) = "tool") by decide +kernel, show ¬ (("is_sound" : Str) = "moment") by decide +kernel, show ¬ (("is_sound" : Str) = "by") by decide +kernel, show ¬ (("is_sound" : Str) = "one") by decide +kernel, show ¬ (("is_sound" : Str) = "other") by decide +kernel, show ¬ (("is_sound" : Str) = "later") by decide +kernel, show ¬ (("one" : Str) = "kind") by decide +kernel, show ¬ (("one" : Str) = "_told") by decide +kernel, show ¬ (("one" : Str) = "tool") by decide +kernel, show ¬ (("one" : Str) = "moment") by decide +kernel, show ¬ (("one" : Str) = "by") by decide +kernel, show ¬ (("one" : Str) = "is_sound") by decide +kernel, show ¬ (("one" : Str) = "other") by decide +kernel, show ¬ (("one" : Str) = "later") by decide +kernel, show ¬ (("other" : Str) = "kind") by decide +kernel, show ¬ (("other" : Str) = "_told") by decide +kernel, show ¬ (("other" : Str) = "tool") by decide +kernel, show ¬ (("other" : Str) = "moment") by decide +kernel, show ¬ (("other" : Str) = "by") by decide +kernel, show ¬ (("other" : Str) = "is_sound") by decide +kernel, show ¬ (("other" : Str) = "one") by decide +kernel, show ¬ (("other" : Str) = "later") by decide +kernel, show ¬ (("later" : Str) = "kind") by decide +kernel, show ¬ (("later" : Str) = "_told") by decide +kernel, show ¬ (("later" : Str) = "tool") by decide +kernel, show ¬ (("later" : Str) = "moment") by decide +kernel, show ¬ (("later" : Str) = "by") by decide +kernel, show ¬ (("later" : Str) = "is_sound") by decide +kernel, show ¬ (("later" : Str) = "one") by decide +kernel, show ¬ (("later" : Str) = "other") by decide +kernel, if_true, if_false]), fun _ h => nomatch h⟩
abbrev sTrusted : Stmt := inClass (topS 35) 0
theorem scTrusted : FnScope ["self", "tool"] ["self", "tool"] (defScope sTrusted) := ⟨rfl, rfl, rfl, by decide +kernel, rfl, by decide +kernel, by decide +kernel⟩
theorem ok_Trusted {CN CM CS C f fK : Addr} {fd fdK : FuncData} (F : Fun K "__init__" "Trusted.__init__" sTrusted f fd) (T : RowC K C ["_told", "kind", "tool"]) (FK : Fun K "checked" "checked" sChecked fK fdK) (bK : Binds K fdK ["kind", "told"] []) (gK : mg "checked" = some (.ref fK))
    (GK : FnOk P w K mg base (L2.CX P w) 4 fK fdK ["kind", "told"] (spChecked CN CM CS)) : FnOk P w K mg base (L2.CX P w) 5 f fd ["self", "tool"] (spRow CN CM CS C "trusted") := by
  refine F.okX scTrusted (fun vs H Q E h => ?_) (fun cdv A outer s H vs Q E hr h => ?_)
  · obtain ⟨x, dx, xs, rfl, _, hl, _⟩ := h
    show xs.length + 1 = 2
    have : (formsOf "trusted").length = 1 := by decide +kernel
    omega
  · obtain ⟨x, dx, xs, rfl, hx, hl, hg, qy, qn⟩ := h
    have hkin : ("trusted" : Str) ∈ kinds := by decide +kernel
    have hl4 : (formsOf "trusted").length = 1 := by decide +kernel
    obtain ⟨v0, rfl⟩ : ∃ v0, xs = [v0] := by
      rw [hl4] at hl
      match xs, hl with
      | [v0], _ => exact ⟨_, rfl⟩
    have no := T.no
    simp only [List.forall_mem_cons] at no
    obtain ⟨n0, n1, n2, _⟩ := no
    refine ⟨_, pss_cons (ps_fld (pv 0) (pe_call GK hr (by rfl) gK FK.kp bK .nil (passes_call (takes_of rfl rfl rfl rfl) (fun _ _ _ _ h => h)) (pa_cons pe_str (pa_cons (pe_tup (pa_cons (pv 1) pa_nil)) pa_nil))) rfl)
      (pss_cons (ps_fld (pv 0) pe_str rfl)
      (pss_one (ps_fld (pv 0) (pv 1) rfl))), ?_⟩
    refine ⟨_, rfl, by show 1 ≤ sizeLine; decide, fun tp htp => ?_⟩
    have s1 := same_upd0 (o := .tup [v0]) htp
    refine ⟨"trusted", tp, [v0], rfl, hkin, upd_same, hl, (fun y hy => (hg y hy).elim fun T h => ⟨T, h.same s1⟩), fun gd H2 s2 => ?_, fun C' fl v g d H' s e => qn C' fl v g d H' (s1.trans s) e⟩
    have hx2 := s2 _ _ (s1 _ _ hx)
    have s12 := s1.trans s2
    refine ⟨_, rfl, x, C, dx, [], rfl, hx2, T.cl, n0, by show 0 < 1000; decide, ?_⟩
    refine ⟨_, rfl, x, C, dx, _, rfl, upd_same, T.cl, n1, Nat.lt_of_le_of_lt (lenC (Nat.le_refl 0)) (by decide), ?_⟩
    refine ⟨_, rfl, _, rfl, x, C, dx, _, rfl, upd_same, T.cl, n2, Nat.lt_of_le_of_lt (lenC (lenC (Nat.le_refl 0))) (by decide), ?_⟩
    refine qy gd _ _ (fun c o nc e => ?_) upd_same ?_
    · rw [upd_ne nc, upd_ne nc, upd_ne nc]
      exact s12 c o e
    · have ntp : tp ≠ x := fun z => by rw [z, hx] at htp; cases htp
      have etp := s2 _ _ (show (upd H tp (.tup _)) tp = _ from upd_same)
      refine ⟨?_, ⟨tp, ?_, ?_⟩, ?_, (by repeat (first | exact NoM.nil | refine NoM.put ?_ (by decide +kernel)))⟩
      · simp only [lookup_putF, show ¬ (("kind" : Str) = "_told") by decide +kernel, show ¬ (("kind" : Str) = "tool") by decide +kernel, show ¬ (("kind" : Str) = "moment") by decide +kernel, show ¬ (("kind" : Str) = "by") by decide +kernel, show ¬ (("kind" : Str) = "is_sound") by decide +kernel, show ¬ (("kind" : Str) = "one") by decide +kernel, show ¬ (("kind" : Str) = "other") by decide +kernel, show ¬ (("kind" : Str) = "later") by decide +kernel, show ¬ (("_told" : Str) = "kind") by decide +kernel, show ¬ (("_told" : Str) = "tool") by decide +kernel, show ¬ (("_told" : Str) = "moment") by decide +kernel, show ¬ (("_told" : Str) = "by") by decide +kernel, show ¬ (("_told" : Str) = "is_sound") by decide +kernel, show ¬ (("_told" : Str) = "one") by decide +kernel, show ¬ (("_told" : Str) = "other") by decide +kernel, show ¬ (("_told" : Str) = "later") by decide +kernel, show ¬ (("tool" : Str) = "kind") by decide +kernel, show ¬ (("tool" : Str) = "_told") by decide +kernel, show ¬ (("tool" : Str) = "moment") by decide +kernel, show ¬ (("tool" : Str) = "by") by decide +kernel, show ¬ (("tool" : Str) = "is_sound") by decide +kernel, show ¬ (("tool" : Str) = "one") by decide +kernel, show ¬ (("tool" : Str) = "other") by decide +kernel, show ¬ (("tool" : Str) = "later") by decide +kernel, show ¬ (("moment" : Str) = "kind") by decide +kernel, show ¬ (("moment" : Str) = "_told") by decide +kernel, show ¬ (("moment" : Str) = "tool") by decide +kernel, show ¬ (("moment" : Str) = "by") by decide +kernel, show ¬ (("moment" : Str) = "is_sound") by decide +kernel, show ¬ (("moment" : Str) = "one") by decide +kernel, show ¬ (("moment" : Str) = "other") by decide +kernel, show ¬ (("moment" : Str) = "later") by decide +kernel, show ¬ (("by" : Str) = "kind") by decide +kernel, show ¬ (("by" : Str) = "_told") by decide +kernel, show ¬ (("by" : Str) = "tool") by decide +kernel, show ¬ (("by" : Str) = "moment") by decide +kernel, show ¬ (("by" : Str) = "is_sound") by decide +kernel, show ¬ (("by" : Str) = "one") by decide +kernel, show ¬ (("by" : Str) = "other") by decide +kernel, show ¬ (("by" : Str) = "later") by decide +kernel, show ¬ (("is_sound" : Str) = "kind") by decide +kernel, show ¬ (("is_sound" : Str) = "_told") by decide +kernel, show ¬ (("is_sound" : Str) = "tool") by decide +kernel, show ¬ (("is_sound" : Str) = "moment") by decide +kernel, show ¬ (("is_sound" : Str) = "by") by decide +kernel, show ¬ (("is_sound" : Str) = "one") by decide +kernel, show ¬ (("is_sound" : Str) = "other") by decide +kernel, show ¬ (("is_sound" : Str) = "later") by decide +kernel, show ¬ (("one" : Str) = "kind") by decide +kernel, show ¬ (("one" : Str) = "_told") by decide +kernel, show ¬ (("one" : Str) = "tool") by decide +kernel, show ¬ (("one" : Str) = "moment") by decide +kernel, show ¬ (("one" : Str) = "by") by decide +kernel, show ¬ (("one" : Str) = "is_sound") by decide +kernel, show ¬ (("one" : Str) = "other") by decide +kernel, show ¬ (("one" : Str) = "later") by decide +kernel, show ¬ (("other" : Str) = "kind") by decide +kernel, show ¬ (("other" : Str) = "_told") by decide +kernel, show ¬ (("other" : Str) = "tool") by decide +kernel, show ¬ (("other" : Str) = "moment") by decide +kernel, show ¬ (("other" : Str) = "by") by decide +kernel, show ¬ (("other" : Str) = "is_sound") by decide +kernel, show ¬ (("other" : Str) = "one") by decide +kernel, show ¬ (("other" : Str) = "later") by decide +kernel, show ¬ (("later" : Str) = "kind") by decide +kernel, show ¬ (("later" : Str) = "_told") by decide +kernel, show ¬ (("later" : Str) = "tool") by decide +kernel, show ¬ (("later" : Str) = "moment") by decide +kernel, show ¬ (("later" : Str) = "by") by decide +kernel, show ¬ (("later" : Str) = "is_sound") by decide +kernel, show ¬ (("later" : Str) = "one") by decide +kernel, show ¬ (("later" : Str) = "other") by decide +kernel, if_true, if_false]
      · simp only [lookup_putF, show ¬ (("kind" : Str) = "_told") by decide +kernel, show ¬ (("kind" : Str) = "tool") by decide +kernel, show ¬ (("kind" : Str) = "moment") by decide +kernel, show ¬ (("kind" : Str) = "by") by decide +kernel, show ¬ (("kind" : Str) = "is_sound") by decide +kernel, show ¬ (("kind" : Str) = "one") by decide +kernel, show ¬ (("kind" : Str) = "other") by decide +kernel, show ¬ (("kind" : Str) = "later") by decide +kernel, show ¬ (("_told" : Str) = "kind") by decide +kernel, show ¬ (("_told" : Str) = "tool") by decide +kernel, show ¬ (("_told" : Str) = "moment") by decide +kernel, show ¬ (("_told" : Str) = "by") by decide +kernel, show ¬ (("_told" : Str) = "is_sound") by decide +kernel, show ¬ (("_told" : Str) = "one") by decide +kernel, show ¬ (("_told" : Str) = "other") by decide +kernel, show ¬ (("_told" : Str) = "later") by decide +kernel, show ¬ (("tool" : Str) = "kind") by decide +kernel, show ¬ (("tool" : Str) = "_told") by decide +kernel, show ¬ (("tool" : Str) = "moment") by decide +kernel, show ¬ (("tool" : Str) = "by") by decide +kernel, show ¬ (("tool" : Str) = "is_sound") by decide +kernel, show ¬ (("tool" : Str) = "one") by decide +kernel, show ¬ (("tool" : Str) = "other") by decide +kernel, show ¬ (("tool" : Str) = "later") by decide +kernel, show ¬ (("moment" : Str) = "kind") by decide +kernel, show ¬ (("moment" : Str) = "_told") by decide +kernel, show ¬ (("moment" : Str) = "tool") by decide +kernel, show ¬ (("moment" : Str) = "by") by decide +kernel, show ¬ (("moment" : Str) = "is_sound") by decide +kernel, show ¬ (("moment" : Str) = "one") by decide +kernel, show ¬ (("moment" : Str) = "other") by decide +kernel, show ¬ (("moment" : Str) = "later") by decide +kernel, show ¬ (("by" : Str) = "kind") by decide +kernel, show ¬ (("by" : Str) = "_told") by decide +kernel, show ¬ (("by" : Str) = "tool") by decide +kernel, show ¬ (("by" : Str) = "moment") by decide +kernel, show ¬ (("by" : Str) = "is_sound") by decide +kernel, show ¬ (("by" : Str) = "one") by decide +kernel, show ¬ (("by" : Str) = "other") by decide +kernel, show ¬ (("by" : Str) = "later") by decide +kernel, show ¬ (("is_sound" : Str) = "kind") by decide +kernel, show ¬ (("is_sound" : Str) = "_told") by decide +kernel, show ¬ (("is_sound" : Str) = "tool") by decide +kernel, show ¬ (("is_sound" : Str) = "moment") by decide +kernel, show ¬ (("is_sound" : Str) = "by") by decide +kernel, show ¬ (("is_sound" : Str) = "one") by decide +kernel, show ¬ (("is_sound" : Str) = "other") by decide +kernel, show ¬ (("is_sound" : Str) = "later") by decide +kernel, show ¬ (("one" : Str) = "kind") by decide +kernel, show ¬ (("one" : Str) = "_told") by decide +kernel, show ¬ (("one" : Str) = "tool") by decide +kernel, show ¬ (("one" : Str) = "moment") by decide +kernel, show ¬ (("one" : Str) = "by") by decide +kernel, show ¬ (("one" : Str) = "is_sound") by decide +kernel, show ¬ (("one" : Str) = "other") by decide +kernel, show ¬ (("one" : Str) = "later") by decide +kernel, show ¬ (("other" : Str) = "kind") by decide +kernel, show ¬ (("other" : Str) = "_told") by decide +kernel, show ¬ (("other" : Str) = "tool") by decide +kernel, show ¬ (("other" : Str) = "moment") by decide +kernel, show ¬ (("other" : Str) = "by") by decide +kernel, show ¬ (("other" : Str) = "is_sound") by decide +kernel, show ¬ (("other" : Str) = "one") by decide +kernel, show ¬ (("other" : Str) = "later") by decide +kernel, show ¬ (("later" : Str) = "kind") by decide +kernel, show ¬ (("later" : Str) = "_told") by decide +kernel, show ¬ (("later" : Str) = "tool") by decide +kernel, show ¬ (("later" : Str) = "moment") by decide +kernel, show ¬ (("later" : Str) = "by") by decide +kernel, show ¬ (("later" : Str) = "is_sound") by decide +kernel, show ¬ (("later" : Str) = "one") by decide +kernel, show ¬ (("later" : Str) = "other") by decide +kernel, if_true, if_false]
      · repeat rw [upd_ne ntp]
        exact etp
      · rw [attrs_trusted]
        simp only [List.zip_cons_cons, List.zip_nil_right, List.forall_mem_cons]
        refine ⟨(by simp only [lookup_putF, show ¬ (("kind" : Str) = "_told") by decide +kernel, show ¬ (("kind" : Str) = "tool") by decide +kernel, show ¬ (("kind" : Str) = "moment") by decide +kernel, show ¬ (("kind" : Str) = "by") by decide +kernel, show ¬ (("kind" : Str) = "is_sound") by decide +kernel, show ¬ (("kind" : Str) = "one") by decide +kernel, show ¬ (("kind" : Str) = "other") by decide +kernel, show ¬ (("kind" : Str) = "later") by decide +kernel, show ¬ (("_told" : Str) = "kind") by decide +kernel, show ¬ (("_told" : Str) = "tool") by decide +kernel, show ¬ (("_told" : Str) = "moment") by decide +kernel, show ¬ (("_told" : Str) = "by") by decide +kernel, show ¬ (("_told" : Str) = "is_sound") by decide +kernel, show ¬ (("_told" : Str) = "one") by decide +kernel, show ¬ (("_told" : Str) = "other") by decide +kernel, show ¬ (("_told" : Str) = "later") by decide +kernel, show ¬ (("tool" : Str) = "kind") by decide +kernel, show ¬ (("tool" : Str) = "_told") by decide +kernel, show ¬ (("tool" : Str) = "moment") by decide +kernel, show ¬ (("tool" : Str) = "by") by decide +kernel, show ¬ (("tool" : Str) = "is_sound") by decide +kernel, show ¬ (("tool" : Str) = "one") by decide +kernel, show ¬ (("tool" : Str) = "other") by decide +kernel, show ¬ (("tool" : Str) = "later") by decide +kernel, show ¬ (("moment" : Str) = "kind") by decide +kernel, show ¬ (("moment" : Str) = "_told") by decide +kernel, show ¬ (("moment" : Str) = "tool") by decide +kernel, show ¬ (("moment" : Str) = "by") by decide +kernel, show ¬ (("moment" : Str) = "is_sound") by decide +kernel, show ¬ (("moment" : Str) = "one") by decide +kernel, show ¬ (("moment" : Str) = "other") by decide +kernel, show ¬ (("moment" : Str) = "later") by decide +kernel, show ¬ (("by" : Str) = "kind") by decide +kernel, show ¬ (("by" : Str) = "_told") by decide +kernel, show ¬ (("by" : Str) = "tool") by decide +kernel, show ¬ (("by" : Str) = "moment") by decide +kernel, show ¬ (("by" : Str) = "is_sound") by decide +kernel, show ¬ (("by" : Str) = "one") by decide +kernel, show ¬ (("by" : Str) = "other") by decide +kernel, show ¬ (("by" : Str) = "later") by decide +kernel, show ¬ (("is_sound" : Str) = "kind") by decide +kernel, show ¬ (("is_sound" : Str) = "_told") by decide +kernel, show ¬ (("is_sound" : Str) = "tool") by decide +kernel, show ¬ (("is_sound" : Str) = "moment") by decide +kernel, show ¬ (("is_sound" : Str) = "by") by decide +kernel, show ¬ (("is_sound" : Str) = "one") by decide +kernel, show ¬ (("is_sound" : Str) = "other") by decide +kernel, show ¬ (("is_sound" : Str) = "later") by decide +kernel, show ¬ (("one" : Str) = "kind") by decide +kernel, show ¬ (("one" : Str) = "_told") by decide +kernel, show ¬ (("one" : Str) = "tool") by decide +kernel, show ¬ (("one" : Str) = "moment") by decide +kernel, show ¬ (("one" : Str) = "by") by decide +kernel, show ¬ (("one" : Str) = "is_sound") by decide +kernel, show ¬ (("one" : Str) = "other") by decide +kernel, show ¬ (("one" : Str) = "later") by decide +kernel, show ¬ (("other" : Str) = "kind") by decide +kernel, show ¬ (("other" : Str) = "_told") by decide +kernel, show ¬ (("other" : Str) = "tool") by decide +kernel, show ¬ (("other" : Str) = "moment") by decide +kernel, show ¬ (("other" : Str) = "by") by decide +kernel, show ¬ (("other" : Str) = "is_sound") by decide +kernel, show ¬ (("other" : Str) = "one") by decide +kernel, show ¬ (("other" : Str) = "later") by decide +kernel, show ¬ (("later" : Str) = "kind") by decide +kernel, show ¬ (("later" : Str) = "_told") by decide +kernel, show ¬ (("later" : Str) = "tool") by decide +kernel, show ¬ (("later" : Str) = "moment") by decide +kernel, show ¬ (("later" : Str) = "by") by decide +kernel, show ¬ (("later" : Str) = "is_sound") by decide +kernel, show ¬ (("later" : Str) = "one") by decide +kernel, show ¬ (("later" : Str) = "other") by decide +kernel, if_true, if_false]), fun _ h => nomatch h⟩
abbrev sPassed : Stmt := inClass (topS 36) 0
theorem scPassed : FnScope ["self", "tool", "moment", "by"] ["self", "tool", "moment", "by"] (defScope sPassed) := ⟨rfl, rfl, rfl, by decide +kernel, rfl, by decide +kernel, by decide +kernel⟩
theorem ok_Passed {CN CM CS C f fK : Addr} {fd fdK : FuncData} (F : Fun K "__init__" "Passed.__init__" sPassed f fd) (T : RowC K C ["_told", "kind", "tool", "moment", "by"]) (FK : Fun K "checked" "checked" sChecked fK fdK) (bK : Binds K fdK ["kind", "told"] []) (gK : mg "checked" = some (.ref fK))
    (GK : FnOk P w K mg base (L2.CX P w) 4 fK fdK ["kind", "told"] (spChecked CN CM CS)) : FnOk P w K mg base (L2.CX P w) 5 f fd ["self", "tool", "moment", "by"] (spRow CN CM CS C "passed") := by
  refine F.okX scPassed (fun vs H Q E h => ?_) (fun cdv A outer s H vs Q E hr h => ?_)
  · obtain ⟨x, dx, xs, rfl, _, hl, _⟩ := h
    show xs.length + 1 = 4
    have : (formsOf "passed").length = 3 := by decide +kernel
    omega
  · obtain ⟨x, dx, xs, rfl, hx, hl, hg, qy, qn⟩ := h
    have hkin : ("passed" : Str) ∈ kinds := by decide +kernel
    have hl4 : (formsOf "passed").length = 3 := by decide +kernel
    obtain ⟨v0, v1, v2, rfl⟩ : ∃ v0 v1 v2, xs = [v0, v1, v2] := by
      rw [hl4] at hl
      match xs, hl with
      | [v0, v1, v2], _ => exact ⟨_, _, _, rfl⟩
    have no := T.no
    simp only [List.forall_mem_cons] at no
    obtain ⟨n0, n1, n2, n3, n4, _⟩ := no
    refine ⟨_, pss_cons (ps_fld (pv 0) (pe_call GK hr (by rfl) gK FK.kp bK .nil (passes_call (takes_of rfl rfl rfl rfl) (fun _ _ _ _ h => h)) (pa_cons pe_str (pa_cons (pe_tup (pa_cons (pv 1) (pa_cons (pv 2) (pa_cons (pv 3) pa_nil)))) pa_nil))) rfl)
      (pss_cons (ps_fld (pv 0) pe_str rfl)
      (pss_cons (ps_fld (pv 0) (pv 1) rfl) (pss_cons (ps_fld (pv 0) (pv 2) rfl) (pss_one (ps_fld (pv 0) (pv 3) rfl))))), ?_⟩
    refine ⟨_, rfl, _, rfl, _, rfl, by show 3 ≤ sizeLine; decide, fun tp htp => ?_⟩
    have s1 := same_upd0 (o := .tup [v0, v1, v2]) htp
    refine ⟨"passed", tp, [v0, v1, v2], rfl, hkin, upd_same, hl, (fun y hy => (hg y hy).elim fun T h => ⟨T, h.same s1⟩), fun gd H2 s2 => ?_, fun C' fl v g d H' s e => qn C' fl v g d H' (s1.trans s) e⟩
    have hx2 := s2 _ _ (s1 _ _ hx)
    have s12 := s1.trans s2
    refine ⟨_, rfl, x, C, dx, [], rfl, hx2, T.cl, n0, by show 0 < 1000; decide, ?_⟩
    refine ⟨_, rfl, x, C, dx, _, rfl, upd_same, T.cl, n1, Nat.lt_of_le_of_lt (lenC (Nat.le_refl 0)) (by decide), ?_⟩
    refine ⟨_, rfl, _, rfl, x, C, dx, _, rfl, upd_same, T.cl, n2, Nat.lt_of_le_of_lt (lenC (lenC (Nat.le_refl 0))) (by decide), ?_⟩
    refine ⟨_, rfl, _, rfl, x, C, dx, _, rfl, upd_same, T.cl, n3, Nat.lt_of_le_of_lt (lenC (lenC (lenC (Nat.le_refl 0)))) (by decide), ?_⟩
    refine ⟨_, rfl, _, rfl, x, C, dx, _, rfl, upd_same, T.cl, n4, Nat.lt_of_le_of_lt (lenC (lenC (lenC (lenC (Nat.le_refl 0))))) (by decide), ?_⟩
    refine qy gd _ _ (fun c o nc e => ?_) upd_same ?_
    · rw [upd_ne nc, upd_ne nc, upd_ne nc, upd_ne nc, upd_ne nc]
      exact s12 c o e
    · have ntp : tp ≠ x := fun z => by rw [z, hx] at htp; cases htp
      have etp := s2 _ _ (show (upd H tp (.tup _)) tp = _ from upd_same)
      refine ⟨?_, ⟨tp, ?_, ?_⟩, ?_, (by repeat (first | exact NoM.nil | refine NoM.put ?_ (by decide +kernel)))⟩
      · simp only [lookup_putF, show ¬ (("kind" : Str) = "_told") by decide +kernel, show ¬ (("kind" : Str) = "tool") by decide +kernel, show ¬ (("kind" : Str) = "moment") by decide +kernel, show ¬ (("kind" : Str) = "by") by decide +kernel, show ¬ (("kind" : Str) = "is_sound") by decide +kernel, show ¬ (("kind" : Str) = "one") by decide +kernel, show ¬ (("kind" : Str) = "other") by decide +kernel, show ¬ (("kind" : Str) = "later") by decide +kernel, show ¬ (("_told" : Str) = "kind") by decide +kernel, show ¬ (("_told" : Str) = "tool") by decide +kernel, show ¬ (("_told" : Str) = "moment") by decide +kernel, show ¬ (("_told" : Str) = "by") by decide +kernel, show ¬ (("_told" : Str) = "is_sound") by decide +kernel, show ¬ (("_told" : Str) = "one") by decide +kernel, show ¬ (("_told" : Str) = "other") by decide +kernel, show ¬ (("_told" : Str) = "later") by decide +kernel, show ¬ (("tool" : Str) = "kind") by decide +kernel, show ¬ (("tool" : Str) = "_told") by decide +kernel, show ¬ (("tool" : Str) = "moment") by decide +kernel, show ¬ (("tool" : Str) = "by") by decide +kernel, show ¬ (("tool" : Str) = "is_sound") by decide +kernel, show ¬ (("tool" : Str) = "one") by decide +kernel, show ¬ (("tool" : Str) = "other") by decide +kernel, show ¬ (("tool" : Str) = "later") by decide +kernel, show ¬ (("moment" : Str) = "kind") by decide +kernel, show ¬ (("moment" : Str) = "_told") by decide +kernel, show ¬ (("moment" : Str) = "tool") by decide +kernel, show ¬ (("moment" : Str) = "by") by decide +kernel, show ¬ (("moment" : Str) = "is_sound") by decide +kernel, show ¬ (("moment" : Str) = "one") by decide +kernel, show ¬ (("moment" : Str) = "other") by decide +kernel, show ¬ (("moment" : Str) = "later") by decide +kernel, show ¬ (("by" : Str) = "kind") by decide +kernel, show ¬ (("by" : Str) = "_told") by decide +kernel, show ¬ (("by" : Str) = "tool") by decide +kernel, show ¬ (("by" : Str) = "moment") by decide +kernel, show ¬ (("by" : Str) = "is_sound") by decide +kernel, show ¬ (("by" : Str) = "one") by decide +kernel, show ¬ (("by" : Str) = "other") by decide +kernel, show ¬ (("by" : Str) = "later") by decide +kernel, show ¬ (("is_sound" : Str) = "kind") by decide +kernel, show ¬ (("is_sound" : Str) = "_told") by decide +kernel, show ¬ (("is_sound" : Str) = "tool") by decide +kernel, show ¬ (("is_sound" : Str) = "moment") by decide +kernel, show ¬ (("is_sound" : Str) = "by") by decide +kernel, show ¬ (("is_sound" : Str) = "one") by decide +kernel, show ¬ (("is_sound" : Str) = "other") by decide +kernel, show ¬ (("is_sound" : Str) = "later") by decide +kernel, show ¬ (("one" : Str) = "kind") by decide +kernel, show ¬ (("one" : Str) = "_told") by decide +kernel, show ¬ (("one" : Str) = "tool") by decide +kernel, show ¬ (("one" : Str) = "moment") by decide +kernel, show ¬ (("one" : Str) = "by") by decide +kernel, show ¬ (("one" : Str) = "is_sound") by decide +kernel, show ¬ (("one" : Str) = "other") by decide +kernel, show ¬ (("one" : Str) = "later") by decide +kernel, show ¬ (("other" : Str) = "kind") by decide +kernel, show ¬ (("other" : Str) = "_told") by decide +kernel, show ¬ (("other" : Str) = "tool") by decide +kernel, show ¬ (("other" : Str) = "moment") by decide +kernel, show ¬ (("other" : Str) = "by") by decide +kernel, show ¬ (("other" : Str) = "is_sound") by decide +kernel, show ¬ (("other" : Str) = "one") by decide +kernel, show ¬ (("other" : Str) = "later") by decide +kernel, show ¬ (("later" : Str) = "kind") by decide +kernel, show ¬ (("later" : Str) = "_told") by decide +kernel, show ¬ (("later" : Str) = "tool") by decide +kernel, show ¬ (("later" : Str) = "moment") by decide +kernel, show ¬ (("later" : Str) = "by") by decide +kernel, show ¬ (("later" : Str) = "is_sound") by decide +kernel, show ¬ (("later" : Str) = "one") by decide +kernel, show ¬ (("later" : Str) = "other") by decide +kernel, if_true, if_false]
      · simp only [lookup_putF, show ¬ (("kind" : Str) = "_told") by decide +kernel, show ¬ (("kind" : Str) = "tool") by decide +kernel, show ¬ (("kind" : Str) = "moment") by decide +kernel, show ¬ (("kind" : Str) = "by") by decide +kernel, show ¬ (("kind" : Str) = "is_sound") by decide +kernel, show ¬ (("kind" : Str) = "one") by decide +kernel, show ¬ (("kind" : Str) = "other") by decide +kernel, show ¬ (("kind" : Str) = "later") by decide +kernel, show ¬ (("_told" : Str) = "kind") by decide +kernel, show ¬ (("_told" : Str) = "tool") by decide +kernel, show ¬ (("_told" : Str) = "moment") by decide +kernel, show ¬ (("_told" : Str) = "by") by decide +kernel, show ¬ (("_told" : Str) = "is_sound") by decide +kernel, show ¬ (("_told" : Str) = "one") by decide +kernel, show ¬ (("_told" : Str) = "other") by decide +kernel, show ¬ (("_told" : Str) = "later") by decide +kernel, show ¬ (("tool" : Str) = "kind") by decide +kernel, show ¬ (("tool" : Str) = "_told") by decide +kernel, show ¬ (("tool" : Str) = "moment") by decide +kernel, show ¬ (("tool" : Str) = "by") by decide +kernel, show ¬ (("tool" : Str) = "is_sound") by decide +kernel, show ¬ (("tool" : Str) = "one") by decide +kernel, show ¬ (("tool" : Str) = "other") by decide +kernel, show ¬ (("tool" : Str) = "later") by decide +kernel, show ¬ (("moment" : Str) = "kind") by decide +kernel, show ¬ (("moment" : Str) = "_told") by decide +kernel, show ¬ (("moment" : Str) = "tool") by decide +kernel, show ¬ (("moment" : Str) = "by") by decide +kernel, show ¬ (("moment" : Str) = "is_sound") by decide +kernel, show ¬ (("moment" : Str) = "one") by decide +kernel, show ¬ (("moment" : Str) = "other") by decide +kernel, show ¬ (("moment" : Str) = "later") by decide +kernel, show ¬ (("by" : Str) = "kind") by decide +kernel, show ¬ (("by" : Str) = "_told") by decide +kernel, show ¬ (("by" : Str) = "tool") by decide +kernel, show ¬ (("by" : Str) = "moment") by decide +kernel, show ¬ (("by" : Str) = "is_sound") by decide +kernel, show ¬ (("by" : Str) = "one") by decide +kernel, show ¬ (("by" : Str) = "other") by decide +kernel, show ¬ (("by" : Str) = "later") by decide +kernel, show ¬ (("is_sound" : Str) = "kind") by decide +kernel, show ¬ (("is_sound" : Str) = "_told") by decide +kernel, show ¬ (("is_sound" : Str) = "tool") by decide +kernel, show ¬ (("is_sound" : Str) = "moment") by decide +kernel, show ¬ (("is_sound" : Str) = "by") by decide +kernel, show ¬ (("is_sound" : Str) = "one") by decide +kernel, show ¬ (("is_sound" : Str) = "other") by decide +kernel, show ¬ (("is_sound" : Str) = "later") by decide +kernel, show ¬ (("one" : Str) = "kind") by decide +kernel, show ¬ (("one" : Str) = "_told") by decide +kernel, show ¬ (("one" : Str) = "tool") by decide +kernel, show ¬ (("one" : Str) = "moment") by decide +kernel, show ¬ (("one" : Str) = "by") by decide +kernel, show ¬ (("one" : Str) = "is_sound") by decide +kernel, show ¬ (("one" : Str) = "other") by decide +kernel, show ¬ (("one" : Str) = "later") by decide +kernel, show ¬ (("other" : Str) = "kind") by decide +kernel, show ¬ (("other" : Str) = "_told") by decide +kernel, show ¬ (("other" : Str) = "tool") by decide +kernel, show ¬ (("other" : Str) = "moment") by decide +kernel, show ¬ (("other" : Str) = "by") by decide +kernel, show ¬ (("other" : Str) = "is_sound") by decide +kernel, show ¬ (("other" : Str) = "one") by decide +kernel, show ¬ (("other" : Str) = "later") by decide +kernel, show ¬ (("later" : Str) = "kind") by decide +kernel, show ¬ (("later" : Str) = "_told") by decide +kernel, show ¬ (("later" : Str) = "tool") by decide +kernel, show ¬ (("later" : Str) = "moment") by decide +kernel, show ¬ (("later" : Str) = "by") by decide +kernel, show ¬ (("later" : Str) = "is_sound") by decide +kernel, show ¬ (("later" : Str) = "one") by decide +kernel, show ¬ (("later" : Str) = "other") by decide +kernel, if_true, if_false]
      · repeat rw [upd_ne ntp]
        exact etp
      · rw [attrs_passed]
        simp only [List.zip_cons_cons, List.zip_nil_right, List.forall_mem_cons]
        refine ⟨(by simp only [lookup_putF, show ¬ (("kind" : Str) = "_told") by decide +kernel, show ¬ (("kind" : Str) = "tool") by decide +kernel, show ¬ (("kind" : Str) = "moment") by decide +kernel, show ¬ (("kind" : Str) = "by") by decide +kernel, show ¬ (("kind" : Str) = "is_sound") by decide +kernel, show ¬ (("kind" : Str) = "one") by decide +kernel, show ¬ (("kind" : Str) = "other") by decide +kernel, show ¬ (("kind" : Str) = "later") by decide +kernel, show ¬ (("_told" : Str) = "kind") by decide +kernel, show ¬ (("_told" : Str) = "tool") by decide +kernel, show ¬ (("_told" : Str) = "moment") by decide +kernel, show ¬ (("_told" : Str) = "by") by decide +kernel, show ¬ (("_told" : Str) = "is_sound") by decide +kernel, show ¬ (("_told" : Str) = "one") by decide +kernel, show ¬ (("_told" : Str) = "other") by decide +kernel, show ¬ (("_told" : Str) = "later") by decide +kernel, show ¬ (("tool" : Str) = "kind") by decide +kernel, show ¬ (("tool" : Str) = "_told") by decide +kernel, show ¬ (("tool" : Str) = "moment") by decide +kernel, show ¬ (("tool" : Str) = "by") by decide +kernel, show ¬ (("tool" : Str) = "is_sound") by decide +kernel, show ¬ (("tool" : Str) = "one") by decide +kernel, show ¬ (("tool" : Str) = "other") by decide +kernel, show ¬ (("tool" : Str) = "later") by decide +kernel, show ¬ (("moment" : Str) = "kind") by decide +kernel, show ¬ (("moment" : Str) = "_told") by decide +kernel, show ¬ (("moment" : Str) = "tool") by decide +kernel, show ¬ (("moment" : Str) = "by") by decide +kernel, show ¬ (("moment" : Str) = "is_sound") by decide +kernel, show ¬ (("moment" : Str) = "one") by decide +kernel, show ¬ (("moment" : Str) = "other") by decide +kernel, show ¬ (("moment" : Str) = "later") by decide +kernel, show ¬ (("by" : Str) = "kind") by decide +kernel, show ¬ (("by" : Str) = "_told") by decide +kernel, show ¬ (("by" : Str) = "tool") by decide +kernel, show ¬ (("by" : Str) = "moment") by decide +kernel, show ¬ (("by" : Str) = "is_sound") by decide +kernel, show ¬ (("by" : Str) = "one") by decide +kernel, show ¬ (("by" : Str) = "other") by decide +kernel, show ¬ (("by" : Str) = "later") by decide +kernel, show ¬ (("is_sound" : Str) = "kind") by decide +kernel, show ¬ (("is_sound" : Str) = "_told") by decide +kernel, show ¬ (("is_sound" : Str) = "tool") by decide +kernel, show ¬ (("is_sound" : Str) = "moment") by decide +kernel, show ¬ (("is_sound" : Str) = "by") by decide +kernel, show ¬ (("is_sound" : Str) = "one") by decide +kernel, show ¬ (("is_sound" : Str) = "other") by decide +kernel, show ¬ (("is_sound" : Str) = "later") by decide +kernel, show ¬ (("one" : Str) = "kind") by decide +kernel, show ¬ (("one" : Str) = "_told") by decide +kernel, show ¬ (("one" : Str) = "tool") by decide +kernel, show ¬ (("one" : Str) = "moment") by decide +kernel, show ¬ (("one" : Str) = "by") by decide +kernel, show ¬ (("one" : Str) = "is_sound") by decide +kernel, show ¬ (("one" : Str) = "other") by decide +kernel, show ¬ (("one" : Str) = "later") by decide +kernel, show ¬ (("other" : Str) = "kind") by decide +kernel, show ¬ (("other" : Str) = "_told") by decide +kernel, show ¬ (("other" : Str) = "tool") by decide +kernel, show ¬ (("other" : Str) = "moment") by decide +kernel, show ¬ (("other" : Str) = "by") by decide +kernel, show ¬ (("other" : Str) = "is_sound") by decide +kernel, show ¬ (("other" : Str) = "one") by decide +kernel, show ¬ (("other" : Str) = "later") by decide +kernel, show ¬ (("later" : Str) = "kind") by decide +kernel, show ¬ (("later" : Str) = "_told") by decide +kernel, show ¬ (("later" : Str) = "tool") by decide +kernel, show ¬ (("later" : Str) = "moment") by decide +kernel, show ¬ (("later" : Str) = "by") by decide +kernel, show ¬ (("later" : Str) = "is_sound") by decide +kernel, show ¬ (("later" : Str) = "one") by decide +kernel, show ¬ (("later" : Str) = "other") by decide +kernel, if_true, if_false]), (by simp only [lookup_putF, show ¬ (("kind" : Str) = "_told") by decide +kernel, show ¬ (("kind" : Str) = "tool") by decide +kernel, show ¬ (("kind" : Str) = "moment") by decide +kernel, show ¬ (("kind" : Str) = "by") by decide +kernel, show ¬ (("kind" : Str) = "is_sound") by decide +kernel, show ¬ (("kind" : Str) = "one") by decide +kernel, show ¬ (("kind" : Str) = "other") by decide +kernel, show ¬ (("kind" : Str) = "later") by decide +kernel, show ¬ (("_told" : Str) = "kind") by decide +kernel, show ¬ (("_told" : Str) = "tool") by decide +kernel, show ¬ (("_told" : Str) = "moment") by decide +kernel, show ¬ (("_told" : Str) = "by") by decide +kernel, show ¬ (("_told" : Str) = "is_sound") by decide +kernel, show ¬ (("_told" : Str) = "one") by decide +kernel, show ¬ (("_told" : Str) = "other") by decide +kernel, show ¬ (("_told" : Str) = "later") by decide +kernel, show ¬ (("tool" : Str) = "kind") by decide +kernel, show ¬ (("tool" : Str) = "_told") by decide +kernel, show ¬ (("tool" : Str) = "moment") by decide +kernel, show ¬ (("tool" : Str) = "by") by decide +kernel, show ¬ (("tool" : Str) = "is_sound") by decide +kernel, show ¬ (("tool" : Str) = "one") by decide +kernel, show ¬ (("tool" : Str) = "other") by decide +kernel, show ¬ (("tool" : Str) = "later") by decide +kernel, show ¬ (("moment" : Str) = "kind") by decide +kernel, show ¬ (("moment" : Str) = "_told") by decide +kernel, show ¬ (("moment" : Str) = "tool") by decide +kernel, show ¬ (("moment" : Str) = "by") by decide +kernel, show ¬ (("moment" : Str) = "is_sound") by decide +kernel, show ¬ (("moment" : Str) = "one") by decide +kernel, show ¬ (("moment" : Str) = "other") by decide +kernel, show ¬ (("moment" : Str) = "later") by decide +kernel, show ¬ (("by" : Str) = "kind") by decide +kernel, show ¬ (("by" : Str) = "_told") by decide +kernel, show ¬ (("by" : Str) = "tool") by decide +kernel, show ¬ (("by" : Str) = "moment") by decide +kernel, show ¬ (("by" : Str) = "is_sound") by decide +kernel, show ¬ (("by" : Str) = "one") by decide +kernel, show ¬ (("by" : Str) = "other") by decide +kernel, show ¬ (("by" : Str) = "later") by decide +kernel, show ¬ (("is_sound" : Str) = "kind") by decide +kernel, show ¬ (("is_sound" : Str) = "_told") by decide +kernel, show ¬ (("is_sound" : Str) = "tool") by decide +kernel, show ¬ (("is_sound" : Str) = "moment") by decide +kernel, show ¬ (("is_sound" : Str) = "by") by decide +kernel, show ¬ (("is_sound" : Str) = "one") by decide +kernel, show ¬ (("is_sound" : Str) = "other") by decide +kernel, show ¬ (("is_sound" : Str) = "later") by decide +kernel, show ¬ (("one" : Str) = "kind") by decide +kernel, show ¬ (("one" : Str) = "_told") by decide +kernel, show ¬ (("one" : Str) = "tool") by decide +kernel, show ¬ (("one" : Str) = "moment") by decide +kernel, show ¬ (("one" : Str) = "by") by decide +kernel, show ¬ (("one" : Str) = "is_sound") by decide +kernel, show ¬ (("one" : Str) = "other") by decide +kernel, show ¬ (("one" : Str) = "later") by decide +kernel, show ¬ (("other" : Str) = "kind") by decide +kernel, show ¬ (("other" : Str) = "_told") by decide +kernel, show ¬ (("other" : Str) = "tool") by decide +kernel, show ¬ (("other" : Str) = "moment") by decide +kernel, show ¬ (("other" : Str) = "by") by decide +kernel, show ¬ (("other" : Str) = "is_sound") by decide +kernel, show ¬ (("other" : Str) = "one") by decide +kernel, show ¬ (("other" : Str) = "later") by decide +kernel, show ¬ (("later" : Str) = "kind") by decide +kernel, show ¬ (("later" : Str) = "_told") by decide +kernel, show ¬ (("later" : Str) = "tool") by decide +kernel, show ¬ (("later" : Str) = "moment") by decide +kernel, show ¬ (("later" : Str) = "by") by decide +kernel, show ¬ (("later" : Str) = "is_sound") by decide +kernel, show ¬ (("later" : Str) = "one") by decide +kernel, show ¬ (("later" : Str) = "other") by decide +kernel, if_true, if_false]), (by simp only [lookup_putF, show ¬ (("kind" : Str) = "_told") by decide +kernel, show ¬ (("kind" : Str) = "tool") by decide +kernel, show ¬ (("kind" : Str) = "moment") by decide +kernel, show ¬ (("kind" : Str) = "by") by decide +kernel, show ¬ (("kind" : Str) = "is_sound") by decide +kernel, show ¬ (("kind" : Str) = "one") by decide +kernel, show ¬ (("kind" : Str) = "other") by decide +kernel, show ¬ (("kind" : Str) = "later") by decide +kernel, show ¬ (("_told" : Str) = "kind") by decide +kernel, show ¬ (("_told" : Str) = "tool") by decide +kernel, show ¬ (("_told" : Str) = "moment") by decide +kernel, show ¬ (("_told" : Str) = "by") by decide +kernel, show ¬ (("_told" : Str) = "is_sound") by decide +kernel, show ¬ (("_told" : Str) = "one") by decide +kernel, show ¬ (("_told" : Str) = "other") by decide +kernel, show ¬ (("_told" : Str) = "later") by decide +kernel, show ¬ (("tool" : Str) = "kind") by decide +kernel, show ¬ (("tool" : Str) = "_told") by decide +kernel, show ¬ (("tool" : Str) = "moment") by decide +kernel, show ¬ (("tool" : Str) = "by") by decide +kernel, show ¬ (("tool" : Str) = "is_sound") by decide +kernel, show ¬ (("tool" : Str) = "one") by decide +kernel, show ¬ (("tool" : Str) = "other") by decide +kernel, show ¬ (("tool" : Str) = "later") by decide +kernel, show ¬ (("moment" : Str) = "kind") by decide +kernel, show ¬ (("moment" : Str) = "_told") by decide +kernel, show ¬ (("moment" : Str) = "tool") by decide +kernel, show ¬ (("moment" : Str) = "by") by decide +kernel, show ¬ (("moment" : Str) = "is_sound") by decide +kernel, show ¬ (("moment" : Str) = "one") by decide +kernel, show ¬ (("moment" : Str) = "other") by decide +kernel, show ¬ (("moment" : Str) = "later") by decide +kernel, show ¬ (("by" : Str) = "kind") by decide +kernel, show ¬ (("by" : Str) = "_told") by decide +kernel, show ¬ (("by" : Str) = "tool") by decide +kernel, show ¬ (("by" : Str) = "moment") by decide +kernel, show ¬ (("by" : Str) = "is_sound") by decide +kernel, show ¬ (("by" : Str) = "one") by decide +kernel, show ¬ (("by" : Str) = "other") by decide +kernel, show ¬ (("by" : Str) = "later") by decide +kernel, show ¬ (("is_sound" : Str) = "kind") by decide +kernel, show ¬ (("is_sound" : Str) = "_told") by decide +kernel, show ¬ (("is_sound" : Str) = "tool") by decide +kernel, show ¬ (("is_sound" : Str) = "moment") by decide +kernel, show ¬ (("is_sound" : Str) = "by") by decide +kernel, show ¬ (("is_sound" : Str) = "one") by decide +kernel, show ¬ (("is_sound" : Str) = "other") by decide +kernel, show ¬ (("is_sound" : Str) = "later") by decide +kernel, show ¬ (("one" : Str) = "kind") by decide +kernel, show ¬ (("one" : Str) = "_told") by decide +kernel, show ¬ (("one" : Str) = "tool") by decide +kernel, show ¬ (("one" : Str) = "moment") by decide +kernel, show ¬ (("one" : Str) = "by") by decide +kernel, show ¬ (("one" : Str) = "is_sound") by decide +kernel, show ¬ (("one" : Str) = "other") by decide +kernel, show ¬ (("one" : Str) = "later") by decide +kernel, show ¬ (("other" : Str) = "kind") by decide +kernel, show ¬ (("other" : Str) = "_told") by decide +kernel, show ¬ (("other" : Str) = "tool") by decide +kernel, show ¬ (("other" : Str) = "moment") by decide +kernel, show ¬ (("other" : Str) = "by") by decide +kernel, show ¬ (("other" : Str) = "is_sound") by decide +kernel, show ¬ (("other" : Str) = "one") by decide +kernel, show ¬ (("other" : Str) = "later") by decide +kernel, show ¬ (("later" : Str) = "kind") by decide +kernel, show ¬ (("later" : Str) = "_told") by decide +kernel, show ¬ (("later" : Str) = "tool") by decide +kernel, show ¬ (("later" : Str) = "moment") by decide +kernel, show ¬ (("later" : Str) = "by") by decide +kernel, show ¬ (("later" : Str) = "is_sound") by decide +kernel, show ¬ (("later" : Str) = "one") by decide +kernel, show ¬ (("later" : Str) = "other") by decide +kernel, if_true, if_false]), fun _ h => nomatch h⟩
abbrev sFailed : Stmt := inClass (topS 37) 0
theorem scFailed : FnScope ["self", "tool", "moment", "by"] ["self", "tool", "moment", "by"] (defScope sFailed) := ⟨rfl, rfl, rfl, by decide +kernel, rfl, by decide +kernel, by decide +kernel⟩
theorem ok_Failed {CN CM CS C f fK : Addr} {fd fdK : FuncData} (F : Fun K "__init__" "Failed.__init__" sFailed f fd) (T : RowC K C ["_told", "kind", "tool", "moment", "by"]) (FK : Fun K "checked" "checked" sChecked fK fdK) (bK : Binds K fdK ["kind", "told"] []) (gK : mg "checked" = some (.ref fK))
    (GK : FnOk P w K mg base (L2.CX P w) 4 fK fdK ["kind", "told"] (spChecked CN CM CS)) : FnOk P w K mg base (L2.CX P w) 5 f fd ["self", "tool", "moment", "by"] (spRow CN CM CS C "failed") := by
  refine F.okX scFailed (fun vs H Q E h => ?_) (fun cdv A outer s H vs Q E hr h => ?_)
  · obtain ⟨x, dx, xs, rfl, _, hl, _⟩ := h
    show xs.length + 1 = 4
    have : (formsOf "failed").length = 3 := by decide +kernel
    omega
  · obtain ⟨x, dx, xs, rfl, hx, hl, hg, qy, qn⟩ := h
    have hkin : ("failed" : Str) ∈ kinds := by decide +kernel
    have hl4 : (formsOf "failed").length = 3 := by decide +kernel
    obtain ⟨v0, v1, v2, rfl⟩ : ∃ v0 v1 v2, xs = [v0, v1, v2] := by
      rw [hl4] at hl
      match xs, hl with
      | [v0, v1, v2], _ => exact ⟨_, _, _, rfl⟩
    have no := T.no
    simp only [List.forall_mem_cons] at no
    obtain ⟨n0, n1, n2, n3, n4, _⟩ := no
    refine ⟨_, pss_cons (ps_fld (pv 0) (pe_call GK hr (by rfl) gK FK.kp bK .nil (passes_call (takes_of rfl rfl rfl rfl) (fun _ _ _ _ h => h)) (pa_cons pe_str (pa_cons (pe_tup (pa_cons (pv 1) (pa_cons (pv 2) (pa_cons (pv 3) pa_nil)))) pa_nil))) rfl)
      (pss_cons (ps_fld (pv 0) pe_str rfl)
      (pss_cons (ps_fld (pv 0) (pv 1) rfl) (pss_cons (ps_fld (pv 0) (pv 2) rfl) (pss_one (ps_fld (pv 0) (pv 3) rfl))))), ?_⟩
    refine ⟨_, rfl, _, rfl, _, rfl, by show 3 ≤ sizeLine; decide, fun tp htp => ?_⟩
    have s1 := same_upd0 (o := .tup [v0, v1, v2]) htp
    refine ⟨"failed", tp, [v0, v1, v2], rfl, hkin, upd_same, hl, (fun y hy => (hg y hy).elim fun T h => ⟨T, h.same s1⟩), fun gd H2 s2 => ?_, fun C' fl v g d H' s e => qn C' fl v g d H' (s1.trans s) e⟩
    have hx2 := s2 _ _ (s1 _ _ hx)
    have s12 := s1.trans s2
    refine ⟨_, rfl, x, C, dx, [], rfl, hx2, T.cl, n0, by show 0 < 1000; decide, ?_⟩
    refine ⟨_, rfl, x, C, dx, _, rfl, upd_same, T.cl, n1, Nat.lt_of_le_of_lt (lenC (Nat.le_refl 0)) (by decide), ?_⟩
    refine ⟨_, rfl, _, rfl, x, C, dx, _, rfl, upd_same, T.cl, n2, Nat.lt_of_le_of_lt (lenC (lenC (Nat.le_refl 0))) (by decide), ?_⟩
    refine ⟨_, rfl, _, rfl, x, C, dx, _, rfl, upd_same, T.cl, n3, Nat.lt_of_le_of_lt (lenC (lenC (lenC (Nat.le_refl 0)))) (by decide), ?_⟩
    refine ⟨_, rfl, _, rfl, x, C, dx, _, rfl, upd_same, T.cl, n4, Nat.lt_of_le_of_lt (lenC (lenC (lenC (lenC (Nat.le_refl 0))))) (by decide), ?_⟩
    refine qy gd _ _ (fun c o nc e => ?_) upd_same ?_
    · rw [upd_ne nc, upd_ne nc, upd_ne nc, upd_ne nc, upd_ne nc]
      exact s12 c o e
    · have ntp : tp ≠ x := fun z => by rw [z, hx] at htp; cases htp
      have etp := s2 _ _ (show (upd H tp (.tup _)) tp = _ from upd_same)
      refine ⟨?_, ⟨tp, ?_, ?_⟩, ?_, (by repeat (first | exact NoM.nil | refine NoM.put ?_ (by decide +kernel)))⟩
      · simp only [lookup_putF, show ¬ (("kind" : Str) = "_told") by decide +kernel, show ¬ (("kind" : Str) = "tool") by decide +kernel, show ¬ (("kind" : Str) = "moment") by decide +kernel, show ¬ (("kind" : Str) = "by") by decide +kernel, show ¬ (("kind" : Str) = "is_sound") by decide +kernel, show ¬ (("kind" : Str) = "one") by decide +kernel, show ¬ (("kind" : Str) = "other") by decide +kernel, show ¬ (("kind" : Str) = "later") by decide +kernel, show ¬ (("_told" : Str) = "kind") by decide +kernel, show ¬ (("_told" : Str) = "tool") by decide +kernel, show ¬ (("_told" : Str) = "moment") by decide +kernel, show ¬ (("_told" : Str) = "by") by decide +kernel, show ¬ (("_told" : Str) = "is_sound") by decide +kernel, show ¬ (("_told" : Str) = "one") by decide +kernel, show ¬ (("_told" : Str) = "other") by decide +kernel, show ¬ (("_told" : Str) = "later") by decide +kernel, show ¬ (("tool" : Str) = "kind") by decide +kernel, show ¬ (("tool" : Str) = "_told") by decide +kernel, show ¬ (("tool" : Str) = "moment") by decide +kernel, show ¬ (("tool" : Str) = "by") by decide +kernel, show ¬ (("tool" : Str) = "is_sound") by decide +kernel, show ¬ (("tool" : Str) = "one") by decide +kernel, show ¬ (("tool" : Str) = "other") by decide +kernel, show ¬ (("tool" : Str) = "later") by decide +kernel, show ¬ (("moment" : Str) = "kind") by decide +kernel, show ¬ (("moment" : Str) = "_told") by decide +kernel, show ¬ (("moment" : Str) = "tool") by decide +kernel, show ¬ (("moment" : Str) = "by") by decide +kernel, show ¬ (("moment" : Str) = "is_sound") by decide +kernel, show ¬ (("moment" : Str) = "one") by decide +kernel, show ¬ (("moment" : Str) = "other") by decide +kernel, show ¬ (("moment" : Str) = "later") by decide +kernel, show ¬ (("by" : Str) = "kind") by decide +kernel, show ¬ (("by" : Str) = "_told") by decide +kernel, show ¬ (("by" : Str) = "tool") by decide +kernel, show ¬ (("by" : Str) = "moment") by decide +kernel, show ¬ (("by" : Str) = "is_sound") by decide +kernel, show ¬ (("by" : Str) = "one") by decide +kernel, show ¬ (("by" : Str) = "other") by decide +kernel, show ¬ (("by" : Str) = "later") by decide +kernel, show ¬ (("is_sound" : Str) = "kind") by decide +kernel, show ¬ (("is_sound" : Str) = "_told") by decide +kernel, show ¬ (("is_sound" : Str) = "tool") by decide +kernel, show ¬ (("is_sound" : Str) = "moment") by decide +kernel, show ¬ (("is_sound" : Str) = "by") by decide +kernel, show ¬ (("is_sound" : Str) = "one") by decide +kernel, show ¬ (("is_sound" : Str) = "other") by decide +kernel, show ¬ (("is_sound" : Str) = "later") by decide +kernel, show ¬ (("one" : Str) = "kind") by decide +kernel, show ¬ (("one" : Str) = "_told") by decide +kernel, show ¬ (("one" : Str) = "tool") by decide +kernel, show ¬ (("one" : Str) = "moment") by decide +kernel, show ¬ (("one" : Str) = "by") by decide +kernel, show ¬ (("one" : Str) = "is_sound") by decide +kernel, show ¬ (("one" : Str) = "other") by decide +kernel, show ¬ (("one" : Str) = "later") by decide +kernel, show ¬ (("other" : Str) = "kind") by decide +kernel, show ¬ (("other" : Str) = "_told") by decide +kernel, show ¬ (("other" : Str) = "tool") by decide +kernel, show ¬ (("other" : Str) = "moment") by decide +kernel, show ¬ (("other" : Str) = "by") by decide +kernel, show ¬ (("other" : Str) = "is_sound") by decide +kernel, show ¬ (("other" : Str) = "one") by decide +kernel, show ¬ (("other" : Str) = "later") by decide +kernel, show ¬ (("later" : Str) = "kind") by decide +kernel, show ¬ (("later" : Str) = "_told") by decide +kernel, show ¬ (("later" : Str) = "tool") by decide +kernel, show ¬ (("later" : Str) = "moment") by decide +kernel, show ¬ (("later" : Str) = "by") by decide +kernel, show ¬ (("later" : Str) = "is_sound") by decide +kernel, show ¬ (("later" : Str) = "one") by decide +kernel, show ¬ (("later" : Str) = "other") by decide +kernel, if_true, if_false]
      · simp only [lookup_putF, show ¬ (("kind" : Str) = "_told") by decide +kernel, show ¬ (("kind" : Str) = "tool") by decide +kernel, show ¬ (("kind" : Str) = "moment") by decide +kernel, show ¬ (("kind" : Str) = "by") by decide +kernel, show ¬ (("kind" : Str) = "is_sound") by decide +kernel, show ¬ (("kind" : Str) = "one") by decide +kernel, show ¬ (("kind" : Str) = "other") by decide +kernel, show ¬ (("kind" : Str) = "later") by decide +kernel, show ¬ (("_told" : Str) = "kind") by decide +kernel, show ¬ (("_told" : Str) = "tool") by decide +kernel, show ¬ (("_told" : Str) = "moment") by decide +kernel, show ¬ (("_told" : Str) = "by") by decide +kernel, show ¬ (("_told" : Str) = "is_sound") by decide +kernel, show ¬ (("_told" : Str) = "one") by decide +kernel, show ¬ (("_told" : Str) = "other") by decide +kernel, show ¬ (("_told" : Str) = "later") by decide +kernel, show ¬ (("tool" : Str) = "kind") by decide +kernel, show ¬ (("tool" : Str) = "_told") by decide +kernel, show ¬ (("tool" : Str) = "moment") by decide +kernel, show ¬ (("tool" : Str) = "by") by decide +kernel, show ¬ (("tool" : Str) = "is_sound") by decide +kernel, show ¬ (("tool" : Str) = "one") by decide +kernel, show ¬ (("tool" : Str) = "other") by decide +kernel, show ¬ (("tool" : Str) = "later") by decide +kernel, show ¬ (("moment" : Str) = "kind") by decide +kernel, show ¬ (("moment" : Str) = "_told") by decide +kernel, show ¬ (("moment" : Str) = "tool") by decide +kernel, show ¬ (("moment" : Str) = "by") by decide +kernel, show ¬ (("moment" : Str) = "is_sound") by decide +kernel, show ¬ (("moment" : Str) = "one") by decide +kernel, show ¬ (("moment" : Str) = "other") by decide +kernel, show ¬ (("moment" : Str) = "later") by decide +kernel, show ¬ (("by" : Str) = "kind") by decide +kernel, show ¬ (("by" : Str) = "_told") by decide +kernel, show ¬ (("by" : Str) = "tool") by decide +kernel, show ¬ (("by" : Str) = "moment") by decide +kernel, show ¬ (("by" : Str) = "is_sound") by decide +kernel, show ¬ (("by" : Str) = "one") by decide +kernel, show ¬ (("by" : Str) = "other") by decide +kernel, show ¬ (("by" : Str) = "later") by decide +kernel, show ¬ (("is_sound" : Str) = "kind") by decide +kernel, show ¬ (("is_sound" : Str) = "_told") by decide +kernel, show ¬ (("is_sound" : Str) = "tool") by decide +kernel, show ¬ (("is_sound" : Str) = "moment") by decide +kernel, show ¬ (("is_sound" : Str) = "by") by decide +kernel, show ¬ (("is_sound" : Str) = "one") by decide +kernel, show ¬ (("is_sound" : Str) = "other") by decide +kernel, show ¬ (("is_sound" : Str) = "later") by decide +kernel, show ¬ (("one" : Str) = "kind") by decide +kernel, show ¬ (("one" : Str) = "_told") by decide +kernel, show ¬ (("one" : Str) = "tool") by decide +kernel, show ¬ (("one" : Str) = "moment") by decide +kernel, show ¬ (("one" : Str) = "by") by decide +kernel, show ¬ (("one" : Str) = "is_sound") by decide +kernel, show ¬ (("one" : Str) = "other") by decide +kernel, show ¬ (("one" : Str) = "later") by decide +kernel, show ¬ (("other" : Str) = "kind") by decide +kernel, show ¬ (("other" : Str) = "_told") by decide +kernel, show ¬ (("other" : Str) = "tool") by decide +kernel, show ¬ (("other" : Str) = "moment") by decide +kernel, show ¬ (("other" : Str) = "by") by decide +kernel, show ¬ (("other" : Str) = "is_sound") by decide +kernel, show ¬ (("other" : Str) = "one") by decide +kernel, show ¬ (("other" : Str) = "later") by decide +kernel, show ¬ (("later" : Str) = "kind") by decide +kernel, show ¬ (("later" : Str) = "_told") by decide +kernel, show ¬ (("later" : Str) = "tool") by decide +kernel, show ¬ (("later" : Str) = "moment") by decide +kernel, show ¬ (("later" : Str) = "by") by decide +kernel, show ¬ (("later" : Str) = "is_sound") by decide +kernel, show ¬ (("later" : Str) = "one") by decide +kernel, show ¬ (("later" : Str) = "other") by decide +kernel, if_true, if_false]
      · repeat rw [upd_ne ntp]
        exact etp
      · rw [attrs_failed]
        simp only [List.zip_cons_cons, List.zip_nil_right, List.forall_mem_cons]
        refine ⟨(by simp only [lookup_putF, show ¬ (("kind" : Str) = "_told") by decide +kernel, show ¬ (("kind" : Str) = "tool") by decide +kernel, show ¬ (("kind" : Str) = "moment") by decide +kernel, show ¬ (("kind" : Str) = "by") by decide +kernel, show ¬ (("kind" : Str) = "is_sound") by decide +kernel, show ¬ (("kind" : Str) = "one") by decide +kernel, show ¬ (("kind" : Str) = "other") by decide +kernel, show ¬ (("kind" : Str) = "later") by decide +kernel, show ¬ (("_told" : Str) = "kind") by decide +kernel, show ¬ (("_told" : Str) = "tool") by decide +kernel, show ¬ (("_told" : Str) = "moment") by decide +kernel, show ¬ (("_told" : Str) = "by") by decide +kernel, show ¬ (("_told" : Str) = "is_sound") by decide +kernel, show ¬ (("_told" : Str) = "one") by decide +kernel, show ¬ (("_told" : Str) = "other") by decide +kernel, show ¬ (("_told" : Str) = "later") by decide +kernel, show ¬ (("tool" : Str) = "kind") by decide +kernel, show ¬ (("tool" : Str) = "_told") by decide +kernel, show ¬ (("tool" : Str) = "moment") by decide +kernel, show ¬ (("tool" : Str) = "by") by decide +kernel, show ¬ (("tool" : Str) = "is_sound") by decide +kernel, show ¬ (("tool" : Str) = "one") by decide +kernel, show ¬ (("tool" : Str) = "other") by decide +kernel, show ¬ (("tool" : Str) = "later") by decide +kernel, show ¬ (("moment" : Str) = "kind") by decide +kernel, show ¬ (("moment" : Str) = "_told") by decide +kernel, show ¬ (("moment" : Str) = "tool") by decide +kernel, show ¬ (("moment" : Str) = "by") by decide +kernel, show ¬ (("moment" : Str) = "is_sound") by decide +kernel, show ¬ (("moment" : Str) = "one") by decide +kernel, show ¬ (("moment" : Str) = "other") by decide +kernel, show ¬ (("moment" : Str) = "later") by decide +kernel, show ¬ (("by" : Str) = "kind") by decide +kernel, show ¬ (("by" : Str) = "_told") by decide +kernel, show ¬ (("by" : Str) = "tool") by decide +kernel, show ¬ (("by" : Str) = "moment") by decide +kernel, show ¬ (("by" : Str) = "is_sound") by decide +kernel, show ¬ (("by" : Str) = "one") by decide +kernel, show ¬ (("by" : Str) = "other") by decide +kernel, show ¬ (("by" : Str) = "later") by decide +kernel, show ¬ (("is_sound" : Str) = "kind") by decide +kernel, show ¬ (("is_sound" : Str) = "_told") by decide +kernel, show ¬ (("is_sound" : Str) = "tool") by decide +kernel, show ¬ (("is_sound" : Str) = "moment") by decide +kernel, show ¬ (("is_sound" : Str) = "by") by decide +kernel, show ¬ (("is_sound" : Str) = "one") by decide +kernel, show ¬ (("is_sound" : Str) = "other") by decide +kernel, show ¬ (("is_sound" : Str) = "later") by decide +kernel, show ¬ (("one" : Str) = "kind") by decide +kernel, show ¬ (("one" : Str) = "_told") by decide +kernel, show ¬ (("one" : Str) = "tool") by decide +kernel, show ¬ (("one" : Str) = "moment") by decide +kernel, show ¬ (("one" : Str) = "by") by decide +kernel, show ¬ (("one" : Str) = "is_sound") by decide +kernel, show ¬ (("one" : Str) = "other") by decide +kernel, show ¬ (("one" : Str) = "later") by decide +kernel, show ¬ (("other" : Str) = "kind") by decide +kernel, show ¬ (("other" : Str) = "_told") by decide +kernel, show ¬ (("other" : Str) = "tool") by decide +kernel, show ¬ (("other" : Str) = "moment") by decide +kernel, show ¬ (("other" : Str) = "by") by decide +kernel, show ¬ (("other" : Str) = "is_sound") by decide +kernel, show ¬ (("other" : Str) = "one") by decide +kernel, show ¬ (("other" : Str) = "later") by decide +kernel, show ¬ (("later" : Str) = "kind") by decide +kernel, show ¬ (("later" : Str) = "_told") by decide +kernel, show ¬ (("later" : Str) = "tool") by decide +kernel, show ¬ (("later" : Str) = "moment") by decide +kernel, show ¬ (("later" : Str) = "by") by decide +kernel, show ¬ (("later" : Str) = "is_sound") by decide +kernel, show ¬ (("later" : Str) = "one") by decide +kernel, show ¬ (("later" : Str) = "other") by decide +kernel, if_true, if_false]), (by simp only [lookup_putF, show ¬ (("kind" : Str) = "_told") by decide +kernel, show ¬ (("kind" : Str) = "tool") by decide +kernel, show ¬ (("kind" : Str) = "moment") by decide +kernel, show ¬ (("kind" : Str) = "by") by decide +kernel, show ¬ (("kind" : Str) = "is_sound") by decide +kernel, show ¬ (("kind" : Str) = "one") by decide +kernel, show ¬ (("kind" : Str) = "other") by decide +kernel, show ¬ (("kind" : Str) = "later") by decide +kernel, show ¬ (("_told" : Str) = "kind") by decide +kernel, show ¬ (("_told" : Str) = "tool") by decide +kernel, show ¬ (("_told" : Str) = "moment") by decide +kernel, show ¬ (("_told" : Str) = "by") by decide +kernel, show ¬ (("_told" : Str) = "is_sound") by decide +kernel, show ¬ (("_told" : Str) = "one") by decide +kernel, show ¬ (("_told" : Str) = "other") by decide +kernel, show ¬ (("_told" : Str) = "later") by decide +kernel, show ¬ (("tool" : Str) = "kind") by decide +kernel, show ¬ (("tool" : Str) = "_told") by decide +kernel, show ¬ (("tool" : Str) = "moment") by decide +kernel, show ¬ (("tool" : Str) = "by") by decide +kernel, show ¬ (("tool" : Str) = "is_sound") by decide +kernel, show ¬ (("tool" : Str) = "one") by decide +kernel, show ¬ (("tool" : Str) = "other") by decide +kernel, show ¬ (("tool" : Str) = "later") by decide +kernel, show ¬ (("moment" : Str) = "kind") by decide +kernel, show ¬ (("moment" : Str) = "_told") by decide +kernel, show ¬ (("moment" : Str) = "tool") by decide +kernel, show ¬ (("moment" : Str) = "by") by decide +kernel, show ¬ (("moment" : Str) = "is_sound") by decide +kernel, show ¬ (("moment" : Str) = "one") by decide +kernel, show ¬ (("moment" : Str) = "other") by decide +kernel, show ¬ (("moment" : Str) = "later") by decide +kernel, show ¬ (("by" : Str) = "kind") by decide +kernel, show ¬ (("by" : Str) = "_told") by decide +kernel, show ¬ (("by" : Str) = "tool") by decide +kernel, show ¬ (("by" : Str) = "moment") by decide +kernel, show ¬ (("by" : Str) = "is_sound") by decide +kernel, show ¬ (("by" : Str) = "one") by decide +kernel, show ¬ (("by" : Str) = "other") by decide +kernel, show ¬ (("by" : Str) = "later") by decide +kernel, show ¬ (("is_sound" : Str) = "kind") by decide +kernel, show ¬ (("is_sound" : Str) = "_told") by decide +kernel, show ¬ (("is_sound" : Str) = "tool") by decide +kernel, show ¬ (("is_sound" : Str) = "moment") by decide +kernel, show ¬ (("is_sound" : Str) = "by") by decide +kernel, show ¬ (("is_sound" : Str) = "one") by decide +kernel, show ¬ (("is_sound" : Str) = "other") by decide +kernel, show ¬ (("is_sound" : Str) = "later") by decide +kernel, show ¬ (("one" : Str) = "kind") by decide +kernel, show ¬ (("one" : Str) = "_told") by decide +kernel, show ¬ (("one" : Str) = "tool") by decide +kernel, show ¬ (("one" : Str) = "moment") by decide +kernel, show ¬ (("one" : Str) = "by") by decide +kernel, show ¬ (("one" : Str) = "is_sound") by decide +kernel, show ¬ (("one" : Str) = "other") by decide +kernel, show ¬ (("one" : Str) = "later") by decide +kernel, show ¬ (("other" : Str) = "kind") by decide +kernel, show ¬ (("other" : Str) = "_told") by decide +kernel, show ¬ (("other" : Str) = "tool") by decide +kernel, show ¬ (("other" : Str) = "moment") by decide +kernel, show ¬ (("other" : Str) = "by") by decide +kernel, show ¬ (("other" : Str) = "is_sound") by decide +kernel, show ¬ (("other" : Str) = "one") by decide +kernel, show ¬ (("other" : Str) = "later") by decide +kernel, show ¬ (("later" : Str) = "kind") by decide +kernel, show ¬ (("later" : Str) = "_told") by decide +kernel, show ¬ (("later" : Str) = "tool") by decide +kernel, show ¬ (("later" : Str) = "moment") by decide +kernel, show ¬ (("later" : Str) = "by") by decide +kernel, show ¬ (("later" : Str) = "is_sound") by decide +kernel, show ¬ (("later" : Str) = "one") by decide +kernel, show ¬ (("later" : Str) = "other") by decide +kernel, if_true, if_false]), (by simp only [lookup_putF, show ¬ (("kind" : Str) = "_told") by decide +kernel, show ¬ (("kind" : Str) = "tool") by decide +kernel, show ¬ (("kind" : Str) = "moment") by decide +kernel, show ¬ (("kind" : Str) = "by") by decide +kernel, show ¬ (("kind" : Str) = "is_sound") by decide +kernel, show ¬ (("kind" : Str) = "one") by decide +kernel, show ¬ (("kind" : Str) = "other") by decide +kernel, show ¬ (("kind" : Str) = "later") by decide +kernel, show ¬ (("_told" : Str) = "kind") by decide +kernel, show ¬ (("_told" : Str) = "tool") by decide +kernel, show ¬ (("_told" : Str) = "moment") by decide +kernel, show ¬ (("_told" : Str) = "by") by decide +kernel, show ¬ (("_told" : Str) = "is_sound") by decide +kernel, show ¬ (("_told" : Str) = "one") by decide +kernel, show ¬ (("_told" : Str) = "other") by decide +kernel, show ¬ (("_told" : Str) = "later") by decide +kernel, show ¬ (("tool" : Str) = "kind") by decide +kernel, show ¬ (("tool" : Str) = "_told") by decide +kernel, show ¬ (("tool" : Str) = "moment") by decide +kernel, show ¬ (("tool" : Str) = "by") by decide +kernel, show ¬ (("tool" : Str) = "is_sound") by decide +kernel, show ¬ (("tool" : Str) = "one") by decide +kernel, show ¬ (("tool" : Str) = "other") by decide +kernel, show ¬ (("tool" : Str) = "later") by decide +kernel, show ¬ (("moment" : Str) = "kind") by decide +kernel, show ¬ (("moment" : Str) = "_told") by decide +kernel, show ¬ (("moment" : Str) = "tool") by decide +kernel, show ¬ (("moment" : Str) = "by") by decide +kernel, show ¬ (("moment" : Str) = "is_sound") by decide +kernel, show ¬ (("moment" : Str) = "one") by decide +kernel, show ¬ (("moment" : Str) = "other") by decide +kernel, show ¬ (("moment" : Str) = "later") by decide +kernel, show ¬ (("by" : Str) = "kind") by decide +kernel, show ¬ (("by" : Str) = "_told") by decide +kernel, show ¬ (("by" : Str) = "tool") by decide +kernel, show ¬ (("by" : Str) = "moment") by decide +kernel, show ¬ (("by" : Str) = "is_sound") by decide +kernel, show ¬ (("by" : Str) = "one") by decide +kernel, show ¬ (("by" : Str) = "other") by decide +kernel, show ¬ (("by" : Str) = "later") by decide +kernel, show ¬ (("is_sound" : Str) = "kind") by decide +kernel, show ¬ (("is_sound" : Str) = "_told") by decide +kernel, show ¬ (("is_sound" : Str) = "tool") by decide +kernel, show ¬ (("is_sound" : Str) = "moment") by decide +kernel, show ¬ (("is_sound" : Str) = "by") by decide +kernel, show ¬ (("is_sound" : Str) = "one") by decide +kernel, show ¬ (("is_sound" : Str) = "other") by decide +kernel, show ¬ (("is_sound" : Str) = "later") by decide +kernel, show ¬ (("one" : Str) = "kind") by decide +kernel, show ¬ (("one" : Str) = "_told") by decide +kernel, show ¬ (("one" : Str) = "tool") by decide +kernel, show ¬ (("one" : Str) = "moment") by decide +kernel, show ¬ (("one" : Str) = "by") by decide +kernel, show ¬ (("one" : Str) = "is_sound") by decide +kernel, show ¬ (("one" : Str) = "other") by decide +kernel, show ¬ (("one" : Str) = "later") by decide +kernel, show ¬ (("other" : Str) = "kind") by decide +kernel, show ¬ (("other" : Str) = "_told") by decide +kernel, show ¬ (("other" : Str) = "tool") by decide +kernel, show ¬ (("other" : Str) = "moment") by decide +kernel, show ¬ (("other" : Str) = "by") by decide +kernel, show ¬ (("other" : Str) = "is_sound") by decide +kernel, show ¬ (("other" : Str) = "one") by decide +kernel, show ¬ (("other" : Str) = "later") by decide +kernel, show ¬ (("later" : Str) = "kind") by decide +kernel, show ¬ (("later" : Str) = "_told") by decide +kernel, show ¬ (("later" : Str) = "tool") by decide +kernel, show ¬ (("later" : Str) = "moment") by decide +kernel, show ¬ (("later" : Str) = "by") by decide +kernel, show ¬ (("later" : Str) = "is_sound") by decide +kernel, show ¬ (("later" : Str) = "one") by decide +kernel, show ¬ (("later" : Str) = "other") by decide +kernel, if_true, if_false]), fun _ h => nomatch h⟩
abbrev sMeeting : Stmt := inClass (topS 31) 0
theorem scMeeting : FnScope ["self", "kind", "one", "moment", "other", "later"] ["self", "kind", "one", "moment", "other", "later"] (defScope sMeeting) := ⟨rfl, rfl, rfl, by decide +kernel, rfl, by decide +kernel, by decide +kernel⟩
def spMeet (CN CM CS C : Addr) : Sp := fun vs H Q E => ∃ (x dx : Addr) (kind : Str) (xs : List V), vs = .ref x :: .str kind :: xs ∧ kind ∈ (["agreed", "differed", "served", "backed"] : List Str) ∧ H x = some (.ins C dx []) ∧ xs.length = (formsOf kind).length ∧ (∀ y ∈ xs, ∃ T, Gv H y T) ∧
  WaysL CN CM CS (xs.zip (formsOf kind)) H E (∀ H' fs, Off x H H' → H' x = some (.ins C dx fs) → Told kind xs H' fs → Q .non H')
theorem meet_in : ∀ kind ∈ (["agreed", "differed", "served", "backed"] : List Str), kind ∈ kinds ∧ (formsOf kind).length = 4 := by decide +kernel
theorem ok_Meeting {CN CM CS C f fK : Addr} {fd fdK : FuncData} (F : Fun K "__init__" "Meeting.__init__" sMeeting f fd) (T : RowC K C ["_told", "kind", "one", "moment", "other", "later"]) (FK : Fun K "checked" "checked" sChecked fK fdK) (bK : Binds K fdK ["kind", "told"] []) (gK : mg "checked" = some (.ref fK))
    (GK : FnOk P w K mg base (L2.CX P w) 4 fK fdK ["kind", "told"] (spChecked CN CM CS)) : FnOk P w K mg base (L2.CX P w) 5 f fd ["self", "kind", "one", "moment", "other", "later"] (spMeet CN CM CS C) := by
  refine F.okX scMeeting (fun vs H Q E h => ?_) (fun cdv A outer s H vs Q E hr h => ?_)
  · obtain ⟨x, dx, kind, xs, rfl, hk, _, hl, _⟩ := h
    rw [(meet_in kind hk).2] at hl
    show xs.length + 1 + 1 = 6
    omega
  · obtain ⟨x, dx, kind, xs, rfl, hk, hx, hl, hg, qy, qn⟩ := h
    have hkin := (meet_in kind hk).1
    have hl4 := (meet_in kind hk).2
    obtain ⟨v0, v1, v2, v3, rfl⟩ : ∃ v0 v1 v2 v3, xs = [v0, v1, v2, v3] := by
      rw [hl4] at hl
      match xs, hl with
      | [v0, v1, v2, v3], _ => exact ⟨_, _, _, _, rfl⟩
    have no := T.no
    simp only [List.forall_mem_cons] at no
    obtain ⟨n0, n1, n2, n3, n4, n5, _⟩ := no
    refine ⟨_, pss_cons (ps_fld (pv 0) (pe_call GK hr (by rfl) gK FK.kp bK .nil (passes_call (takes_of rfl rfl rfl rfl) (fun _ _ _ _ h => h)) (pa_cons (pv 1) (pa_cons (pe_tup (pa_cons (pv 2) (pa_cons (pv 3) (pa_cons (pv 4) (pa_cons (pv 5) pa_nil))))) pa_nil))) rfl)
      (pss_cons (ps_fld (pv 0) (pv 1) rfl)
      (pss_cons (ps_fld (pv 0) (pv 2) rfl) (pss_cons (ps_fld (pv 0) (pv 3) rfl) (pss_cons (ps_fld (pv 0) (pv 4) rfl) (pss_one (ps_fld (pv 0) (pv 5) rfl)))))), ?_⟩
    refine ⟨_, rfl, _, rfl, _, rfl, _, rfl, _, rfl, by show 4 ≤ sizeLine; decide, fun tp htp => ?_⟩
    have s1 := same_upd0 (o := .tup [v0, v1, v2, v3]) htp
    refine ⟨kind, tp, [v0, v1, v2, v3], rfl, hkin, upd_same, hl, (fun y hy => (hg y hy).elim fun T h => ⟨T, h.same s1⟩), fun gd H2 s2 => ?_, fun C' fl v g d H' s e => qn C' fl v g d H' (s1.trans s) e⟩
    have hx2 := s2 _ _ (s1 _ _ hx)
    have s12 := s1.trans s2
    refine ⟨_, rfl, x, C, dx, [], rfl, hx2, T.cl, n0, by show 0 < 1000; decide, ?_⟩
    refine ⟨_, rfl, _, rfl, x, C, dx, _, rfl, upd_same, T.cl, n1, Nat.lt_of_le_of_lt (lenC (Nat.le_refl 0)) (by decide), ?_⟩
    refine ⟨_, rfl, _, rfl, x, C, dx, _, rfl, upd_same, T.cl, n2, Nat.lt_of_le_of_lt (lenC (lenC (Nat.le_refl 0))) (by decide), ?_⟩
    refine ⟨_, rfl, _, rfl, x, C, dx, _, rfl, upd_same, T.cl, n3, Nat.lt_of_le_of_lt (lenC (lenC (lenC (Nat.le_refl 0)))) (by decide), ?_⟩
    refine ⟨_, rfl, _, rfl, x, C, dx, _, rfl, upd_same, T.cl, n4, Nat.lt_of_le_of_lt (lenC (lenC (lenC (lenC (Nat.le_refl 0))))) (by decide), ?_⟩
    refine ⟨_, rfl, _, rfl, x, C, dx, _, rfl, upd_same, T.cl, n5, Nat.lt_of_le_of_lt (lenC (lenC (lenC (lenC (lenC (Nat.le_refl 0)))))) (by decide), ?_⟩
    refine qy gd _ _ (fun c o nc e => ?_) upd_same ?_
    · rw [upd_ne nc, upd_ne nc, upd_ne nc, upd_ne nc, upd_ne nc, upd_ne nc]
      exact s12 c o e
    · have ntp : tp ≠ x := fun z => by rw [z, hx] at htp; cases htp
      have etp := s2 _ _ (show (upd H tp (.tup _)) tp = _ from upd_same)
      refine ⟨?_, ⟨tp, ?_, ?_⟩, ?_, (by repeat (first | exact NoM.nil | refine NoM.put ?_ (by decide +kernel)))⟩
      · simp only [lookup_putF, show ¬ (("kind" : Str) = "_told") by decide +kernel, show ¬ (("kind" : Str) = "tool") by decide +kernel, show ¬ (("kind" : Str) = "moment") by decide +kernel, show ¬ (("kind" : Str) = "by") by decide +kernel, show ¬ (("kind" : Str) = "is_sound") by decide +kernel, show ¬ (("kind" : Str) = "one") by decide +kernel, show ¬ (("kind" : Str) = "other") by decide +kernel, show ¬ (("kind" : Str) = "later") by decide +kernel, show ¬ (("_told" : Str) = "kind") by decide +kernel, show ¬ (("_told" : Str) = "tool") by decide +kernel, show ¬ (("_told" : Str) = "moment") by decide +kernel, show ¬ (("_told" : Str) = "by") by decide +kernel, show ¬ (("_told" : Str) = "is_sound") by decide +kernel, show ¬ (("_told" : Str) = "one") by decide +kernel, show ¬ (("_told" : Str) = "other") by decide +kernel, show ¬ (("_told" : Str) = "later") by decide +kernel, show ¬ (("tool" : Str) = "kind") by decide +kernel, show ¬ (("tool" : Str) = "_told") by decide +kernel, show ¬ (("tool" : Str) = "moment") by decide +kernel, show ¬ (("tool" : Str) = "by") by decide +kernel, show ¬ (("tool" : Str) = "is_sound") by decide +kernel, show ¬ (("tool" : Str) = "one") by decide +kernel, show ¬ (("tool" : Str) = "other") by decide +kernel, show ¬ (("tool" : Str) = "later") by decide +kernel, show ¬ (("moment" : Str) = "kind") by decide +kernel, show ¬ (("moment" : Str) = "_told") by decide +kernel, show ¬ (("moment" : Str) = "tool") by decide +kernel, show ¬ (("moment" : Str) = "by") by decide +kernel, show ¬ (("moment" : Str) = "is_sound") by decide +kernel, show ¬ (("moment" : Str) = "one") by decide +kernel, show ¬ (("moment" : Str) = "other") by decide +kernel, show ¬ (("moment" : Str) = "later") by decide +kernel, show ¬ (("by" : Str) = "kind") by decide +kernel, show ¬ (("by" : Str) = "_told") by decide +kernel, show ¬ (("by" : Str) = "tool") by decide +kernel, show ¬ (("by" : Str) = "moment") by decide +kernel, show ¬ (("by" : Str) = "is_sound") by decide +kernel, show ¬ (("by" : Str) = "one") by decide +kernel, show ¬ (("by" : Str) = "other") by decide +kernel, show ¬ (("by" : Str) = "later") by decide +kernel, show ¬ (("is_sound" : Str) = "kind") by decide +kernel, show ¬ (("is_sound" : Str) = "_told") by decide +kernel, show ¬ (("is_sound" : Str) = "tool") by decide +kernel, show ¬ (("is_sound" : Str) = "moment") by decide +kernel, show ¬ (("is_sound" : Str) = "by") by decide +kernel, show ¬ (("is_sound" : Str) = "one") by decide +kernel, show ¬ (("is_sound" : Str) = "other") by decide +kernel, show ¬ (("is_sound" : Str) = "later") by decide +kernel, show ¬ (("one" : Str) = "kind") by decide +kernel, show ¬ (("one" : Str) = "_told") by decide +kernel, show ¬ (("one" : Str) = "tool") by decide +kernel, show ¬ (("one" : Str) = "moment") by decide +kernel, show ¬ (("one" : Str) = "by") by decide +kernel, show ¬ (("one" : Str) = "is_sound") by decide +kernel, show ¬ (("one" : Str) = "other") by decide +kernel, show ¬ (("one" : Str) = "later") by decide +kernel, show ¬ (("other" : Str) = "kind") by decide +kernel, show ¬ (("other" : Str) = "_told") by decide +kernel, show ¬ (("other" : Str) = "tool") by decide +kernel, show ¬ (("other" : Str) = "moment") by decide +kernel, show ¬ (("other" : Str) = "by") by decide +kernel, show ¬ (("other" : Str) = "is_sound") by decide +kernel, show ¬ (("other" : Str) = "one") by decide +kernel, show ¬ (("other" : Str) = "later") by decide +kernel, show ¬ (("later" : Str) = "kind") by decide +kernel, show ¬ (("later" : Str) = "_told") by decide +kernel, show ¬ (("later" : Str) = "tool") by decide +kernel, show ¬ (("later" : Str) = "moment") by decide +kernel, show ¬ (("later" : Str) = "by") by decide +kernel, show ¬ (("later" : Str) = "is_sound") by decide +kernel, show ¬ (("later" : Str) = "one") by decide +kernel, show ¬ (("later" : Str) = "other") by decide +kernel, if_true, if_false]
      · simp only [lookup_putF, show ¬ (("kind" : Str) = "_told") by decide +kernel, show ¬ (("kind" : Str) = "tool") by decide +kernel, show ¬ (("kind" : Str) = "moment") by decide +kernel, show ¬ (("kind" : Str) = "by") by decide +kernel, show ¬ (("kind" : Str) = "is_sound") by decide +kernel, show ¬ (("kind" : Str) = "one") by decide +kernel, show ¬ (("kind" : Str) = "other") by decide +kernel, show ¬ (("kind" : Str) = "later") by decide +kernel, show ¬ (("_told" : Str) = "kind") by decide +kernel, show ¬ (("_told" : Str) = "tool") by decide +kernel, show ¬ (("_told" : Str) = "moment") by decide +kernel, show ¬ (("_told" : Str) = "by") by decide +kernel, show ¬ (("_told" : Str) = "is_sound") by decide +kernel, show ¬ (("_told" : Str) = "one") by decide +kernel, show ¬ (("_told" : Str) = "other") by decide +kernel, show ¬ (("_told" : Str) = "later") by decide +kernel, show ¬ (("tool" : Str) = "kind") by decide +kernel, show ¬ (("tool" : Str) = "_told") by decide +kernel, show ¬ (("tool" : Str) = "moment") by decide +kernel, show ¬ (("tool" : Str) = "by") by decide +kernel, show ¬ (("tool" : Str) = "is_sound") by decide +kernel, show ¬ (("tool" : Str) = "one") by decide +kernel, show ¬ (("tool" : Str) = "other") by decide +kernel, show ¬ (("tool" : Str) = "later") by decide +kernel, show ¬ (("moment" : Str) = "kind") by decide +kernel, show ¬ (("moment" : Str) = "_told") by decide +kernel, show ¬ (("moment" : Str) = "tool") by decide +kernel, show ¬ (("moment" : Str) = "by") by decide +kernel, show ¬ (("moment" : Str) = "is_sound") by decide +kernel, show ¬ (("moment" : Str) = "one") by decide +kernel, show ¬ (("moment" : Str) = "other") by decide +kernel, show ¬ (("moment" : Str) = "later") by decide +kernel, show ¬ (("by" : Str) = "kind") by decide +kernel, show ¬ (("by" : Str) = "_told") by decide +kernel, show ¬ (("by" : Str) = "tool") by decide +kernel, show ¬ (("by" : Str) = "moment") by decide +kernel, show ¬ (("by" : Str) = "is_sound") by decide +kernel, show ¬ (("by" : Str) = "one") by decide +kernel, show ¬ (("by" : Str) = "other") by decide +kernel, show ¬ (("by" : Str) = "later") by decide +kernel, show ¬ (("is_sound" : Str) = "kind") by decide +kernel, show ¬ (("is_sound" : Str) = "_told") by decide +kernel, show ¬ (("is_sound" : Str) = "tool") by decide +kernel, show ¬ (("is_sound" : Str) = "moment") by decide +kernel, show ¬ (("is_sound" : Str) = "by") by decide +kernel, show ¬ (("is_sound" : Str) = "one") by decide +kernel, show ¬ (("is_sound" : Str) = "other") by decide +kernel, show ¬ (("is_sound" : Str) = "later") by decide +kernel, show ¬ (("one" : Str) = "kind") by decide +kernel, show ¬ (("one" : Str) = "_told") by decide +kernel, show ¬ (("one" : Str) = "tool") by decide +kernel, show ¬ (("one" : Str) = "moment") by decide +kernel, show ¬ (("one" : Str) = "by") by decide +kernel, show ¬ (("one" : Str) = "is_sound") by decide +kernel, show ¬ (("one" : Str) = "other") by decide +kernel, show ¬ (("one" : Str) = "later") by decide +kernel, show ¬ (("other" : Str) = "kind") by decide +kernel, show ¬ (("other" : Str) = "_told") by decide +kernel, show ¬ (("other" : Str) = "tool") by decide +kernel, show ¬ (("other" : Str) = "moment") by decide +kernel, show ¬ (("other" : Str) = "by") by decide +kernel, show ¬ (("other" : Str) = "is_sound") by decide +kernel, show ¬ (("other" : Str) = "one") by decide +kernel, show ¬ (("other" : Str) = "later") by decide +kernel, show ¬ (("later" : Str) = "kind") by decide +kernel, show ¬ (("later" : Str) = "_told") by decide +kernel, show ¬ (("later" : Str) = "tool") by decide +kernel, show ¬ (("later" : Str) = "moment") by decide +kernel, show ¬ (("later" : Str) = "by") by decide +kernel, show ¬ (("later" : Str) = "is_sound") by decide +kernel, show ¬ (("later" : Str) = "one") by decide +kernel, show ¬ (("later" : Str) = "other") by decide +kernel, if_true, if_false]
      · repeat rw [upd_ne ntp]
        exact etp
      · rw [attrs_meet kind hk]
        simp only [List.zip_cons_cons, List.zip_nil_right, List.forall_mem_cons]
        refine ⟨(by simp only [lookup_putF, show ¬ (("kind" : Str) = "_told") by decide +kernel, show ¬ (("kind" : Str) = "tool") by decide +kernel, show ¬ (("kind" : Str) = "moment") by decide +kernel, show ¬ (("kind" : Str) = "by") by decide +kernel, show ¬ (("kind" : Str) = "is_sound") by decide +kernel, show ¬ (("kind" : Str) = "one") by decide +kernel, show ¬ (("kind" : Str) = "other") by decide +kernel, show ¬ (("kind" : Str) = "later") by decide +kernel, show ¬ (("_told" : Str) = "kind") by decide +kernel, show ¬ (("_told" : Str) = "tool") by decide +kernel, show ¬ (("_told" : Str) = "moment") by decide +kernel, show ¬ (("_told" : Str) = "by") by decide +kernel, show ¬ (("_told" : Str) = "is_sound") by decide +kernel, show ¬ (("_told" : Str) = "one") by decide +kernel, show ¬ (("_told" : Str) = "other") by decide +kernel, show ¬ (("_told" : Str) = "later") by decide +kernel, show ¬ (("tool" : Str) = "kind") by decide +kernel, show ¬ (("tool" : Str) = "_told") by decide +kernel, show ¬ (("tool" : Str) = "moment") by decide +kernel, show ¬ (("tool" : Str) = "by") by decide +kernel, show ¬ (("tool" : Str) = "is_sound") by decide +kernel, show ¬ (("tool" : Str) = "one") by decide +kernel, show ¬ (("tool" : Str) = "other") by decide +kernel, show ¬ (("tool" : Str) = "later") by decide +kernel, show ¬ (("moment" : Str) = "kind") by decide +kernel, show ¬ (("moment" : Str) = "_told") by decide +kernel, show ¬ (("moment" : Str) = "tool") by decide +kernel, show ¬ (("moment" : Str) = "by") by decide +kernel, show ¬ (("moment" : Str) = "is_sound") by decide +kernel, show ¬ (("moment" : Str) = "one") by decide +kernel, show ¬ (("moment" : Str) = "other") by decide +kernel, show ¬ (("moment" : Str) = "later") by decide +kernel, show ¬ (("by" : Str) = "kind") by decide +kernel, show ¬ (("by" : Str) = "_told") by decide +kernel, show ¬ (("by" : Str) = "tool") by decide +kernel, show ¬ (("by" : Str) = "moment") by decide +kernel, show ¬ (("by" : Str) = "is_sound") by decide +kernel, show ¬ (("by" : Str) = "one") by decide +kernel, show ¬ (("by" : Str) = "other") by decide +kernel, show ¬ (("by" : Str) = "later") by decide +kernel, show ¬ (("is_sound" : Str) = "kind") by decide +kernel, show ¬ (("is_sound" : Str) = "_told") by decide +kernel, show ¬ (("is_sound" : Str) = "tool") by decide +kernel, show ¬ (("is_sound" : Str) = "moment") by decide +kernel, show ¬ (("is_sound" : Str) = "by") by decide +kernel, show ¬ (("is_sound" : Str) = "one") by decide +kernel, show ¬ (("is_sound" : Str) = "other") by decide +kernel, show ¬ (("is_sound" : Str) = "later") by decide +kernel, show ¬ (("one" : Str) = "kind") by decide +kernel, show ¬ (("one" : Str) = "_told") by decide +kernel, show ¬ (("one" : Str) = "tool") by decide +kernel, show ¬ (("one" : Str) = "moment") by decide +kernel, show ¬ (("one" : Str) = "by") by decide +kernel, show ¬ (("one" : Str) = "is_sound") by decide +kernel, show ¬ (("one" : Str) = "other") by decide +kernel, show ¬ (("one" : Str) = "later") by decide +kernel, show ¬ (("other" : Str) = "kind") by decide +kernel, show ¬ (("other" : Str) = "_told") by decide +kernel, show ¬ (("other" : Str) = "tool") by decide +kernel, show ¬ (("other" : Str) = "moment") by decide +kernel, show ¬ (("other" : Str) = "by") by decide +kernel, show ¬ (("other" : Str) = "is_sound") by decide +kernel, show ¬ (("other" : Str) = "one") by decide +kernel, show ¬ (("other" : Str) = "later") by decide +kernel, show ¬ (("later" : Str) = "kind") by decide +kernel, show ¬ (("later" : Str) = "_told") by decide +kernel, show ¬ (("later" : Str) = "tool") by decide +kernel, show ¬ (("later" : Str) = "moment") by decide +kernel, show ¬ (("later" : Str) = "by") by decide +kernel, show ¬ (("later" : Str) = "is_sound") by decide +kernel, show ¬ (("later" : Str) = "one") by decide +kernel, show ¬ (("later" : Str) = "other") by decide +kernel, if_true, if_false]), (by simp only [lookup_putF, show ¬ (("kind" : Str) = "_told") by decide +kernel, show ¬ (("kind" : Str) = "tool") by decide +kernel, show ¬ (("kind" : Str) = "moment") by decide +kernel, show ¬ (("kind" : Str) = "by") by decide +kernel, show ¬ (("kind" : Str) = "is_sound") by decide +kernel, show ¬ (("kind" : Str) = "one") by decide +kernel, show ¬ (("kind" : Str) = "other") by decide +kernel, show ¬ (("kind" : Str) = "later") by decide +kernel, show ¬ (("_told" : Str) = "kind") by decide +kernel, show ¬ (("_told" : Str) = "tool") by decide +kernel, show ¬ (("_told" : Str) = "moment") by decide +kernel, show ¬ (("_told" : Str) = "by") by decide +kernel, show ¬ (("_told" : Str) = "is_sound") by decide +kernel, show ¬ (("_told" : Str) = "one") by decide +kernel, show ¬ (("_told" : Str) = "other") by decide +kernel, show ¬ (("_told" : Str) = "later") by decide +kernel, show ¬ (("tool" : Str) = "kind") by decide +kernel, show ¬ (("tool" : Str) = "_told") by decide +kernel, show ¬ (("tool" : Str) = "moment") by decide +kernel, show ¬ (("tool" : Str) = "by") by decide +kernel, show ¬ (("tool" : Str) = "is_sound") by decide +kernel, show ¬ (("tool" : Str) = "one") by decide +kernel, show ¬ (("tool" : Str) = "other") by decide +kernel, show ¬ (("tool" : Str) = "later") by decide +kernel, show ¬ (("moment" : Str) = "kind") by decide +kernel, show ¬ (("moment" : Str) = "_told") by decide +kernel, show ¬ (("moment" : Str) = "tool") by decide +kernel, show ¬ (("moment" : Str) = "by") by decide +kernel, show ¬ (("moment" : Str) = "is_sound") by decide +kernel, show ¬ (("moment" : Str) = "one") by decide +kernel, show ¬ (("moment" : Str) = "other") by decide +kernel, show ¬ (("moment" : Str) = "later") by decide +kernel, show ¬ (("by" : Str) = "kind") by decide +kernel, show ¬ (("by" : Str) = "_told") by decide +kernel, show ¬ (("by" : Str) = "tool") by decide +kernel, show ¬ (("by" : Str) = "moment") by decide +kernel, show ¬ (("by" : Str) = "is_sound") by decide +kernel, show ¬ (("by" : Str) = "one") by decide +kernel, show ¬ (("by" : Str) = "other") by decide +kernel, show ¬ (("by" : Str) = "later") by decide +kernel, show ¬ (("is_sound" : Str) = "kind") by decide +kernel, show ¬ (("is_sound" : Str) = "_told") by decide +kernel, show ¬ (("is_sound" : Str) = "tool") by decide +kernel, show ¬ (("is_sound" : Str) = "moment") by decide +kernel, show ¬ (("is_sound" : Str) = "by") by decide +kernel, show ¬ (("is_sound" : Str) = "one") by decide +kernel, show ¬ (("is_sound" : Str) = "other") by decide +kernel, show ¬ (("is_sound" : Str) = "later") by decide +kernel, show ¬ (("one" : Str) = "kind") by decide +kernel, show ¬ (("one" : Str) = "_told") by decide +kernel, show ¬ (("one" : Str) = "tool") by decide +kernel, show ¬ (("one" : Str) = "moment") by decide +kernel, show ¬ (("one" : Str) = "by") by decide +kernel, show ¬ (("one" : Str) = "is_sound") by decide +kernel, show ¬ (("one" : Str) = "other") by decide +kernel, show ¬ (("one" : Str) = "later") by decide +kernel, show ¬ (("other" : Str) = "kind") by decide +kernel, show ¬ (("other" : Str) = "_told") by decide +kernel, show ¬ (("other" : Str) = "tool") by decide +kernel, show ¬ (("other" : Str) = "moment") by decide +kernel, show ¬ (("other" : Str) = "by") by decide +kernel, show ¬ (("other" : Str) = "is_sound") by decide +kernel, show ¬ (("other" : Str) = "one") by decide +kernel, show ¬ (("other" : Str) = "later") by decide +kernel, show ¬ (("later" : Str) = "kind") by decide +kernel, show ¬ (("later" : Str) = "_told") by decide +kernel, show ¬ (("later" : Str) = "tool") by decide +kernel, show ¬ (("later" : Str) = "moment") by decide +kernel, show ¬ (("later" : Str) = "by") by decide +kernel, show ¬ (("later" : Str) = "is_sound") by decide +kernel, show ¬ (("later" : Str) = "one") by decide +kernel, show ¬ (("later" : Str) = "other") by decide +kernel, if_true, if_false]), (by simp only [lookup_putF, show ¬ (("kind" : Str) = "_told") by decide +kernel, show ¬ (("kind" : Str) = "tool") by decide +kernel, show ¬ (("kind" : Str) = "moment") by decide +kernel, show ¬ (("kind" : Str) = "by") by decide +kernel, show ¬ (("kind" : Str) = "is_sound") by decide +kernel, show ¬ (("kind" : Str) = "one") by decide +kernel, show ¬ (("kind" : Str) = "other") by decide +kernel, show ¬ (("kind" : Str) = "later") by decide +kernel, show ¬ (("_told" : Str) = "kind") by decide +kernel, show ¬ (("_told" : Str) = "tool") by decide +kernel, show ¬ (("_told" : Str) = "moment") by decide +kernel, show ¬ (("_told" : Str) = "by") by decide +kernel, show ¬ (("_told" : Str) = "is_sound") by decide +kernel, show ¬ (("_told" : Str) = "one") by decide +kernel, show ¬ (("_told" : Str) = "other") by decide +kernel, show ¬ (("_told" : Str) = "later") by decide +kernel, show ¬ (("tool" : Str) = "kind") by decide +kernel, show ¬ (("tool" : Str) = "_told") by decide +kernel, show ¬ (("tool" : Str) = "moment") by decide +kernel, show ¬ (("tool" : Str) = "by") by decide +kernel, show ¬ (("tool" : Str) = "is_sound") by decide +kernel, show ¬ (("tool" : Str) = "one") by decide +kernel, show ¬ (("tool" : Str) = "other") by decide +kernel, show ¬ (("tool" : Str) = "later") by decide +kernel, show ¬ (("moment" : Str) = "kind") by decide +kernel, show ¬ (("moment" : Str) = "_told") by decide +kernel, show ¬ (("moment" : Str) = "tool") by decide +kernel, show ¬ (("moment" : Str) = "by") by decide +kernel, show ¬ (("moment" : Str) = "is_sound") by decide +kernel, show ¬ (("moment" : Str) = "one") by decide +kernel, show ¬ (("moment" : Str) = "other") by decide +kernel, show ¬ (("moment" : Str) = "later") by decide +kernel, show ¬ (("by" : Str) = "kind") by decide +kernel, show ¬ (("by" : Str) = "_told") by decide +kernel, show ¬ (("by" : Str) = "tool") by decide +kernel, show ¬ (("by" : Str) = "moment") by decide +kernel, show ¬ (("by" : Str) = "is_sound") by decide +kernel, show ¬ (("by" : Str) = "one") by decide +kernel, show ¬ (("by" : Str) = "other") by decide +kernel, show ¬ (("by" : Str) = "later") by decide +kernel, show ¬ (("is_sound" : Str) = "kind") by decide +kernel, show ¬ (("is_sound" : Str) = "_told") by decide +kernel, show ¬ (("is_sound" : Str) = "tool") by decide +kernel, show ¬ (("is_sound" : Str) = "moment") by decide +kernel, show ¬ (("is_sound" : Str) = "by") by decide +kernel, show ¬ (("is_sound" : Str) = "one") by decide +kernel, show ¬ (("is_sound" : Str) = "other") by decide +kernel, show ¬ (("is_sound" : Str) = "later") by decide +kernel, show ¬ (("one" : Str) = "kind") by decide +kernel, show ¬ (("one" : Str) = "_told") by decide +kernel, show ¬ (("one" : Str) = "tool") by decide +kernel, show ¬ (("one" : Str) = "moment") by decide +kernel, show ¬ (("one" : Str) = "by") by decide +kernel, show ¬ (("one" : Str) = "is_sound") by decide +kernel, show ¬ (("one" : Str) = "other") by decide +kernel, show ¬ (("one" : Str) = "later") by decide +kernel, show ¬ (("other" : Str) = "kind") by decide +kernel, show ¬ (("other" : Str) = "_told") by decide +kernel, show ¬ (("other" : Str) = "tool") by decide +kernel, show ¬ (("other" : Str) = "moment") by decide +kernel, show ¬ (("other" : Str) = "by") by decide +kernel, show ¬ (("other" : Str) = "is_sound") by decide +kernel, show ¬ (("other" : Str) = "one") by decide +kernel, show ¬ (("other" : Str) = "later") by decide +kernel, show ¬ (("later" : Str) = "kind") by decide +kernel, show ¬ (("later" : Str) = "_told") by decide +kernel, show ¬ (("later" : Str) = "tool") by decide +kernel, show ¬ (("later" : Str) = "moment") by decide +kernel, show ¬ (("later" : Str) = "by") by decide +kernel, show ¬ (("later" : Str) = "is_sound") by decide +kernel, show ¬ (("later" : Str) = "one") by decide +kernel, show ¬ (("later" : Str) = "other") by decide +kernel, if_true, if_false]), (by simp only [lookup_putF, show ¬ (("kind" : Str) = "_told") by decide +kernel, show ¬ (("kind" : Str) = "tool") by decide +kernel, show ¬ (("kind" : Str) = "moment") by decide +kernel, show ¬ (("kind" : Str) = "by") by decide +kernel, show ¬ (("kind" : Str) = "is_sound") by decide +kernel, show ¬ (("kind" : Str) = "one") by decide +kernel, show ¬ (("kind" : Str) = "other") by decide +kernel, show ¬ (("kind" : Str) = "later") by decide +kernel, show ¬ (("_told" : Str) = "kind") by decide +kernel, show ¬ (("_told" : Str) = "tool") by decide +kernel, show ¬ (("_told" : Str) = "moment") by decide +kernel, show ¬ (("_told" : Str) = "by") by decide +kernel, show ¬ (("_told" : Str) = "is_sound") by decide +kernel, show ¬ (("_told" : Str) = "one") by decide +kernel, show ¬ (("_told" : Str) = "other") by decide +kernel, show ¬ (("_told" : Str) = "later") by decide +kernel, show ¬ (("tool" : Str) = "kind") by decide +kernel, show ¬ (("tool" : Str) = "_told") by decide +kernel, show ¬ (("tool" : Str) = "moment") by decide +kernel, show ¬ (("tool" : Str) = "by") by decide +kernel, show ¬ (("tool" : Str) = "is_sound") by decide +kernel, show ¬ (("tool" : Str) = "one") by decide +kernel, show ¬ (("tool" : Str) = "other") by decide +kernel, show ¬ (("tool" : Str) = "later") by decide +kernel, show ¬ (("moment" : Str) = "kind") by decide +kernel, show ¬ (("moment" : Str) = "_told") by decide +kernel, show ¬ (("moment" : Str) = "tool") by decide +kernel, show ¬ (("moment" : Str) = "by") by decide +kernel, show ¬ (("moment" : Str) = "is_sound") by decide +kernel, show ¬ (("moment" : Str) = "one") by decide +kernel, show ¬ (("moment" : Str) = "other") by decide +kernel, show ¬ (("moment" : Str) = "later") by decide +kernel, show ¬ (("by" : Str) = "kind") by decide +kernel, show ¬ (("by" : Str) = "_told") by decide +kernel, show ¬ (("by" : Str) = "tool") by decide +kernel, show ¬ (("by" : Str) = "moment") by decide +kernel, show ¬ (("by" : Str) = "is_sound") by decide +kernel, show ¬ (("by" : Str) = "one") by decide +kernel, show ¬ (("by" : Str) = "other") by decide +kernel, show ¬ (("by" : Str) = "later") by decide +kernel, show ¬ (("is_sound" : Str) = "kind") by decide +kernel, show ¬ (("is_sound" : Str) = "_told") by decide +kernel, show ¬ (("is_sound" : Str) = "tool") by decide +kernel, show ¬ (("is_sound" : Str) = "moment") by decide +kernel, show ¬ (("is_sound" : Str) = "by") by decide +kernel, show ¬ (("is_sound" : Str) = "one") by decide +kernel, show ¬ (("is_sound" : Str) = "other") by decide +kernel, show ¬ (("is_sound" : Str) = "later") by decide +kernel, show ¬ (("one" : Str) = "kind") by decide +kernel, show ¬ (("one" : Str) = "_told") by decide +kernel, show ¬ (("one" : Str) = "tool") by decide +kernel, show ¬ (("one" : Str) = "moment") by decide +kernel, show ¬ (("one" : Str) = "by") by decide +kernel, show ¬ (("one" : Str) = "is_sound") by decide +kernel, show ¬ (("one" : Str) = "other") by decide +kernel, show ¬ (("one" : Str) = "later") by decide +kernel, show ¬ (("other" : Str) = "kind") by decide +kernel, show ¬ (("other" : Str) = "_told") by decide +kernel, show ¬ (("other" : Str) = "tool") by decide +kernel, show ¬ (("other" : Str) = "moment") by decide +kernel, show ¬ (("other" : Str) = "by") by decide +kernel, show ¬ (("other" : Str) = "is_sound") by decide +kernel, show ¬ (("other" : Str) = "one") by decide +kernel, show ¬ (("other" : Str) = "later") by decide +kernel, show ¬ (("later" : Str) = "kind") by decide +kernel, show ¬ (("later" : Str) = "_told") by decide +kernel, show ¬ (("later" : Str) = "tool") by decide +kernel, show ¬ (("later" : Str) = "moment") by decide +kernel, show ¬ (("later" : Str) = "by") by decide +kernel, show ¬ (("later" : Str) = "is_sound") by decide +kernel, show ¬ (("later" : Str) = "one") by decide +kernel, show ¬ (("later" : Str) = "other") by decide +kernel, if_true, if_false]), fun _ h => nomatch h⟩
end
end K11

namespace K11
open PySem PySem.Spec PyProof.Rows L2 So
abbrev sAgreed : Stmt := inClass (topS 38) 0
abbrev sDiffered : Stmt := inClass (topS 39) 0
abbrev sServed : Stmt := inClass (topS 40) 0
abbrev sBacked : Stmt := inClass (topS 41) 0
abbrev metN : List Str := ["self", "one", "moment", "other", "later"]
def supB (sc : Scope) : Bool := decide (sc.kind = .function) && !sc.isCoroutine && !sc.isGenerator && metN.all (fun x => decide (sc.names.lookup x = some .local)) && sc.names.all (fun y => !decide (y.2 = .cell)) && sc.names.all (fun y => !decide (y.2 = .free) || decide (y.1 = "__class__"))
  && decide (sc.names.lookup ("super" : Str) = some .globalImplicit) && decide (sc.names.lookup ("__class__" : Str) = some .free)
theorem supB_ok {sc : Scope} (h : supB sc = true) : SupScope metN sc := by
  unfold supB at h
  simp only [Bool.and_eq_true, Bool.not_eq_true', decide_eq_true_eq, List.all_eq_true, Bool.or_eq_true, decide_eq_false_iff_not] at h
  obtain ⟨⟨⟨⟨⟨⟨⟨h1, h2⟩, h3⟩, h4⟩, h5⟩, h6⟩, h7⟩, h8⟩ := h
  refine ⟨h1, h2, h3, by decide +kernel, h4, h5, fun y hy => ?_, h7, h8⟩
  rcases h6 (y, .free) (PySem.mem_of_lookup hy) with z | z
  · exact absurd rfl z
  · exact z
section
variable {P : Program} {w : World} {K : PySem.W.Frag} {mg : Str → Option Value} {base : Heap}
theorem ok_Agreed {CN CM CS C D cc f fM : Addr} {cd : Value} {fd fdM : FuncData} (F : SupFn K P "__init__" "Agreed.__init__" (defArgs sAgreed) (defBody sAgreed) (defScope sAgreed) D cc f cd fd) (hsup : mg "super" = none) (sub : PySem.W.mroIn K C (.ref D) = some true) (hcl : ∃ cdC, PySem.W.clsIn K C = some cdC)
    (hm : PySem.W.ks_superIn K C D "__init__" = some (some (.ref fM))) (ht : PySem.W.typeIn K (.ref fM) = some (.type "function")) (hfn : PySem.W.fnIn K fM = true) (bM : Binds K fdM ["self", "kind", "one", "moment", "other", "later"] []) (GM : FnOk P w K mg base (L2.CX P w) 5 fM fdM ["self", "kind", "one", "moment", "other", "later"] (spMeet CN CM CS C)) :
    FnOk P w K mg base (L2.CX P w) 6 f fd metN (spRow CN CM CS C "agreed") := by
  have hl4 : (formsOf "agreed").length = 4 := by decide +kernel
  refine (ok_super (C := C) (ps := metN) F (supB_ok (by decide +kernel)) rfl (by rfl) hsup sub hcl hm ht hfn (by decide +kernel) GM bM (fun A outer s H E => pa_cons pe_str (pa_cons (pv 1) (pa_cons (pv 2) (pa_cons (pv 3) (pa_cons (pv 4) pa_nil))))) (fun _ => rfl) (fun _ => rfl) (fun _ => rfl) (fun _ => rfl)).imp fun vs H Q E h => ?_
  obtain ⟨x, dx, xs, rfl, hx, hl, hg, qw⟩ := h
  obtain ⟨v0, v1, v2, v3, rfl⟩ : ∃ v0 v1 v2 v3, xs = [v0, v1, v2, v3] := by
    rw [hl4] at hl
    match xs, hl with
    | [v0, v1, v2, v3], _ => exact ⟨_, _, _, _, rfl⟩
  exact ⟨rfl, x, dx, [], [v0, v1, v2, v3], rfl, hx, _, rfl, _, rfl, _, rfl, _, rfl, x, dx, "agreed", [v0, v1, v2, v3], rfl, by decide +kernel, hx, hl, hg, qw⟩
theorem ok_Differed {CN CM CS C D cc f fM : Addr} {cd : Value} {fd fdM : FuncData} (F : SupFn K P "__init__" "Differed.__init__" (defArgs sDiffered) (defBody sDiffered) (defScope sDiffered) D cc f cd fd) (hsup : mg "super" = none) (sub : PySem.W.mroIn K C (.ref D) = some true) (hcl : ∃ cdC, PySem.W.clsIn K C = some cdC)
    (hm : PySem.W.ks_superIn K C D "__init__" = some (some (.ref fM))) (ht : PySem.W.typeIn K (.ref fM) = some (.type "function")) (hfn : PySem.W.fnIn K fM = true) (bM : Binds K fdM ["self", "kind", "one", "moment", "other", "later"] []) (GM : FnOk P w K mg base (L2.CX P w) 5 fM fdM ["self", "kind", "one", "moment", "other", "later"] (spMeet CN CM CS C)) :
    FnOk P w K mg base (L2.CX P w) 6 f fd metN (spRow CN CM CS C "differed") := by
  have hl4 : (formsOf "differed").length = 4 := by decide +kernel
  refine (ok_super (C := C) (ps := metN) F (supB_ok (by decide +kernel)) rfl (by rfl) hsup sub hcl hm ht hfn (by decide +kernel) GM bM (fun A outer s H E => pa_cons pe_str (pa_cons (pv 1) (pa_cons (pv 2) (pa_cons (pv 3) (pa_cons (pv 4) pa_nil))))) (fun _ => rfl) (fun _ => rfl) (fun _ => rfl) (fun _ => rfl)).imp fun vs H Q E h => ?_
  obtain ⟨x, dx, xs, rfl, hx, hl, hg, qw⟩ := h
  obtain ⟨v0, v1, v2, v3, rfl⟩ : ∃ v0 v1 v2 v3, xs = [v0, v1, v2, v3] := by
    rw [hl4] at hl
    match xs, hl with
    | [v0, v1, v2, v3], _ => exact ⟨_, _, _, _, rfl⟩
  exact ⟨rfl, x, dx, [], [v0, v1, v2, v3], rfl, hx, _, rfl, _, rfl, _, rfl, _, rfl, x, dx, "differed", [v0, v1, v2, v3], rfl, by decide +kernel, hx, hl, hg, qw⟩
theorem ok_Served {CN CM CS C D cc f fM : Addr} {cd : Value} {fd fdM : FuncData} (F : SupFn K P "__init__" "Served.__init__" (defArgs sServed) (defBody sServed) (defScope sServed) D cc f cd fd) (hsup : mg "super" = none) (sub : PySem.W.mroIn K C (.ref D) = some true) (hcl : ∃ cdC, PySem.W.clsIn K C = some cdC)
    (hm : PySem.W.ks_superIn K C D "__init__" = some (some (.ref fM))) (ht : PySem.W.typeIn K (.ref fM) = some (.type "function")) (hfn : PySem.W.fnIn K fM = true) (bM : Binds K fdM ["self", "kind", "one", "moment", "other", "later"] []) (GM : FnOk P w K mg base (L2.CX P w) 5 fM fdM ["self", "kind", "one", "moment", "other", "later"] (spMeet CN CM CS C)) :
    FnOk P w K mg base (L2.CX P w) 6 f fd metN (spRow CN CM CS C "served") := by
  have hl4 : (formsOf "served").length = 4 := by decide +kernel
  refine (ok_super (C := C) (ps := metN) F (supB_ok (by decide +kernel)) rfl (by rfl) hsup sub hcl hm ht hfn (by decide +kernel) GM bM (fun A outer s H E => pa_cons pe_str (pa_cons (pv 1) (pa_cons (pv 2) (pa_cons (pv 3) (pa_cons (pv 4) pa_nil))))) (fun _ => rfl) (fun _ => rfl) (fun _ => rfl) (fun _ => rfl)).imp fun vs H Q E h => ?_
  obtain ⟨x, dx, xs, rfl, hx, hl, hg, qw⟩ := h
  obtain ⟨v0, v1, v2, v3, rfl⟩ : ∃ v0 v1 v2 v3, xs = [v0, v1, v2, v3] := by
    rw [hl4] at hl
    match xs, hl with
    | [v0, v1, v2, v3], _ => exact ⟨_, _, _, _, rfl⟩
  exact ⟨rfl, x, dx, [], [v0, v1, v2, v3], rfl, hx, _, rfl, _, rfl, _, rfl, _, rfl, x, dx, "served", [v0, v1, v2, v3], rfl, by decide +kernel, hx, hl, hg, qw⟩
theorem ok_Backed {CN CM CS C D cc f fM : Addr} {cd : Value} {fd fdM : FuncData} (F : SupFn K P "__init__" "Backed.__init__" (defArgs sBacked) (defBody sBacked) (defScope sBacked) D cc f cd fd) (hsup : mg "super" = none) (sub : PySem.W.mroIn K C (.ref D) = some true) (hcl : ∃ cdC, PySem.W.clsIn K C = some cdC)
    (hm : PySem.W.ks_superIn K C D "__init__" = some (some (.ref fM))) (ht : PySem.W.typeIn K (.ref fM) = some (.type "function")) (hfn : PySem.W.fnIn K fM = true) (bM : Binds K fdM ["self", "kind", "one", "moment", "other", "later"] []) (GM : FnOk P w K mg base (L2.CX P w) 5 fM fdM ["self", "kind", "one", "moment", "other", "later"] (spMeet CN CM CS C)) :
    FnOk P w K mg base (L2.CX P w) 6 f fd metN (spRow CN CM CS C "backed") := by
  have hl4 : (formsOf "backed").length = 4 := by decide +kernel
  refine (ok_super (C := C) (ps := metN) F (supB_ok (by decide +kernel)) rfl (by rfl) hsup sub hcl hm ht hfn (by decide +kernel) GM bM (fun A outer s H E => pa_cons pe_str (pa_cons (pv 1) (pa_cons (pv 2) (pa_cons (pv 3) (pa_cons (pv 4) pa_nil))))) (fun _ => rfl) (fun _ => rfl) (fun _ => rfl) (fun _ => rfl)).imp fun vs H Q E h => ?_
  obtain ⟨x, dx, xs, rfl, hx, hl, hg, qw⟩ := h
  obtain ⟨v0, v1, v2, v3, rfl⟩ : ∃ v0 v1 v2 v3, xs = [v0, v1, v2, v3] := by
    rw [hl4] at hl
    match xs, hl with
    | [v0, v1, v2, v3], _ => exact ⟨_, _, _, _, rfl⟩
  exact ⟨rfl, x, dx, [], [v0, v1, v2, v3], rfl, hx, _, rfl, _, rfl, _, rfl, _, rfl, x, dx, "backed", [v0, v1, v2, v3], rfl, by decide +kernel, hx, hl, hg, qw⟩
end
end K11

/-! repr of data with dicts: each thing's text built by itself, so that no more is asked of an address than that a dict is not the modules' own. -/
namespace So
open PySem PySem.Spec PyProof.Rows L2
mutual
/-- a value is this data; dicts with texts as keys may stand in it -/
inductive Dd (K : PySem.W.Frag) (H : Hp) : V → PyData → Prop
  | non : Dd K H .non .none
  | bl (b : Bool) : Dd K H (.bl b) (.bool b)
  | int (i : Int) : Dd K H (.int i) (.int i)
  | str (x : Str) : Dd K H (.str x) (.str x)
  | lst {a : Addr} {xs : List V} {ds : List PyData} (e : SqL K H a xs) (h : DdAll K H xs ds) : Dd K H (.ref a) (.list ds)
  | tup {a : Addr} {xs : List V} {ds : List PyData} (e : SqT K H a xs) (h : DdAll K H xs ds) : Dd K H (.ref a) (.tuple ds)
  | dct {a : Addr} {kvs : List (Key × V)} {ds : List (PyData × PyData)} (e : H a = some (.dK kvs)) (h : DdKv K H kvs ds) : Dd K H (.ref a) (.dict ds)
inductive DdAll (K : PySem.W.Frag) (H : Hp) : List V → List PyData → Prop
  | nil : DdAll K H [] []
  | cons {v : V} {vs : List V} {d : PyData} {ds : List PyData} (h : Dd K H v d) (t : DdAll K H vs ds) : DdAll K H (v :: vs) (d :: ds)
inductive DdKv (K : PySem.W.Frag) (H : Hp) : List (Key × V) → List (PyData × PyData) → Prop
  | nil : DdKv K H [] []
  | cons {k : Str} {v : V} {r : List (Key × V)} {d : PyData} {ds : List (PyData × PyData)} (h : Dd K H v d) (t : DdKv K H r ds) : DdKv K H ((Sum.inr k, v) :: r) ((.str k, d) :: ds)
end
section
variable {X : Cx} {pins : List (Addr × Obj)} {σ : L2.St} {H : Hp} {s : Shared}
/-- a thing in memory that shows so -/
def ShK (X : Cx) (h : Heap) (u : Value) (d : PyData) : Prop := ∃ as bs, Reads h u d as ∧ ReadAtMost h d.depth bs ∧ ReprK X.prog X.w bs h d.depth u d.shown
def ShAll (X : Cx) (h : Heap) (us : List Value) (ds : List PyData) : Prop := ∃ as bs, ReadsAll h us ds as ∧ ReadAtMost h (PyData.depthAll ds) bs ∧ ReprAllK X.prog X.w bs h (PyData.depthAll ds) us (PyData.shownAll ds)
theorem shAll_cons {h : Heap} {u : Value} {us : List Value} {d : PyData} {ds : List PyData} (a : ShK X h u d) (b : ShAll X h us ds) : ShAll X h (u :: us) (d :: ds) := by
  obtain ⟨as1, b1, r1, hb1, k1⟩ := a
  obtain ⟨as2, b2, r2, hb2, k2⟩ := b
  refine ⟨_, b1 ++ b2, .cons r1 r2, ?_, ?_⟩
  · intro b hm
    simp only [PyData.depthAll]
    rcases List.mem_append.mp hm with hm | hm
    · obtain ⟨d', as', r', hd'⟩ := hb1 b hm
      exact ⟨d', as', r', Nat.le_trans hd' (Nat.le_max_left _ _)⟩
    · obtain ⟨d', as', r', hd'⟩ := hb2 b hm
      exact ⟨d', as', r', Nat.le_trans hd' (Nat.le_max_right _ _)⟩
  · simp only [PyData.depthAll, PyData.shownAll]
    exact .cons ((k1.more fun b hb => List.mem_append_left _ hb).level_le (Nat.le_max_left _ _)) (k2.more_le (fun b hb => List.mem_append_right _ hb) (Nat.le_max_right _ _))
theorem shAll_nil {h : Heap} : ShAll X h [] [] := ⟨_, [], .nil, (fun _ h => nomatch h), by simp only [PyData.shownAll]; exact .nil⟩
mutual
theorem Dd.sh (I : Inv X pins σ H s) : ∀ (d : PyData) (v : V) (u : Value), Dd X.K H v d → RelV v u → d.showable = true → d.shown.length ≤ sizeLine → ShK X s.heap u d
  | .none, _, _, h, r, _, _ => by
    cases h
    cases r
    exact ⟨_, [], .none, (fun _ h => nomatch h), by simp only [PyData.shown]; exact .of_is ReprIs.none _ _ _⟩
  | .bool b, _, _, h, r, _, _ => by
    cases h
    cases r
    exact ⟨_, [], .bool b, (fun _ h => nomatch h), by simp only [PyData.shown]; exact .of_is (ReprIs.bool b) _ _ _⟩
  | .int i, _, _, h, r, hs, _ => by
    cases h
    obtain ⟨t, rfl⟩ := r
    exact ⟨_, [], .int i t, (fun _ h => nomatch h), by simp only [PyData.shown]; exact .of_is (ReprIs.int t (by simpa [PyData.showable] using hs)) _ _ _⟩
  | .str x, _, _, h, r, _, hz => by
    cases h
    obtain ⟨t, rfl⟩ := r
    exact ⟨_, [], .str x t, (fun _ h => nomatch h), by simp only [PyData.shown]; exact .of_is (ReprIs.str x t (by simpa only [PyData.shown] using hz)) _ _ _⟩
  | .list ds, _, _, h, r, hs, hz => by
    cases h with
    | @lst a xs _ e hall =>
      cases r
      have hz' : (listText (PyData.shownAll ds)).length ≤ sizeLine := by simpa only [PyData.shown] using hz
      obtain ⟨its, rv, ⟨o, n, h1, h2, _, h3⟩, _⟩ := I.list e
      obtain ⟨as, bs, rd, hb, hk⟩ := DdAll.sh I ds xs its hall rv (by simpa [PyData.showable] using hs) (fun t ht => Nat.le_trans (listText_mem_le ht) hz')
      have rr : Reads s.heap (.ref a) (.list ds) _ := .list h1 h2 h3 rd
      have hna : a ∉ bs := not_mem_of_deeper rr (by simp only [PyData.depth]; omega) hb
      refine ⟨_, a :: bs, rr, ReadAtMost.cons rr (by simp only [PyData.depth]; omega) hb, ?_⟩
      simp only [PyData.depth, PyData.shown]
      cases its with
      | nil =>
        cases rd
        simp only [PyData.shownAll, listText_nil]
        exact ReprK.listEmpty h1 h2 h3
      | cons x l => exact ReprK.list h1 h2 h3 hna (by simpa using hk.length_eq) (fun i y e => hk.item i y (by simpa using e))
  | .tuple ds, _, _, h, r, hs, hz => by
    cases h with
    | @tup a xs _ e hall =>
      cases r
      have hz' : (tupleText (PyData.shownAll ds)).length ≤ sizeLine := by simpa only [PyData.shown] using hz
      obtain ⟨its, rv, ⟨o, h1, h2, n, h3⟩, _⟩ := I.tuple e
      obtain ⟨as, bs, rd, hb, hk⟩ := DdAll.sh I ds xs its hall rv (by simpa [PyData.showable] using hs) (fun t ht => Nat.le_trans (tupleText_mem_le ht) hz')
      have rr : Reads s.heap (.ref a) (.tuple ds) _ := .tuple h1 h2 h3 rd
      have hna : a ∉ bs := not_mem_of_deeper rr (by simp only [PyData.depth]; omega) hb
      refine ⟨_, a :: bs, rr, ReadAtMost.cons rr (by simp only [PyData.depth]; omega) hb, ?_⟩
      simp only [PyData.depth, PyData.shown]
      exact ReprK.tuple h1 h2 h3 hna hk
  | .dict ds, _, _, h, r, hs, hz => by
    cases h with
    | @dct a kvs _ e hall =>
      cases r
      have hz' : (dictText (PyData.shownKv ds)).length ≤ sizeLine := by simpa only [PyData.shown] using hz
      obtain ⟨_, hsys, vs, hk, hD⟩ : kvs.length ≤ sizeLine ∧ (a == sysModules) = false ∧ ∃ vs, KV kvs vs ∧ s.heap.DictOf (mixKind X.prog X.w) a vs := I.hok a _ e
      obtain ⟨o, es, ep, h1, h2, h3, _, e5, _⟩ := hD
      obtain ⟨hs1, hs2⟩ := PyData.showableKv_split ds (by simpa [PyData.showable] using hs)
      obtain ⟨⟨as1, b1, r1, hb1, k1⟩, as2, b2, r2, hb2, k2⟩ := DdKv.sh I ds kvs vs es.toList hall hk e5 hs1 hs2
        (fun t ht => let ⟨p, hp, hl⟩ := PyData.shownKv_key_le ds t ht; Nat.le_trans hl (Nat.le_trans (dictText_mem_le hp) hz')) (fun t ht => let ⟨p, hp, hl⟩ := PyData.shownKv_val_le ds t ht; Nat.le_trans hl (Nat.le_trans (dictText_mem_le hp) hz'))
      have rr : Reads s.heap (.ref a) (.dict ds) _ := .dict h1 h2.1 h3 r1 r2
      have hb : ReadAtMost s.heap (PyData.depthKv ds) (b1 ++ b2) := (hb1.mono (PyData.depthAll_keys_le ds)).append (hb2.mono (PyData.depthAll_vals_le ds))
      have hna : a ∉ b1 ++ b2 := not_mem_of_deeper rr (by simp only [PyData.depth]; omega) hb
      refine ⟨_, a :: (b1 ++ b2), rr, ReadAtMost.cons rr (by simp only [PyData.depth]; omega) hb, ?_⟩
      simp only [PyData.depth, PyData.shown, PyData.shownKv_eq]
      exact ReprK.dict h1 h2.1 h3 hsys hna (ReprEntriesK.of_two es.toList _ _
        (k1.more_le (fun b hb => List.mem_append_left _ hb) (PyData.depthAll_keys_le ds)) (k2.more_le (fun b hb => List.mem_append_right _ hb) (PyData.depthAll_vals_le ds)))
theorem DdAll.sh (I : Inv X pins σ H s) : ∀ (ds : List PyData) (vs : List V) (us : List Value), DdAll X.K H vs ds → Vals vs us → PyData.showableAll ds = true → (∀ t ∈ PyData.shownAll ds, t.length ≤ sizeLine) → ShAll X s.heap us ds
  | [], _, _, h, r, _, _ => by
    cases h
    cases r
    exact shAll_nil
  | d :: ds, _, _, h, r, hs, hz => by
    cases h with
    | cons h1 h2 =>
      cases r with
      | cons r1 r2 =>
        have hs' : d.showable = true ∧ PyData.showableAll ds = true := by simpa [PyData.showableAll] using hs
        exact shAll_cons (Dd.sh I d _ _ h1 r1 hs'.1 (hz _ (by simp only [PyData.shownAll]; exact List.mem_cons_self ..))) (DdAll.sh I ds _ _ h2 r2 hs'.2 fun t ht => hz t (by simp only [PyData.shownAll]; exact List.mem_cons_of_mem _ ht))
theorem DdKv.sh (I : Inv X pins σ H s) : ∀ (ds : List (PyData × PyData)) (kvs : List (Key × V)) (vs : List (Key × Value)) (es : List DictEntry), DdKv X.K H kvs ds → KV kvs vs → Pairs (mixKind X.prog X.w) es vs → PyData.showableAll (ds.map (·.1)) = true → PyData.showableAll (ds.map (·.2)) = true →
    (∀ t ∈ PyData.shownAll (ds.map (·.1)), t.length ≤ sizeLine) → (∀ t ∈ PyData.shownAll (ds.map (·.2)), t.length ≤ sizeLine) → ShAll X s.heap (es.map (·.key)) (ds.map (·.1)) ∧ ShAll X s.heap (es.map (·.val)) (ds.map (·.2))
  | [], _, _, _, h, hk, hp, _, _, _, _ => by
    cases h
    cases hk
    cases hp
    exact ⟨shAll_nil, shAll_nil⟩
  | (dk, dv) :: ds, _, _, _, h, hk, hp, hs1, hs2, z1, z2 => by
    cases h with
    | @cons k v r _ _ h1 h2 =>
      cases hk with
      | @cons _ kv _ _ hk1 hk2 =>
        obtain ⟨kk, kval⟩ := kv
        obtain ⟨q1, q2⟩ := hk1
        simp only at q1 q2
        subst q1
        cases hp with
        | @cons en _ es' _ p1 p2 p3 =>
          have hs1' : (PyData.str k).showable = true ∧ PyData.showableAll (ds.map (·.1)) = true := by simpa [PyData.showableAll] using hs1
          have hs2' : dv.showable = true ∧ PyData.showableAll (ds.map (·.2)) = true := by simpa [PyData.showableAll] using hs2
          have hz1 : (PyData.str k).shown.length ≤ sizeLine := z1 _ (by simp only [List.map_cons, PyData.shownAll]; exact List.mem_cons_self ..)
          have hz2 : dv.shown.length ≤ sizeLine := z2 _ (by simp only [List.map_cons, PyData.shownAll]; exact List.mem_cons_self ..)
          obtain ⟨c1, c2⟩ := DdKv.sh I ds _ _ _ h2 hk2 p3 hs1'.2 hs2'.2 (fun t ht => z1 t (by simp only [List.map_cons, PyData.shownAll]; exact List.mem_cons_of_mem _ ht)) (fun t ht => z2 t (by simp only [List.map_cons, PyData.shownAll]; exact List.mem_cons_of_mem _ ht))
          simp only at p2
          refine ⟨?_, ?_⟩
          · rcases keyIs_shape (show keyIs (Sum.inr k) en.key = true from p1) with ⟨j, t3, z, _⟩ | ⟨y, t3, z, ez⟩
            · cases z
            · cases z
              simp only [List.map_cons]
              refine shAll_cons ?_ c1
              rw [ez]
              exact ⟨_, [], .str k t3, (fun _ h => nomatch h), by simp only [PyData.shown]; exact .of_is (ReprIs.str k t3 (by simpa only [PyData.shown] using hz1)) _ _ _⟩
          · simp only [List.map_cons]
            rw [p2]
            exact shAll_cons (Dd.sh I dv v _ h1 q2 hs2'.1 hz2) c2
end
/-- such a thing is shown by its own type -/
theorem Dd.shows (I : Inv X pins σ H s) {a : Addr} {d : PyData} (h : Dd X.K H (.ref a) d) (hs : d.showable = true) (hz : d.shown.length ≤ sizeLine) : ∃ T idr, ShowsBy X.prog X.w s.heap a d T idr := by
  cases h with
  | @lst _ xs ds e hall =>
    have hz' : (listText (PyData.shownAll ds)).length ≤ sizeLine := by simpa only [PyData.shown] using hz
    obtain ⟨its, rv, ⟨o, n, h1, h2, _, h3⟩, _⟩ := I.list e
    obtain ⟨as, bs, rd, hb, hk⟩ := DdAll.sh I ds xs its hall rv (by simpa [PyData.showable] using hs) (fun t ht => Nat.le_trans (listText_mem_le ht) hz')
    have rr : Reads s.heap (.ref a) (.list ds) _ := .list h1 h2 h3 rd
    have hna : a ∉ bs := not_mem_of_deeper rr (by simp only [PyData.depth]; omega) hb
    refine ⟨"list", "list.__repr__", F.slot_list_repr.toG, F.slot_list_str, F.slot_list_format, fun s' hk0 => ⟨o, hk0 _ _ h1, h2⟩, fun A E s' Q hg hu hk0 hQ => ?_⟩
    simp only [PyData.depth] at hu
    simp only [PyData.shown] at hQ
    cases its with
    | nil =>
      cases rd
      simp only [PyData.shownAll, listText_nil] at hQ
      exact call_list_repr_empty ⟨o, hk0 _ _ h1, h2⟩ (hk0 _ _ h1) h3 (hQ s'.heap _ _ fun _ _ e => e)
    | cons x l => exact call_list_reprK h1 h2 h3 hna (by simpa using hk.length_eq) (fun i y e => hk.item i y (by simpa using e)) hg (fun b _ => Clear.nil b) hu hk0 hQ hz'
  | @tup _ xs ds e hall =>
    have hz' : (tupleText (PyData.shownAll ds)).length ≤ sizeLine := by simpa only [PyData.shown] using hz
    obtain ⟨its, rv, ⟨o, h1, h2, n, h3⟩, _⟩ := I.tuple e
    obtain ⟨as, bs, rd, hb, hk⟩ := DdAll.sh I ds xs its hall rv (by simpa [PyData.showable] using hs) (fun t ht => Nat.le_trans (tupleText_mem_le ht) hz')
    have rr : Reads s.heap (.ref a) (.tuple ds) _ := .tuple h1 h2 h3 rd
    have hna : a ∉ bs := not_mem_of_deeper rr (by simp only [PyData.depth]; omega) hb
    refine ⟨"tuple", "tuple.__repr__", F.slot_tuple_repr, F.slot_tuple_str, F.slot_tuple_format, fun s' hk0 => ⟨o, hk0 _ _ h1, h2⟩, fun A E s' Q hg hu hk0 hQ => ?_⟩
    simp only [PyData.depth] at hu
    simp only [PyData.shown] at hQ
    exact call_tuple_reprK h1 h2 h3 hna hk hg (fun b _ => Clear.nil b) hu hk0 hQ hz'
  | @dct _ kvs ds e hall =>
    have hz' : (dictText (PyData.shownKv ds)).length ≤ sizeLine := by simpa only [PyData.shown] using hz
    obtain ⟨_, hsys, vs, hk, hD⟩ : kvs.length ≤ sizeLine ∧ (a == sysModules) = false ∧ ∃ vs, KV kvs vs ∧ s.heap.DictOf (mixKind X.prog X.w) a vs := I.hok a _ e
    obtain ⟨o, es, ep, h1, h2, h3, _, e5, _⟩ := hD
    obtain ⟨hs1, hs2⟩ := PyData.showableKv_split ds (by simpa [PyData.showable] using hs)
    obtain ⟨⟨as1, b1, r1, hb1, k1⟩, as2, b2, r2, hb2, k2⟩ := DdKv.sh I ds kvs vs es.toList hall hk e5 hs1 hs2
      (fun t ht => let ⟨p, hp, hl⟩ := PyData.shownKv_key_le ds t ht; Nat.le_trans hl (Nat.le_trans (dictText_mem_le hp) hz')) (fun t ht => let ⟨p, hp, hl⟩ := PyData.shownKv_val_le ds t ht; Nat.le_trans hl (Nat.le_trans (dictText_mem_le hp) hz'))
    have rr : Reads s.heap (.ref a) (.dict ds) _ := .dict h1 h2.1 h3 r1 r2
    have hb : ReadAtMost s.heap (PyData.depthKv ds) (b1 ++ b2) := (hb1.mono (PyData.depthAll_keys_le ds)).append (hb2.mono (PyData.depthAll_vals_le ds))
    have hna : a ∉ b1 ++ b2 := not_mem_of_deeper rr (by simp only [PyData.depth]; omega) hb
    refine ⟨"dict", "dict.__repr__", F.slot_dict_repr, F.slot_dict_str, F.slot_dict_format, fun s' hk0 => ⟨o, hk0 _ _ h1, h2.1⟩, fun A E s' Q hg hu hk0 hQ => ?_⟩
    simp only [PyData.depth] at hu
    simp only [PyData.shown, PyData.shownKv_eq] at hQ
    exact call_dict_reprK h1 h2.1 h3 hsys hna (ReprEntriesK.of_two es.toList _ _
      (k1.more_le (fun b hb => List.mem_append_left _ hb) (PyData.depthAll_keys_le ds)) (k2.more_le (fun b hb => List.mem_append_right _ hb) (PyData.depthAll_vals_le ds))) hg (fun b _ => Clear.nil b) hu hk0 hQ (by rw [← PyData.shownKv_eq]; exact hz')
/-- repr of data, dicts in it -/
def rReprG (K : PySem.W.Frag) : List V → Hp → VK → Prop := fun xs H Q => ∃ v d, xs = [v] ∧ Dd K H v d ∧ d.showable = true ∧ d.depth ≤ 60 ∧ d.shown.length ≤ sizeLine ∧ Q (.str d.shown) H
theorem call_reprG (hg : X.A.guards = some []) (hu : X.A.units + 64 < cLine) : CallR X (.builtin "repr") (rReprG X.K) := by
  intro pins s σ H xs us Q I r h
  obtain ⟨v, d, rfl, hd, hs, hdep, hz, q⟩ := h
  obtain ⟨u, rfl, rv⟩ := vals1 r
  cases v with
  | ref a =>
    cases rv
    obtain ⟨T, idr, S⟩ := hd.shows I hs hz
    refine call_repr_slot (by omega) (S.typeIs s fun _ _ e => e) S.slotRepr (S.call X.A.in1 X.xe s _ hg (by show X.A.units + 1 + d.depth < cLine; omega) (fun _ _ e => e) fun h' u tk hk => ⟨_, _, rfl, ?_⟩)
    exact ⟨.str d.shown, H, I.kept hk, ⟨_, rfl⟩, q⟩
  | non =>
    cases hd
    cases rv
    exact PySem.P.repr_of_none ⟨.str _, H, I.tok _, ⟨_, rfl⟩, q⟩
  | bl b =>
    cases hd
    cases rv
    refine PySem.P.repr_of_bool ⟨.str (PyData.shown (.bool b)), H, I.tok _, ⟨s.toks, ?_⟩, q⟩
    cases b <;> rfl
  | int i =>
    cases hd
    obtain ⟨t, rfl⟩ := rv
    exact PySem.P.repr_of_int (by simpa [PyData.showable] using hs) ⟨.str _, H, I.tok _, ⟨_, rfl⟩, q⟩
  | str x =>
    cases hd
    obtain ⟨t, rfl⟩ := rv
    exact PySem.P.repr_of_str ⟨.str _, H, I.tok _, ⟨_, rfl⟩, q⟩ hz
  | byt b => cases hd
  | flt b => cases hd
  | ty n => cases hd
end
/-! data stays -/
mutual
theorem Dd.same {K : PySem.W.Frag} {H H' : Hp} (s : Ext H H') : ∀ {d : PyData} {v : V}, Dd K H v d → Dd K H' v d
  | _, _, .non => .non
  | _, _, .bl b => .bl b
  | _, _, .int i => .int i
  | _, _, .str x => .str x
  | _, _, .lst e h => .lst (SqL.ext e s) (DdAll.same s h)
  | _, _, .tup e h => .tup (SqT.ext e s) (DdAll.same s h)
  | _, _, .dct e h => .dct (s _ _ e) (DdKv.same s h)
theorem DdAll.same {K : PySem.W.Frag} {H H' : Hp} (s : Ext H H') : ∀ {ds : List PyData} {vs : List V}, DdAll K H vs ds → DdAll K H' vs ds
  | _, _, .nil => .nil
  | _, _, .cons h t => .cons (Dd.same s h) (DdAll.same s t)
theorem DdKv.same {K : PySem.W.Frag} {H H' : Hp} (s : Ext H H') : ∀ {ds : List (PyData × PyData)} {vs : List (Key × V)}, DdKv K H vs ds → DdKv K H' vs ds
  | _, _, .nil => .nil
  | _, _, .cons h t => .cons (Dd.same s h) (DdKv.same s t)
end
end So

/-! a value as data over a part of memory that stays; text * int -/
namespace So
open PySem PySem.Spec PyProof.Rows L2
section
variable {X : Cx}
theorem op_mul_str : OpR X (binaryOp .Mult) (fun x y H Q => ∃ z n, x = .str z ∧ y = .int n ∧ MulOk z n ∧ Q (.str (Txt.mul z n)) H) := by
  intro pins s σ H x y v u Q I rx ry h
  obtain ⟨z, n, rfl, rfl, ok, q⟩ := h
  obtain ⟨t, rfl⟩ := rx
  obtain ⟨t', rfl⟩ := ry
  exact SB.mul ok fun t' k => ⟨.str (Txt.mul z n), H, I.tok _, ⟨_, rfl⟩, q⟩
end
/-- memory without p -/
def hole (p : Addr) (H : Hp) : Hp := fun b => if b = p then none else H b
theorem hole_ne {p b : Addr} {H : Hp} (h : b ≠ p) : hole p H b = H b := if_neg h
theorem hole_at {p : Addr} {H : Hp} : hole p H p = none := if_pos rfl
theorem hole_same {p : Addr} {H : Hp} : Same (hole p H) H := fun b o e => by
  by_cases z : b = p
  · subst z
    rw [hole_at] at e
    cases e
  · rwa [hole_ne z] at e
/-- v is the data d, by a part of memory that has no p -/
def Kp (K : PySem.W.Frag) (p : Addr) (H : Hp) (v : V) (d : PyData) : Prop := ∃ F, F p = none ∧ Same F H ∧ Dd K F v d
section
variable {K : PySem.W.Frag} {p : Addr} {H H' : Hp} {v : V} {d : PyData}
theorem Kp.same (h : Kp K p H v d) (s : Same H H') : Kp K p H' v d := h.elim fun F e => ⟨F, e.1, e.2.1.trans s, e.2.2⟩
theorem Kp.off (h : Kp K p H v d) (s : ∀ b o, b ≠ p → H b = some o → H' b = some o) : Kp K p H' v d := h.elim fun F e => ⟨F, e.1, fun b o z => s b o (fun y => by
  subst y
  rw [e.1] at z
  cases z) (e.2.1 b o z), e.2.2⟩
theorem Kp.dd (h : Kp K p H v d) : Dd K H v d := h.elim fun F e => Dd.same (fun b o z => e.2.1 b o z) e.2.2
theorem Kp.hole (h : Dd K (So.hole p H) v d) : Kp K p H v d := ⟨So.hole p H, hole_at, hole_same, h⟩
theorem Kp.at (h : Dd K H v d) (e : H p = none) (s : Same H H') : Kp K p H' v d := ⟨H, e, s, h⟩
theorem Kp.non : Kp K p H .non .none := .hole .non
theorem Kp.bl (b : Bool) : Kp K p H (.bl b) (.bool b) := .hole (.bl b)
theorem Kp.int (i : Int) : Kp K p H (.int i) (.int i) := .hole (.int i)
theorem Kp.str (z : Str) : Kp K p H (.str z) (.str z) := .hole (.str z)
end
end So

/-! how long what repr tells of data is, how deep it goes -/
namespace So
open PySem PySem.Spec PyProof.Rows L2
theorem shownAll_map' : ∀ ds : List PyData, PyData.shownAll ds = ds.map PyData.shown
  | [] => rfl
  | d :: r => by
    unfold PyData.shownAll
    rw [shownAll_map' r]
    rfl
theorem sum_le' {k : Nat} : ∀ ds : List PyData, (∀ d ∈ ds, d.shown.length ≤ k) → (((PyData.shownAll ds).map (·.length)).sum) ≤ k * ds.length
  | [], _ => by simp [PyData.shownAll]
  | d :: r, h => by
    have ih := sum_le' r fun x hx => h x (List.mem_cons_of_mem _ hx)
    have h1 := h d List.mem_cons_self
    unfold PyData.shownAll
    rw [List.map_cons, List.sum_cons, List.length_cons, Nat.mul_succ]
    omega
theorem len_all' (ds : List PyData) : (PyData.shownAll ds).length = ds.length := by rw [shownAll_map', List.length_map]
/-- data that shows in n letters, m deep -/
structure OkD (n m : Nat) (d : PyData) : Prop where
  show' : d.showable = true
  deep : d.depth ≤ m
  len : d.shown.length ≤ n
theorem OkD.mono {n m n' m' : Nat} {d : PyData} (h : OkD n m d) (h1 : n ≤ n') (h2 : m ≤ m') : OkD n' m' d := ⟨h.show', Nat.le_trans h.deep h2, Nat.le_trans h.len h1⟩
theorem okAll {n m : Nat} : ∀ {ds : List PyData}, (∀ d ∈ ds, OkD n m d) → PyData.showableAll ds = true ∧ PyData.depthAll ds ≤ m + 1
  | [], _ => ⟨rfl, by simp [PyData.depthAll]⟩
  | d :: r, h => by
    have ih := okAll (ds := r) fun x hx => h x (List.mem_cons_of_mem _ hx)
    have h1 := h d List.mem_cons_self
    refine ⟨?_, ?_⟩
    · simp only [PyData.showableAll, h1.show', ih.1, Bool.and_self]
    · simp only [PyData.depthAll]
      have := h1.deep
      have := ih.2
      omega
theorem OkD.list {n m : Nat} {ds : List PyData} (h : ∀ d ∈ ds, OkD n m d) : OkD (n * ds.length + 2 * ds.length + 3) (m + 2) (.list ds) := by
  have a := okAll h
  refine ⟨by simp only [PyData.showable]; exact a.1, by simp only [PyData.depth]; omega, ?_⟩
  have h1 := listText_len_le (PyData.shownAll ds)
  have h2 := sum_le' (k := n) ds fun d hd => (h d hd).len
  rw [len_all'] at h1
  show (listText (PyData.shownAll ds)).length ≤ _
  omega
theorem OkD.tuple {n m : Nat} {ds : List PyData} (h : ∀ d ∈ ds, OkD n m d) : OkD (n * ds.length + 2 * ds.length + 3) (m + 2) (.tuple ds) := by
  have a := okAll h
  refine ⟨by simp only [PyData.showable]; exact a.1, by simp only [PyData.depth]; omega, ?_⟩
  have h1 := tupleText_len_le (PyData.shownAll ds)
  have h2 := sum_le' (k := n) ds fun d hd => (h d hd).len
  rw [len_all'] at h1
  show (tupleText (PyData.shownAll ds)).length ≤ _
  omega
theorem OkD.int {i : Int} (h : i.natAbs < 2 ^ 250) : OkD 2000 0 (.int i) := by
  have hl : i.natAbs.log2 < 1920 := Nat.lt_of_lt_of_le (PySem.Flt.log2_lt_of (by decide) h) (by decide)
  refine ⟨by simp [PyData.showable, hl], Nat.zero_le _, ?_⟩
  show (Str.ofString (toString i)).length ≤ 2000
  rw [PyProof.Rows.ofString_length]
  exact Nat.le_trans (int_text_length_le (k := 1920) (by decide) hl) (by decide)
theorem OkD.bool (b : Bool) : OkD 2000 0 (.bool b) := ⟨rfl, Nat.zero_le _, by cases b <;> decide⟩
theorem OkD.none : OkD 2000 0 .none := ⟨rfl, Nat.zero_le _, by decide⟩
theorem OkD.str {z : Str} (h : ∀ c ∈ z.cps.toList, c < 128) (hl : z.length ≤ 100) : OkD 2000 0 (.str z) := by
  refine ⟨rfl, Nat.zero_le _, ?_⟩
  have h1 := PySem.StrLaws.reprText_len z (fun c hc => Nat.lt_trans (h c hc) (by decide))
  show (reprText z).length ≤ 2000
  omega
/-- the same texts of the same data -/
theorem OkD.repr {n m : Nat} {d : PyData} (h : OkD n m d) (h1 : m ≤ 60) (h2 : n ≤ 16777216) : d.showable = true ∧ d.depth ≤ 60 ∧ d.shown.length ≤ sizeLine := ⟨h.show', Nat.le_trans h.deep h1, by rw [sizeLine_eq]; exact Nat.le_trans h.len h2⟩
end So

/-! memory without the tables of code objects -/
namespace So
open PySem PySem.Spec PyProof.Rows L2 LamX
def unt (H : Hp) : Hp := fun b => match H b with
  | some (.tbl _) => none
  | o => o
theorem unt_get {H : Hp} {b : Addr} {o : HO} (h : H b = some o) (n : ∀ ps, o ≠ .tbl ps) : unt H b = some o := by
  unfold unt
  rw [h]
  cases o with
  | tbl ps => exact absurd rfl (n ps)
  | _ => rfl
theorem unt_of {H : Hp} {b : Addr} {o : HO} (h : unt H b = some o) : H b = some o ∧ ∀ ps, o ≠ .tbl ps := by
  unfold unt at h
  cases e : H b with
  | none => rw [e] at h; cases h
  | some u =>
    rw [e] at h
    cases u with
    | tbl ps => cases h
    | _ => cases h; exact ⟨rfl, fun ps z => nomatch z⟩
theorem unt_none {H : Hp} {b : Addr} (h : H b = none) : unt H b = none := by
  unfold unt
  rw [h]
theorem unt_same (H : Hp) : Same (unt H) H := fun b o e => (unt_of e).1
theorem unt_ext {H H' : Hp} (e : ExtN H H') : Same (unt H) H' := fun b o h => e b o (unt_of h).1 (unt_of h).2
theorem unt_mono {F H : Hp} (s : Same F H) : Same (unt F) (unt H) := fun b o h => unt_get (s _ _ (unt_of h).1) (unt_of h).2
theorem rd_unt {H : Hp} {a : Addr} {u : HO} (h : Rd H a u) (n : ∀ ps, u ≠ .tbl ps) : Rd (unt H) a u := by
  rcases h with h | ⟨o, h⟩
  · exact .inl (unt_get h n)
  · exact .inr ⟨o, unt_get h fun ps z => nomatch z⟩
theorem sql_unt {K : PySem.W.Frag} {H : Hp} {a : Addr} {xs : List V} (h : SqL K H a xs) : SqL K (unt H) a xs := by
  rcases h with h | h
  · exact .inl (rd_unt h fun ps z => nomatch z)
  · exact .inr h
theorem sqt_unt {K : PySem.W.Frag} {H : Hp} {a : Addr} {xs : List V} (h : SqT K H a xs) : SqT K (unt H) a xs := by
  rcases h with h | h
  · exact .inl (rd_unt h fun ps z => nomatch z)
  · exact .inr h
mutual
theorem dd_unt {K : PySem.W.Frag} {H : Hp} : ∀ {d : PyData} {v : V}, Dd K H v d → Dd K (unt H) v d
  | _, _, .non => .non
  | _, _, .bl b => .bl b
  | _, _, .int i => .int i
  | _, _, .str x => .str x
  | _, _, .lst e h => .lst (sql_unt e) (ddAll_unt h)
  | _, _, .tup e h => .tup (sqt_unt e) (ddAll_unt h)
  | _, _, .dct e h => .dct (unt_get e fun ps z => nomatch z) (ddKv_unt h)
theorem ddAll_unt {K : PySem.W.Frag} {H : Hp} : ∀ {ds : List PyData} {vs : List V}, DdAll K H vs ds → DdAll K (unt H) vs ds
  | _, _, .nil => .nil
  | _, _, .cons h t => .cons (dd_unt h) (ddAll_unt t)
theorem ddKv_unt {K : PySem.W.Frag} {H : Hp} : ∀ {ds : List (PyData × PyData)} {vs : List (Key × V)}, DdKv K H vs ds → DdKv K (unt H) vs ds
  | _, _, .nil => .nil
  | _, _, .cons h t => .cons (dd_unt h) (ddKv_unt t)
end
theorem Kp.extN {K : PySem.W.Frag} {p : Addr} {H H' : Hp} {v : V} {d : PyData} (h : Kp K p H v d) (e : ExtN H H') : Kp K p H' v d := by
  obtain ⟨F, h1, h2, h3⟩ := h
  exact ⟨unt F, unt_none h1, (unt_mono h2).trans (unt_ext e), dd_unt h3⟩
end So

/-! texts of signs that are code points: how long what repr tells of them is -/
namespace So
open PySem PySem.Spec PyProof.Rows L2
def Wd (z : Str) : Prop := ∀ c ∈ z.cps.toList, c < 0x110000
theorem wd_of (s : String) : Wd (Str.ofString s) := by
  intro c hc
  rw [Str.ofString_eq_toList] at hc
  obtain ⟨x, _, rfl⟩ := List.mem_map.mp (show c ∈ s.toList.map Char.toNat by simpa using hc)
  have h : x.toNat < 1114112 := by
    have := x.valid
    unfold UInt32.isValidChar Nat.isValidChar at this
    show x.val.toNat < _
    omega
  exact h
theorem wd_app {a b : Str} (ha : Wd a) (hb : Wd b) : Wd (a ++ b) := by
  intro c hc
  have e : (a ++ b).cps.toList = a.cps.toList ++ b.cps.toList := by
    show (a.cps ++ b.cps).toList = _
    simp
  rw [e] at hc
  exact (List.mem_append.mp hc).elim (ha c) (hb c)
theorem wd_strOk {z : Str} (h : Wd z) : PyData.strOk z = true := by
  unfold PyData.strOk
  rw [Array.all_eq_true']
  intro c hc
  exact decide_eq_true (h c (by simpa using hc))
theorem wd_empty : Wd Str.empty := fun c hc => by cases hc
theorem wd_sjoin {a : Str} (ha : Wd a) : ∀ {ys : List Str}, (∀ y ∈ ys, Wd y) → Wd (Str.join a ys)
  | [], _ => wd_empty
  | [x], h => h x List.mem_cons_self
  | x :: y :: r, h => wd_app (wd_app (h x List.mem_cons_self) ha) (wd_sjoin ha fun z hz => h z (List.mem_cons_of_mem _ hz))
theorem wd_join {a : Str} (ha : Wd a) {ys : List Str} (h : ∀ y ∈ ys, Wd y) : Wd (Txt.join a ys) := by
  rw [TL.join_eq]
  exact wd_sjoin ha h
theorem sjoin_len (a : Str) : ∀ ys : List Str, (Str.join a ys).length ≤ (ys.map (·.length)).sum + ys.length * a.length
  | [] => Nat.zero_le _
  | [x] => by simp [Str.join]
  | x :: y :: r => by
    have ih := sjoin_len a (y :: r)
    have e1 : (Str.join a (x :: y :: r)).length = x.length + a.length + (Str.join a (y :: r)).length := by
      show (x ++ a ++ Str.join a (y :: r)).length = _
      rw [PyProof.Rows.len_cat, PyProof.Rows.len_cat]
    rw [e1, List.map_cons, List.sum_cons, List.length_cons, Nat.succ_mul]
    omega
theorem join_len (a : Str) (ys : List Str) : (Txt.join a ys).length ≤ (ys.map (·.length)).sum + ys.length * a.length := by
  rw [TL.join_eq]
  exact sjoin_len a ys
theorem OkD.strW {z : Str} {n : Nat} (h : Wd z) (hl : z.length ≤ n) : OkD (10 * n + 2) 0 (.str z) := by
  refine ⟨rfl, Nat.zero_le _, ?_⟩
  have h1 := PySem.StrLaws.reprText_len z fun c hc => Nat.lt_trans (h c hc) (by decide)
  show (reprText z).length ≤ _
  omega
end So

namespace K11
open PySem PySem.Spec PyProof.Rows L2 So LamX
abbrev sTick : Stmt := topS 50
abbrev sKinds : Stmt := topS 51
abbrev sDrawn : Stmt := topS 52
abbrev drawnN : List Str := ["_law_pen_here", "_law_crew", "_law_kinds_here", "_law_kind", "_law_left", "_law_right_here", "_law_tick_here", "_law_far"]
theorem scTick : FnScope ["_law_pen_here", "_law_some"] ["_law_pen_here"] (defScope sTick) := ⟨rfl, rfl, rfl, by decide +kernel, rfl, by decide +kernel, by decide +kernel⟩
theorem scKinds : FnScope ["_law_some"] [] (defScope sKinds) := ⟨rfl, rfl, rfl, by decide +kernel, rfl, by decide +kernel, by decide +kernel⟩
theorem scDrawn : FnScope drawnN ["_law_pen_here", "_law_crew", "_law_kinds_here"] (defScope sDrawn) := ⟨rfl, rfl, rfl, by decide +kernel, rfl, by decide +kernel, by decide +kernel⟩
theorem Pen.same {H H' : Hp} {p l : Addr} {ns : List Int} {n : Nat} {g : Int} (h : Pen H p l ns n g) (s : Same H H') : Pen H' p l ns n g := ⟨s _ _ h.pen, s _ _ h.cells, h.left⟩
theorem Pen.ne {H : Hp} {p l q : Addr} {ns : List Int} {n : Nat} {g : Int} (h : Pen H p l ns n g) (hq : H q = none) : q ≠ p := (ne_of_none h.pen hq).symm
theorem offS {p : Addr} {H H' : Hp} (s : Same H H') : Off p H H' := fun b o _ e => s b o e
/-! ### a drawn row -/
/-- a value that lies in no memory: a name, a moment, a truth -/
inductive Flat1 : V → Prop where
  | nam {z : Str} (h : isName z = true) : Flat1 (.str z)
  | mom {i : Int} (h : 0 ≤ i ∧ i ≤ 1000000000000000000000000000000) : Flat1 (.int i)
  | tru (b : Bool) : Flat1 (.bl b)
def FlatRow (kind : Str) (xs : List V) : Prop := xs.length = (formsOf kind).length ∧ ∀ q ∈ xs.zip (formsOf kind), okF q.2 q.1 = true ∧ Flat1 q.1
section
variable {P : Program} {w : World} {K : PySem.W.Frag} {mg : Str → Option Value} {base : Heap}
def spTick : Sp := fun vs H Q _ => ∃ (p l : Addr) (ns : List Int) (n : Nat) (g : Int), vs = [.ref p] ∧ Pen H p l ns n g ∧ n < 999000 ∧
  ∀ (i : Int) (n' : Nat) (g' : Int) (H' : Hp), 0 ≤ i → i ≤ 1000000000000000000000000000000 → n' ≤ n + 3 → Off p H H' → Pen H' p l ns n' g' → Q (.int i) H'
theorem ok_tick {f fP fD : Addr} {fd fdP fdD : FuncData} (F : Fun K "_law_tick" "_law_tick" sTick f fd) (FP : Fun K "_law_pick" "_law_pick" sPick fP fdP) (bP : Binds K fdP ["_law_pen_here", "_law_some"] []) (gP : mg "_law_pick" = some (.ref fP)) (GP : FnOk P w K mg base CX0 2 fP fdP ["_law_pen_here", "_law_some"] (spPick K))
    (FD : Fun K "_law_draw" "_law_draw" sDraw fD fdD) (bD : Binds K fdD ["_law_pen_here", "_law_many"] []) (gD : mg "_law_draw" = some (.ref fD)) (GD : FnOk P w K mg base CX0 1 fD fdD ["_law_pen_here", "_law_many"] spDraw) : FnOk P w K mg base CX0 3 f fd ["_law_pen_here"] spTick := by
  refine F.ok scTick (fun vs H Q E h => ?_) (fun cdv A outer s H vs Q E hr h => ?_)
  · obtain ⟨p, l, ns, n, g, rfl, _⟩ := h
    rfl
  · obtain ⟨p, l, ns, n, g, rfl, hp, hn, k⟩ := h
    have hr1 : Room 1 _ := hr.mono (by decide)
    refine ⟨_, pss_cons (ps_set (i := 1) scTick.nd rfl (.inl rfl) (pe_lst (pa_cons pe_int (pa_cons pe_int (pa_cons pe_int (pa_cons pe_int (pa_cons pe_int (pa_cons pe_int (pa_cons pe_int (pa_cons pe_int (pa_cons (pe_op op_pow pe_int pe_int) (pa_cons (pe_op op_sub (pe_op op_pow pe_int pe_int) pe_int) pa_nil))))))))))))
      (pss_one (ps_ret (pe_call GP hr (by rfl) gP FP.kp bP .nil pass0 (pa_cons (pv 0) (pa_cons (pe_op op_cat (pv 1) (pe_lst (pa_cons (pe_call GD hr1 (by rfl) gD FD.kp bD .nil pass0 (pa_cons (pv 0) (pa_cons pe_int pa_nil))) (pa_cons (pe_call GD hr1 (by rfl) gD FD.kp bD .nil pass0 (pa_cons (pv 0) (pa_cons (pe_op op_pow pe_int pe_int) pa_nil))) pa_nil)))) pa_nil))))), ?_⟩
    refine ⟨_, _, rfl, rfl, ⟨by decide, by decide, by decide⟩, _, _, rfl, rfl, ⟨by decide, by decide, by decide⟩, _, _, rfl, rfl, by show 10 ≤ sizeLine; decide, fun s1 h1 => ?_⟩
    have hp1 := hp.new (o := .lst [V.int 0, .int 1, .int 2, .int 3, .int 4, .int 5, .int 6, .int 8, .int ((10 : Int) ^ Int.toNat 30), .int ((10 : Int) ^ Int.toNat 30 - 1)]) h1
    have nsp := hp.ne h1
    refine ⟨_, rfl, _, rfl, _, rfl, p, l, ns, n, g, _, rfl, hp1, by omega, by decide, by decide, fun d1 n2 g2 H2 d10 d11 hn2 off2 pen2 => ?_⟩
    refine ⟨_, rfl, _, _, rfl, rfl, ⟨by decide, by decide, by decide⟩, p, l, ns, n2, g2, _, rfl, pen2, by omega, by decide +kernel, by decide +kernel, fun d2 n3 g3 H3 d20 d21 hn3 off3 pen3 => ?_⟩
    replace d21 : d2 < 1000000000000000000000000000000 := d21
    have hS3 := off3 _ _ nsp (off2 _ _ nsp (show (upd H s1 (.lst [V.int 0, .int 1, .int 2, .int 3, .int 4, .int 5, .int 6, .int 8, .int ((10 : Int) ^ Int.toNat 30), .int ((10 : Int) ^ Int.toNat 30 - 1)])) s1 = _ from upd_same))
    refine ⟨by show 2 ≤ sizeLine; decide, fun s2 h2 => ⟨s1, s2, _, _, rfl, rfl, same_upd0 h2 _ _ hS3, upd_same, by show 12 ≤ sizeLine; decide, fun s3 h3 => ?_⟩⟩
    have s23 := (same_upd0 (o := .lst [.int d1, .int d2]) h2).trans (same_upd0 (o := .lst ([V.int 0, .int 1, .int 2, .int 3, .int 4, .int 5, .int 6, .int 8, .int ((10 : Int) ^ Int.toNat 30), .int ((10 : Int) ^ Int.toNat 30 - 1)] ++ [.int d1, .int d2])) h3)
    have offA : Off p H H3 := (offS (same_upd0 h1)).trans (off2.trans off3)
    refine ⟨p, l, ns, n3, g3, _, rfl, pen3.same s23, by omega, .inl ⟨s3, _, rfl, (pen3.same (same_upd0 h2)).ne h3, upd_same, by show 0 < 12; decide, by show 12 ≤ 1000; decide, fun v n4 g4 H4 hv hn4 off4 pen4 => ?_⟩⟩
    have offB := (offA.trans (offS s23)).trans off4
    have hv' : v ∈ [V.int 0, .int 1, .int 2, .int 3, .int 4, .int 5, .int 6, .int 8, .int ((10 : Int) ^ Int.toNat 30), .int ((10 : Int) ^ Int.toNat 30 - 1), .int d1, .int d2] := hv
    simp only [List.mem_cons, List.not_mem_nil, or_false] at hv'
    rcases hv' with h | h | h | h | h | h | h | h | h | h | h | h <;> subst h
    · exact k _ n4 g4 H4 (by decide) (by decide) (by omega) offB pen4
    · exact k _ n4 g4 H4 (by decide) (by decide) (by omega) offB pen4
    · exact k _ n4 g4 H4 (by decide) (by decide) (by omega) offB pen4
    · exact k _ n4 g4 H4 (by decide) (by decide) (by omega) offB pen4
    · exact k _ n4 g4 H4 (by decide) (by decide) (by omega) offB pen4
    · exact k _ n4 g4 H4 (by decide) (by decide) (by omega) offB pen4
    · exact k _ n4 g4 H4 (by decide) (by decide) (by omega) offB pen4
    · exact k _ n4 g4 H4 (by decide) (by decide) (by omega) offB pen4
    · exact k _ n4 g4 H4 (by decide +kernel) (by decide +kernel) (by omega) offB pen4
    · exact k _ n4 g4 H4 (by decide +kernel) (by decide +kernel) (by omega) offB pen4
    · exact k _ n4 g4 H4 d10 (by omega) (by omega) offB pen4
    · exact k _ n4 g4 H4 d20 (by omega) (by omega) offB pen4
theorem okF_n (v : V) : okF "name" v = gNam v := by unfold okF; rw [if_pos rfl]
theorem okF_m (v : V) : okF "moment" v = gMom v := by unfold okF; rw [if_neg (by decide +kernel), if_pos rfl]
theorem okF_b (v : V) : okF "beginning" v = gBeg v := by unfold okF; rw [if_neg (by decide +kernel), if_neg (by decide +kernel), if_pos rfl]
theorem okF_t (v : V) : okF "truth" v = gTru v := by unfold okF; rw [if_neg (by decide +kernel), if_neg (by decide +kernel), if_neg (by decide +kernel)]
theorem row_of {kind : Str} {fo : List Str} {xs : List V} (e : formsOf kind = fo) (hl : xs.length = fo.length) (h : ∀ q ∈ xs.zip fo, okF q.2 q.1 = true ∧ Flat1 q.1) : FlatRow kind xs := by
  unfold FlatRow
  rw [e]
  exact ⟨hl, h⟩
theorem nam_ok {z : Str} (h : isName z = true) : okF "name" (.str z) = true ∧ Flat1 (.str z) := ⟨by rw [okF_n]; exact h, .nam h⟩
theorem mom_ok {i : Int} (h : 0 ≤ i ∧ i ≤ 1000000000000000000000000000000) : okF "moment" (.int i) = true ∧ Flat1 (.int i) := ⟨by rw [okF_m]; exact decide_eq_true h, .mom h⟩
theorem beg_ok {i : Int} (h : 1 ≤ i ∧ i ≤ 1000000000000000000000000000000) : okF "beginning" (.int i) = true ∧ Flat1 (.int i) := ⟨by rw [okF_b]; exact decide_eq_true h, .mom ⟨by omega, h.2⟩⟩
theorem tru_ok (b : Bool) : okF "truth" (.bl b) = true ∧ Flat1 (.bl b) := ⟨by rw [okF_t]; rfl, .tru b⟩
theorem kinds_last : ∀ kind ∈ kinds, ¬ kind = "begun" → ¬ kind = "trusted" → ¬ kind = "found" → (["setby", "passed", "failed"] : List Str).contains kind = false → formsOf kind = (["name", "moment", "name", "moment"] : List Str) := by decide +kernel
theorem kinds_three : ∀ kind ∈ kinds, (["setby", "passed", "failed"] : List Str).contains kind = true → (kind = "setby" ∧ formsOf kind = (["name", "beginning", "name"] : List Str)) ∨ formsOf kind = (["name", "moment", "name"] : List Str) := by decide +kernel
/-- a row walked by itself: what follows it is said once -/
theorem ps_cut {X : Cx} {st : Stmt} {t : TS} (h : PS X st t) : PS X st (fun D σ H => ∃ N : L2.St → Hp → Prop, t { D with nx := N } σ H ∧ ∀ σ' H', N σ' H' → D.nx σ' H') :=
  ⟨fun pins s σ H D I ⟨N, h1, h2⟩ => wpAny_mono (h.run pins s σ H { D with nx := N } I h1) (fun fl s' z => by
    cases fl with
    | next =>
      obtain ⟨σ', H', I', q⟩ := z
      exact ⟨σ', H', I', h2 _ _ q⟩
    | ret v => exact z
    | brk => exact z
    | cont => exact z) fun _ _ z => z⟩
/-- the kinds, in a new list -/
def spKinds : Sp := fun vs H Q _ => vs = [] ∧ ∀ (H' : Hp) (a : Addr), Same H H' → H a = none → H' a = some (.lst (kinds.map V.str)) → Q (.ref a) H'
theorem ok_kinds {f : Addr} {fd : FuncData} (F : Fun K "_law_kinds" "_law_kinds" sKinds f fd) : FnOk P w K mg base CX0 1 f fd [] spKinds := by
  refine F.ok scKinds (fun vs H Q E h => ?_) (fun cdv A outer s H vs Q E hr h => ?_)
  · obtain ⟨rfl, _⟩ := h
    rfl
  · obtain ⟨rfl, q⟩ := h
    refine ⟨_, pss_cons (ps_set (i := 0) scKinds.nd rfl (.inl rfl) (pe_lst (pa_cons pe_str (pa_cons pe_str (pa_cons pe_str (pa_cons pe_str (pa_cons pe_str (pa_cons pe_str pa_nil))))))))
      (pss_one (ps_ret (pe_op op_cat (pv 0) (pe_lst (pa_cons pe_str (pa_cons pe_str (pa_cons pe_str (pa_cons pe_str pa_nil)))))))), ?_⟩
    refine ⟨by show 6 ≤ sizeLine; decide, fun a ha => ?_⟩
    refine ⟨_, rfl, by show 4 ≤ sizeLine; decide, fun b hb => ?_⟩
    refine ⟨a, b, _, _, rfl, rfl, (upd_ne (ne_of_none upd_same hb)).trans upd_same, upd_same, by show 10 ≤ sizeLine; decide, fun c hc => ?_⟩
    exact q _ c (same3 ha hb hc).1 (same3 (o3 := .lst []) ha hb hc).2 upd_same
def spDrawn : Sp := fun vs H Q _ => ∃ (p l cr kk : Addr) (ns : List Int) (n : Nat) (g : Int) (kind : Str) (zs : List Str), vs = [.ref p, .ref cr, .ref kk] ∧ Pen H p l ns n g ∧ n < 900000 ∧ kind ∈ kinds ∧ H kk = some (.lst [.str kind]) ∧ kk ≠ p ∧ H cr = some (.lst (zs.map V.str)) ∧ cr ≠ p ∧ 0 < zs.length ∧ zs.length ≤ 1000 ∧ (∀ z ∈ zs, isName z = true) ∧
  ∀ (xs : List V) (tr : Addr) (n' : Nat) (g' : Int) (H' : Hp), FlatRow kind xs → n' ≤ n + 12 → Off p H H' → Pen H' p l ns n' g' → H' tr = some (.tup (.str kind :: xs)) → Q (.ref tr) H'
theorem ok_drawn {f fP fD fT : Addr} {fd fdP fdD fdT : FuncData} (F : Fun K "_law_drawn" "_law_drawn" sDrawn f fd) (mi : mg "int" = none) (FP : Fun K "_law_pick" "_law_pick" sPick fP fdP) (bP : Binds K fdP ["_law_pen_here", "_law_some"] []) (gP : mg "_law_pick" = some (.ref fP)) (GP : FnOk P w K mg base CX0 2 fP fdP ["_law_pen_here", "_law_some"] (spPick K))
    (FD : Fun K "_law_draw" "_law_draw" sDraw fD fdD) (bD : Binds K fdD ["_law_pen_here", "_law_many"] []) (gD : mg "_law_draw" = some (.ref fD)) (GD : FnOk P w K mg base CX0 1 fD fdD ["_law_pen_here", "_law_many"] spDraw)
    (FT : Fun K "_law_tick" "_law_tick" sTick fT fdT) (bT : Binds K fdT ["_law_pen_here"] []) (gT : mg "_law_tick" = some (.ref fT)) (GT : FnOk P w K mg base CX0 3 fT fdT ["_law_pen_here"] spTick) : FnOk P w K mg base CX0 4 f fd ["_law_pen_here", "_law_crew", "_law_kinds_here"] spDrawn := by
  refine F.ok scDrawn (fun vs H Q E h => ?_) (fun cdv A outer s H vs Q E hr h => ?_)
  · obtain ⟨_, _, _, _, _, _, _, _, _, rfl, _⟩ := h
    rfl
  · obtain ⟨p, l, cr, kk, ns, n, g, kind, zs, rfl, hp, hn, hk, hkk, nkp, hcr, ncp, i1, i2, i3, q⟩ := h
    have hr1 : Room 1 _ := hr.mono (by decide)
    have hr2 : Room 2 _ := hr.mono (by decide)
    refine ⟨_, pss_cons (ps_set (i := 3) scDrawn.nd rfl (.inl rfl) (pe_call GP hr2 (by rfl) gP FP.kp bP .nil pass0 (pa_cons (pv 0) (pa_cons (pv 2) pa_nil))))
      (pss_cons (ps_par (i := 4) (j := 5) (by rfl) scDrawn.nd rfl rfl (by decide) rfl rfl (pa_cons (pe_call GP hr2 (by rfl) gP FP.kp bP .nil pass0 (pa_cons (pv 0) (pa_cons (pv 1) pa_nil))) (pa_cons (pe_call GP hr2 (by rfl) gP FP.kp bP .nil pass0 (pa_cons (pv 0) (pa_cons (pv 1) pa_nil))) pa_nil)) (by rfl))
      (pss_cons (ps_par (i := 6) (j := 7) (by rfl) scDrawn.nd rfl rfl (by decide) rfl rfl (pa_cons (pe_call GT hr (by rfl) gT FT.kp bT .nil pass0 (pa_cons (pv 0) pa_nil)) (pa_cons (pe_call GT hr (by rfl) gT FT.kp bT .nil pass0 (pa_cons (pv 0) pa_nil)) pa_nil)) (by rfl))
      (pss_cons (ps_cut (ps_if (pt_cmpR op_in_seq (pv 3) (pe_tup (pa_cons pe_str (pa_cons pe_str pa_nil))) (by rfl)) (pss_one (ps_set (i := 6) scDrawn.nd rfl (.inl rfl) (pe_op op_add (pv 6) (pe_callTy call_int1 (by rfl) mi (by decide +kernel) (pa_cons (pe_cmpR op_eq (pv 6) pe_int (nomark _)) pa_nil))))) pss_nil))
      (pss_cons (ps_if (pt_cmpR op_eq (pv 3) pe_str (nomark _)) (pss_one (ps_ret (pe_tup (pa_cons (pv 3) (pa_cons (pv 4) (pa_cons (pv 6) pa_nil)))))) pss_nil)
      (pss_cons (ps_if (pt_cmpR op_eq (pv 3) pe_str (nomark _)) (pss_one (ps_ret (pe_tup (pa_cons (pv 3) (pa_cons (pv 4) pa_nil))))) pss_nil)
      (pss_cons (ps_if (pt_cmpR op_eq (pv 3) pe_str (nomark _)) (pss_one (ps_ret (pe_tup (pa_cons (pv 3) (pa_cons (pv 4) (pa_cons (pv 6) (pa_cons (pe_cmpR op_eq (pe_call GD hr1 (by rfl) gD FD.kp bD .nil pass0 (pa_cons (pv 0) (pa_cons pe_int pa_nil))) pe_int (nomark _)) pa_nil))))))) pss_nil)
      (pss_cons (ps_if (pt_cmpR op_in_seq (pv 3) (pe_tup (pa_cons pe_str (pa_cons pe_str (pa_cons pe_str pa_nil)))) (by rfl)) (pss_one (ps_ret (pe_tup (pa_cons (pv 3) (pa_cons (pv 4) (pa_cons (pv 6) (pa_cons (pv 5) pa_nil))))))) pss_nil)
      (pss_one (ps_ret (pe_tup (pa_cons (pv 3) (pa_cons (pv 4) (pa_cons (pv 6) (pa_cons (pv 5) (pa_cons (pv 7) pa_nil))))))))))))))), ?_⟩
    refine ⟨_, rfl, _, rfl, p, l, ns, n, g, _, rfl, hp, by omega, .inl ⟨kk, _, rfl, nkp, hkk, by show 0 < 1; decide, by show 1 ≤ 1000; decide, fun v n1 g1 H1 hv hn1 off1 pen1 => ?_⟩⟩
    obtain rfl : v = .str kind := by simpa using hv
    have hcr1 := off1 _ _ ncp hcr
    have nm : ∀ v ∈ zs.map V.str, ∃ z, v = .str z ∧ isName z = true := fun v hv => by
      obtain ⟨z, hz, rfl⟩ := List.mem_map.mp hv
      exact ⟨z, rfl, i3 z hz⟩
    have zl1 : 0 < (zs.map V.str).length := by rw [List.length_map]; exact i1
    have zl2 : (zs.map V.str).length ≤ 1000 := by rw [List.length_map]; exact i2
    refine ⟨_, rfl, _, rfl, p, l, ns, n1, g1, _, rfl, pen1, by omega, .inl ⟨cr, _, rfl, ncp, hcr1, zl1, zl2, fun v2 n2 g2 H2 hv2 hn2 off2 pen2 => ?_⟩⟩
    obtain ⟨zl, rfl, il⟩ := nm v2 hv2
    refine ⟨_, rfl, _, rfl, p, l, ns, n2, g2, _, rfl, pen2, by omega, .inl ⟨cr, _, rfl, ncp, off2 _ _ ncp hcr1, zl1, zl2, fun v3 n3 g3 H3 hv3 hn3 off3 pen3 => ?_⟩⟩
    obtain ⟨zr, rfl, ir⟩ := nm v3 hv3
    refine ⟨_, _, rfl, ?_⟩
    refine ⟨_, rfl, p, l, ns, n3, g3, rfl, pen3, by omega, fun t1 n4 g4 H4 t10 t11 hn4 off4 pen4 => ⟨_, rfl, p, l, ns, n4, g4, rfl, pen4, by omega, fun t2 n5 g5 H5 t20 t21 hn5 off5 pen5 => ⟨_, _, rfl, ?_⟩⟩⟩
    have offA := off1.trans (off2.trans (off3.trans (off4.trans off5)))
    refine ⟨fun σ G => ∃ t : Int, σ = [some (.ref p), some (.ref cr), some (.ref kk), some (.str kind), some (.str zl), some (.str zr), some (.int t), some (.int t2)] ∧ 0 ≤ t ∧ t ≤ 1000000000000000000000000000000 ∧ ((["begun", "setby"] : List Str).contains kind = true → 1 ≤ t) ∧ Same H5 G, ?_, ?_⟩
    · refine ⟨_, rfl, by show 2 ≤ sizeLine; decide, fun tp htp => ⟨tp, _, rfl, .inr (SqT.of upd_same), rfl, flat_strs ["begun", "setby"], ?_⟩⟩
      have s6 := same_upd0 (o := .tup [.str "begun", .str "setby"]) htp
      rw [show (if false = true then !inV (V.str kind) [V.str "begun", V.str "setby"] else inV (V.str kind) [V.str "begun", V.str "setby"]) = (["begun", "setby"] : List Str).contains kind from inV_strs kind ["begun", "setby"]]
      refine ⟨_, rfl, ite2 (fun c => ?_) (fun c => ?_)⟩
      · refine ⟨_, rfl, _, rfl, rfl, .inr ⟨_, rfl, ?_⟩⟩
        by_cases z : t1 = 0
        · subst z
          exact ⟨_, _, rfl, by rw [decide_eq_true rfl]; rfl, 0 + 1, rfl, by omega, by omega, fun _ => by omega, s6⟩
        · refine ⟨_, _, rfl, by rw [decide_eq_false (fun y => z (V.int.inj y))]; rfl, t1 + 0, rfl, by omega, by omega, fun _ => by omega, s6⟩
      · exact ⟨t1, rfl, t10, t11, fun y => absurd y c, s6⟩
    rintro σ H6 ⟨t, rfl, t0, t3, tb, s6⟩
    have offB := offA.trans (offS s6)
    have pen6 := pen5.same s6
    have fin : ∀ {xs : List V} {tr : Addr} {n7 : Nat} {g7 : Int} {G : Hp}, FlatRow kind xs → n7 ≤ n + 12 → Off p H6 G → Pen G p l ns n7 g7 → G tr = none → Q (.ref tr) (upd G tr (.tup (.str kind :: xs))) := fun hf h7 ho hp7 htr => q _ _ _ _ _ hf h7 (offB.trans (ho.trans (offS (same_upd0 htr)))) (hp7.same (same_upd0 htr)) upd_same
    refine ⟨_, rfl, rfl, _, rfl, ite2 (fun e => ?_) (fun e1 => ?_)⟩
    · obtain rfl : kind = "begun" := V.str.inj (of_decide_eq_true e)
      refine ⟨_, rfl, _, rfl, _, rfl, by show 3 ≤ sizeLine; decide, fun tr htr => fin (row_of (fo := ["name", "beginning"]) (by decide +kernel) rfl ?_) (by omega) Off.refl pen6 htr⟩
      simp only [List.zip_cons_cons, List.zip_nil_right, List.forall_mem_cons]
      exact ⟨nam_ok il, beg_ok ⟨tb (by decide +kernel), t3⟩, fun _ h => nomatch h⟩
    have k1 : ¬ kind = "begun" := fun z => e1 (decide_eq_true (by rw [z]))
    refine ⟨_, rfl, rfl, _, rfl, ite2 (fun e => ?_) (fun e2 => ?_)⟩
    · obtain rfl : kind = "trusted" := V.str.inj (of_decide_eq_true e)
      refine ⟨_, rfl, _, rfl, by show 2 ≤ sizeLine; decide, fun tr htr => fin (row_of (fo := ["name"]) (by decide +kernel) rfl ?_) (by omega) Off.refl pen6 htr⟩
      simp only [List.zip_cons_cons, List.zip_nil_right, List.forall_mem_cons]
      exact ⟨nam_ok il, fun _ h => nomatch h⟩
    have k2 : ¬ kind = "trusted" := fun z => e2 (decide_eq_true (by rw [z]))
    refine ⟨_, rfl, rfl, _, rfl, ite2 (fun e => ?_) (fun e3 => ?_)⟩
    · obtain rfl : kind = "found" := V.str.inj (of_decide_eq_true e)
      refine ⟨_, rfl, _, rfl, _, rfl, _, rfl, p, l, ns, n5, g5, _, rfl, pen6, by omega, by decide, by decide, fun d n7 g7 H7 _ _ hn7 off7 pen7 => ⟨rfl, by show 4 ≤ sizeLine; decide, fun tr htr => fin (row_of (fo := ["name", "moment", "truth"]) (by decide +kernel) rfl ?_) (by omega) off7 pen7 htr⟩⟩
      simp only [List.zip_cons_cons, List.zip_nil_right, List.forall_mem_cons]
      exact ⟨nam_ok il, mom_ok ⟨t0, t3⟩, tru_ok _, fun _ h => nomatch h⟩
    have k3 : ¬ kind = "found" := fun z => e3 (decide_eq_true (by rw [z]))
    refine ⟨_, rfl, by show 3 ≤ sizeLine; decide, fun tp htp => ⟨tp, _, rfl, .inr (SqT.of upd_same), rfl, flat_strs ["setby", "passed", "failed"], ?_⟩⟩
    have s7 := same_upd0 (o := .tup [.str "setby", .str "passed", .str "failed"]) htp
    rw [show (if false = true then !inV (V.str kind) [V.str "setby", V.str "passed", V.str "failed"] else inV (V.str kind) [V.str "setby", V.str "passed", V.str "failed"]) = (["setby", "passed", "failed"] : List Str).contains kind from inV_strs kind ["setby", "passed", "failed"]]
    refine ⟨_, rfl, ite2 (fun c => ?_) (fun c => ?_)⟩
    · refine ⟨_, rfl, _, rfl, _, rfl, _, rfl, by show 4 ≤ sizeLine; decide, fun tr htr => fin ?_ (by omega) (offS s7) (pen6.same s7) htr⟩
      rcases kinds_three kind hk c with ⟨e, h⟩ | h
      · refine row_of h rfl ?_
        simp only [List.zip_cons_cons, List.zip_nil_right, List.forall_mem_cons]
        exact ⟨nam_ok il, beg_ok ⟨tb (by rw [e]; decide +kernel), t3⟩, nam_ok ir, fun _ h => nomatch h⟩
      · refine row_of h rfl ?_
        simp only [List.zip_cons_cons, List.zip_nil_right, List.forall_mem_cons]
        exact ⟨nam_ok il, mom_ok ⟨t0, t3⟩, nam_ok ir, fun _ h => nomatch h⟩
    · refine ⟨_, rfl, _, rfl, _, rfl, _, rfl, _, rfl, by show 5 ≤ sizeLine; decide, fun tr htr => fin (row_of (kinds_last kind hk k1 k2 k3 (Bool.eq_false_iff.mpr c)) rfl ?_) (by omega) (offS s7) (pen6.same s7) htr⟩
      simp only [List.zip_cons_cons, List.zip_nil_right, List.forall_mem_cons]
      exact ⟨nam_ok il, mom_ok ⟨t0, t3⟩, nam_ok ir, mom_ok ⟨t20, t21⟩, fun _ h => nomatch h⟩
end
end K11

namespace So
open PySem PySem.Spec PyProof.Rows L2
section
variable {X : Cx} {CX : CXT} {k : Nat} {C f : Addr} {fd : FuncData} {ps : List Str} {sp : Sp} {E : XK}
/-- o << n by an own __lshift__ -/
theorem op_lshOwn {fo ro : Option Value} (F : FnOk X.prog X.w X.K X.mg X.base CX k f fd ps sp) (hs : PySem.W.findIn X.K (.ref C) "__lshift__" = some (some (.ref f))) (hf : PySem.W.isFn X.K (.ref f) = true) (hb : Binds X.K fd ps []) (hx : Passes CX X E) (hr : Room k X.A)
    (hc : PySem.W.selfFirst X.K C = true) (hrl : PySem.W.findIn X.K (.ref C) "__rlshift__" = some none) (h1 : PySem.W.findIn X.K (.type "int") "__lshift__" = some fo) (h2 : PySem.W.findIn X.K (.type "int") "__rlshift__" = some ro) :
    OpR X (binaryOp .LShift) (fun x y H Q => ∃ (a dx : Addr) (fs : List (Str × V)) (n : Int), x = .ref a ∧ y = .int n ∧ H a = some (.ins C dx fs) ∧ sp [.ref a, .int n] H Q E) := by
  intro pins s σ H x y v u Q I rx ry h
  obtain ⟨a, dx, fs, n, rfl, rfl, ha, q⟩ := h
  cases rx
  obtain ⟨t, rfl⟩ := ry
  obtain ⟨mA, J, _⟩ := ins_get I.hok ha
  obtain ⟨od, J, _⟩ := J.look
  obtain ⟨m, hF⟩ := I.fr
  refine PySem.W.ksp_binT (op := .LShift) hF I.ok.mod.kin J (T := "int") rfl hc hs hf hrl (Or.inl rfl) h1 h2 (sub_ty (by decide +kernel)) ?_
  refine wpAny_mono (run_fn (us := [.ref a, .int n t]) (vs := [.ref a, .int n]) F hr hb .nil hx I (.cons rfl (.cons ⟨t, rfl⟩ .nil)) q) (fun w s' z => ?_) fun _ _ z => z
  obtain ⟨v, H', I', r, q'⟩ := z
  cases w <;> first | exact ⟨v, H', I', r, q'⟩ | (cases v <;> simp [L2.RelV] at r)
/-- isinstance(e, (c, ..)), e a kept exception -/
theorem call_isXoT : CallR X (.builtin "isinstance") (fun xs H Q => ∃ (a D dd tp : Addr) (fs : List (Str × V)) (cs : List V) (us : List Value) (b : Bool), xs = [.ref a, .ref tp] ∧ H a = some (Xo (.ref D) (some dd) a) ∧ H dd = some (.xd fs) ∧ Err X.K D ∧ H tp = some (.tup cs) ∧ Paired ClsV cs us ∧ PySem.W.kitAny X.K (.ref D) us = some b ∧ Q (.bl b) H) := by
  intro pins s σ H xs us Q I r h
  obtain ⟨a, D, dd, tp, fs, cs, ws, b, rfl, ha, hd, T, hT, cv, e, q⟩ := h
  obtain ⟨u1, u2, rfl, r1, r2⟩ := vals2 r
  cases r1
  cases r2
  obtain ⟨oe, vs, hg, hz, hdat⟩ := xo_at I.hok ha
  obtain ⟨mA, hns, _⟩ := (show ObjOk X.prog X.w H s.heap dd (.xd fs) from I.hok dd _ hd)
  obtain ⟨od, ho, _⟩ := lookIn_ns hns
  have nc : PySem.W.notCls oe = true := by
    unfold PySem.W.notCls
    rw [hdat]
  have J : PySem.W.InstAt s.heap a oe D (some od) := by
    refine ⟨hg, hz.1, nc, ?_⟩
    rw [hz.2]
    exact ho
  obtain ⟨_, its, rv, o, g1, g2, n, g3⟩ := (show ObjOk X.prog X.w H s.heap tp (.tup cs) from I.hok tp _ hT)
  have e3 := ClsV.all cv rv
  subst e3
  obtain ⟨oc, od', dt, sl⟩ := o
  simp only at g2 g3
  subst g2 g3
  exact PySem.W.kia_tup (kitx_err T) I.kIn ⟨oe, some od, J⟩ g1 e (fun z => nomatch z) fun tk => ⟨.bl b, H, I.tok tk, rfl, q⟩
end
/-! ### sorted, of pairs of texts -/
def encSS (p : Str × Str) : PyData := .tuple [.str p.1, .str p.2]
section
variable {X : Cx}
theorem cr_sortedSS (hu : X.A.units + 64 < cLine) : CallR X (.builtin "sorted") (fun xs H Q => ∃ (a : Addr) (ts : List (Addr × Str × Str)), xs = [.ref a] ∧ SqL X.K H a (ts.map fun t => V.ref t.1) ∧ (∀ t ∈ ts, H t.1 = some (.tup [.str t.2.1, .str t.2.2])) ∧
    ∀ (p : Addr) (ys : List (Addr × Str × Str)), H p = none → (∀ t ∈ ys, H t.1 = some (.tup [.str t.2.1, .str t.2.2])) → (ys.map fun t => t.2) = (ts.map fun t => t.2).mergeSort (PySem.W.dataLe false encSS) → Q (.ref p) (upd H p (.lst (ys.map fun t => V.ref t.1)))) := by
  intro pins s σ H xs us Q I r h
  obtain ⟨a, ts, rfl, hs, ht, q⟩ := h
  obtain ⟨its, rv, hl, hz⟩ := I.list hs
  rw [Vals.ref1 r]
  have each : ∀ (ts : List (Addr × Str × Str)) (its : List Value), Vals (ts.map fun t => V.ref t.1) its → (∀ t ∈ ts, H t.1 = some (.tup [.str t.2.1, .str t.2.2])) →
      PySem.W.EachIs (fun v (b : Str × Str) => ∃ a : Addr, v = .ref a ∧ H a = some (.tup [.str b.1, .str b.2])) its (ts.map fun t => t.2) := by
    intro ts
    induction ts with
    | nil =>
      intro its rv _
      cases rv
      exact .nil
    | cons t r ih =>
      intro its rv h
      cases rv with
      | cons r1 r2 =>
        refine .cons ⟨t.1, r1, h t List.mem_cons_self⟩ (ih _ r2 fun x hx => h x (List.mem_cons_of_mem _ hx))
  have e1 := each ts its rv ht
  have er : PySem.W.EachIs (fun v (b : Str × Str) => ∃ as, Reads s.heap v (encSS b) as) its (ts.map fun t => t.2) := by
    refine e1.mono fun v b z => ?_
    obtain ⟨a', rfl, hA⟩ := z
    exact Dp.reads I (encSS b) (.ref a') (.ref a') (.tup (SqT.of hA) (.cons (.str _) (.cons (.str _) .nil))) rfl
  have hlen : (ts.map fun t => t.2).length ≤ sizeLine := by
    rw [List.length_map]
    rw [List.length_map] at hz
    exact hz
  refine PySem.W.sorted_data (enc := encSS) hl.isList e1 er (PySem.W.AllAlike.of fun b b' => by simp [encSS, PySem.W.alike, PySem.W.alikeAll]) (PySem.W.Sortable.tuples fun b => ⟨_, _, rfl⟩) hlen (fun b _ => ?_) fun out ho h2 => ?_
  · show X.A.units + 2 + (encSS b).depth < cLine
    have : (encSS b).depth = 1 := by simp [encSS, PyData.depth, PyData.depthAll]
    omega
  · -- the items of the new list
    have back : ∀ (out : List Value) (bs : List (Str × Str)), PySem.W.EachIs (fun v (b : Str × Str) => ∃ a : Addr, v = .ref a ∧ H a = some (.tup [.str b.1, .str b.2])) out bs →
        ∃ ys : List (Addr × Str × Str), Vals (ys.map fun t => V.ref t.1) out ∧ (∀ t ∈ ys, H t.1 = some (.tup [.str t.2.1, .str t.2.2])) ∧ (ys.map fun t => t.2) = bs := by
      intro out bs e
      induction e with
      | nil => exact ⟨[], .nil, (fun _ h => nomatch h), rfl⟩
      | cons h _ ih =>
        obtain ⟨a', rfl, hA⟩ := h
        obtain ⟨ys, r1, r2, r3⟩ := ih
        refine ⟨(a', _) :: ys, .cons rfl r1, fun t h => ?_, by rw [List.map_cons, r3]⟩
        rcases List.mem_cons.mp h with rfl | h
        · exact hA
        · exact r2 t h
    obtain ⟨ys, r1, r2, r3⟩ := back _ _ h2
    obtain ⟨ep, he⟩ := PyProof.Rows.sortedAll_at s.heap its out.toArray
    have hl2 : (ys.map fun t => V.ref t.1).length ≤ sizeLine := by
      rw [r1.length, ho]
      exact hlen
    exact ⟨.ref _, upd H (s.heap.objs.size + 1) (.lst (ys.map fun t => V.ref t.1)), I.laid (t' := s.toks) (fun _ _ => PyProof.Rows.sortedAll_old) (Nat.le_succ _) ⟨hl2, out, ep, r1, he⟩, rfl, q _ ys (I.hok.fresh (Nat.le_succ _)) r2 r3⟩
end
end So

namespace So
open PySem PySem.Spec PyProof.Rows L2
section
variable {X : Cx} {CX : CXT} {k : Nat} {C f : Addr} {fd : FuncData} {ps : List Str} {sp : Sp} {E : XK}
/-- str(o) of an instance whose class has an own __str__ -/
theorem call_strOwn (F : FnOk X.prog X.w X.K X.mg X.base CX k f fd ps sp) (hs : PySem.W.findIn X.K (.ref C) "__str__" = some (some (.ref f))) (hf : PySem.W.isFn X.K (.ref f) = true) (hb : Binds X.K fd ps []) (hx : Passes CX X E) (hr : Room (k + 2) X.A) :
    CallR X (.type "str") (fun xs H Q => ∃ a dx fs, xs = [.ref a] ∧ H a = some (.ins C dx fs) ∧ sp [.ref a] H (fun v H' => ∃ t : Str, v = .str t ∧ Q (.str t) H') E) := by
  intro pins s σ H xs us Q I r h
  obtain ⟨a, dx, fs, rfl, ha, q⟩ := h
  obtain ⟨u, rfl, ru⟩ := vals1 r
  cases ru
  obtain ⟨mA, J, _⟩ := ins_get I.hok ha
  obtain ⟨od, J, _⟩ := J.look
  have hr2 : Room k X.A.in1.in1 := hr.in1.in1
  refine PySem.W.kso_call hr2.units0 I.kIn J hs hf ?_
  have e0 : Env0 X.prog X.w X.K X.mg X.base X.A.in1.in1 X.stack s H := I.env0.in1.in1
  have hl : ([Value.ref a] ++ ([] : List Value)).length = ps.length := (F.len _ _ _ _ q : [V.ref a].length = ps.length)
  refine wpAny_call (codeAny_mono (F.run X.A.in1.in1 X.stack s H ⟨[.ref a], []⟩ ([Value.ref a] ++ []) [.ref a] _ E hr2 e0 (hb s [Value.ref a] I.kIn hl) (show Vals [V.ref a] [Value.ref a] from .cons rfl .nil) q) fun r s' hq => ?_)
  match r, hq with
  | .error e, hq => exact hx pins σ H s e s' I hq
  | .ok (.ret u), hq =>
    obtain ⟨v, H', I', rv, t, ev, q'⟩ := I.after hq
    subst ev
    obtain ⟨tk, rfl⟩ := rv
    exact ⟨.str t, H', I', ⟨tk, rfl⟩, q'⟩
  | .ok .next, hq => exact hq.elim
  | .ok .brk, hq => exact hq.elim
  | .ok .cont, hq => exact hq.elim
end
end So

namespace So
open PySem PySem.Spec PyProof.Rows L2 StX
/-! ### rules of which the class is known at run time alone -/
section
variable {X : Cx} {α : Type} {p : α → Prop}
theorem pe_ex {e : Expr} {t : α → TE} (h : ∀ c, p c → PE X e (t c)) : PE X e (fun σ H Q => ∃ c, p c ∧ t c σ H Q) := ⟨fun pins s σ H Q I ⟨c, hp, z⟩ => (h c hp).run pins s σ H Q I z⟩
theorem op_ex {f : Value → Value → Sem Value} {t : α → R2} (h : ∀ c, p c → OpR X f (t c)) : OpR X f (fun x y H Q => ∃ c, p c ∧ t c x y H Q) := fun pins s σ H x y v u Q I rx ry ⟨c, hp, z⟩ => h c hp pins s σ H x y v u Q I rx ry z
theorem cr_ex {f : Value} {t : α → List V → Hp → VK → Prop} (h : ∀ c, p c → CallR X f (t c)) : CallR X f (fun xs H Q => ∃ c, p c ∧ t c xs H Q) := fun pins s σ H xs us Q I r ⟨c, hp, z⟩ => h c hp pins s σ H xs us Q I r z
end
section
variable {X : Cx} {CX : CXT} {k : Nat} {C f : Addr} {fd : FuncData} {ps : List Str} {sp : Sp} {E : XK} {e : Expr} {te : TE}
theorem fnR_of {P : Program} {w : World} {K : PySem.W.Frag} {mg : Str → Option Value} {base : Heap} (F : FnOk P w K mg base CX k f fd ps sp) (hb : Binds K fd ps []) : FnR P w K mg base CX k f sp :=
  (F.raw hb .nil).imp fun vs H Q E h => by rw [List.append_nil]; exact h
/-- C(*e), C an own class -/
theorem pe_makeS1 {x : Str} {p sp_ pos : Pos} (M : Mk X.K C f) (F : FnR X.prog X.w X.K X.mg X.base CX k f sp) (hr : Room (k + 1) X.A) (hg : Gl X x) (hm : X.mg x = some (.ref C)) (hx : Passes CX X E) (he : PE X e te) (hd : (x == ("__debug__" : Str)) = false := by decide)
    (hst : starEach [.Starred e sp_] X.env = [(true, eval e X.env)] := by rfl) :
    PE X (.Call (.Name x p) [.Starred e sp_] [] pos) (fun σ H Q => te σ H fun y H1 => ∃ a xs, y = V.ref a ∧ (SqT X.K H1 a xs ∨ SqL X.K H1 a xs) ∧ ∀ x dx, H1 x = Option.none → H1 dx = Option.none → dx ≠ x →
      sp (V.ref x :: xs) (upd (upd H1 dx (.own x)) x (.ins C dx [])) (fun v H2 => v = .non ∧ Q (.ref x) H2) E) := by
  refine ⟨fun pins s σ H Q I h => ?_⟩
  refine wpAny_Call_Name_kw (ld_glob I hg hm ?_ hd)
  refine PySem.W.callWith_S (h₀ := X.base) I.ok.mod.kin M.kp (thn (he.run pins s σ H _ I h) fun v s1 ⟨y, H1, I1, ry, a, xs, ey, hxs, q⟩ => ?_) hst
  subst ey
  obtain rfl : v = Value.ref a := ry
  exact star_any I1 hxs fun us s2 I2 rv => ⟨I2.kIn, run_makeR M F hr hx I2 rv q⟩
theorem call_str_bl : CallR X (.type "str") (fun xs H Q => ∃ b, xs = [.bl b] ∧ Q (.str (if b then "True" else "False")) H) := by
  intro pins s σ H xs us Q I r h
  obtain ⟨b, rfl, q⟩ := h
  obtain ⟨u, rfl, r1⟩ := vals1 r
  cases r1
  exact PySem.P.str_of_bool ⟨.str _, H, I.tok _, ⟨_, rfl⟩, q⟩
end
end So

namespace K11
open PySem PySem.Spec PyProof.Rows L2 So LamX
abbrev sMade : Stmt := topS 55
theorem scMade : FnScope ["_law_row", "_law_kind"] ["_law_row"] (defScope sMade) := ⟨rfl, rfl, rfl, by decide +kernel, rfl, by decide +kernel, by decide +kernel⟩
section
variable {P : Program} {w : World} {K : PySem.W.Frag} {mg : Str → Option Value} {base : Heap}
/-- behind C(..), C a row's class -/
theorem made_row {CN CM CS C : Addr} {kind : Str} {xs : List V} {H : Hp} {Q : VK} {E : XK} (hl : xs.length = (formsOf kind).length) (hg : ∀ y ∈ xs, ∃ T, Gv H y T)
    (h : WaysL CN CM CS (xs.zip (formsOf kind)) H E (∀ (H' : Hp) (a dx : Addr) fs, Same H H' → H' a = some (.ins C dx fs) → Told kind xs H' fs → Q (.ref a) H')) :
    ∀ x dx, H x = none → H dx = none → dx ≠ x → spRow CN CM CS C kind (.ref x :: (xs ++ [])) (upd (upd H dx (.own x)) x (.ins C dx [])) (fun v H2 => v = .non ∧ Q (.ref x) H2) E := by
  intro x dx hx hd ne
  have s0 : Same H (upd (upd H dx (.own x)) x (.ins C dx [])) := fun c o e => by
    rw [upd_ne (ne_of_none e hx), upd_ne (ne_of_none e hd)]
    exact e
  refine ⟨x, dx, xs, by rw [List.append_nil], upd_same, hl, (fun y hy => (hg y hy).elim fun T h => ⟨T, h.same s0⟩), fun gd H' fs o e lk => ⟨rfl, h.1 gd H' x dx fs (fun c u z => o c u (ne_of_none z hx) (s0 c u z)) e lk⟩, fun C' fl v g d H' s e => h.2 C' fl v g d H' (s0.trans s) e⟩
/-- at a there stands the row of this kind with these arguments -/
def RowAt (Cf : Str → Addr) (H : Hp) (a : Addr) (kind : Str) (xs : List V) : Prop := ∃ (dx : Addr) (fs : List (Str × V)), H a = some (.ins (Cf kind) dx fs) ∧ Told kind xs H fs
theorem RowAt.same {Cf : Str → Addr} {H H' : Hp} {a : Addr} {kind : Str} {xs : List V} (h : RowAt Cf H a kind xs) (s : Same H H') : RowAt Cf H' a kind xs := by
  obtain ⟨dx, fs, e, t1, ⟨tp, t2, t3⟩, t4⟩ := h
  exact ⟨dx, fs, s _ _ e, t1, ⟨tp, t2, s _ _ t3⟩, t4⟩
/-- a class of rows, its maker -/
def RowM (K : PySem.W.Frag) (P : Program) (w : World) (mg : Str → Option Value) (base : Heap) (CN CM CS : Addr) (Cf : Str → Addr) (nm kind : Str) (ps : List Str) : Prop := ∃ (fI : Addr) (fdI : FuncData), mg nm = some (.ref (Cf kind)) ∧ Mk K (Cf kind) fI ∧ Binds K fdI ps [] ∧ FnOk P w K mg base (L2.CX P w) 6 fI fdI ps (spRow CN CM CS (Cf kind) kind)
structure Rows (K : PySem.W.Frag) (P : Program) (w : World) (mg : Str → Option Value) (base : Heap) (CN CM CS : Addr) (Cf : Str → Addr) : Prop where
  begun : RowM K P w mg base CN CM CS Cf "Begun" "begun" ["self", "tool", "moment"]
  setby : RowM K P w mg base CN CM CS Cf "SetBy" "setby" ["self", "tool", "moment", "by"]
  found : RowM K P w mg base CN CM CS Cf "Found" "found" ["self", "tool", "moment", "is_sound"]
  trusted : RowM K P w mg base CN CM CS Cf "Trusted" "trusted" ["self", "tool"]
  passed : RowM K P w mg base CN CM CS Cf "Passed" "passed" ["self", "tool", "moment", "by"]
  failed : RowM K P w mg base CN CM CS Cf "Failed" "failed" ["self", "tool", "moment", "by"]
  agreed : RowM K P w mg base CN CM CS Cf "Agreed" "agreed" ["self", "one", "moment", "other", "later"]
  differed : RowM K P w mg base CN CM CS Cf "Differed" "differed" ["self", "one", "moment", "other", "later"]
  served : RowM K P w mg base CN CM CS Cf "Served" "served" ["self", "one", "moment", "other", "later"]
  backed : RowM K P w mg base CN CM CS Cf "Backed" "backed" ["self", "one", "moment", "other", "later"]
def spMade (CN CM CS : Addr) (Cf : Str → Addr) : Sp := fun vs H Q E => ∃ (lr : Addr) (kind : Str) (xs : List V), vs = [.ref lr] ∧ H lr = some (.tup (.str kind :: xs)) ∧ kind ∈ kinds ∧ xs.length = (formsOf kind).length ∧ (∀ y ∈ xs, ∃ T, Gv H y T) ∧
  WaysL CN CM CS (xs.zip (formsOf kind)) H E (∀ (H' : Hp) (a : Addr), Same H H' → RowAt Cf H' a kind xs → Q (.ref a) H')
theorem kinds_end : ∀ kind ∈ kinds, ¬ kind = "begun" → ¬ kind = "setby" → ¬ kind = "found" → ¬ kind = "trusted" → ¬ kind = "passed" → ¬ kind = "failed" → ¬ kind = "agreed" → ¬ kind = "differed" → ¬ kind = "served" → kind = "backed" := by
  intro kind hk h0 h1 h2 h3 h4 h5 h6 h7 h8
  unfold kinds at hk
  simp only [List.mem_cons, List.not_mem_nil, or_false] at hk
  rcases hk with h | h | h | h | h | h | h | h | h | h <;> first | exact h | exact absurd h (by assumption)
theorem ok_made {CN CM CS f : Addr} {Cf : Str → Addr} {fd : FuncData} (F : Fun K "_law_made" "_law_made" sMade f fd) (R : Rows K P w mg base CN CM CS Cf) : FnOk P w K mg base (L2.CX P w) 8 f fd ["_law_row"] (spMade CN CM CS Cf) := by
  obtain ⟨f_begun, fd_begun, g_begun, m_begun, b_begun, G_begun⟩ := R.begun
  obtain ⟨f_setby, fd_setby, g_setby, m_setby, b_setby, G_setby⟩ := R.setby
  obtain ⟨f_found, fd_found, g_found, m_found, b_found, G_found⟩ := R.found
  obtain ⟨f_trusted, fd_trusted, g_trusted, m_trusted, b_trusted, G_trusted⟩ := R.trusted
  obtain ⟨f_passed, fd_passed, g_passed, m_passed, b_passed, G_passed⟩ := R.passed
  obtain ⟨f_failed, fd_failed, g_failed, m_failed, b_failed, G_failed⟩ := R.failed
  obtain ⟨f_agreed, fd_agreed, g_agreed, m_agreed, b_agreed, G_agreed⟩ := R.agreed
  obtain ⟨f_differed, fd_differed, g_differed, m_differed, b_differed, G_differed⟩ := R.differed
  obtain ⟨f_served, fd_served, g_served, m_served, b_served, G_served⟩ := R.served
  obtain ⟨f_backed, fd_backed, g_backed, m_backed, b_backed, G_backed⟩ := R.backed
  refine F.okX scMade (fun vs H Q E h => ?_) (fun cdv A outer s H vs Q E hr h => ?_)
  · obtain ⟨_, _, _, rfl, _⟩ := h
    rfl
  · obtain ⟨lr, kind, xs, rfl, hlr, hk, hl, hg, hw⟩ := h
    refine ⟨_, pss_cons (ps_set (i := 1) scMade.nd rfl (.inl rfl) (pe_ix ix_tup (pv 0) pe_int (fun _ _ => rfl)))
      (pss_cons (ps_if (pt_cmpR op_eq (pv 1) pe_str (nomark _)) (pss_one (ps_ret (pe_make m_begun G_begun hr (by rfl) g_begun b_begun .nil (passes_call (takes_of rfl rfl rfl rfl) (fun _ _ _ _ h => h)) (pa_cons (pe_ix ix_tup (pv 0) pe_int (fun _ _ => rfl)) (pa_cons (pe_ix ix_tup (pv 0) pe_int (fun _ _ => rfl)) pa_nil))))) pss_nil)
      (pss_cons (ps_if (pt_cmpR op_eq (pv 1) pe_str (nomark _)) (pss_one (ps_ret (pe_make m_setby G_setby hr (by rfl) g_setby b_setby .nil (passes_call (takes_of rfl rfl rfl rfl) (fun _ _ _ _ h => h)) (pa_cons (pe_ix ix_tup (pv 0) pe_int (fun _ _ => rfl)) (pa_cons (pe_ix ix_tup (pv 0) pe_int (fun _ _ => rfl)) (pa_cons (pe_ix ix_tup (pv 0) pe_int (fun _ _ => rfl)) pa_nil)))))) pss_nil)
      (pss_cons (ps_if (pt_cmpR op_eq (pv 1) pe_str (nomark _)) (pss_one (ps_ret (pe_make m_found G_found hr (by rfl) g_found b_found .nil (passes_call (takes_of rfl rfl rfl rfl) (fun _ _ _ _ h => h)) (pa_cons (pe_ix ix_tup (pv 0) pe_int (fun _ _ => rfl)) (pa_cons (pe_ix ix_tup (pv 0) pe_int (fun _ _ => rfl)) (pa_cons (pe_ix ix_tup (pv 0) pe_int (fun _ _ => rfl)) pa_nil)))))) pss_nil)
      (pss_cons (ps_if (pt_cmpR op_eq (pv 1) pe_str (nomark _)) (pss_one (ps_ret (pe_make m_trusted G_trusted hr (by rfl) g_trusted b_trusted .nil (passes_call (takes_of rfl rfl rfl rfl) (fun _ _ _ _ h => h)) (pa_cons (pe_ix ix_tup (pv 0) pe_int (fun _ _ => rfl)) pa_nil)))) pss_nil)
      (pss_cons (ps_if (pt_cmpR op_eq (pv 1) pe_str (nomark _)) (pss_one (ps_ret (pe_make m_passed G_passed hr (by rfl) g_passed b_passed .nil (passes_call (takes_of rfl rfl rfl rfl) (fun _ _ _ _ h => h)) (pa_cons (pe_ix ix_tup (pv 0) pe_int (fun _ _ => rfl)) (pa_cons (pe_ix ix_tup (pv 0) pe_int (fun _ _ => rfl)) (pa_cons (pe_ix ix_tup (pv 0) pe_int (fun _ _ => rfl)) pa_nil)))))) pss_nil)
      (pss_cons (ps_if (pt_cmpR op_eq (pv 1) pe_str (nomark _)) (pss_one (ps_ret (pe_make m_failed G_failed hr (by rfl) g_failed b_failed .nil (passes_call (takes_of rfl rfl rfl rfl) (fun _ _ _ _ h => h)) (pa_cons (pe_ix ix_tup (pv 0) pe_int (fun _ _ => rfl)) (pa_cons (pe_ix ix_tup (pv 0) pe_int (fun _ _ => rfl)) (pa_cons (pe_ix ix_tup (pv 0) pe_int (fun _ _ => rfl)) pa_nil)))))) pss_nil)
      (pss_cons (ps_if (pt_cmpR op_eq (pv 1) pe_str (nomark _)) (pss_one (ps_ret (pe_make m_agreed G_agreed hr (by rfl) g_agreed b_agreed .nil (passes_call (takes_of rfl rfl rfl rfl) (fun _ _ _ _ h => h)) (pa_cons (pe_ix ix_tup (pv 0) pe_int (fun _ _ => rfl)) (pa_cons (pe_ix ix_tup (pv 0) pe_int (fun _ _ => rfl)) (pa_cons (pe_ix ix_tup (pv 0) pe_int (fun _ _ => rfl)) (pa_cons (pe_ix ix_tup (pv 0) pe_int (fun _ _ => rfl)) pa_nil))))))) pss_nil)
      (pss_cons (ps_if (pt_cmpR op_eq (pv 1) pe_str (nomark _)) (pss_one (ps_ret (pe_make m_differed G_differed hr (by rfl) g_differed b_differed .nil (passes_call (takes_of rfl rfl rfl rfl) (fun _ _ _ _ h => h)) (pa_cons (pe_ix ix_tup (pv 0) pe_int (fun _ _ => rfl)) (pa_cons (pe_ix ix_tup (pv 0) pe_int (fun _ _ => rfl)) (pa_cons (pe_ix ix_tup (pv 0) pe_int (fun _ _ => rfl)) (pa_cons (pe_ix ix_tup (pv 0) pe_int (fun _ _ => rfl)) pa_nil))))))) pss_nil)
      (pss_cons (ps_if (pt_cmpR op_eq (pv 1) pe_str (nomark _)) (pss_one (ps_ret (pe_make m_served G_served hr (by rfl) g_served b_served .nil (passes_call (takes_of rfl rfl rfl rfl) (fun _ _ _ _ h => h)) (pa_cons (pe_ix ix_tup (pv 0) pe_int (fun _ _ => rfl)) (pa_cons (pe_ix ix_tup (pv 0) pe_int (fun _ _ => rfl)) (pa_cons (pe_ix ix_tup (pv 0) pe_int (fun _ _ => rfl)) (pa_cons (pe_ix ix_tup (pv 0) pe_int (fun _ _ => rfl)) pa_nil))))))) pss_nil)
      (pss_one (ps_ret (pe_make m_backed G_backed hr (by rfl) g_backed b_backed .nil (passes_call (takes_of rfl rfl rfl rfl) (fun _ _ _ _ h => h)) (pa_cons (pe_ix ix_tup (pv 0) pe_int (fun _ _ => rfl)) (pa_cons (pe_ix ix_tup (pv 0) pe_int (fun _ _ => rfl)) (pa_cons (pe_ix ix_tup (pv 0) pe_int (fun _ _ => rfl)) (pa_cons (pe_ix ix_tup (pv 0) pe_int (fun _ _ => rfl)) pa_nil)))))))))))))))), ?_⟩
    refine ⟨_, rfl, lr, _, _, _, rfl, rfl, SqT.of hlr, atI_nat (j := 0) rfl, ?_⟩
    refine ⟨_, rfl, rfl, _, rfl, ite2 (fun e => ?_) (fun e0 => ?_)⟩
    · obtain rfl : kind = "begun" := V.str.inj (of_decide_eq_true e)
      have hl4 : (formsOf "begun").length = 2 := by decide +kernel
      obtain ⟨v0, v1, rfl⟩ : ∃ v0 v1, xs = [v0, v1] := by
        rw [hl4] at hl
        match xs, hl with
        | [v0, v1], _ => exact ⟨_, _, rfl⟩
      exact ⟨_, rfl, lr, _, _, _, rfl, rfl, SqT.of hlr, atI_nat (j := 1) rfl, _, rfl, lr, _, _, _, rfl, rfl, SqT.of hlr, atI_nat (j := 2) rfl, made_row (xs := [v0, v1]) hl hg ⟨fun gd H' a dx fs s e lk => hw.1 gd H' a s ⟨dx, fs, e, lk⟩, hw.2⟩⟩
    refine ⟨_, rfl, rfl, _, rfl, ite2 (fun e => ?_) (fun e1 => ?_)⟩
    · obtain rfl : kind = "setby" := V.str.inj (of_decide_eq_true e)
      have hl4 : (formsOf "setby").length = 3 := by decide +kernel
      obtain ⟨v0, v1, v2, rfl⟩ : ∃ v0 v1 v2, xs = [v0, v1, v2] := by
        rw [hl4] at hl
        match xs, hl with
        | [v0, v1, v2], _ => exact ⟨_, _, _, rfl⟩
      exact ⟨_, rfl, lr, _, _, _, rfl, rfl, SqT.of hlr, atI_nat (j := 1) rfl, _, rfl, lr, _, _, _, rfl, rfl, SqT.of hlr, atI_nat (j := 2) rfl, _, rfl, lr, _, _, _, rfl, rfl, SqT.of hlr, atI_nat (j := 3) rfl, made_row (xs := [v0, v1, v2]) hl hg ⟨fun gd H' a dx fs s e lk => hw.1 gd H' a s ⟨dx, fs, e, lk⟩, hw.2⟩⟩
    refine ⟨_, rfl, rfl, _, rfl, ite2 (fun e => ?_) (fun e2 => ?_)⟩
    · obtain rfl : kind = "found" := V.str.inj (of_decide_eq_true e)
      have hl4 : (formsOf "found").length = 3 := by decide +kernel
      obtain ⟨v0, v1, v2, rfl⟩ : ∃ v0 v1 v2, xs = [v0, v1, v2] := by
        rw [hl4] at hl
        match xs, hl with
        | [v0, v1, v2], _ => exact ⟨_, _, _, rfl⟩
      exact ⟨_, rfl, lr, _, _, _, rfl, rfl, SqT.of hlr, atI_nat (j := 1) rfl, _, rfl, lr, _, _, _, rfl, rfl, SqT.of hlr, atI_nat (j := 2) rfl, _, rfl, lr, _, _, _, rfl, rfl, SqT.of hlr, atI_nat (j := 3) rfl, made_row (xs := [v0, v1, v2]) hl hg ⟨fun gd H' a dx fs s e lk => hw.1 gd H' a s ⟨dx, fs, e, lk⟩, hw.2⟩⟩
    refine ⟨_, rfl, rfl, _, rfl, ite2 (fun e => ?_) (fun e3 => ?_)⟩
    · obtain rfl : kind = "trusted" := V.str.inj (of_decide_eq_true e)
      have hl4 : (formsOf "trusted").length = 1 := by decide +kernel
      obtain ⟨v0, rfl⟩ : ∃ v0, xs = [v0] := by
        rw [hl4] at hl
        match xs, hl with
        | [v0], _ => exact ⟨_, rfl⟩
      exact ⟨_, rfl, lr, _, _, _, rfl, rfl, SqT.of hlr, atI_nat (j := 1) rfl, made_row (xs := [v0]) hl hg ⟨fun gd H' a dx fs s e lk => hw.1 gd H' a s ⟨dx, fs, e, lk⟩, hw.2⟩⟩
    refine ⟨_, rfl, rfl, _, rfl, ite2 (fun e => ?_) (fun e4 => ?_)⟩
    · obtain rfl : kind = "passed" := V.str.inj (of_decide_eq_true e)
      have hl4 : (formsOf "passed").length = 3 := by decide +kernel
      obtain ⟨v0, v1, v2, rfl⟩ : ∃ v0 v1 v2, xs = [v0, v1, v2] := by
        rw [hl4] at hl
        match xs, hl with
        | [v0, v1, v2], _ => exact ⟨_, _, _, rfl⟩
      exact ⟨_, rfl, lr, _, _, _, rfl, rfl, SqT.of hlr, atI_nat (j := 1) rfl, _, rfl, lr, _, _, _, rfl, rfl, SqT.of hlr, atI_nat (j := 2) rfl, _, rfl, lr, _, _, _, rfl, rfl, SqT.of hlr, atI_nat (j := 3) rfl, made_row (xs := [v0, v1, v2]) hl hg ⟨fun gd H' a dx fs s e lk => hw.1 gd H' a s ⟨dx, fs, e, lk⟩, hw.2⟩⟩
    refine ⟨_, rfl, rfl, _, rfl, ite2 (fun e => ?_) (fun e5 => ?_)⟩
    · obtain rfl : kind = "failed" := V.str.inj (of_decide_eq_true e)
      have hl4 : (formsOf "failed").length = 3 := by decide +kernel
      obtain ⟨v0, v1, v2, rfl⟩ : ∃ v0 v1 v2, xs = [v0, v1, v2] := by
        rw [hl4] at hl
        match xs, hl with
        | [v0, v1, v2], _ => exact ⟨_, _, _, rfl⟩
      exact ⟨_, rfl, lr, _, _, _, rfl, rfl, SqT.of hlr, atI_nat (j := 1) rfl, _, rfl, lr, _, _, _, rfl, rfl, SqT.of hlr, atI_nat (j := 2) rfl, _, rfl, lr, _, _, _, rfl, rfl, SqT.of hlr, atI_nat (j := 3) rfl, made_row (xs := [v0, v1, v2]) hl hg ⟨fun gd H' a dx fs s e lk => hw.1 gd H' a s ⟨dx, fs, e, lk⟩, hw.2⟩⟩
    refine ⟨_, rfl, rfl, _, rfl, ite2 (fun e => ?_) (fun e6 => ?_)⟩
    · obtain rfl : kind = "agreed" := V.str.inj (of_decide_eq_true e)
      have hl4 : (formsOf "agreed").length = 4 := by decide +kernel
      obtain ⟨v0, v1, v2, v3, rfl⟩ : ∃ v0 v1 v2 v3, xs = [v0, v1, v2, v3] := by
        rw [hl4] at hl
        match xs, hl with
        | [v0, v1, v2, v3], _ => exact ⟨_, _, _, _, rfl⟩
      exact ⟨_, rfl, lr, _, _, _, rfl, rfl, SqT.of hlr, atI_nat (j := 1) rfl, _, rfl, lr, _, _, _, rfl, rfl, SqT.of hlr, atI_nat (j := 2) rfl, _, rfl, lr, _, _, _, rfl, rfl, SqT.of hlr, atI_nat (j := 3) rfl, _, rfl, lr, _, _, _, rfl, rfl, SqT.of hlr, atI_nat (j := 4) rfl, made_row (xs := [v0, v1, v2, v3]) hl hg ⟨fun gd H' a dx fs s e lk => hw.1 gd H' a s ⟨dx, fs, e, lk⟩, hw.2⟩⟩
    refine ⟨_, rfl, rfl, _, rfl, ite2 (fun e => ?_) (fun e7 => ?_)⟩
    · obtain rfl : kind = "differed" := V.str.inj (of_decide_eq_true e)
      have hl4 : (formsOf "differed").length = 4 := by decide +kernel
      obtain ⟨v0, v1, v2, v3, rfl⟩ : ∃ v0 v1 v2 v3, xs = [v0, v1, v2, v3] := by
        rw [hl4] at hl
        match xs, hl with
        | [v0, v1, v2, v3], _ => exact ⟨_, _, _, _, rfl⟩
      exact ⟨_, rfl, lr, _, _, _, rfl, rfl, SqT.of hlr, atI_nat (j := 1) rfl, _, rfl, lr, _, _, _, rfl, rfl, SqT.of hlr, atI_nat (j := 2) rfl, _, rfl, lr, _, _, _, rfl, rfl, SqT.of hlr, atI_nat (j := 3) rfl, _, rfl, lr, _, _, _, rfl, rfl, SqT.of hlr, atI_nat (j := 4) rfl, made_row (xs := [v0, v1, v2, v3]) hl hg ⟨fun gd H' a dx fs s e lk => hw.1 gd H' a s ⟨dx, fs, e, lk⟩, hw.2⟩⟩
    refine ⟨_, rfl, rfl, _, rfl, ite2 (fun e => ?_) (fun e8 => ?_)⟩
    · obtain rfl : kind = "served" := V.str.inj (of_decide_eq_true e)
      have hl4 : (formsOf "served").length = 4 := by decide +kernel
      obtain ⟨v0, v1, v2, v3, rfl⟩ : ∃ v0 v1 v2 v3, xs = [v0, v1, v2, v3] := by
        rw [hl4] at hl
        match xs, hl with
        | [v0, v1, v2, v3], _ => exact ⟨_, _, _, _, rfl⟩
      exact ⟨_, rfl, lr, _, _, _, rfl, rfl, SqT.of hlr, atI_nat (j := 1) rfl, _, rfl, lr, _, _, _, rfl, rfl, SqT.of hlr, atI_nat (j := 2) rfl, _, rfl, lr, _, _, _, rfl, rfl, SqT.of hlr, atI_nat (j := 3) rfl, _, rfl, lr, _, _, _, rfl, rfl, SqT.of hlr, atI_nat (j := 4) rfl, made_row (xs := [v0, v1, v2, v3]) hl hg ⟨fun gd H' a dx fs s e lk => hw.1 gd H' a s ⟨dx, fs, e, lk⟩, hw.2⟩⟩
    obtain rfl : kind = "backed" := kinds_end kind hk (fun z => e0 (decide_eq_true (by rw [z]))) (fun z => e1 (decide_eq_true (by rw [z]))) (fun z => e2 (decide_eq_true (by rw [z]))) (fun z => e3 (decide_eq_true (by rw [z]))) (fun z => e4 (decide_eq_true (by rw [z]))) (fun z => e5 (decide_eq_true (by rw [z]))) (fun z => e6 (decide_eq_true (by rw [z]))) (fun z => e7 (decide_eq_true (by rw [z]))) (fun z => e8 (decide_eq_true (by rw [z])))
    have hl4 : (formsOf "backed").length = 4 := by decide +kernel
    obtain ⟨v0, v1, v2, v3, rfl⟩ : ∃ v0 v1 v2 v3, xs = [v0, v1, v2, v3] := by
      rw [hl4] at hl
      match xs, hl with
      | [v0, v1, v2, v3], _ => exact ⟨_, _, _, _, rfl⟩
    exact ⟨_, rfl, lr, _, _, _, rfl, rfl, SqT.of hlr, atI_nat (j := 1) rfl, _, rfl, lr, _, _, _, rfl, rfl, SqT.of hlr, atI_nat (j := 2) rfl, _, rfl, lr, _, _, _, rfl, rfl, SqT.of hlr, atI_nat (j := 3) rfl, _, rfl, lr, _, _, _, rfl, rfl, SqT.of hlr, atI_nat (j := 4) rfl, made_row (xs := [v0, v1, v2, v3]) hl hg ⟨fun gd H' a dx fs s e lk => hw.1 gd H' a s ⟨dx, fs, e, lk⟩, hw.2⟩⟩
end
end K11

namespace K11
open PySem PySem.Spec PyProof.Rows L2 So LamX
abbrev sMadeRow : Stmt := topS 42
theorem scMadeRow : FnScope ["kind", "told"] ["kind", "told"] (defScope sMadeRow) := ⟨rfl, rfl, rfl, by decide +kernel, rfl, by decide +kernel, by decide +kernel⟩
section
variable {P : Program} {w : World} {K : PySem.W.Frag} {mg : Str → Option Value} {base : Heap}
def spMadeRow (K : PySem.W.Frag) (CN CM CS : Addr) (Cf : Str → Addr) : Sp := fun vs H Q E => ∃ (lr : Addr) (kind : Str) (xs : List V), vs = [.str kind, .ref lr] ∧ H lr = some (.lst xs) ∧ kind ∈ kinds ∧ xs.length = (formsOf kind).length ∧ (∀ y ∈ xs, ∃ T, Gv H y T) ∧
  WaysL CN CM CS (xs.zip (formsOf kind)) H E (∀ (H' : Hp) (a : Addr), Same H H' → RowAt Cf H' a kind xs → Q (.ref a) H')
theorem madeRow0 {CN CM CS C : Addr} {kind : Str} {xs : List V} {H : Hp} {Q : VK} {E : XK} (hl : xs.length = (formsOf kind).length) (hg : ∀ y ∈ xs, ∃ T, Gv H y T)
    (h : WaysL CN CM CS (xs.zip (formsOf kind)) H E (∀ (H' : Hp) (a dx : Addr) fs, Same H H' → H' a = some (.ins C dx fs) → Told kind xs H' fs → Q (.ref a) H')) :
    ∀ x dx, H x = none → H dx = none → dx ≠ x → spRow CN CM CS C kind (.ref x :: xs) (upd (upd H dx (.own x)) x (.ins C dx [])) (fun v H2 => v = .non ∧ Q (.ref x) H2) E := by
  have := made_row hl hg h
  rw [List.append_nil] at this
  exact this
theorem ok_madeRow {CN CM CS f : Addr} {Cf : Str → Addr} {fd : FuncData} (F : Fun K "made_row" "made_row" sMadeRow f fd) (R : Rows K P w mg base CN CM CS Cf) : FnOk P w K mg base (L2.CX P w) 8 f fd ["kind", "told"] (spMadeRow K CN CM CS Cf) := by
  obtain ⟨f_begun, fd_begun, g_begun, m_begun, b_begun, G_begun⟩ := R.begun
  obtain ⟨f_setby, fd_setby, g_setby, m_setby, b_setby, G_setby⟩ := R.setby
  obtain ⟨f_found, fd_found, g_found, m_found, b_found, G_found⟩ := R.found
  obtain ⟨f_trusted, fd_trusted, g_trusted, m_trusted, b_trusted, G_trusted⟩ := R.trusted
  obtain ⟨f_passed, fd_passed, g_passed, m_passed, b_passed, G_passed⟩ := R.passed
  obtain ⟨f_failed, fd_failed, g_failed, m_failed, b_failed, G_failed⟩ := R.failed
  obtain ⟨f_agreed, fd_agreed, g_agreed, m_agreed, b_agreed, G_agreed⟩ := R.agreed
  obtain ⟨f_differed, fd_differed, g_differed, m_differed, b_differed, G_differed⟩ := R.differed
  obtain ⟨f_served, fd_served, g_served, m_served, b_served, G_served⟩ := R.served
  obtain ⟨f_backed, fd_backed, g_backed, m_backed, b_backed, G_backed⟩ := R.backed
  refine F.okX scMadeRow (fun vs H Q E h => ?_) (fun cdv A outer s H vs Q E hr h => ?_)
  · obtain ⟨_, _, _, rfl, _⟩ := h
    rfl
  · obtain ⟨lr, kind, xs, rfl, hlr, hk, hl, hg, hw⟩ := h
    have hlr : SqT K H lr xs ∨ SqL K H lr xs := .inr (SqL.of hlr)
    refine ⟨_, pss_cons (ps_if (pt_cmpR op_eq (pv 0) pe_str (nomark _)) (pss_one (ps_ret (pe_makeS1 m_begun (fnR_of G_begun b_begun) hr (by rfl) g_begun (passes_call (takes_of rfl rfl rfl rfl) (fun _ _ _ _ h => h)) (pv 1)))) pss_nil)
      (pss_cons (ps_if (pt_cmpR op_eq (pv 0) pe_str (nomark _)) (pss_one (ps_ret (pe_makeS1 m_setby (fnR_of G_setby b_setby) hr (by rfl) g_setby (passes_call (takes_of rfl rfl rfl rfl) (fun _ _ _ _ h => h)) (pv 1)))) pss_nil)
      (pss_cons (ps_if (pt_cmpR op_eq (pv 0) pe_str (nomark _)) (pss_one (ps_ret (pe_makeS1 m_found (fnR_of G_found b_found) hr (by rfl) g_found (passes_call (takes_of rfl rfl rfl rfl) (fun _ _ _ _ h => h)) (pv 1)))) pss_nil)
      (pss_cons (ps_if (pt_cmpR op_eq (pv 0) pe_str (nomark _)) (pss_one (ps_ret (pe_makeS1 m_trusted (fnR_of G_trusted b_trusted) hr (by rfl) g_trusted (passes_call (takes_of rfl rfl rfl rfl) (fun _ _ _ _ h => h)) (pv 1)))) pss_nil)
      (pss_cons (ps_if (pt_cmpR op_eq (pv 0) pe_str (nomark _)) (pss_one (ps_ret (pe_makeS1 m_passed (fnR_of G_passed b_passed) hr (by rfl) g_passed (passes_call (takes_of rfl rfl rfl rfl) (fun _ _ _ _ h => h)) (pv 1)))) pss_nil)
      (pss_cons (ps_if (pt_cmpR op_eq (pv 0) pe_str (nomark _)) (pss_one (ps_ret (pe_makeS1 m_failed (fnR_of G_failed b_failed) hr (by rfl) g_failed (passes_call (takes_of rfl rfl rfl rfl) (fun _ _ _ _ h => h)) (pv 1)))) pss_nil)
      (pss_cons (ps_if (pt_cmpR op_eq (pv 0) pe_str (nomark _)) (pss_one (ps_ret (pe_makeS1 m_agreed (fnR_of G_agreed b_agreed) hr (by rfl) g_agreed (passes_call (takes_of rfl rfl rfl rfl) (fun _ _ _ _ h => h)) (pv 1)))) pss_nil)
      (pss_cons (ps_if (pt_cmpR op_eq (pv 0) pe_str (nomark _)) (pss_one (ps_ret (pe_makeS1 m_differed (fnR_of G_differed b_differed) hr (by rfl) g_differed (passes_call (takes_of rfl rfl rfl rfl) (fun _ _ _ _ h => h)) (pv 1)))) pss_nil)
      (pss_cons (ps_if (pt_cmpR op_eq (pv 0) pe_str (nomark _)) (pss_one (ps_ret (pe_makeS1 m_served (fnR_of G_served b_served) hr (by rfl) g_served (passes_call (takes_of rfl rfl rfl rfl) (fun _ _ _ _ h => h)) (pv 1)))) pss_nil)
      (pss_one (ps_ret (pe_makeS1 m_backed (fnR_of G_backed b_backed) hr (by rfl) g_backed (passes_call (takes_of rfl rfl rfl rfl) (fun _ _ _ _ h => h)) (pv 1)))))))))))), ?_⟩
    refine ⟨_, rfl, rfl, _, rfl, ite2 (fun e => ?_) (fun e0 => ?_)⟩
    · obtain rfl : kind = "begun" := V.str.inj (of_decide_eq_true e)
      have hl4 : (formsOf "begun").length = 2 := by decide +kernel
      obtain ⟨v0, v1, rfl⟩ : ∃ v0 v1, xs = [v0, v1] := by
        rw [hl4] at hl
        match xs, hl with
        | [v0, v1], _ => exact ⟨_, _, rfl⟩
      exact ⟨_, rfl, lr, [v0, v1], rfl, hlr, madeRow0 (xs := [v0, v1]) hl hg ⟨fun gd H' a dx fs s e lk => hw.1 gd H' a s ⟨dx, fs, e, lk⟩, hw.2⟩⟩
    refine ⟨_, rfl, rfl, _, rfl, ite2 (fun e => ?_) (fun e1 => ?_)⟩
    · obtain rfl : kind = "setby" := V.str.inj (of_decide_eq_true e)
      have hl4 : (formsOf "setby").length = 3 := by decide +kernel
      obtain ⟨v0, v1, v2, rfl⟩ : ∃ v0 v1 v2, xs = [v0, v1, v2] := by
        rw [hl4] at hl
        match xs, hl with
        | [v0, v1, v2], _ => exact ⟨_, _, _, rfl⟩
      exact ⟨_, rfl, lr, [v0, v1, v2], rfl, hlr, madeRow0 (xs := [v0, v1, v2]) hl hg ⟨fun gd H' a dx fs s e lk => hw.1 gd H' a s ⟨dx, fs, e, lk⟩, hw.2⟩⟩
    refine ⟨_, rfl, rfl, _, rfl, ite2 (fun e => ?_) (fun e2 => ?_)⟩
    · obtain rfl : kind = "found" := V.str.inj (of_decide_eq_true e)
      have hl4 : (formsOf "found").length = 3 := by decide +kernel
      obtain ⟨v0, v1, v2, rfl⟩ : ∃ v0 v1 v2, xs = [v0, v1, v2] := by
        rw [hl4] at hl
        match xs, hl with
        | [v0, v1, v2], _ => exact ⟨_, _, _, rfl⟩
      exact ⟨_, rfl, lr, [v0, v1, v2], rfl, hlr, madeRow0 (xs := [v0, v1, v2]) hl hg ⟨fun gd H' a dx fs s e lk => hw.1 gd H' a s ⟨dx, fs, e, lk⟩, hw.2⟩⟩
    refine ⟨_, rfl, rfl, _, rfl, ite2 (fun e => ?_) (fun e3 => ?_)⟩
    · obtain rfl : kind = "trusted" := V.str.inj (of_decide_eq_true e)
      have hl4 : (formsOf "trusted").length = 1 := by decide +kernel
      obtain ⟨v0, rfl⟩ : ∃ v0, xs = [v0] := by
        rw [hl4] at hl
        match xs, hl with
        | [v0], _ => exact ⟨_, rfl⟩
      exact ⟨_, rfl, lr, [v0], rfl, hlr, madeRow0 (xs := [v0]) hl hg ⟨fun gd H' a dx fs s e lk => hw.1 gd H' a s ⟨dx, fs, e, lk⟩, hw.2⟩⟩
    refine ⟨_, rfl, rfl, _, rfl, ite2 (fun e => ?_) (fun e4 => ?_)⟩
    · obtain rfl : kind = "passed" := V.str.inj (of_decide_eq_true e)
      have hl4 : (formsOf "passed").length = 3 := by decide +kernel
      obtain ⟨v0, v1, v2, rfl⟩ : ∃ v0 v1 v2, xs = [v0, v1, v2] := by
        rw [hl4] at hl
        match xs, hl with
        | [v0, v1, v2], _ => exact ⟨_, _, _, rfl⟩
      exact ⟨_, rfl, lr, [v0, v1, v2], rfl, hlr, madeRow0 (xs := [v0, v1, v2]) hl hg ⟨fun gd H' a dx fs s e lk => hw.1 gd H' a s ⟨dx, fs, e, lk⟩, hw.2⟩⟩
    refine ⟨_, rfl, rfl, _, rfl, ite2 (fun e => ?_) (fun e5 => ?_)⟩
    · obtain rfl : kind = "failed" := V.str.inj (of_decide_eq_true e)
      have hl4 : (formsOf "failed").length = 3 := by decide +kernel
      obtain ⟨v0, v1, v2, rfl⟩ : ∃ v0 v1 v2, xs = [v0, v1, v2] := by
        rw [hl4] at hl
        match xs, hl with
        | [v0, v1, v2], _ => exact ⟨_, _, _, rfl⟩
      exact ⟨_, rfl, lr, [v0, v1, v2], rfl, hlr, madeRow0 (xs := [v0, v1, v2]) hl hg ⟨fun gd H' a dx fs s e lk => hw.1 gd H' a s ⟨dx, fs, e, lk⟩, hw.2⟩⟩
    refine ⟨_, rfl, rfl, _, rfl, ite2 (fun e => ?_) (fun e6 => ?_)⟩
    · obtain rfl : kind = "agreed" := V.str.inj (of_decide_eq_true e)
      have hl4 : (formsOf "agreed").length = 4 := by decide +kernel
      obtain ⟨v0, v1, v2, v3, rfl⟩ : ∃ v0 v1 v2 v3, xs = [v0, v1, v2, v3] := by
        rw [hl4] at hl
        match xs, hl with
        | [v0, v1, v2, v3], _ => exact ⟨_, _, _, _, rfl⟩
      exact ⟨_, rfl, lr, [v0, v1, v2, v3], rfl, hlr, madeRow0 (xs := [v0, v1, v2, v3]) hl hg ⟨fun gd H' a dx fs s e lk => hw.1 gd H' a s ⟨dx, fs, e, lk⟩, hw.2⟩⟩
    refine ⟨_, rfl, rfl, _, rfl, ite2 (fun e => ?_) (fun e7 => ?_)⟩
    · obtain rfl : kind = "differed" := V.str.inj (of_decide_eq_true e)
      have hl4 : (formsOf "differed").length = 4 := by decide +kernel
      obtain ⟨v0, v1, v2, v3, rfl⟩ : ∃ v0 v1 v2 v3, xs = [v0, v1, v2, v3] := by
        rw [hl4] at hl
        match xs, hl with
        | [v0, v1, v2, v3], _ => exact ⟨_, _, _, _, rfl⟩
      exact ⟨_, rfl, lr, [v0, v1, v2, v3], rfl, hlr, madeRow0 (xs := [v0, v1, v2, v3]) hl hg ⟨fun gd H' a dx fs s e lk => hw.1 gd H' a s ⟨dx, fs, e, lk⟩, hw.2⟩⟩
    refine ⟨_, rfl, rfl, _, rfl, ite2 (fun e => ?_) (fun e8 => ?_)⟩
    · obtain rfl : kind = "served" := V.str.inj (of_decide_eq_true e)
      have hl4 : (formsOf "served").length = 4 := by decide +kernel
      obtain ⟨v0, v1, v2, v3, rfl⟩ : ∃ v0 v1 v2 v3, xs = [v0, v1, v2, v3] := by
        rw [hl4] at hl
        match xs, hl with
        | [v0, v1, v2, v3], _ => exact ⟨_, _, _, _, rfl⟩
      exact ⟨_, rfl, lr, [v0, v1, v2, v3], rfl, hlr, madeRow0 (xs := [v0, v1, v2, v3]) hl hg ⟨fun gd H' a dx fs s e lk => hw.1 gd H' a s ⟨dx, fs, e, lk⟩, hw.2⟩⟩
    obtain rfl : kind = "backed" := kinds_end kind hk (fun z => e0 (decide_eq_true (by rw [z]))) (fun z => e1 (decide_eq_true (by rw [z]))) (fun z => e2 (decide_eq_true (by rw [z]))) (fun z => e3 (decide_eq_true (by rw [z]))) (fun z => e4 (decide_eq_true (by rw [z]))) (fun z => e5 (decide_eq_true (by rw [z]))) (fun z => e6 (decide_eq_true (by rw [z]))) (fun z => e7 (decide_eq_true (by rw [z]))) (fun z => e8 (decide_eq_true (by rw [z])))
    have hl4 : (formsOf "backed").length = 4 := by decide +kernel
    obtain ⟨v0, v1, v2, v3, rfl⟩ : ∃ v0 v1 v2 v3, xs = [v0, v1, v2, v3] := by
      rw [hl4] at hl
      match xs, hl with
      | [v0, v1, v2, v3], _ => exact ⟨_, _, _, _, rfl⟩
    exact ⟨_, rfl, lr, [v0, v1, v2, v3], rfl, hlr, madeRow0 (xs := [v0, v1, v2, v3]) hl hg ⟨fun gd H' a dx fs s e lk => hw.1 gd H' a s ⟨dx, fs, e, lk⟩, hw.2⟩⟩
end
end K11

namespace K11
open PySem PySem.Spec PyProof.Rows L2 So LamX
abbrev sByName : Stmt := topS 56
theorem scByName : FnScope ["_law_row", "_law_kind"] ["_law_row"] (defScope sByName) := ⟨rfl, rfl, rfl, by decide +kernel, rfl, by decide +kernel, by decide +kernel⟩
section
variable {P : Program} {w : World} {K : PySem.W.Frag} {mg : Str → Option Value} {base : Heap}
/-- the keywords stand the other way round -/
def kRev {α : Type} (us ws : List α) : List α := us ++ ws.reverse
theorem kb_rev {K : PySem.W.Frag} {fd : FuncData} {ps ks : List Str} (h : ∀ (s : Shared) (u : Value) (ws : List Value), ws.length = ks.length → BindsTo s fd ⟨[u], ks.zip ws⟩ (ps.zip (u :: ws.reverse))) : KBn K fd ps 1 ks kRev kRev := by
  refine ⟨fun s us ws _ h1 h2 => ?_, fun {vs us zs ws} r rz => r.append rz.reverse⟩
  match us, h1 with
  | [u], _ => exact h s u ws h2
/-- a class of rows, its maker called by keywords -/
def RowMK (K : PySem.W.Frag) (P : Program) (w : World) (mg : Str → Option Value) (base : Heap) (CN CM CS : Addr) (Cf : Str → Addr) (nm kind : Str) (ps : List Str) : Prop := ∃ (fI : Addr) (fdI : FuncData), mg nm = some (.ref (Cf kind)) ∧ Mk K (Cf kind) fI ∧ KBn K fdI ps 1 ps.tail.reverse kRev kRev ∧ FnOk P w K mg base (L2.CX P w) 6 fI fdI ps (spRow CN CM CS (Cf kind) kind)
structure RowsK (K : PySem.W.Frag) (P : Program) (w : World) (mg : Str → Option Value) (base : Heap) (CN CM CS : Addr) (Cf : Str → Addr) : Prop where
  begun : RowMK K P w mg base CN CM CS Cf "Begun" "begun" ["self", "tool", "moment"]
  setby : RowMK K P w mg base CN CM CS Cf "SetBy" "setby" ["self", "tool", "moment", "by"]
  found : RowMK K P w mg base CN CM CS Cf "Found" "found" ["self", "tool", "moment", "is_sound"]
  trusted : RowMK K P w mg base CN CM CS Cf "Trusted" "trusted" ["self", "tool"]
  passed : RowMK K P w mg base CN CM CS Cf "Passed" "passed" ["self", "tool", "moment", "by"]
  failed : RowMK K P w mg base CN CM CS Cf "Failed" "failed" ["self", "tool", "moment", "by"]
  agreed : RowMK K P w mg base CN CM CS Cf "Agreed" "agreed" ["self", "one", "moment", "other", "later"]
  differed : RowMK K P w mg base CN CM CS Cf "Differed" "differed" ["self", "one", "moment", "other", "later"]
  served : RowMK K P w mg base CN CM CS Cf "Served" "served" ["self", "one", "moment", "other", "later"]
  backed : RowMK K P w mg base CN CM CS Cf "Backed" "backed" ["self", "one", "moment", "other", "later"]
theorem ok_byname {CN CM CS f : Addr} {Cf : Str → Addr} {fd : FuncData} (F : Fun K "_law_by_name" "_law_by_name" sByName f fd) (R : RowsK K P w mg base CN CM CS Cf) : FnOk P w K mg base (L2.CX P w) 8 f fd ["_law_row"] (spMade CN CM CS Cf) := by
  obtain ⟨f_begun, fd_begun, g_begun, m_begun, k_begun, G_begun⟩ := R.begun
  obtain ⟨f_setby, fd_setby, g_setby, m_setby, k_setby, G_setby⟩ := R.setby
  obtain ⟨f_found, fd_found, g_found, m_found, k_found, G_found⟩ := R.found
  obtain ⟨f_trusted, fd_trusted, g_trusted, m_trusted, k_trusted, G_trusted⟩ := R.trusted
  obtain ⟨f_passed, fd_passed, g_passed, m_passed, k_passed, G_passed⟩ := R.passed
  obtain ⟨f_failed, fd_failed, g_failed, m_failed, k_failed, G_failed⟩ := R.failed
  obtain ⟨f_agreed, fd_agreed, g_agreed, m_agreed, k_agreed, G_agreed⟩ := R.agreed
  obtain ⟨f_differed, fd_differed, g_differed, m_differed, k_differed, G_differed⟩ := R.differed
  obtain ⟨f_served, fd_served, g_served, m_served, k_served, G_served⟩ := R.served
  obtain ⟨f_backed, fd_backed, g_backed, m_backed, k_backed, G_backed⟩ := R.backed
  refine F.okX scByName (fun vs H Q E h => ?_) (fun cdv A outer s H vs Q E hr h => ?_)
  · obtain ⟨_, _, _, rfl, _⟩ := h
    rfl
  · obtain ⟨lr, kind, xs, rfl, hlr, hk, hl, hg, hw⟩ := h
    refine ⟨_, pss_cons (ps_set (i := 1) scByName.nd rfl (.inl rfl) (pe_ix ix_tup (pv 0) pe_int (fun _ _ => rfl)))
      (pss_cons (ps_if (pt_cmpR op_eq (pv 1) pe_str (nomark _)) (pss_one (ps_ret (pe_makeK0 m_begun G_begun hr (by rfl) g_begun k_begun (passes_call (takes_of rfl rfl rfl rfl) (fun _ _ _ _ h => h)) (pk_cons (pe_ix ix_tup (pv 0) pe_int (fun _ _ => rfl)) (pk_cons (pe_ix ix_tup (pv 0) pe_int (fun _ _ => rfl)) pk_nil))))) pss_nil)
      (pss_cons (ps_if (pt_cmpR op_eq (pv 1) pe_str (nomark _)) (pss_one (ps_ret (pe_makeK0 m_setby G_setby hr (by rfl) g_setby k_setby (passes_call (takes_of rfl rfl rfl rfl) (fun _ _ _ _ h => h)) (pk_cons (pe_ix ix_tup (pv 0) pe_int (fun _ _ => rfl)) (pk_cons (pe_ix ix_tup (pv 0) pe_int (fun _ _ => rfl)) (pk_cons (pe_ix ix_tup (pv 0) pe_int (fun _ _ => rfl)) pk_nil)))))) pss_nil)
      (pss_cons (ps_if (pt_cmpR op_eq (pv 1) pe_str (nomark _)) (pss_one (ps_ret (pe_makeK0 m_found G_found hr (by rfl) g_found k_found (passes_call (takes_of rfl rfl rfl rfl) (fun _ _ _ _ h => h)) (pk_cons (pe_ix ix_tup (pv 0) pe_int (fun _ _ => rfl)) (pk_cons (pe_ix ix_tup (pv 0) pe_int (fun _ _ => rfl)) (pk_cons (pe_ix ix_tup (pv 0) pe_int (fun _ _ => rfl)) pk_nil)))))) pss_nil)
      (pss_cons (ps_if (pt_cmpR op_eq (pv 1) pe_str (nomark _)) (pss_one (ps_ret (pe_makeK0 m_trusted G_trusted hr (by rfl) g_trusted k_trusted (passes_call (takes_of rfl rfl rfl rfl) (fun _ _ _ _ h => h)) (pk_cons (pe_ix ix_tup (pv 0) pe_int (fun _ _ => rfl)) pk_nil)))) pss_nil)
      (pss_cons (ps_if (pt_cmpR op_eq (pv 1) pe_str (nomark _)) (pss_one (ps_ret (pe_makeK0 m_passed G_passed hr (by rfl) g_passed k_passed (passes_call (takes_of rfl rfl rfl rfl) (fun _ _ _ _ h => h)) (pk_cons (pe_ix ix_tup (pv 0) pe_int (fun _ _ => rfl)) (pk_cons (pe_ix ix_tup (pv 0) pe_int (fun _ _ => rfl)) (pk_cons (pe_ix ix_tup (pv 0) pe_int (fun _ _ => rfl)) pk_nil)))))) pss_nil)
      (pss_cons (ps_if (pt_cmpR op_eq (pv 1) pe_str (nomark _)) (pss_one (ps_ret (pe_makeK0 m_failed G_failed hr (by rfl) g_failed k_failed (passes_call (takes_of rfl rfl rfl rfl) (fun _ _ _ _ h => h)) (pk_cons (pe_ix ix_tup (pv 0) pe_int (fun _ _ => rfl)) (pk_cons (pe_ix ix_tup (pv 0) pe_int (fun _ _ => rfl)) (pk_cons (pe_ix ix_tup (pv 0) pe_int (fun _ _ => rfl)) pk_nil)))))) pss_nil)
      (pss_cons (ps_if (pt_cmpR op_eq (pv 1) pe_str (nomark _)) (pss_one (ps_ret (pe_makeK0 m_agreed G_agreed hr (by rfl) g_agreed k_agreed (passes_call (takes_of rfl rfl rfl rfl) (fun _ _ _ _ h => h)) (pk_cons (pe_ix ix_tup (pv 0) pe_int (fun _ _ => rfl)) (pk_cons (pe_ix ix_tup (pv 0) pe_int (fun _ _ => rfl)) (pk_cons (pe_ix ix_tup (pv 0) pe_int (fun _ _ => rfl)) (pk_cons (pe_ix ix_tup (pv 0) pe_int (fun _ _ => rfl)) pk_nil))))))) pss_nil)
      (pss_cons (ps_if (pt_cmpR op_eq (pv 1) pe_str (nomark _)) (pss_one (ps_ret (pe_makeK0 m_differed G_differed hr (by rfl) g_differed k_differed (passes_call (takes_of rfl rfl rfl rfl) (fun _ _ _ _ h => h)) (pk_cons (pe_ix ix_tup (pv 0) pe_int (fun _ _ => rfl)) (pk_cons (pe_ix ix_tup (pv 0) pe_int (fun _ _ => rfl)) (pk_cons (pe_ix ix_tup (pv 0) pe_int (fun _ _ => rfl)) (pk_cons (pe_ix ix_tup (pv 0) pe_int (fun _ _ => rfl)) pk_nil))))))) pss_nil)
      (pss_cons (ps_if (pt_cmpR op_eq (pv 1) pe_str (nomark _)) (pss_one (ps_ret (pe_makeK0 m_served G_served hr (by rfl) g_served k_served (passes_call (takes_of rfl rfl rfl rfl) (fun _ _ _ _ h => h)) (pk_cons (pe_ix ix_tup (pv 0) pe_int (fun _ _ => rfl)) (pk_cons (pe_ix ix_tup (pv 0) pe_int (fun _ _ => rfl)) (pk_cons (pe_ix ix_tup (pv 0) pe_int (fun _ _ => rfl)) (pk_cons (pe_ix ix_tup (pv 0) pe_int (fun _ _ => rfl)) pk_nil))))))) pss_nil)
      (pss_one (ps_ret (pe_makeK0 m_backed G_backed hr (by rfl) g_backed k_backed (passes_call (takes_of rfl rfl rfl rfl) (fun _ _ _ _ h => h)) (pk_cons (pe_ix ix_tup (pv 0) pe_int (fun _ _ => rfl)) (pk_cons (pe_ix ix_tup (pv 0) pe_int (fun _ _ => rfl)) (pk_cons (pe_ix ix_tup (pv 0) pe_int (fun _ _ => rfl)) (pk_cons (pe_ix ix_tup (pv 0) pe_int (fun _ _ => rfl)) pk_nil)))))))))))))))), ?_⟩
    refine ⟨_, rfl, lr, _, _, _, rfl, rfl, SqT.of hlr, atI_nat (j := 0) rfl, ?_⟩
    refine ⟨_, rfl, rfl, _, rfl, ite2 (fun e => ?_) (fun e0 => ?_)⟩
    · obtain rfl : kind = "begun" := V.str.inj (of_decide_eq_true e)
      have hl4 : (formsOf "begun").length = 2 := by decide +kernel
      obtain ⟨v0, v1, rfl⟩ : ∃ v0 v1, xs = [v0, v1] := by
        rw [hl4] at hl
        match xs, hl with
        | [v0, v1], _ => exact ⟨_, _, rfl⟩
      exact ⟨_, rfl, lr, _, _, _, rfl, rfl, SqT.of hlr, atI_nat (j := 2) rfl, _, rfl, lr, _, _, _, rfl, rfl, SqT.of hlr, atI_nat (j := 1) rfl, rfl, rfl, made_row (xs := [v0, v1]) hl hg ⟨fun gd H' a dx fs s e lk => hw.1 gd H' a s ⟨dx, fs, e, lk⟩, hw.2⟩⟩
    refine ⟨_, rfl, rfl, _, rfl, ite2 (fun e => ?_) (fun e1 => ?_)⟩
    · obtain rfl : kind = "setby" := V.str.inj (of_decide_eq_true e)
      have hl4 : (formsOf "setby").length = 3 := by decide +kernel
      obtain ⟨v0, v1, v2, rfl⟩ : ∃ v0 v1 v2, xs = [v0, v1, v2] := by
        rw [hl4] at hl
        match xs, hl with
        | [v0, v1, v2], _ => exact ⟨_, _, _, rfl⟩
      exact ⟨_, rfl, lr, _, _, _, rfl, rfl, SqT.of hlr, atI_nat (j := 3) rfl, _, rfl, lr, _, _, _, rfl, rfl, SqT.of hlr, atI_nat (j := 2) rfl, _, rfl, lr, _, _, _, rfl, rfl, SqT.of hlr, atI_nat (j := 1) rfl, rfl, rfl, made_row (xs := [v0, v1, v2]) hl hg ⟨fun gd H' a dx fs s e lk => hw.1 gd H' a s ⟨dx, fs, e, lk⟩, hw.2⟩⟩
    refine ⟨_, rfl, rfl, _, rfl, ite2 (fun e => ?_) (fun e2 => ?_)⟩
    · obtain rfl : kind = "found" := V.str.inj (of_decide_eq_true e)
      have hl4 : (formsOf "found").length = 3 := by decide +kernel
      obtain ⟨v0, v1, v2, rfl⟩ : ∃ v0 v1 v2, xs = [v0, v1, v2] := by
        rw [hl4] at hl
        match xs, hl with
        | [v0, v1, v2], _ => exact ⟨_, _, _, rfl⟩
      exact ⟨_, rfl, lr, _, _, _, rfl, rfl, SqT.of hlr, atI_nat (j := 3) rfl, _, rfl, lr, _, _, _, rfl, rfl, SqT.of hlr, atI_nat (j := 2) rfl, _, rfl, lr, _, _, _, rfl, rfl, SqT.of hlr, atI_nat (j := 1) rfl, rfl, rfl, made_row (xs := [v0, v1, v2]) hl hg ⟨fun gd H' a dx fs s e lk => hw.1 gd H' a s ⟨dx, fs, e, lk⟩, hw.2⟩⟩
    refine ⟨_, rfl, rfl, _, rfl, ite2 (fun e => ?_) (fun e3 => ?_)⟩
    · obtain rfl : kind = "trusted" := V.str.inj (of_decide_eq_true e)
      have hl4 : (formsOf "trusted").length = 1 := by decide +kernel
      obtain ⟨v0, rfl⟩ : ∃ v0, xs = [v0] := by
        rw [hl4] at hl
        match xs, hl with
        | [v0], _ => exact ⟨_, rfl⟩
      exact ⟨_, rfl, lr, _, _, _, rfl, rfl, SqT.of hlr, atI_nat (j := 1) rfl, rfl, rfl, made_row (xs := [v0]) hl hg ⟨fun gd H' a dx fs s e lk => hw.1 gd H' a s ⟨dx, fs, e, lk⟩, hw.2⟩⟩
    refine ⟨_, rfl, rfl, _, rfl, ite2 (fun e => ?_) (fun e4 => ?_)⟩
    · obtain rfl : kind = "passed" := V.str.inj (of_decide_eq_true e)
      have hl4 : (formsOf "passed").length = 3 := by decide +kernel
      obtain ⟨v0, v1, v2, rfl⟩ : ∃ v0 v1 v2, xs = [v0, v1, v2] := by
        rw [hl4] at hl
        match xs, hl with
        | [v0, v1, v2], _ => exact ⟨_, _, _, rfl⟩
      exact ⟨_, rfl, lr, _, _, _, rfl, rfl, SqT.of hlr, atI_nat (j := 3) rfl, _, rfl, lr, _, _, _, rfl, rfl, SqT.of hlr, atI_nat (j := 2) rfl, _, rfl, lr, _, _, _, rfl, rfl, SqT.of hlr, atI_nat (j := 1) rfl, rfl, rfl, made_row (xs := [v0, v1, v2]) hl hg ⟨fun gd H' a dx fs s e lk => hw.1 gd H' a s ⟨dx, fs, e, lk⟩, hw.2⟩⟩
    refine ⟨_, rfl, rfl, _, rfl, ite2 (fun e => ?_) (fun e5 => ?_)⟩
    · obtain rfl : kind = "failed" := V.str.inj (of_decide_eq_true e)
      have hl4 : (formsOf "failed").length = 3 := by decide +kernel
      obtain ⟨v0, v1, v2, rfl⟩ : ∃ v0 v1 v2, xs = [v0, v1, v2] := by
        rw [hl4] at hl
        match xs, hl with
        | [v0, v1, v2], _ => exact ⟨_, _, _, rfl⟩
      exact ⟨_, rfl, lr, _, _, _, rfl, rfl, SqT.of hlr, atI_nat (j := 3) rfl, _, rfl, lr, _, _, _, rfl, rfl, SqT.of hlr, atI_nat (j := 2) rfl, _, rfl, lr, _, _, _, rfl, rfl, SqT.of hlr, atI_nat (j := 1) rfl, rfl, rfl, made_row (xs := [v0, v1, v2]) hl hg ⟨fun gd H' a dx fs s e lk => hw.1 gd H' a s ⟨dx, fs, e, lk⟩, hw.2⟩⟩
    refine ⟨_, rfl, rfl, _, rfl, ite2 (fun e => ?_) (fun e6 => ?_)⟩
    · obtain rfl : kind = "agreed" := V.str.inj (of_decide_eq_true e)
      have hl4 : (formsOf "agreed").length = 4 := by decide +kernel
      obtain ⟨v0, v1, v2, v3, rfl⟩ : ∃ v0 v1 v2 v3, xs = [v0, v1, v2, v3] := by
        rw [hl4] at hl
        match xs, hl with
        | [v0, v1, v2, v3], _ => exact ⟨_, _, _, _, rfl⟩
      exact ⟨_, rfl, lr, _, _, _, rfl, rfl, SqT.of hlr, atI_nat (j := 4) rfl, _, rfl, lr, _, _, _, rfl, rfl, SqT.of hlr, atI_nat (j := 3) rfl, _, rfl, lr, _, _, _, rfl, rfl, SqT.of hlr, atI_nat (j := 2) rfl, _, rfl, lr, _, _, _, rfl, rfl, SqT.of hlr, atI_nat (j := 1) rfl, rfl, rfl, made_row (xs := [v0, v1, v2, v3]) hl hg ⟨fun gd H' a dx fs s e lk => hw.1 gd H' a s ⟨dx, fs, e, lk⟩, hw.2⟩⟩
    refine ⟨_, rfl, rfl, _, rfl, ite2 (fun e => ?_) (fun e7 => ?_)⟩
    · obtain rfl : kind = "differed" := V.str.inj (of_decide_eq_true e)
      have hl4 : (formsOf "differed").length = 4 := by decide +kernel
      obtain ⟨v0, v1, v2, v3, rfl⟩ : ∃ v0 v1 v2 v3, xs = [v0, v1, v2, v3] := by
        rw [hl4] at hl
        match xs, hl with
        | [v0, v1, v2, v3], _ => exact ⟨_, _, _, _, rfl⟩
      exact ⟨_, rfl, lr, _, _, _, rfl, rfl, SqT.of hlr, atI_nat (j := 4) rfl, _, rfl, lr, _, _, _, rfl, rfl, SqT.of hlr, atI_nat (j := 3) rfl, _, rfl, lr, _, _, _, rfl, rfl, SqT.of hlr, atI_nat (j := 2) rfl, _, rfl, lr, _, _, _, rfl, rfl, SqT.of hlr, atI_nat (j := 1) rfl, rfl, rfl, made_row (xs := [v0, v1, v2, v3]) hl hg ⟨fun gd H' a dx fs s e lk => hw.1 gd H' a s ⟨dx, fs, e, lk⟩, hw.2⟩⟩
    refine ⟨_, rfl, rfl, _, rfl, ite2 (fun e => ?_) (fun e8 => ?_)⟩
    · obtain rfl : kind = "served" := V.str.inj (of_decide_eq_true e)
      have hl4 : (formsOf "served").length = 4 := by decide +kernel
      obtain ⟨v0, v1, v2, v3, rfl⟩ : ∃ v0 v1 v2 v3, xs = [v0, v1, v2, v3] := by
        rw [hl4] at hl
        match xs, hl with
        | [v0, v1, v2, v3], _ => exact ⟨_, _, _, _, rfl⟩
      exact ⟨_, rfl, lr, _, _, _, rfl, rfl, SqT.of hlr, atI_nat (j := 4) rfl, _, rfl, lr, _, _, _, rfl, rfl, SqT.of hlr, atI_nat (j := 3) rfl, _, rfl, lr, _, _, _, rfl, rfl, SqT.of hlr, atI_nat (j := 2) rfl, _, rfl, lr, _, _, _, rfl, rfl, SqT.of hlr, atI_nat (j := 1) rfl, rfl, rfl, made_row (xs := [v0, v1, v2, v3]) hl hg ⟨fun gd H' a dx fs s e lk => hw.1 gd H' a s ⟨dx, fs, e, lk⟩, hw.2⟩⟩
    obtain rfl : kind = "backed" := kinds_end kind hk (fun z => e0 (decide_eq_true (by rw [z]))) (fun z => e1 (decide_eq_true (by rw [z]))) (fun z => e2 (decide_eq_true (by rw [z]))) (fun z => e3 (decide_eq_true (by rw [z]))) (fun z => e4 (decide_eq_true (by rw [z]))) (fun z => e5 (decide_eq_true (by rw [z]))) (fun z => e6 (decide_eq_true (by rw [z]))) (fun z => e7 (decide_eq_true (by rw [z]))) (fun z => e8 (decide_eq_true (by rw [z])))
    have hl4 : (formsOf "backed").length = 4 := by decide +kernel
    obtain ⟨v0, v1, v2, v3, rfl⟩ : ∃ v0 v1 v2 v3, xs = [v0, v1, v2, v3] := by
      rw [hl4] at hl
      match xs, hl with
      | [v0, v1, v2, v3], _ => exact ⟨_, _, _, _, rfl⟩
    exact ⟨_, rfl, lr, _, _, _, rfl, rfl, SqT.of hlr, atI_nat (j := 4) rfl, _, rfl, lr, _, _, _, rfl, rfl, SqT.of hlr, atI_nat (j := 3) rfl, _, rfl, lr, _, _, _, rfl, rfl, SqT.of hlr, atI_nat (j := 2) rfl, _, rfl, lr, _, _, _, rfl, rfl, SqT.of hlr, atI_nat (j := 1) rfl, rfl, rfl, made_row (xs := [v0, v1, v2, v3]) hl hg ⟨fun gd H' a dx fs s e lk => hw.1 gd H' a s ⟨dx, fs, e, lk⟩, hw.2⟩⟩
end
end K11

namespace K11
open PySem PySem.Spec PyProof.Rows L2 So LamX StX
abbrev sEqR : Stmt := inClass (topS 28) 9
abbrev sStrR : Stmt := inClass (topS 28) 10
theorem scEqR : FnScope ["self", "other"] ["self", "other"] (defScope sEqR) := ⟨rfl, rfl, rfl, by decide +kernel, rfl, by decide +kernel, by decide +kernel⟩
theorem scStrR : FnScope ["self", "words", "value"] ["self"] (defScope sStrR) := ⟨rfl, rfl, rfl, by decide +kernel, rfl, by decide +kernel, by decide +kernel⟩
def flatD : V → Option PyData
  | .non => some .none
  | .bl b => some (.bool b)
  | .int i => some (.int i)
  | .str z => some (.str z)
  | _ => none
def flatDs : List V → Option (List PyData)
  | [] => some []
  | v :: r => match flatD v, flatDs r with
    | some d, some ds => some (d :: ds)
    | _, _ => none
section
variable {K : PySem.W.Frag}
theorem flatD_dp {H : Hp} {v : V} {d : PyData} (h : flatD v = some d) : Dp K H v d := by
  cases v with
  | non => cases h; exact .non
  | bl b => cases h; exact .bl b
  | int i => cases h; exact .int i
  | str z => cases h; exact .str z
  | _ => cases h
theorem flatDs_dp {H : Hp} : ∀ {xs : List V} {ds : List PyData}, flatDs xs = some ds → DpAll K H xs ds
  | [], ds, h => by
    cases h
    exact .nil
  | v :: r, ds, h => by
    unfold flatDs at h
    split at h
    · rename_i d es h1 h2
      cases h
      exact .cons (flatD_dp h1) (flatDs_dp h2)
    · cases h
end
/-! ### what is known of a name, a moment -/
theorem name_small {z : Str} (h : isName z = true) : ∀ c ∈ z.cps.toList, c < 128 := by
  have aln : ∀ c ∈ (letters ++ digits).cps.toList, c < 128 := by decide +kernel
  unfold isName at h
  simp only [Bool.and_eq_true] at h
  intro c hc
  exact aln c (of_decide_eq_true (List.all_eq_true.mp h.2 c hc))
theorem name_strOk {z : Str} (h : isName z = true) : PyData.strOk z = true := by
  unfold PyData.strOk
  rw [← Array.all_toList]
  exact List.all_eq_true.mpr fun c hc => decide_eq_true (Nat.lt_trans (name_small h c hc) (by decide))
theorem name_len {z : Str} (h : isName z = true) : z.length ≤ 8 := by
  unfold isName at h
  simp only [Bool.and_eq_true, decide_eq_true_eq] at h
  exact h.1.1.1.2
theorem mom_log {m : Int} (h : 0 ≤ m ∧ m ≤ 1000000000000000000000000000000) : m.natAbs.log2 < 1920 := by
  have : m.natAbs < 2 ^ 100 := by omega
  exact Nat.lt_of_lt_of_le (PySem.Flt.log2_lt_of (by decide) this) (by decide)
theorem mom_len {m : Int} (h : 0 ≤ m ∧ m ≤ 1000000000000000000000000000000) : (Str.ofString (toString m)).length ≤ 200 := by
  rw [PyProof.Rows.ofString_length]
  have : m.natAbs.log2 < 101 := PySem.Flt.log2_lt_of (by decide) (by omega : m.natAbs < 2 ^ 101)
  exact Nat.le_trans (int_text_length_le (k := 101) (by decide) this) (by decide)
/-- flat values as data -/
theorem flat_data : ∀ {xs : List V}, (∀ v ∈ xs, Flat1 v) → ∃ ds, flatDs xs = some ds ∧ PyData.canLayAll0 ds = true ∧ PyData.depthAll ds = 0 ∧ PyData.eqvAll ds ds = true
  | [], _ => ⟨[], rfl, rfl, rfl, rfl⟩
  | v :: r, h => by
    obtain ⟨ds, h1, h2, h3, h4⟩ := flat_data (xs := r) fun x hx => h x (List.mem_cons_of_mem _ hx)
    have hv := h v List.mem_cons_self
    cases hv with
    | @nam z hz => exact ⟨.str z :: ds, by unfold flatDs flatD; rw [h1], by simp [PyData.canLayAll0, PyData.canLay0, name_strOk hz, h2], by simp [PyData.depthAll, PyData.depth, h3], by simp [PyData.eqvAll, PyData.eqv, h4]⟩
    | @mom m hm => exact ⟨.int m :: ds, by unfold flatDs flatD; rw [h1], by simp [PyData.canLayAll0, PyData.canLay0, h2], by simp [PyData.depthAll, PyData.depth, h3], by simp [PyData.eqvAll, PyData.eqv, h4]⟩
    | @tru b => exact ⟨.bool b :: ds, by unfold flatDs flatD; rw [h1], by simp [PyData.canLayAll0, PyData.canLay0, h2], by simp [PyData.depthAll, PyData.depth, h3], by simp [PyData.eqvAll, PyData.eqv, h4]⟩
theorem flat_tup {xs : List V} (h : ∀ v ∈ xs, Flat1 v) : ∃ d : PyData, SeqAt.shaped d = true ∧ PyData.eqv d d = true ∧ ∀ (K : PySem.W.Frag) (H : Hp) (p : Addr), H p = some (.tup xs) → Dp K H (.ref p) d := by
  obtain ⟨ds, h1, h2, h3, h4⟩ := flat_data h
  refine ⟨.tuple ds, ?_, ?_, fun K H p e => .tup (SqT.of e) (flatDs_dp h1)⟩
  · unfold SeqAt.shaped
    simp [PyData.canLay0, h2, PyData.depth, h3]
  · simp [PyData.eqv, h4]
theorem FlatRow.flat {kind : Str} {xs : List V} (h : FlatRow kind xs) : ∀ v ∈ xs, Flat1 v := by
  intro v hv
  obtain ⟨i, hi, e⟩ := List.mem_iff_getElem.mp hv
  have hz : (v, (formsOf kind)[i]'(by rw [← h.1]; exact hi)) ∈ xs.zip (formsOf kind) := List.mem_of_getElem? (i := i) (by
    rw [List.getElem?_zip_eq_some]
    exact ⟨by rw [List.getElem?_eq_getElem hi, e], List.getElem?_eq_getElem _⟩)
  exact (h.2 _ hz).2
/-! ### the text of a row -/
def wordV : V → Str
  | .str z => z
  | .int i => (toString i : String)
  | .bl b => if b then "sound" else "unsound"
  | _ => Str.empty
def rowText (kind : Str) (xs : List V) : Str := Txt.join " " (kind :: xs.map wordV)
theorem word_len {v : V} (h : Flat1 v) : (wordV v).length ≤ 200 := by
  cases h with
  | nam h => exact Nat.le_trans (name_len h) (by decide)
  | mom h => exact mom_len h
  | tru b => cases b <;> decide +kernel
theorem words_sum : ∀ {xs : List V}, (∀ v ∈ xs, Flat1 v) → ((xs.map wordV).map (·.length)).sum ≤ 200 * xs.length
  | [], _ => Nat.le_refl _
  | v :: r, h => by
    have h1 := word_len (h v List.mem_cons_self)
    have h2 := words_sum (xs := r) fun x hx => h x (List.mem_cons_of_mem _ hx)
    simp only [List.map_cons, List.sum_cons, List.length_cons]
    omega
theorem kind_len : ∀ kind ∈ kinds, kind.length ≤ 8 := by decide +kernel
theorem forms_len : ∀ kind ∈ kinds, (formsOf kind).length ≤ 4 := by decide +kernel
/-- what the top says of the rows' classes -/
structure RowsC (K : PySem.W.Frag) (mg : Str → Option Value) (Cf : Str → Addr) (CR : Addr) : Prop where
  gR : mg "Row" = some (.ref CR)
  c : ∀ kind ∈ kinds, RowC K (Cf kind) ("_told" :: "kind" :: attrsOf kind)
  kR : ∀ kind ∈ kinds, PySem.W.kitOne K (.ref (Cf kind)) (.ref CR) = some true
  ha : ∀ kind ∈ kinds, PySem.W.findIn K (.ref (Cf kind)) "__class__" = some (some (.builtin "object.__class__"))
  hn : PySem.W.specialIn K (.builtin "object.__class__") "__get__" = some (some (.builtin "getset_descriptor.__get__"))
  htk : PySem.W.takesIn K (.builtin "object.__class__") = some true
  hm : ∀ kind ∈ kinds, PySem.W.mroIn K (Cf kind) (.type "object") = some true
section
variable {P : Program} {w : World} {K : PySem.W.Frag} {mg : Str → Option Value} {base : Heap}
/-- word_of -/
def spWordOf : Sp := fun vs H Q _ => ∃ v, vs = [v] ∧ Flat1 v ∧ Q (.str (wordV v)) H
theorem ok_wordOf {f : Addr} {fd : FuncData} (F : Fun K "word_of" "word_of" sWordOf f fd) (W : Words K mg) : FnOk P w K mg base CX0 1 f fd ["value"] spWordOf := by
  refine F.ok scWordOf (fun vs H Q E h => ?_) (fun cdv A outer s H vs Q E hr h => ?_)
  · obtain ⟨_, rfl, _⟩ := h
    rfl
  · obtain ⟨v, rfl, hv, q⟩ := h
    refine ⟨_, pss_cons (ps_if (pt_val (pe_callB call_isi (by rfl) W.isi (by decide +kernel) (pa_cons (pv 0) (pa_cons (pe_bltn (v := .ty "bool") (by rfl) W.bool (by decide +kernel) rfl) pa_nil))))
      (pss_one (ps_ret (pe_ifExp (pt_val (pv 0)) pe_str pe_str))) pss_nil) (pss_one (ps_ret (pe_callTy (So.CallR.or SkE.call_str_str call_str_int) (by rfl) W.str (by decide +kernel) (pa_cons (pv 0) pa_nil)))), ?_⟩
    cases hv with
    | @nam z hz => exact ⟨_, rfl, _, _, _, _, false, rfl, .ty "bool", (Gv.str z (Nat.le_trans (name_len hz) (by decide))).ty, kit_ty (by decide +kernel), false, rfl, iteF ⟨_, rfl, .inl ⟨z, rfl, q⟩⟩⟩
    | @mom i hi => exact ⟨_, rfl, _, _, _, _, false, rfl, .ty "bool", (Gv.int i).ty, kit_int_bool, false, rfl, iteF ⟨_, rfl, .inr ⟨i, rfl, mom_log hi, q⟩⟩⟩
    | @tru b =>
      refine ⟨_, rfl, _, _, _, _, true, rfl, .ty "bool", .base (.bl b), kit_bool_bool, true, rfl, iteT ?_⟩
      refine ⟨_, rfl, b, rfl, ?_⟩
      cases b with
      | true => exact iteT q
      | false => exact iteF q
/-- the text of a row -/
def spStrR (Cf : Str → Addr) : Sp := fun vs H Q _ => ∃ (a : Addr) (kind : Str) (xs : List V), vs = [.ref a] ∧ kind ∈ kinds ∧ FlatRow kind xs ∧ RowAt Cf H a kind xs ∧ ∀ H', Same H H' → Q (.str (rowText kind xs)) H'
theorem ok_strR {Cf : Str → Addr} {CR f fW : Addr} {fd fdW : FuncData} (F : Fun K "__str__" "Row.__str__" sStrR f fd) (T : RowsC K mg Cf CR) (FW : Fun K "word_of" "word_of" sWordOf fW fdW) (bW : Binds K fdW ["value"] []) (gW : mg "word_of" = some (.ref fW)) (GW : FnOk P w K mg base CX0 1 fW fdW ["value"] spWordOf) :
    FnOk P w K mg base CX0 2 f fd ["self"] (spStrR Cf) := by
  refine F.ok scStrR (fun vs H Q E h => ?_) (fun cdv A outer s H vs Q E hr h => ?_)
  · obtain ⟨_, _, _, rfl, _⟩ := h
    rfl
  · obtain ⟨a, kind, xs, rfl, hk, hf, hA, q⟩ := h
    refine ⟨_, pss_cons (ps_setLc (i := 1) (own := [("value", 2)]) (g := gName 2) (tt := tYes) rfl scStrR.nd rfl rfl (sw_true rfl rfl rfl (by decide +kernel)) (pi_tup (pe_fld (pv 0) rfl)) (blkOk_by (N := ["self", "words", "value"]) (sc := defScope sStrR) (by decide +kernel))
          (fun _ _ _ _ _ => pg_name (i := 2) scStrR.nd rfl (Or.inl rfl)) (fun _ _ _ _ _ => pts_nil)
          (fun _ _ _ _ _ => pe_call GW hr (by rfl) gW FW.kp bW .nil pass0 (pa_cons (pv 2) pa_nil)))
      (pss_one (ps_ret (pe_join pe_str (pe_lst (pa_cons (pe_fld (pv 0) rfl) (pa_star (pv 1) pa_nil)))))), ?_⟩
    obtain ⟨dx, fs, ha, t1, ⟨tp, t2, t3⟩, _⟩ := id hA
    have cl := (T.c kind hk).cl
    have n0 := (T.c kind hk).no "_told" (by simp)
    have n1 := (T.c kind hk).no "kind" (by simp)
    have hfl := hf.flat
    have hl4 : xs.length ≤ 4 := by rw [hf.1]; exact forms_len kind hk
    have hsz := sizeLine_eq
    refine ⟨_, rfl, a, _, dx, _, _, rfl, ha, cl, n0, t2, tp, rfl, ⟨_, SqT.of t3⟩, fun D hD => ?_⟩
    refine lc_it walk_tup (fun k H' => Same H H' ∧ H' D = some (.lst ((xs.take k).map fun v => .str (wordV v)))) ⟨Same.over (Same.refl H) hD, upd_same⟩ (fun _ _ _ y => SqT.of (y.1 _ _ t3)) ?_ ?_
    · rintro k x H2 H3 hk2 ⟨s2, hDk⟩ ⟨rfl, hxk⟩
      have et : xs.take (k + 1) = xs.take k ++ [x] := by rw [List.take_add_one, hxk]; rfl
      refine ⟨rfl, _, rfl, x, rfl, hfl x (List.mem_of_getElem? hxk), _, hDk, ?_, Same.over s2 hD, ?_⟩
      · rw [List.length_map]
        have h2 : (xs.take k).length ≤ xs.length := List.length_take_le' _ _
        omega
      · rw [et, List.map_append]
        exact upd_same
    · rintro H2 ⟨s2, hDk⟩
      rw [List.take_length] at hDk
      have ha2 := s2 _ _ ha
      refine ⟨⟨_, rfl⟩, _, rfl, a, _, dx, _, _, rfl, ha2, cl, n1, t1, _, rfl, D, _, rfl, .inr (SqL.of hDk), ?_, fun p hp => ?_⟩
      · rw [List.append_nil, List.length_cons, List.length_map]
        omega
      · refine ⟨_, p, kind :: xs.map wordV, rfl, rfl, .inl (SqL.of ?_), ?_, q _ (s2.trans (same_upd0 hp))⟩
        · rw [upd_same, List.append_nil, List.map_cons, List.map_map]
          rfl
        · have := words_sum hfl
          have hk8 := kind_len kind hk
          have e3 : ((" " : Str)).length = 1 := by decide
          rw [List.map_cons, List.sum_cons, List.length_cons, List.length_map, e3]
          omega
/-- Row.__eq__ of two like rows -/
def spEqR (Cf : Str → Addr) : Sp := fun vs H Q _ => ∃ (a b : Addr) (kind : Str) (xs : List V), vs = [.ref a, .ref b] ∧ kind ∈ kinds ∧ FlatRow kind xs ∧ RowAt Cf H a kind xs ∧ RowAt Cf H b kind xs ∧ Q (.bl true) H
theorem ok_eqR {Cf : Str → Addr} {CR f : Addr} {fd : FuncData} (F : Fun K "__eq__" "Row.__eq__" sEqR f fd) (W : Words K mg) (T : RowsC K mg Cf CR) : FnOk P w K mg base CX0 1 f fd ["self", "other"] (spEqR Cf) := by
  refine F.ok scEqR (fun vs H Q E h => ?_) (fun cdv A outer s H vs Q E hr h => ?_)
  · obtain ⟨_, _, _, _, rfl, _⟩ := h
    rfl
  · obtain ⟨a, b, kind, xs, rfl, hk, hf, ⟨dx, fs, ha, tA⟩, ⟨dx', fs', hb, tB⟩, q⟩ := h
    have cl := (T.c kind hk).cl
    have n0 := (T.c kind hk).no "_told" (by simp)
    have n1 := (T.c kind hk).no "kind" (by simp)
    obtain ⟨k1, ⟨p1, e1, t1⟩, _⟩ := tA
    obtain ⟨k2, ⟨p2, e2, t2⟩, _⟩ := tB
    obtain ⟨d, sh, ev, hd⟩ := flat_tup hf.flat
    refine ⟨_, pss_one (ps_ret (pe_and (pe_callB call_isi (by rfl) W.isi (by decide +kernel) (pa_cons (pv 1) (pa_cons (pe_glob (v := .ref CR) rfl T.gR rfl) pa_nil))) (pe_and (pe_cmpR op_eq (pe_fld (pv 0) rfl) (pe_fld (pv 1) rfl) (nomark _)) (pe_one (pe_cmpR (op_eqD hr.units) (pe_fld (pv 0) rfl) (pe_fld (pv 1) rfl) (nomark _)))))), ?_⟩
    refine ⟨_, rfl, _, _, _, _, true, rfl, .own CR, .base (.ins hb cl (T.ha kind hk) T.hn T.htk (T.hm kind hk)), T.kR kind hk, true, rfl, iteT ?_⟩
    refine ⟨_, rfl, a, _, dx, _, _, rfl, ha, cl, n1, k1, _, rfl, b, _, dx', _, _, rfl, hb, cl, n1, k2, rfl, true, by simp, iteT ?_⟩
    refine ⟨_, rfl, a, _, dx, _, _, rfl, ha, cl, n0, e1, _, rfl, b, _, dx', _, _, rfl, hb, cl, n0, e2, d, d, hd _ _ _ t1, hd _ _ _ t2, sh, sh, ?_⟩
    rw [ev]
    exact q
end
end K11

namespace K11
open PySem PySem.Spec PyProof.Rows L2 So LamX
abbrev sAttr : Stmt := topS 57
theorem scAttr : FnScope ["_law_made_here", "_law_kind"] ["_law_made_here", "_law_kind"] (defScope sAttr) := ⟨rfl, rfl, rfl, by decide +kernel, rfl, by decide +kernel, by decide +kernel⟩
section
variable {P : Program} {w : World} {K : PySem.W.Frag} {mg : Str → Option Value} {base : Heap}
theorem three_attrs : ∀ kind ∈ kinds, (["setby", "passed", "failed"] : List Str).contains kind = true → attrsOf kind = (["tool", "moment", "by"] : List Str) ∧ (formsOf kind).length = 3 := by decide +kernel
theorem four_attrs : ∀ kind ∈ kinds, ¬ kind = "begun" → ¬ kind = "found" → ¬ kind = "trusted" → ¬ (["setby", "passed", "failed"] : List Str).contains kind = true → attrsOf kind = (["one", "moment", "other", "later"] : List Str) ∧ (formsOf kind).length = 4 := by decide +kernel
def spAttr (Cf : Str → Addr) : Sp := fun vs H Q _ => ∃ (a : Addr) (kind : Str) (xs : List V), vs = [.ref a, .str kind] ∧ kind ∈ kinds ∧ xs.length = (formsOf kind).length ∧ RowAt Cf H a kind xs ∧
  ∀ (H' : Hp) (l : Addr), Same H H' → H l = none → H' l = some (.lst xs) → Q (.ref l) H'
theorem ok_attr {Cf : Str → Addr} {CR f : Addr} {fd : FuncData} (F : Fun K "_law_attributes" "_law_attributes" sAttr f fd) (T : RowsC K mg Cf CR) : FnOk P w K mg base CX0 1 f fd ["_law_made_here", "_law_kind"] (spAttr Cf) := by
  refine F.ok scAttr (fun vs H Q E h => ?_) (fun cdv A outer s H vs Q E hr h => ?_)
  · obtain ⟨_, _, _, rfl, _⟩ := h
    rfl
  · obtain ⟨a, kind, xs, rfl, hk, hl, hA, q⟩ := h
    refine ⟨_, pss_cons (ps_if (pt_cmpR op_eq (pv 1) pe_str (nomark _)) (pss_one (ps_ret (pe_lst (pa_cons (pe_fld (pv 0) rfl) (pa_cons (pe_fld (pv 0) rfl) pa_nil))))) pss_nil)
      (pss_cons (ps_if (pt_cmpR op_eq (pv 1) pe_str (nomark _)) (pss_one (ps_ret (pe_lst (pa_cons (pe_fld (pv 0) rfl) (pa_cons (pe_fld (pv 0) rfl) (pa_cons (pe_fld (pv 0) rfl) pa_nil)))))) pss_nil)
      (pss_cons (ps_if (pt_cmpR op_eq (pv 1) pe_str (nomark _)) (pss_one (ps_ret (pe_lst (pa_cons (pe_fld (pv 0) rfl) pa_nil)))) pss_nil)
      (pss_cons (ps_if (pt_cmpR op_in_seq (pv 1) (pe_tup (pa_cons pe_str (pa_cons pe_str (pa_cons pe_str pa_nil)))) (by rfl)) (pss_one (ps_ret (pe_lst (pa_cons (pe_fld (pv 0) rfl) (pa_cons (pe_fld (pv 0) rfl) (pa_cons (pe_fld (pv 0) rfl) pa_nil)))))) pss_nil)
      (pss_one (ps_ret (pe_lst (pa_cons (pe_fld (pv 0) rfl) (pa_cons (pe_fld (pv 0) rfl) (pa_cons (pe_fld (pv 0) rfl) (pa_cons (pe_fld (pv 0) rfl) pa_nil)))))))))), ?_⟩
    obtain ⟨dx, fs, ha, ⟨_, _, ht, _⟩⟩ := id hA
    have cl := (T.c kind hk).cl
    have no := (T.c kind hk).no
    have fin : ∀ (G : Hp) (l : Addr), Same H G → G l = none → Q (.ref l) (upd G l (.lst xs)) := fun G l s e => q _ _ (s.trans (same_upd0 e)) (s.free e) upd_same
    refine ⟨_, rfl, rfl, _, rfl, ite2 (fun e => ?_) (fun e0 => ?_)⟩
    · obtain rfl : kind = "begun" := V.str.inj (of_decide_eq_true e)
      have hl4 : (formsOf "begun").length = 2 := by decide +kernel
      obtain ⟨v0, v1, rfl⟩ : ∃ v0 v1, xs = [v0, v1] := by
        rw [hl4] at hl
        match xs, hl with
        | [v0, v1], _ => exact ⟨_, _, rfl⟩
      rw [attrs_begun] at ht no
      simp only [List.zip_cons_cons, List.zip_nil_right, List.forall_mem_cons] at ht no
      obtain ⟨t0, t1, _⟩ := ht
      obtain ⟨_, _, m0, m1, _⟩ := no
      exact ⟨_, rfl, a, _, dx, _, _, rfl, ha, cl, m0, t0, _, rfl, a, _, dx, _, _, rfl, ha, cl, m1, t1, by show 2 ≤ sizeLine; decide, fun l hl' => fin _ l (Same.refl H) hl'⟩
    refine ⟨_, rfl, rfl, _, rfl, ite2 (fun e => ?_) (fun e1 => ?_)⟩
    · obtain rfl : kind = "found" := V.str.inj (of_decide_eq_true e)
      have hl4 : (formsOf "found").length = 3 := by decide +kernel
      obtain ⟨v0, v1, v2, rfl⟩ : ∃ v0 v1 v2, xs = [v0, v1, v2] := by
        rw [hl4] at hl
        match xs, hl with
        | [v0, v1, v2], _ => exact ⟨_, _, _, rfl⟩
      rw [attrs_found] at ht no
      simp only [List.zip_cons_cons, List.zip_nil_right, List.forall_mem_cons] at ht no
      obtain ⟨t0, t1, t2, _⟩ := ht
      obtain ⟨_, _, m0, m1, m2, _⟩ := no
      exact ⟨_, rfl, a, _, dx, _, _, rfl, ha, cl, m0, t0, _, rfl, a, _, dx, _, _, rfl, ha, cl, m1, t1, _, rfl, a, _, dx, _, _, rfl, ha, cl, m2, t2, by show 3 ≤ sizeLine; decide, fun l hl' => fin _ l (Same.refl H) hl'⟩
    refine ⟨_, rfl, rfl, _, rfl, ite2 (fun e => ?_) (fun e2 => ?_)⟩
    · obtain rfl : kind = "trusted" := V.str.inj (of_decide_eq_true e)
      have hl4 : (formsOf "trusted").length = 1 := by decide +kernel
      obtain ⟨v0, rfl⟩ : ∃ v0, xs = [v0] := by
        rw [hl4] at hl
        match xs, hl with
        | [v0], _ => exact ⟨_, rfl⟩
      rw [attrs_trusted] at ht no
      simp only [List.zip_cons_cons, List.zip_nil_right, List.forall_mem_cons] at ht no
      obtain ⟨t0, _⟩ := ht
      obtain ⟨_, _, m0, _⟩ := no
      exact ⟨_, rfl, a, _, dx, _, _, rfl, ha, cl, m0, t0, by show 1 ≤ sizeLine; decide, fun l hl' => fin _ l (Same.refl H) hl'⟩
    refine ⟨_, rfl, by show 3 ≤ sizeLine; decide, fun tp htp => ⟨tp, _, rfl, .inr (SqT.of upd_same), rfl, flat_strs ["setby", "passed", "failed"], ?_⟩⟩
    have s7 := same_upd0 (o := .tup [.str "setby", .str "passed", .str "failed"]) htp
    have ha7 := s7 _ _ ha
    rw [show (if false = true then !inV (V.str kind) [V.str "setby", V.str "passed", V.str "failed"] else inV (V.str kind) [V.str "setby", V.str "passed", V.str "failed"]) = (["setby", "passed", "failed"] : List Str).contains kind from inV_strs kind ["setby", "passed", "failed"]]
    refine ⟨_, rfl, ite2 (fun c => ?_) (fun c => ?_)⟩
    · obtain ⟨ae, hl4⟩ := three_attrs kind hk c
      obtain ⟨v0, v1, v2, rfl⟩ : ∃ v0 v1 v2, xs = [v0, v1, v2] := by
        rw [hl4] at hl
        match xs, hl with
        | [v0, v1, v2], _ => exact ⟨_, _, _, rfl⟩
      rw [ae] at ht no
      simp only [List.zip_cons_cons, List.zip_nil_right, List.forall_mem_cons] at ht no
      obtain ⟨t0, t1, t2, _⟩ := ht
      obtain ⟨_, _, m0, m1, m2, _⟩ := no
      exact ⟨_, rfl, a, _, dx, _, _, rfl, ha7, cl, m0, t0, _, rfl, a, _, dx, _, _, rfl, ha7, cl, m1, t1, _, rfl, a, _, dx, _, _, rfl, ha7, cl, m2, t2, by show 3 ≤ sizeLine; decide, fun l hl' => fin _ l s7 hl'⟩
    · obtain ⟨ae, hl4⟩ := four_attrs kind hk (fun z => e0 (decide_eq_true (by rw [z]))) (fun z => e1 (decide_eq_true (by rw [z]))) (fun z => e2 (decide_eq_true (by rw [z]))) c
      obtain ⟨v0, v1, v2, v3, rfl⟩ : ∃ v0 v1 v2 v3, xs = [v0, v1, v2, v3] := by
        rw [hl4] at hl
        match xs, hl with
        | [v0, v1, v2, v3], _ => exact ⟨_, _, _, _, rfl⟩
      rw [ae] at ht no
      simp only [List.zip_cons_cons, List.zip_nil_right, List.forall_mem_cons] at ht no
      obtain ⟨t0, t1, t2, t3, _⟩ := ht
      obtain ⟨_, _, m0, m1, m2, m3, _⟩ := no
      exact ⟨_, rfl, a, _, dx, _, _, rfl, ha7, cl, m0, t0, _, rfl, a, _, dx, _, _, rfl, ha7, cl, m1, t1, _, rfl, a, _, dx, _, _, rfl, ha7, cl, m2, t2, _, rfl, a, _, dx, _, _, rfl, ha7, cl, m3, t3, by show 4 ≤ sizeLine; decide, fun l hl' => fin _ l s7 hl'⟩
end
end K11

namespace K11
open PySem PySem.Spec PyProof.Rows L2 So LamX
abbrev sNamed : Stmt := topS 53
abbrev sTicks : Stmt := topS 54
theorem scNamed : FnScope ["_law_row", "_law_part"] ["_law_row"] (defScope sNamed) := ⟨rfl, rfl, rfl, by decide +kernel, rfl, by decide +kernel, by decide +kernel⟩
theorem scTicks : FnScope ["_law_row", "_law_part"] ["_law_row"] (defScope sTicks) := ⟨rfl, rfl, rfl, by decide +kernel, rfl, by decide +kernel, by decide +kernel⟩
def isS : V → Bool
  | .str _ => true
  | _ => false
def isI : V → Bool
  | .int _ => true
  | _ => false
section
variable {P : Program} {w : World} {K : PySem.W.Frag} {mg : Str → Option Value} {base : Heap}
theorem isiK {X : Cx} {K : PySem.W.Frag} (h : X.K = K) : CallR X (.builtin "isinstance") (rIsi K) := h ▸ call_isi
theorem cut1 (v : V) (xs : List V) : cutV (v :: xs) (some 1) none = xs := by
  have e : HT.sIx (v :: xs).length 0 (some 1) = 1 := by
    have := HT.sIx_nat (v :: xs).length 0 1
    rw [show ((1 : Nat) : Int) = 1 from rfl] at this
    rw [this, List.length_cons]
    omega
  unfold cutV
  rw [e, HT.sIx_none]
  show List.take ((v :: xs).length - 1) xs = xs
  rw [List.length_cons]
  exact List.take_length
theorem cut1_not (v : V) (xs : List V) : ¬ (HT.sIx (v :: xs).length 0 (some 1) = 0 ∧ HT.sIx (v :: xs).length (v :: xs).length none = (v :: xs).length) := by
  have := HT.sIx_nat (v :: xs).length 0 1
  rw [show ((1 : Nat) : Int) = 1 from rfl] at this
  rw [this, List.length_cons]
  rintro ⟨h, _⟩
  omega
def spNamed (g : V → Bool) : Sp := fun vs H Q _ => ∃ (r : Addr) (kind : Str) (xs : List V), vs = [.ref r] ∧ H r = some (.tup (.str kind :: xs)) ∧ xs.length ≤ 8 ∧ (∀ y ∈ xs, Flat1 y) ∧ ∀ (H' : Hp) (l : Addr), Same H H' → H l = none → H' l = some (.lst (xs.filter g)) → Q (.ref l) H'
theorem ok_named {f : Addr} {fd : FuncData} (F : Fun K "_law_named" "_law_named" sNamed f fd) (mi : mg "isinstance" = none) (ms : mg "str" = none) : FnOk P w K mg base CX0 1 f fd ["_law_row"] (spNamed isS) := by
  refine F.ok scNamed (fun vs H Q E h => ?_) (fun cdv A outer s H vs Q E hr h => ?_)
  · obtain ⟨_, _, _, rfl, _⟩ := h
    rfl
  · obtain ⟨r, kind, xs, rfl, hx, hl, hf, q⟩ := h
    refine ⟨_, pss_one (ps_ret (pe_lc (own := [("_law_part", 1)]) (g := gName 1) rfl scNamed.nd (pi_tup (pe_slice sl_tup (pv 0) (po_some pe_int) po_none)) (blkOk_by (N := ["_law_row", "_law_part"]) (sc := defScope sNamed) (by decide +kernel))
          (fun _ _ _ _ _ => pg_name (i := 1) scNamed.nd rfl (Or.inl rfl)) (fun _ _ _ _ _ => pts_one (pt_val (pe_callB (isiK (K := K) rfl) (by rfl) mi (by decide +kernel) (pa_cons (pv 1) (pa_cons (pe_bltn (v := .ty "str") (by rfl) ms (by decide +kernel) rfl) pa_nil)))))
          (fun _ _ _ _ _ => pv 1))), ?_⟩
    refine ⟨_, rfl, _, rfl, r, V.str kind :: xs, rfl, SqT.of hx, cut1_not _ _, fun tp htp => ?_⟩
    rw [cut1]
    have s1 := same_upd0 (o := .tup xs) htp
    have ht : (upd H tp (.tup xs)) tp = some (.tup xs) := upd_same
    revert s1 ht
    generalize upd H tp (.tup xs) = H1
    intro s1 ht
    refine ⟨tp, rfl, ⟨_, SqT.of ht⟩, fun D hD => ?_⟩
    have hlen : ∀ k, ((xs.take k).filter isS).length < sizeLine := fun k => by
      have h1 := List.length_filter_le isS (xs.take k)
      have h2 : (xs.take k).length ≤ xs.length := List.length_take_le' _ _
      have := sizeLine_eq
      omega
    refine lc_it walk_tup (fun k H' => Same H1 H' ∧ H' D = some (.lst ((xs.take k).filter isS))) ⟨Same.over (Same.refl H1) hD, upd_same⟩ (fun _ _ _ y => SqT.of (y.1 _ _ ht)) ?_ ?_
    · rintro k x H2 H3 hk ⟨s2, hDk⟩ ⟨rfl, hxk⟩
      have et : xs.take (k + 1) = xs.take k ++ [x] := by rw [List.take_add_one, hxk]; rfl
      rw [et, List.filter_append]
      have hfx := hf x (List.mem_of_getElem? hxk)
      cases hfx with
      | @nam z hz =>
        refine ⟨rfl, _, rfl, _, _, _, _, true, rfl, .ty "str", (Gv.str z (Nat.le_trans (name_len hz) (by decide))).ty, kit_str_str, _, rfl, iteT ⟨_, rfl, _, hDk, hlen k, Same.over s2 hD, ?_⟩⟩
        exact upd_same
      | @mom i hi =>
        refine ⟨rfl, _, rfl, _, _, _, _, false, rfl, .ty "str", (Gv.int i).ty, kit_ty (by decide +kernel), _, rfl, iteF ⟨s2, ?_⟩⟩
        rw [hDk]
        simp [isS]
      | @tru b =>
        refine ⟨rfl, _, rfl, _, _, _, _, false, rfl, .ty "str", (Gv.bl b).ty, kit_ty (by decide +kernel), _, rfl, iteF ⟨s2, ?_⟩⟩
        rw [hDk]
        simp [isS]
    · rintro H2 ⟨s2, hDk⟩
      rw [List.take_length] at hDk
      exact q _ _ (s1.trans s2) (s1.free hD) hDk
end
end K11

namespace K11
open PySem PySem.Spec PyProof.Rows L2 So LamX
section
variable {P : Program} {w : World} {K : PySem.W.Frag} {mg : Str → Option Value} {base : Heap}
theorem ok_ticks {f : Addr} {fd : FuncData} (F : Fun K "_law_ticks" "_law_ticks" sTicks f fd) (mi : mg "isinstance" = none) (mt : mg "int" = none) (mb : mg "bool" = none) : FnOk P w K mg base CX0 1 f fd ["_law_row"] (spNamed isI) := by
  refine F.ok scTicks (fun vs H Q E h => ?_) (fun cdv A outer s H vs Q E hr h => ?_)
  · obtain ⟨_, _, _, rfl, _⟩ := h
    rfl
  · obtain ⟨r, kind, xs, rfl, hx, hl, hf, q⟩ := h
    refine ⟨_, pss_one (ps_ret (pe_lc (own := [("_law_part", 1)]) (g := gName 1) rfl scTicks.nd (pi_tup (pe_slice sl_tup (pv 0) (po_some pe_int) po_none)) (blkOk_by (N := ["_law_row", "_law_part"]) (sc := defScope sTicks) (by decide +kernel))
          (fun _ _ _ _ _ => pg_name (i := 1) scTicks.nd rfl (Or.inl rfl)) (fun _ _ _ _ _ => pts_one (PW.pt (pw_and (pt_val (pe_callB (isiK (K := K) rfl) (by rfl) mi (by decide +kernel) (pa_cons (pv 1) (pa_cons (pe_bltn (v := .ty "int") (by rfl) mt (by decide +kernel) rfl) pa_nil)))) (pw_and1 (pt_not (pt_val (pe_callB (isiK (K := K) rfl) (by rfl) mi (by decide +kernel) (pa_cons (pv 1) (pa_cons (pe_bltn (v := .ty "bool") (by rfl) mb (by decide +kernel) rfl) pa_nil)))))))))
          (fun _ _ _ _ _ => pv 1))), ?_⟩
    refine ⟨_, rfl, _, rfl, r, V.str kind :: xs, rfl, SqT.of hx, cut1_not _ _, fun tp htp => ?_⟩
    rw [cut1]
    have s1 := same_upd0 (o := .tup xs) htp
    have ht : (upd H tp (.tup xs)) tp = some (.tup xs) := upd_same
    revert s1 ht
    generalize upd H tp (.tup xs) = H1
    intro s1 ht
    refine ⟨tp, rfl, ⟨_, SqT.of ht⟩, fun D hD => ?_⟩
    have hlen : ∀ k, ((xs.take k).filter isI).length < sizeLine := fun k => by
      have h1 := List.length_filter_le isI (xs.take k)
      have h2 : (xs.take k).length ≤ xs.length := List.length_take_le' _ _
      have := sizeLine_eq
      omega
    refine lc_it walk_tup (fun k H' => Same H1 H' ∧ H' D = some (.lst ((xs.take k).filter isI))) ⟨Same.over (Same.refl H1) hD, upd_same⟩ (fun _ _ _ y => SqT.of (y.1 _ _ ht)) ?_ ?_
    · rintro k x H2 H3 hk ⟨s2, hDk⟩ ⟨rfl, hxk⟩
      have et : xs.take (k + 1) = xs.take k ++ [x] := by rw [List.take_add_one, hxk]; rfl
      rw [et, List.filter_append]
      have hfx := hf x (List.mem_of_getElem? hxk)
      cases hfx with
      | @nam z hz =>
        refine ⟨rfl, ?_⟩
        refine ⟨_, rfl, _, _, _, _, false, rfl, .ty "int", (Gv.str z (Nat.le_trans (name_len hz) (by decide))).ty, kit_ty (by decide +kernel), _, rfl, iteF (iteF ⟨s2, ?_⟩)⟩
        rw [hDk]
        simp [isI]
      | @mom i hi =>
        refine ⟨rfl, ?_⟩
        refine ⟨_, rfl, _, _, _, _, true, rfl, .ty "int", (Gv.int i).ty, kit_int_int, _, rfl, iteT ?_⟩
        refine ⟨_, rfl, _, _, _, _, false, rfl, .ty "bool", .base (.int i), kit_int_bool, _, rfl, iteT ⟨_, rfl, _, hDk, hlen k, Same.over s2 hD, ?_⟩⟩
        exact upd_same
      | @tru b =>
        refine ⟨rfl, ?_⟩
        refine ⟨_, rfl, _, _, _, _, true, rfl, .ty "int", (Gv.bl b).ty, kit_ty (by decide +kernel), _, rfl, iteT ?_⟩
        refine ⟨_, rfl, _, _, _, _, true, rfl, .ty "bool", .base (.bl b), kit_bool_bool, _, rfl, iteF ⟨s2, ?_⟩⟩
        rw [hDk]
        simp [isI]
    · rintro H2 ⟨s2, hDk⟩
      rw [List.take_length] at hDk
      exact q _ _ (s1.trans s2) (s1.free hD) hDk
end
end K11

namespace K11
open PySem PySem.Spec PyProof.Rows L2 So LamX
abbrev sToldAs : Stmt := inClass (topS 28) 5
theorem scToldAs : FnScope ["self", "forms", "value", "form"] ["self", "forms"] (defScope sToldAs) := ⟨rfl, rfl, rfl, by decide +kernel, rfl, by decide +kernel, by decide +kernel⟩
/-- the arguments of these forms -/
def pickF (fs : List Str) (l : List (V × Str)) : List V := (l.filter fun p => fs.contains p.2).map Prod.fst
section
variable {P : Program} {w : World} {K : PySem.W.Frag} {mg : Str → Option Value} {base : Heap}
theorem inK {X : Cx} {K : PySem.W.Frag} (h : X.K = K) : OpR X (compareOp .In) (rIn K false) := h ▸ op_in_seq
def spToldAs (Cf : Str → Addr) : Sp := fun vs H Q _ => ∃ (a ft : Addr) (kind : Str) (xs : List V) (fs : List Str), vs = [.ref a, .ref ft] ∧ kind ∈ kinds ∧ xs.length = (formsOf kind).length ∧ RowAt Cf H a kind xs ∧ H ft = some (.tup (fs.map V.str)) ∧ xs.length ≤ 8 ∧
  ∀ (H' : Hp) (l : Addr), Same H H' → H l = none → H' l = some (.lst (pickF fs (xs.zip (formsOf kind)))) → Q (.ref l) H'
theorem ok_toldAs {Cf : Str → Addr} {CR f aF : Addr} {fd : FuncData} (F : Fun K "_told_as" "Row._told_as" sToldAs f fd) (RC : RowsC K mg Cf CR) (T : Forms K w mg aF) : FnOk P w K mg base CX0 1 f fd ["self", "forms"] (spToldAs Cf) := by
  refine F.ok scToldAs (fun vs H Q E h => ?_) (fun cdv A outer s H vs Q E hr h => ?_)
  · obtain ⟨_, _, _, _, _, rfl, _⟩ := h
    rfl
  · obtain ⟨a, ft, kind, xs, fs, rfl, hk, hl, hA, hfs, hx8, q⟩ := h
    obtain ⟨fa, hd, hft⟩ := T.tab kind hk
    refine ⟨_, pss_one (ps_ret (pe_lc (own := [("value", 2), ("form", 3)]) (g := gTup K 2 (gCons (gName 2) (gCons (gName 3) gNil))) rfl scToldAs.nd (RZ.pi_zipA (by rfl) T.zip (pa_cons (pe_fld (pv 0) rfl) (pa_cons (pe_ix ix_kdict (pe_glob (v := .ref aF) rfl T.mgF rfl) (pe_fld (pv 0) rfl) (fun _ _ => rfl)) pa_nil))) (blkOk_by (N := ["self", "forms", "value", "form"]) (sc := defScope sToldAs) (by decide +kernel))
          (fun _ _ _ _ _ => pg_tup rfl (pgs_cons (pg_name (i := 2) scToldAs.nd rfl (Or.inl rfl)) (pgs_cons (pg_name (i := 3) scToldAs.nd rfl (Or.inl rfl)) pgs_nil))) (fun _ _ _ _ _ => pts_one (pt_cmpR (inK (K := K) rfl) (pv 3) (pv 1) (by rfl)))
          (fun _ _ _ _ _ => pv 2))), ?_⟩
    obtain ⟨dx, flds, ha, ⟨tk, ⟨tp, tt, htp⟩, _⟩⟩ := id hA
    have cl := (RC.c kind hk).cl
    have no := (RC.c kind hk).no
    have n0 := no "_told" (by simp)
    have n1 := no "kind" (by simp)
    refine ⟨_, rfl, a, _, dx, _, _, rfl, ha, cl, n0, tt, ?_⟩
    generalize formsOf kind = fo at hl hft q
    refine ⟨_, rfl, a, _, dx, _, _, rfl, ha, cl, n1, tk, aF, kind, .ref fa, rfl, rfl, hd, tp, fa, xs, fo.map V.str, rfl, .inr ⟨SqT.of htp, hft _, fun D hD => ?_⟩⟩
    have h8 : ∀ i, (pickF fs ((xs.zip fo).take i)).length < sizeLine := fun i => by
      unfold pickF
      rw [List.length_map]
      have h1 := List.length_filter_le (fun p : V × Str => fs.contains p.2) ((xs.zip fo).take i)
      have h2 : ((xs.zip fo).take i).length ≤ (xs.zip fo).length := List.length_take_le' _ _
      have h3 : (xs.zip fo).length ≤ xs.length := by rw [List.length_zip]; omega
      have := sizeLine_eq
      omega
    refine lc_it (walk_zipT rfl) (fun i H' => Same H H' ∧ H' D = some (.lst (pickF fs ((xs.zip fo).take i)))) ⟨Same.over (Same.refl H) hD, upd_same⟩ (fun _ _ _ y => ⟨SqT.of (y.1 _ _ htp), hft _⟩) ?_ ?_
    · rintro i x H2 H3 hi ⟨s2, hDi⟩ ⟨T0, u, y, rfl, hT0, rfl, hu, hy⟩
      have s3 := s2.trans (same_upd0 (o := .tup [u, y]) hT0)
      have hD3 := (same_upd0 (o := .tup [u, y]) hT0) _ _ hDi
      replace hy : (fo.map V.str)[i]? = some y := hy
      rw [List.getElem?_map] at hy
      obtain ⟨fm, hfm, rfl⟩ : ∃ fm, fo[i]? = some fm ∧ y = .str fm := by
        cases e : fo[i]? with
        | none => rw [e] at hy; cases hy
        | some m => rw [e] at hy; exact ⟨m, rfl, (Option.some.inj hy).symm⟩
      replace hu : xs[i]? = some u := hu
      have hz : (xs.zip fo)[i]? = some (u, fm) := by
        rw [List.getElem?_zip_eq_some]
        exact ⟨hu, hfm⟩
      have et : (xs.zip fo).take (i + 1) = (xs.zip fo).take i ++ [(u, fm)] := by rw [List.take_add_one, hz]; rfl
      have ep : pickF fs ((xs.zip fo).take (i + 1)) = pickF fs ((xs.zip fo).take i) ++ (if fs.contains fm = true then [u] else []) := by
        rw [et]
        unfold pickF
        rw [List.filter_append, List.map_append]
        congr 1
        by_cases c : fs.contains fm = true
        · rw [if_pos c, List.filter_cons, if_pos c]; rfl
        · rw [if_neg c, List.filter_cons, if_neg c]; rfl
      rw [ep]
      refine ⟨T0, _, rfl, SqT.of upd_same, rfl, _, _, rfl, _, _, rfl, rfl, rfl, _, rfl, _, rfl, ft, _, rfl, .inr (SqT.of (s3 _ _ hfs)), rfl, flat_strs fs, ?_⟩
      rw [show (if false = true then !inV (V.str fm) (fs.map V.str) else inV (V.str fm) (fs.map V.str)) = fs.contains fm from inV_strs fm fs]
      refine ⟨_, rfl, ite2 (fun c => ?_) (fun c => ?_)⟩
      · refine ⟨_, rfl, _, hD3, h8 i, Same.over s3 hD, ?_⟩
        rw [if_pos c]
        exact upd_same
      · refine ⟨s3, ?_⟩
        rw [if_neg c, List.append_nil]
        exact hD3
    · rintro H2 ⟨s2, hDi⟩
      rw [List.take_of_length_le (by rw [List.length_zip, List.length_map]; exact Nat.le_refl _)] at hDi
      exact q _ _ s2 hD hDi
end
end K11

/-! sorted(set(list)), the list's members texts, or ints -/
namespace So
open PySem PySem.Spec PyProof.Rows L2
/-- keys of one kind, and what they are as values -/
structure KyT (P : Program) (w : World) (α : Type) [DecidableEq α] where
  knd : PySem.KeyKind P w α
  mkv : α → Tok → Value
  key : Value → α
  hk : ∀ k t, key (mkv k t) = k
  his : ∀ k t, knd.is k (mkv k t) = true
  iff : ∀ k k0 t, knd.is k (mkv k0 t) = true ↔ k0 = k
  hsc : ∀ k t, (mkv k t).scannable = true
def kyStr (P : Program) (w : World) : KyT P w Str where
  knd := PySem.strKind P w
  mkv := Value.str
  key := fun v => match v with | .str x _ => x | _ => Str.empty
  hk := fun _ _ => rfl
  his := fun k t => strKind_is P w k t
  iff := fun k k0 t => by
    show ((k0 == k) = true) ↔ k0 = k
    exact beq_iff_eq
  hsc := fun _ _ => rfl
section
variable {P : Program} {w : World} {α : Type} [DecidableEq α] (T : KyT P w α)
def GoodG (e : Int × Value) : Prop := ∃ k tk, e.2 = T.mkv k tk ∧ e.1 = T.knd.hash k
def keyG (e : Int × Value) : α := T.key e.2
/-- the set at a: S its members, n their number; its table rises and can be walked -/
def SetG (h : Heap) (a : Addr) (S : α → Bool) (n : Nat) : Prop :=
  ∃ o es ep t, h.get? a = some o ∧ o.ExactSet ∧ o.data = .set es ep t ∧ (∀ e ∈ es.toList, GoodG T e) ∧ (es.toList.map (keyG T)).Nodup ∧ (∀ k, S k = true ↔ k ∈ es.toList.map (keyG T)) ∧
    es.size < scanBound ∧ t.fits es.size = true ∧ es.size = n ∧ Ris t.place.toList ∧ (w.params.followText "set-order" = true ∨ t.led = true)
end
section
variable {P : Program} {w : World} {α : Type} [DecidableEq α] {T : KyT P w α} {h h' : Heap} {a : Addr} {S : α → Bool} {n : Nat}
theorem SetG.at (R : SetG T h a S n) (k : ∀ o, h.get? a = some o → h'.get? a = some o) : SetG T h' a S n := by
  obtain ⟨o, es, ep, t, ho, r⟩ := R
  exact ⟨o, es, ep, t, k o ho, r⟩
theorem SetG.congr {S' : α → Bool} (R : SetG T h a S n) (e : ∀ k, S' k = S k) : SetG T h a S' n := by
  have q : S' = S := funext e
  rw [q]; exact R
theorem goodG_elems {l : List (Int × Value)} (g : ∀ e ∈ l, GoodG T e) : ElemsOf T.knd l := fun e he => by
  obtain ⟨k, tk, h1, h2⟩ := g e he
  exact ⟨⟨k, by rw [h1]; exact T.his k tk, h2⟩, by rw [h1]; exact T.hsc k tk⟩
theorem goodG_is {e : Int × Value} (g : GoodG T e) (k : α) : T.knd.is k e.2 = true ↔ keyG T e = k := by
  obtain ⟨k0, tk, h1, _⟩ := g
  unfold keyG
  rw [h1, T.hk]
  exact T.iff k k0 tk
theorem goodG_mem {l : List (Int × Value)} (g : ∀ e ∈ l, GoodG T e) (k : α) : k ∈ l.map (keyG T) ↔ ∃ e ∈ l, T.knd.is k e.2 = true := by
  rw [List.mem_map]
  constructor
  · rintro ⟨e, he, q⟩
    exact ⟨e, he, (goodG_is (g e he) k).2 q⟩
  · rintro ⟨e, he, q⟩
    exact ⟨e, he, (goodG_is (g e he) k).1 q⟩
theorem setG_fresh {h : Heap} : SetG T (h.push { cls := .type "set", dict := none, data := .set #[] 0 (.fresh 0 0 (!w.params.followText "set-order")) }) h.objs.size (fun _ => false) 0 :=
  ⟨_, #[], 0, _, Heap.get?_push_size _ rfl, ⟨rfl, rfl, rfl⟩, rfl, (fun e he => by simp at he), (by simp), (fun k => by simp), (by decide), (by rfl), rfl, List.Pairwise.nil, by
    show _ ∨ (!w.params.followText "set-order") = true
    cases w.params.followText "set-order"
    · exact .inr rfl
    · exact .inl rfl⟩
end
section
variable {P : Program} {w : World} {α : Type} [DecidableEq α] {T : KyT P w α} {A : Around} {E : Value → Shared → Prop} {s : Shared} {a : Addr} {S : α → Bool} {n : Nat}
theorem setG_add_tail {g : Bool → Sem Unit} (hg : ∀ (b : Bool) (s₁ : Shared) (Q' : Unit → Shared → Prop), Q' () s₁ → wpAny (model P w) A (g b) Q' E s₁)
    {o : Obj} {es : Array (Int × Value)} {ep : Nat} {t : SetTable} (ho : s.heap.get? a = some o) (hex : o.ExactSet) (hd : o.data = .set es ep t)
    {es1 : Array (Int × Value)} {t2 : SetTable} {S' : α → Bool} (g1 : ∀ e ∈ es1.toList, GoodG T e) (nd1 : (es1.toList.map (keyG T)).Nodup) (m1 : ∀ k, S' k = true ↔ k ∈ es1.toList.map (keyG T))
    (hb1 : es1.size < scanBound) (hf2 : t2.fits es1.size = true) (hr : Ris t2.place.toList) (hl : w.params.followText "set-order" = true ∨ t2.led = true) {wasDummy : Bool} {R : Option Bool → Shared → Prop}
    (hR : ∀ h', Heap.SameBut a s.heap h' → SetG T h' a S' es1.size → R (some true) { s with heap := h' }) :
    wpAny (model P w) A (do
        storeSet a es1 t2
        if (!wasDummy && t2.tooFull) = true then do
            g (relayAll t2 es1 (SetTable.grown es1.size)).2.2
            storeSet a (relayAll t2 es1 (SetTable.grown es1.size)).1 (relayAll t2 es1 (SetTable.grown es1.size)).2.1
            pure (some true)
          else pure (some true)) R E s := by
  refine wpAny_bind (wpAny_storeSet_of ho hd ?_ (fits_of_scanBound hb1))
  have ho1 := store_at (es' := es1) (t' := t2) ho hd
  have sb1 := Heap.SameBut.update s.heap a (Obj.putSet es1 t2)
  split
  · have pm := relayAll_perm t2 es1 (SetTable.grown es1.size)
    have hf3 := relayAll_fits t2 es1 (SetTable.grown es1.size)
    have hr3 := relayAll_ris t2 es1 (SetTable.grown es1.size)
    have hl3 := relayAll_led t2 es1 (SetTable.grown es1.size)
    generalize relayAll t2 es1 (SetTable.grown es1.size) = Z at pm hf3 hr3 hl3 ⊢
    obtain ⟨es2, t3, gave⟩ := Z
    dsimp only at pm hf3 hr3 hl3 ⊢
    have hsz : es2.size = es1.size := by rw [← Array.length_toList, pm.length_eq, Array.length_toList]
    have hb2 : es2.size < scanBound := by rw [hsz]; exact hb1
    refine wpAny_bind (hg _ _ _ ?_)
    refine wpAny_bind (wpAny_storeSet_of ho1 rfl ?_ (fits_of_scanBound hb2))
    have ho2 := store_at (es' := es2) (t' := t3) ho1 rfl
    refine wpAny_pure (hR _ (sb1.trans (Heap.SameBut.update _ a _)) ?_)
    exact ⟨_, es2, _, t3, ho2, hex, rfl, fun e he => g1 e (pm.mem_iff.mp he), (pm.map (keyG T)).nodup_iff.mpr nd1, fun k => (m1 k).trans (pm.map (keyG T)).mem_iff.symm, hb2, hf3, hsz, hr3,
      hl.imp id fun z => by rw [hl3]; exact z⟩
  · exact wpAny_pure (hR _ sb1 ⟨_, es1, _, t2, ho1, hex, rfl, g1, nd1, m1, hb1, hf2, rfl, hr, hl⟩)

theorem setG_add_hashed {k : α} {tk : Tok} {Q : Bool → Shared → Prop} (R : SetG T s.heap a S n) (room : n + 1 < scanBound)
    (hQ : ∀ h', Heap.SameBut a s.heap h' → SetG T h' a (fun j => S j || decide (j = k)) (if S k = true then n else n + 1) → Q (!S k) { s with heap := h' }) :
    wpAny (model P w) A (setAddHashed a (T.mkv k tk) (T.knd.hash k)) Q E s := by
  obtain ⟨o, es, ep, t, ho, hex, hd, g, nd, hm, hb, hf, hn, hr, hl⟩ := R
  have hkey : T.knd.is k (T.mkv k tk) = true := T.his k tk
  have hsc : (T.mkv k tk).scannable = true := T.hsc k tk
  have hel : ElemsOf T.knd es.toList := goodG_elems g
  unfold setAddHashed setAddHashedIn
  refine wpAny_holding (wpAny_bind (wpAny_setState_of ho hd hf ?_))
  dsimp only
  rw [byScan_of hsc hb hel]
  simp only [↓reduceIte]
  unfold setAddByScan
  refine wpAny_bind ?_
  refine wpAny_bind (wpAny_rule ?_)
  refine wpAny_bind (wpAny_setScan_of hkey ho hd hf hel ?_)
  cases hfi : List.findIdx? (fun e => T.knd.is k e.2) es.toList with
  | some j =>
    dsimp only
    obtain ⟨hj, pj, _⟩ := List.findIdx?_eq_some_iff_getElem.mp hfi
    have hSk : S k = true := (hm k).2 ((goodG_mem g k).2 ⟨es.toList[j], List.getElem_mem hj, pj⟩)
    refine wpAny_pure (wpAny_pure ?_)
    have q := hQ s.heap (Heap.SameBut.refl a s.heap) ⟨o, es, ep, t, ho, hex, hd, g, nd, fun i => by
      rw [Bool.or_eq_true, decide_eq_true_eq, ← hm i]
      exact ⟨fun z => z.elim id (fun e => e ▸ hSk), .inl⟩, hb, hf, by rw [if_pos hSk]; exact hn, hr, hl⟩
    rw [hSk] at q
    exact q
  | none =>
    dsimp only
    have hnk : k ∉ es.toList.map (keyG T) := fun z => by
      obtain ⟨e, he, q⟩ := (goodG_mem g k).1 z
      have c := List.findIdx?_eq_none_iff.mp hfi e he
      rw [q] at c
      cases c
    have hSk : S k = false := by
      cases q : S k with
      | false => rfl
      | true => exact absurd ((hm k).1 q) hnk
    have hgw : ∀ (b : Bool) {s₁ : Shared} {Q' : Unit → Shared → Prop}, Q' () s₁ → wpAny (model P w) A (match b with | true => rule "set.scan.the-table-gave-way" | false => pure ()) Q' E s₁ :=
      fun b s₁ Q' q => by cases b <;> first | exact wpAny_pure q | exact wpAny_rule q
    have pm := layNew_perm t es (T.knd.hash k) (T.mkv k tk)
    have hf1 := layNew_fits t es (T.knd.hash k) (T.mkv k tk)
    have hr1 := layNew_ris t es (T.knd.hash k) (T.mkv k tk) hr
    have hl1 := layNew_led t es (T.knd.hash k) (T.mkv k tk)
    generalize layNew t es (T.knd.hash k) (T.mkv k tk) = Z at pm hf1 hr1 hl1 ⊢
    obtain ⟨es1, t1, wasDummy, gave⟩ := Z
    dsimp only at pm hf1 hr1 hl1 ⊢
    rw [Array.toList_push] at pm
    have pc : es1.toList.Perm ((T.knd.hash k, T.mkv k tk) :: es.toList) := pm.trans (List.perm_append_singleton _ _)
    have pk : (es1.toList.map (keyG T)).Perm (k :: es.toList.map (keyG T)) := by
      have q := pc.map (keyG T)
      rw [List.map_cons] at q
      have e : keyG T (T.knd.hash k, T.mkv k tk) = k := T.hk k tk
      rw [e] at q
      exact q
    have g1 : ∀ e ∈ es1.toList, GoodG T e := fun e he => by
      rcases List.mem_cons.mp (pc.mem_iff.mp he) with z | z
      · rw [z]; exact ⟨k, tk, rfl, rfl⟩
      · exact g e z
    have nd1 : (es1.toList.map (keyG T)).Nodup := pk.nodup_iff.mpr (List.nodup_cons.mpr ⟨hnk, nd⟩)
    have m1 : ∀ i, (S i || decide (i = k)) = true ↔ i ∈ es1.toList.map (keyG T) := fun i => by
      rw [Bool.or_eq_true, decide_eq_true_eq, hm i, pk.mem_iff, List.mem_cons]
      exact Or.comm
    have hsz : es1.size = n + 1 := by rw [← Array.length_toList, pc.length_eq, List.length_cons, Array.length_toList, hn]
    have hb1 : es1.size < scanBound := by rw [hsz]; exact room
    have hled : w.params.followText "set-order" = true ∨ t1.led = true := hl.imp id fun z => by rw [hl1]; exact z
    have fin : ∀ h', Heap.SameBut a s.heap h' → SetG T h' a (fun j => S j || decide (j = k)) es1.size → Q true { s with heap := h' } := fun h' sb r => by
      have q := hQ h' sb
      rw [hSk] at q
      rw [hsz] at r
      exact q r
    refine wpAny_bind (hgw _ ?_)
    split
    · refine wpAny_bind ?_
      rw [hashByValue_scannable 8 hsc]
      refine wpAny_pure ?_
      refine setG_add_tail ?_ ho hex hd g1 nd1 m1 hb1 ?_ ?_ ?_ ?_
      · intro b s₁ Q' q; cases b <;> first | exact wpAny_pure q | exact wpAny_rule q
      · first | (split <;> first | exact hf1 | exact SetTable.fits_plain_off hf1) | exact hf1
      · first | (split <;> exact hr1) | exact hr1
      · first | (split <;> exact hled) | exact hled
      · intro h' sb r; dsimp only; exact wpAny_pure (fin h' sb r)
    · refine wpAny_bind (wpAny_pure ?_)
      simp only [↓reduceIte]
      refine setG_add_tail ?_ ho hex hd g1 nd1 m1 hb1 hf1 hr1 hled ?_
      · intro b s₁ Q' q; cases b <;> first | exact wpAny_pure q | exact wpAny_rule q
      · intro h' sb r; dsimp only; exact wpAny_pure (fin h' sb r)
end
end So

namespace So
open PySem PySem.Spec PyProof.Rows L2
section
variable {P : Program} {w : World} {α : Type} [DecidableEq α] {T : KyT P w α} {A : Around} {E : Value → Shared → Prop} {s : Shared}
theorem code_set_led1 (a : Value) {Q₁ : Value → Shared → Prop}
    (h : Q₁ (.ref s.heap.objs.size) { s with heap := s.heap.push { cls := .type "set", dict := none, data := .set #[] 0 (.fresh 0 0 (!w.params.followText "set-order")) } }) :
    codeAny (model P w) A (.call (.builtin "set.__new__") ⟨[.type "set", a], []⟩) (wants Q₁ E) s := by
  refine codeAny_of_tree ?_
  show wpAny _ A.in1 (do checkBuiltinCall "set.__new__" ⟨[.type "set", a], []⟩; again (.builtin "set.__new__" ⟨[.type "set", a], []⟩)) _ _ s
  refine wpAny_bind (wpAny_of_eq (F.newCall_set_1 a) (wpAny_pure ⟨plainId_quiet F.plain_set_new _, codeAny_builtin F.entry_set_new ?_⟩))
  rw [Around.under_plainId F.plain_set_new _]
  unfold Builtin.«set.__new__» Builtin.Frozenset.newClass
  have hsub := sub_set_self
  obtain ⟨hp, g, d, tk, os⟩ := s
  dsimp only
  wp_walk
  refine wpAny_askSetting (wpAny_pure ?_)
  dsimp only
  simp only [newObj]
  refine wpAny_bind (wpAny_alloc (wpAny_pure ?_))
  exact wpAny_pure h
end
section
variable {prog : Program} {w : World} {α : Type} [DecidableEq α] {T : KyT prog w α} {A : Around} {R : Result → Shared → Prop} {I : Addr} {fp wr : List Addr} {G : Array GenState → Array GenState → Prop} {n : Nat} {P : Nat → Value → Prop} {St : Nat → Shared → Prop}
theorem loopG (W : WalksS prog w A.in1 I fp wr G n P St) (S : Addr) (hSf : S ∉ fp) (xs : List α) (hsz : xs.length = n) (hn1 : n + 1 < scanBound)
    (hval : ∀ i v, P i v → ∃ k t, xs[i]? = some k ∧ v = T.mkv k t) :
    ∀ (k i : Nat) (s : Shared), n - i = k → i ≤ n → St i s →
      (∃ m, m ≤ i ∧ SetG T s.heap S (fun k' => decide (k' ∈ xs.take i)) m) →
      (∀ s', Moved (S :: wr) G s s' → (∃ m, m ≤ n ∧ SetG T s'.heap S (fun k' => decide (k' ∈ xs)) m) → R (.ok (.ret .none)) s') →
      codeAny (model prog w) A (.builtin "set.update.loop" ⟨[.ref S, .ref I], []⟩) R s := by
  have hSw : S ∉ wr := fun h => hSf (W.sub _ h)
  have hsub : ∀ b ∈ wr, b ∈ S :: wr := fun b hb => List.mem_cons_of_mem _ hb
  intro k
  induction k with
  | zero =>
    intro i s hk hi hst hS hR
    have hin : i = n := by omega
    subst hin
    refine codeAny_builtin PyProof.Rows.F.entry_set_update_loop ?_
    rw [Around.under_plainId PyProof.Rows.F.plain_set_update_loop _]
    show wpAny _ A.in1 (pyNext (.ref I) >>= _) _ _ s
    refine wpAny_bind (W.done s _ _ hst fun s' hm => ?_)
    show wpAny _ A.in1 (ret Value.none) _ _ s'
    refine wpAny_pure (hR s' (hm.mono hsub) ?_)
    obtain ⟨m, hm1, R1⟩ := hS
    rw [← hsz, List.take_length] at R1
    exact ⟨m, hm1, R1.at fun o ho => hm.heap S _ hSw ho⟩
  | succ k ih =>
    intro i s hk hi hst hS hR
    have hlt : i < n := by omega
    refine codeAny_builtin PyProof.Rows.F.entry_set_update_loop ?_
    rw [Around.under_plainId PyProof.Rows.F.plain_set_update_loop _]
    show wpAny _ A.in1 (pyNext (.ref I) >>= _) _ _ s
    refine wpAny_bind (W.item i s _ _ hlt hst fun v s' hP hst' hm => ?_)
    obtain ⟨x, t, hx, rfl⟩ := hval i v hP
    obtain ⟨m, hm1, R1⟩ := hS
    have R2 : SetG T s'.heap S (fun k' => decide (k' ∈ xs.take i)) m := R1.at fun o ho => hm.heap S _ hSw ho
    show wpAny _ A.in1 (holding [T.mkv x t] (setAdd S (T.mkv x t)) >>= _) _ _ s'
    refine wpAny_bind (wpAny_holding ?_)
    unfold setAdd
    refine wpAny_holding ?_
    refine wpAny_bind (T.knd.pyHash (k := x) (T.his x t) ?_)
    refine setG_add_hashed (s := { s' with toks := s'.toks + 1 }) R2 (by omega) fun h' hsb R3 => ?_
    have et : xs.take (i + 1) = xs.take i ++ [x] := by rw [List.take_add_one, hx]; rfl
    have R4 : ∃ m', m' ≤ i + 1 ∧ SetG T h' S (fun k' => decide (k' ∈ xs.take (i + 1))) m' := by
      refine ⟨_, ?_, R3.congr fun k' => ?_⟩
      · split <;> omega
      · rw [et, Bool.eq_iff_iff, Bool.or_eq_true, decide_eq_true_eq, decide_eq_true_eq, decide_eq_true_eq, List.mem_append, List.mem_singleton]
    refine wpAny_pure ⟨plainId_quiet PyProof.Rows.F.plain_set_update_loop _, ih (i + 1) _ (by omega) hlt (W.frame _ s' _ _ hst' (Nat.le_succ _) fun b hb o e => ?_) R4 fun s'' hm'' hS'' => ?_⟩
    · rw [hsb.2 b (fun h : b = S => hSf (by rw [← h]; exact hb))]; exact e
    · refine hR s'' (Moved.trans W.gtrans ((hm.mono hsub).then_heap (Nat.le_succ _) fun b o hb e => ?_) hm'') hS''
      rw [hsb.2 b (fun h : b = S => hb (by rw [h]; exact List.mem_cons_self))]; exact e
end
section
variable {prog : Program} {w : World} {α : Type} [DecidableEq α] {T : KyT prog w α} {A : Around} {E : Value → Shared → Prop} {s : Shared}
set_option maxHeartbeats 8000000 in
theorem call_set_listG {l : Addr} {items : Array Value} {xs : List α} {Q : Value → Shared → Prop}
    (hh : A.handled = none) (hl : s.heap.IsList l items) (hsz : xs.length = items.size) (hval : ∀ (i : Nat) (v : Value), items[i]? = some v → ∃ k t, xs[i]? = some k ∧ v = T.mkv k t) (hn1 : xs.length + 1 < scanBound)
    (h : ∀ (h' : Heap) (tk m : Nat), m ≤ xs.length → SetG T h' s.heap.objs.size (fun k' => decide (k' ∈ xs)) m →
      (∀ b o, b < s.heap.objs.size → s.heap.get? b = some o → h'.get? b = some o) → Q (.ref s.heap.objs.size) { s with heap := h', toks := tk }) :
    wpAny (model prog w) A (call (.type "set") [.ref l]) Q E s := by
  obtain ⟨c, tl, hmro⟩ := PySem.F.called_set.mro
  have hmade := PySem.F.called_set.made
  have hsub := PySem.F.called_set.sub
  refine wpAny_call (codeAny_of_tree ?_)
  show wpAny _ _ (callAny (.type "set") _) _ _ _
  refine wpAny_pure ⟨Code.quiet_builtin _ (by decide +kernel), codeAny_builtin PySem.F.entry_type_call ?_⟩
  rw [Around.under_plain (weight_type_call_type "set" [.ref l] []) rfl]
  have h1 := PySem.F.called_set.notType
  have h2 := PySem.F.called_set.canCreate
  have hct := PySem.F.typeCall_set_1 (.ref l)
  repeat (any_goals (first | assumption | wp_step))

  refine codeAny_mono (code_set_led1 (.ref l) (E := E) (Q₁ := fun obj s₁ => obj = .ref s.heap.objs.size ∧ s₁ = { s with heap := s.heap.push { cls := .type "set", dict := none, data := .set #[] 0 (.fresh 0 0 (!w.params.followText "set-order")) } }) ⟨rfl, rfl⟩) fun r s₁ hr => ?_
  cases r with
  | error e => exact hr
  | ok fl =>
    cases fl with
    | ret obj =>
      obtain ⟨rfl, rfl⟩ := hr
      have R0 := setG_fresh (T := T) (h := s.heap)
      generalize (!w.params.followText "set-order") = led at R0 ⊢
      have hS : (s.heap.push { cls := .type "set", dict := none, data := .set #[] 0 (.fresh 0 0 led) }).get? s.heap.objs.size = some { cls := .type "set", dict := none, data := .set #[] 0 (.fresh 0 0 led) } := Heap.get?_push_size _ rfl
      have hT : Shared.TypeIs { s with heap := s.heap.push { cls := .type "set", dict := none, data := .set #[] 0 (.fresh 0 0 led) } } (.ref s.heap.objs.size) "set" := ⟨_, hS, rfl⟩
      have hli := PySem.F.called_set.init.lookup
      have hbi := PySem.F.called_set.init.bind (.ref s.heap.objs.size)
      repeat (any_goals (first | assumption | wp_step))

      refine codeAny_mono (codeAny_call_builtin (R := wants (fun r s₂ => r = .none ∧ ∃ h' tk m, s₂ = { s with heap := h', toks := tk } ∧ m ≤ xs.length ∧
          SetG T h' s.heap.objs.size (fun k' => decide (k' ∈ xs)) m ∧
          (∀ b o, b < s.heap.objs.size → s.heap.get? b = some o → h'.get? b = some o)) E) PySem.F.called_set.init.plain PySem.F.entry_set_init (check_set_init_1 hT ?_)) fun r₂ s₂ hr₂ => ?_
      · obtain ⟨ol, hol, hcl, nl, hdl⟩ := hl
        obtain ⟨ocls, odict, odata, oslots⟩ := ol
        simp only at hcl hdl
        subst hcl; subst hdl
        have hol' : (s.heap.push { cls := .type "set", dict := none, data := .set #[] 0 (.fresh 0 0 led) }).get? l = some { cls := .type "list", dict := odict, data := .seq items nl, slots := oslots } := Heap.get?_push_of_some _ hol
        have hsls := PySem.F.sub_list_set
        have hslf := PySem.F.sub_list_frozenset
        have hne : (Value.type "list" == Value.type "dict") = false := by decide
        have hl1 : (s.heap.push { cls := .type "set", dict := none, data := .set #[] 0 (.fresh 0 0 led) }).IsList l items := ⟨_, hol', rfl, nl, rfl⟩
        unfold Builtin.«set.__init__» noKeywords Builtin.Frozenset.updateFrom
        generalize hPI : pyIter = PI
        wp_walk
        subst hPI

        refine wpAny_pyIter_list hl1 ?_
        refine wpAny_bind (wpAny_runValue ?_)
        have hlS : l < s.heap.objs.size := Heap.lt_size hol
        have hh3 : A.in1.in1.in1.handled = none := by simp [hh]
        have hneI : l ≠ (s.heap.push { cls := .type "set", dict := none, data := .set #[] 0 (.fresh 0 0 led) }).objs.size := by
          rw [Heap.size_push]; exact Nat.ne_of_lt (Nat.lt_succ_of_lt hlS)
        have hSf : s.heap.objs.size ∉ [(s.heap.push { cls := .type "set", dict := none, data := .set #[] 0 (.fresh 0 0 led) }).objs.size, l] := by
          rw [Heap.size_push]; simp only [List.mem_cons, List.mem_singleton, List.not_mem_nil, or_false, not_or]
          exact ⟨Nat.ne_of_lt (Nat.lt_succ_self _), Nat.ne_of_gt hlS⟩
        refine loopG (T := T) ((Walks.list hh3 _ l hneI items).toS) s.heap.objs.size
          hSf xs hsz (by rw [← hsz]; exact hn1) hval (items.size - 0) 0 _ (by omega) (Nat.zero_le _)
          ⟨⟨_, Heap.get?_push_size _ rfl, rfl, rfl⟩, (hl1.push _)⟩ ?hS0 ?hR
        case hS0 =>
          exact ⟨0, Nat.le_refl _, (R0.at fun o ho => Heap.get?_push_of_some _ ho).congr fun k => by simp⟩
        case hR =>
          intro s' hm hS'
          obtain ⟨h', g', d', tk', os'⟩ := s'
          have eg : g' = s.gens := hm.gens
          have ed : d' = s.drawn := hm.drawn
          have eo : os' = s.os := hm.os
          subst eg; subst ed; subst eo
          show wpAny _ _ _ _ _ _
          refine wpAny_pure ?_
          show wpAny _ _ (ret Value.none) _ _ _
          obtain ⟨m, hm1, R1⟩ := hS'
          refine wpAny_pure ⟨rfl, h', tk', m, rfl, by rw [hsz]; exact hm1, R1, fun b o hb e => ?_⟩
          have hb1 : b ≠ s.heap.objs.size := Nat.ne_of_lt hb
          have hb2 : b ≠ (s.heap.push { cls := .type "set", dict := none, data := .set #[] 0 (.fresh 0 0 led) }).objs.size := by
            rw [Heap.size_push]; exact Nat.ne_of_lt (Nat.lt_succ_of_lt hb)
          exact hm.heap b o (by simp only [List.mem_cons, List.mem_singleton, List.not_mem_nil, or_false, not_or]; exact ⟨hb1, hb2⟩) (Heap.get?_push_of_some _ (Heap.get?_push_of_some _ e))

      · cases r₂ with
        | error e => exact hr₂
        | ok fl₂ =>
          cases fl₂ with
          | ret r =>
            obtain ⟨rfl, h', tk, m, rfl, hm1, hS', hk'⟩ := hr₂
            repeat (any_goals (first | assumption | wp_step))
            exact h _ _ _ hm1 hS' hk'
          | _ => exact hr₂.elim
    | _ => exact hr.elim
end
end So

namespace So
open PySem PySem.Spec PyProof.Rows L2
/-! ### there is one ascending list of the same texts -/
theorem risingS_pair : ∀ {l : List Str} {p : Str}, risingS p l = true → (p :: l).Pairwise (fun a b => a.cps.toList ≤ b.cps.toList)
  | [], p, _ => List.pairwise_singleton _ _
  | x :: r, p, h => by
    have h : (!ltCps x.cps.toList p.cps.toList && risingS x r) = true := h
    rw [Bool.and_eq_true, Bool.not_eq_true', ltCps_eq, decide_eq_false_iff_not] at h
    have ih := risingS_pair h.2
    have h1 : p.cps.toList ≤ x.cps.toList := List.not_lt.mp h.1
    refine List.pairwise_cons.mpr ⟨fun y hy => ?_, ih⟩
    rcases List.mem_cons.mp hy with e | e
    · rw [e]; exact h1
    · exact List.le_trans h1 ((List.pairwise_cons.mp ih).1 y e)
theorem sortedS_pair {l : List Str} (h : sortedS l = true) : l.Pairwise (fun a b => a.cps.toList ≤ b.cps.toList) := by
  cases l with
  | nil => exact List.Pairwise.nil
  | cons x r => exact risingS_pair h
theorem str_of_cps {a b : Str} (h : a.cps.toList = b.cps.toList) : a = b := by
  cases a
  cases b
  simp only [Str.mk.injEq]
  exact Array.toList_inj.mp h
theorem sortedS_one {a b : List Str} (ha : sortedS a = true) (hb : sortedS b = true) (na : a.Nodup) (nb : b.Nodup) (h : ∀ k, k ∈ a ↔ k ∈ b) : a = b := by
  have p : a.Perm b := (List.perm_ext_iff_of_nodup na nb).mpr h
  exact p.eq_of_pairwise (le := fun a b : Str => a.cps.toList ≤ b.cps.toList) (fun x y _ _ h1 h2 => str_of_cps (List.le_antisymm h1 h2)) (sortedS_pair ha) (sortedS_pair hb)
theorem ints_one {a b : List Int} (ha : a.Pairwise (· < ·)) (hb : b.Pairwise (· < ·)) (h : ∀ k, k ∈ a ↔ k ∈ b) : a = b := by
  have nd : ∀ {l : List Int}, l.Pairwise (· < ·) → l.Nodup := fun h => h.imp fun h e => by omega
  have p : a.Perm b := (List.perm_ext_iff_of_nodup (nd ha) (nd hb)).mpr h
  exact p.eq_of_pairwise (le := fun a b : Int => a < b) (fun x y _ _ h1 h2 => by omega) ha hb
section
variable {P : Program} {w : World} {A : Around} {E : Value → Shared → Prop} {s : Shared} {a : Addr}
theorem strs_of (P : Program) (w : World) : ∀ (l : List Value), (∀ v ∈ l, ∃ k tk, v = Value.str k tk) → StrsAre l (l.map (kyStr P w).key)
  | [], _ => .nil
  | v :: l, h => by
    obtain ⟨k, tk, rfl⟩ := h v List.mem_cons_self
    exact .cons k tk (strs_of P w l fun u hu => h u (List.mem_cons_of_mem _ hu))
theorem list_sort_treeSt {a : Addr} {vs : List Value} {ss : List Str} {n : Nat} {Q : Fin → Shared → Prop} (ho : s.heap.get? a = some (seqObj "list" vs.toArray n))
    (hS : StrsAre vs ss) (hL : vs.length ≤ sizeLine)
    (h : ∀ (out : Array Value) (ss' : List Str), StrsAre out.toList ss' → ss'.Perm ss → sortedS ss' = true → Q (.done (.ret .none)) { s with heap := sortedHeap s.heap a vs out }) :
    wpAny (model P w) A (Builtin.«list.sort» ⟨[.ref a], []⟩) Q E s := by
  refine list_sort_treeKAny strKind_oneLt ho hS.keysOf (fun v₁ v₂ rest e => keyKind_strs (by rw [← e]; exact hS)) hL fun st' hp hs => ?_
  obtain ⟨ss', h1, h2, h3⟩ := sorted_out_str hS hp hs
  exact h _ ss' h1 h2 h3
theorem sorted_setS {S : Str → Bool} {n : Nat} {Q : Value → Shared → Prop} (R : SetG (kyStr P w) s.heap a S n) (hh : A.handled = none)
    (hQ : ∀ s' p (out : Array Value) (c : Nat) (ns : List Str), (∀ b o, s.heap.get? b = some o → s'.heap.get? b = some o) → s'.gens = s.gens → s'.os = s.os → s.heap.objs.size ≤ p →
      s'.heap.get? p = some (seqObj "list" out c) → StrsAre out.toList ns → sortedS ns = true → ns.Nodup → (∀ k, k ∈ ns ↔ S k = true) → ns.length = n → Q (.ref p) s') :
    wpAny (model P w) A (call (.builtin "sorted") [.ref a]) Q E s := by
  obtain ⟨o, es, ep, t, ho, hex, hd, g, nd, hm, hb, hf, hn, hr, hl⟩ := R
  refine Calls.call_function_entry kind_sorted plain_sorted entry_sorted (args_sorted1 _) ?_
  unfold Builtin.«sorted»
  refine wpAny_bind (m := checkCount "sorted" 1 1 _) (wpAny_pure ?_)
  refine wpAny_bind (collect_set (A := A.in1) hh ⟨o, ho, hex.1, hd⟩ hf hb hr hl fun s1 vs k1 hz g1 o1 pm => ?_)
  have hvl : vs.length = n := by rw [pm.length_eq, List.length_map, Array.length_toList]; exact hn
  have hvz : vs.length ≤ sizeLine := by rw [hvl, ← hn]; exact fits_of_scanBound hb
  have hI : StrsAre vs (vs.map (kyStr P w).key) := strs_of P w vs fun v hv => by
    obtain ⟨e, he, q⟩ := List.mem_map.mp (pm.mem_iff.mp hv)
    obtain ⟨k, tk, h1, _⟩ := g e he
    exact ⟨k, tk, by rw [← q]; exact h1⟩
  have pk : (vs.map (kyStr P w).key).Perm (es.toList.map (keyG (kyStr P w))) := by
    have q := pm.map (kyStr P w).key
    rw [List.map_map] at q
    exact q
  refine wpAny_bind (wpAny_newList ?_ hvz)
  have hoL : (s1.heap.push (seqObj "list" vs.toArray 0)).get? s1.heap.objs.size = some (seqObj "list" vs.toArray 0) := Heap.get?_push_size _ rfl
  refine wpAny_bind (wpAny_holding (wpAny_call_entry slot_list_sort ⟨_, hoL, rfl⟩ entry_list_sort (list_sort_treeSt hoL hI hvz fun out ns' a1 a2 a3 => ⟨_, rfl, ?_⟩) (args_list_sort _)))
  obtain ⟨c, hc⟩ := sortedHeap_at (vs := vs) (out := out) hoL
  have pn : ns'.Perm (es.toList.map (keyG (kyStr P w))) := a2.trans pk
  refine wpAny_pure ⟨_, rfl, hQ _ s1.heap.objs.size out c ns' (fun b u e => ?_) g1 o1 hz hc a1 a3 (pn.nodup_iff.mpr nd) (fun k => by rw [pn.mem_iff, ← hm k]) ?_⟩
  · have q := k1 b u e
    have hlt := Heap.lt_size q
    show (sortedHeap (s1.heap.push (seqObj "list" vs.toArray 0)) s1.heap.objs.size vs out).get? b = some u
    rw [sortedHeap_old (Nat.ne_of_lt hlt) (by rw [size_push']; exact Nat.lt_succ_of_lt hlt)]
    exact Heap.get?_push_of_some _ q
  · rw [pn.length_eq, List.length_map, Array.length_toList]; exact hn
end
/-! ### the calls -/
section
variable {X : Cx}
/-- the set of texts at a -/
def SetS (P : Program) (w : World) (a : Addr) (S : Str → Bool) (n : Nat) : HO := .ext fun h => SetG (kyStr P w) h a S n
theorem setS_new {w : World} {P P' : Program} {H : Hp} {h : Heap} {a : Addr} {S : Str → Bool} {n : Nat} (R : SetG (kyStr P' w) h a S n) : ObjOk P w H h a (SetS P' w a S n) := by
  have ⟨o, _, _, _, ho, _⟩ := R
  exact ⟨R, ⟨o, ho⟩, fun h1 h2 p k => SetG.at p k⟩
theorem setS_get {pins : List (Addr × Obj)} {σ : L2.St} {H : Hp} {s : Shared} {a : Addr} {S : Str → Bool} {n : Nat} (I : Inv X pins σ H s) (ha : H a = some (SetS X.prog X.w a S n)) : SetG (kyStr X.prog X.w) s.heap a S n := (I.hok a _ ha).1
/-- set(list of texts) -/
def rSetS (K : PySem.W.Frag) (P : Program) (w : World) : List V → Hp → VK → Prop := fun xs H Q => ∃ (l : Addr) (ks : List Str), xs = [.ref l] ∧ SqL K H l (ks.map V.str) ∧ ks.length < 1000 ∧
  ∀ (p : Addr) (n : Nat), H p = none → n ≤ ks.length → Q (.ref p) (upd H p (SetS P w p (fun k => decide (k ∈ ks)) n))
theorem vals_at : ∀ {xs : List Str} {us : List Value}, Vals (xs.map V.str) us → ∀ (i : Nat) (v : Value), us[i]? = some v → ∃ k t, xs[i]? = some k ∧ v = Value.str k t
  | [], us, r, i, v, h => by
    cases r
    simp at h
  | x :: xs, us, r, i, v, h => by
    cases r with
    | cons r1 r =>
      obtain ⟨t, rfl⟩ := r1
      cases i with
      | zero =>
        simp at h
        exact ⟨x, t, rfl, h.symm⟩
      | succ i => exact vals_at r i v (by simpa using h)
theorem cr_setS (hc : X.calm = true) : CallR X (.type "set") (rSetS X.K X.prog X.w) := by
  intro pins s σ H xs us Q I r h
  obtain ⟨l, ks, rfl, hs, h1000, q⟩ := h
  obtain ⟨its, rv, hl, _⟩ := I.list hs
  rw [Vals.ref1 r]
  have hlen := rv.length
  rw [List.length_map] at hlen
  refine call_set_listG (T := kyStr X.prog X.w) (xs := ks) (I.ok.hd hc) hl.isList (by simpa using hlen) (fun i v hv => vals_at rv i v (by simpa using hv)) (by unfold scanBound; omega) fun h' tk m hm R k => ?_
  exact ⟨.ref _, upd H s.heap.objs.size (SetS X.prog X.w s.heap.objs.size (fun k => decide (k ∈ ks)) m), I.laid (t' := tk) (fun b u e => k b u (Heap.lt_size e) e) (Nat.le_refl _) (setS_new R), rfl, q _ _ (I.hok.fresh (Nat.le_refl _)) hm⟩
/-- sorted(set of texts) -/
def rSortSS (P : Program) (w : World) : List V → Hp → VK → Prop := fun xs H Q => ∃ (a : Addr) (S : Str → Bool) (n : Nat), xs = [.ref a] ∧ H a = some (SetS P w a S n) ∧ n < 1000 ∧
  ∀ (ns : List Str) (p : Addr), sortedS ns = true → ns.Nodup → (∀ k, k ∈ ns ↔ S k = true) → ns.length = n → H p = none → Q (.ref p) (upd H p (.lst (ns.map V.str)))
theorem cr_sortSS (hc : X.calm = true) : CallR X (.builtin "sorted") (rSortSS X.prog X.w) := by
  intro pins s σ H vs us Q I r h
  obtain ⟨a, S, n, rfl, ha, h64, q⟩ := h
  have R := setS_get I ha
  rw [Vals.ref1 r]
  refine sorted_setS R (I.ok.hd hc) fun s' p out c ns k g o hp hg hi hs hnd hm hl => ?_
  have hlen : (ns.map V.str).length ≤ sizeLine := by rw [List.length_map, hl, sizeLine_eq]; omega
  have hn : H p = none := I.hok.fresh hp
  have J : Inv X pins σ (upd H p (.lst (ns.map V.str))) { s with heap := s'.heap, gens := s'.gens, drawn := s'.drawn, toks := s'.toks } :=
    I.call (ch := []) (Un.laid k hp hn) (I.hok.laid k hp ⟨hlen, out.toList, c, vals_of_strs hi, hg⟩) (by rw [g]; exact I.bare) (fun _ z => nomatch z)
  have e : s' = { s with heap := s'.heap, gens := s'.gens, drawn := s'.drawn, toks := s'.toks } := by
    cases s'
    cases s
    cases o
    rfl
  rw [e]
  exact ⟨.ref p, _, J, rfl, q ns p hs hnd hm hl hn⟩
/-! ### ints -/
def kyInt (P : Program) (w : World) : KyT P w Int where
  knd := PySem.intKind P w
  mkv := Value.int
  key := fun v => match v with | .int k _ => k | _ => 0
  hk := fun _ _ => rfl
  his := fun k t => intKind_is P w k t
  iff := fun k k0 t => by
    show ((k0 == k) = true) ↔ k0 = k
    exact beq_iff_eq
  hsc := fun _ _ => rfl
theorem setR_of {P : Program} {w : World} {h : Heap} {a : Addr} {S : Int → Bool} {n : Nat} (R : SetG (kyInt P w) h a S n) : SetR w h a S n := by
  obtain ⟨o, es, ep, t, ho, hex, hd, g, nd, hm, r⟩ := R
  exact ⟨o, es, ep, t, ho, hex, hd, g, nd, hm, r⟩
/-- set(list of ints) -/
def rSetI2 (K : PySem.W.Frag) (w : World) : List V → Hp → VK → Prop := fun xs H Q => ∃ (l : Addr) (ks : List Int), xs = [.ref l] ∧ SqL K H l (ks.map V.int) ∧ ks.length < 1000 ∧
  ∀ (p : Addr) (n : Nat), H p = none → n ≤ ks.length → Q (.ref p) (upd H p (SetO w p (fun k => decide (k ∈ ks)) n))
theorem vals_atI2 : ∀ {xs : List Int} {us : List Value}, Vals (xs.map V.int) us → ∀ (i : Nat) (v : Value), us[i]? = some v → ∃ k t, xs[i]? = some k ∧ v = Value.int k t
  | [], us, r, i, v, h => by
    cases r
    simp at h
  | x :: xs, us, r, i, v, h => by
    cases r with
    | cons r1 r =>
      obtain ⟨t, rfl⟩ := r1
      cases i with
      | zero =>
        simp at h
        exact ⟨x, t, rfl, h.symm⟩
      | succ i => exact vals_atI2 r i v (by simpa using h)
theorem cr_setI2 (hc : X.calm = true) : CallR X (.type "set") (rSetI2 X.K X.w) := by
  intro pins s σ H xs us Q I r h
  obtain ⟨l, ks, rfl, hs, h1000, q⟩ := h
  obtain ⟨its, rv, hl, _⟩ := I.list hs
  rw [Vals.ref1 r]
  have hlen := rv.length
  rw [List.length_map] at hlen
  refine call_set_listG (T := kyInt X.prog X.w) (xs := ks) (I.ok.hd hc) hl.isList (by simpa using hlen) (fun i v hv => vals_atI2 rv i v (by simpa using hv)) (by unfold scanBound; omega) fun h' tk m hm R k => ?_
  exact ⟨.ref _, upd H s.heap.objs.size (SetO X.w s.heap.objs.size (fun k => decide (k ∈ ks)) m), I.laid (t' := tk) (fun b u e => k b u (Heap.lt_size e) e) (Nat.le_refl _) (setO_new (setR_of R)), rfl, q _ _ (I.hok.fresh (Nat.le_refl _)) hm⟩
end
end So

namespace K11
open PySem PySem.Spec PyProof.Rows L2 So LamX
abbrev sBegins : Stmt := inClass (topS 28) 2
abbrev sTools : Stmt := inClass (topS 28) 3
abbrev sMoments : Stmt := inClass (topS 28) 4
theorem scBegins : FnScope ["self"] ["self"] (defScope sBegins) := ⟨rfl, rfl, rfl, by decide +kernel, rfl, by decide +kernel, by decide +kernel⟩
theorem scTools : FnScope ["self"] ["self"] (defScope sTools) := ⟨rfl, rfl, rfl, by decide +kernel, rfl, by decide +kernel, by decide +kernel⟩
theorem scMoments : FnScope ["self"] ["self"] (defScope sMoments) := ⟨rfl, rfl, rfl, by decide +kernel, rfl, by decide +kernel, by decide +kernel⟩
def strsOf : List V → List Str
  | [] => []
  | .str z :: r => z :: strsOf r
  | _ :: r => strsOf r
def intsOf : List V → List Int
  | [] => []
  | .int z :: r => z :: intsOf r
  | _ :: r => intsOf r
theorem strs_filter : ∀ xs : List V, xs.filter isS = (strsOf xs).map V.str
  | [] => rfl
  | v :: r => by
    rw [List.filter_cons, strs_filter r]
    cases v <;> rfl
theorem ints_filter : ∀ xs : List V, xs.filter isI = (intsOf xs).map V.int
  | [] => rfl
  | v :: r => by
    rw [List.filter_cons, ints_filter r]
    cases v <;> rfl
theorem strs_len (xs : List V) : (strsOf xs).length ≤ xs.length := by
  have h := congrArg List.length (strs_filter xs)
  rw [List.length_map] at h
  rw [← h]
  exact List.length_filter_le _ _
theorem ints_len (xs : List V) : (intsOf xs).length ≤ xs.length := by
  have h := congrArg List.length (ints_filter xs)
  rw [List.length_map] at h
  rw [← h]
  exact List.length_filter_le _ _
theorem pick_yes {fs : List Str} {v : V} {f : Str} {l : List (V × Str)} (h : fs.contains f = true) : pickF fs ((v, f) :: l) = v :: pickF fs l := by
  unfold pickF
  rw [List.filter_cons, if_pos (show fs.contains (v, f).2 = true from h)]
  rfl
theorem pick_no {fs : List Str} {v : V} {f : Str} {l : List (V × Str)} (h : fs.contains f = false) : pickF fs ((v, f) :: l) = pickF fs l := by
  unfold pickF
  rw [List.filter_cons, if_neg (fun z => by rw [show fs.contains (v, f).2 = false from h] at z; cases z)]
theorem pick_name {kind : Str} (hk : kind ∈ kinds) {xs : List V} (h : FlatRow kind xs) : pickF ["name"] (xs.zip (formsOf kind)) = (strsOf xs).map V.str ∧ pickF ["moment", "beginning"] (xs.zip (formsOf kind)) = (intsOf xs).map V.int := by
  obtain ⟨hl, h2⟩ := h
  have hf := forms_in kind hk
  rw [← strs_filter, ← ints_filter]
  generalize formsOf kind = fo at hl h2 hf
  induction xs generalizing fo with
  | nil => exact ⟨rfl, rfl⟩
  | cons v r ih =>
    cases fo with
    | nil => cases hl
    | cons f fr =>
      obtain ⟨i1, i2⟩ := ih fr (by simpa using hl) (fun q hq => h2 q (by rw [List.zip_cons_cons]; exact List.mem_cons_of_mem _ hq)) (fun x hx => hf x (List.mem_cons_of_mem _ hx))
      have o := (h2 (v, f) (by rw [List.zip_cons_cons]; exact List.mem_cons_self)).1
      have hff := hf f List.mem_cons_self
      clear h2 hf hl ih
      rw [List.zip_cons_cons]
      simp only [List.mem_cons, List.not_mem_nil, or_false] at hff
      rcases hff with e | e | e | e <;> subst e
      · rw [okF_n] at o
        cases v with
        | str z => exact ⟨by rw [pick_yes (by decide +kernel), i1]; rfl, by rw [pick_no (by decide +kernel), i2]; rfl⟩
        | _ => cases o
      · rw [okF_m] at o
        cases v with
        | int z => exact ⟨by rw [pick_no (by decide +kernel), i1]; rfl, by rw [pick_yes (by decide +kernel), i2]; rfl⟩
        | _ => cases o
      · rw [okF_b] at o
        cases v with
        | int z => exact ⟨by rw [pick_no (by decide +kernel), i1]; rfl, by rw [pick_yes (by decide +kernel), i2]; rfl⟩
        | _ => cases o
      · rw [okF_t] at o
        cases v with
        | bl z => exact ⟨by rw [pick_no (by decide +kernel), i1]; rfl, by rw [pick_no (by decide +kernel), i2]; rfl⟩
        | _ => cases o
section
variable {P : Program} {w : World} {K : PySem.W.Frag} {mg : Str → Option Value} {base : Heap}
def spTools (Cf : Str → Addr) : Sp := fun vs H Q _ => ∃ (a : Addr) (kind : Str) (xs : List V), vs = [.ref a] ∧ kind ∈ kinds ∧ FlatRow kind xs ∧ RowAt Cf H a kind xs ∧
  ∀ (H' : Hp) (t : Addr) (ns : List Str), Same H H' → H' t = some (.tup (ns.map V.str)) → sortedS ns = true → ns.Nodup → (∀ k, k ∈ ns ↔ k ∈ strsOf xs) → ns.length ≤ 4 → Q (.ref t) H'
def spMoments (Cf : Str → Addr) : Sp := fun vs H Q _ => ∃ (a : Addr) (kind : Str) (xs : List V), vs = [.ref a] ∧ kind ∈ kinds ∧ FlatRow kind xs ∧ RowAt Cf H a kind xs ∧
  ∀ (H' : Hp) (t : Addr) (ns : List Int), Same H H' → H' t = some (.tup (ns.map V.int)) → ns.Pairwise (· < ·) → (∀ k, k ∈ ns ↔ k ∈ intsOf xs) → ns.length ≤ 4 → Q (.ref t) H'
structure SetE (mg : Str → Option Value) : Prop where
  tup : mg "tuple" = none
  srt : mg "sorted" = none
  set : mg "set" = none
theorem ok_tools {Cf : Str → Addr} {CR f fT : Addr} {fd fdT : FuncData} (F : Fun K "tools" "Row.tools" sTools f fd) (W : SetE mg) (T : RowsC K mg Cf CR) (hm : ∀ kind ∈ kinds, Meth K (Cf kind) "_told_as" fT) (bT : Binds K fdT ["self", "forms"] [])
    (GT : FnOk P w K mg base CX0 1 fT fdT ["self", "forms"] (spToldAs Cf)) : FnOk P w K mg base CX0 2 f fd ["self"] (spTools Cf) := by
  refine F.ok scTools (fun vs H Q E h => ?_) (fun cdv A outer s H vs Q E hr h => ?_)
  · obtain ⟨_, _, _, rfl, _⟩ := h
    rfl
  · obtain ⟨a, kind, xs, rfl, hk, hf, hA, q⟩ := h
    have hr1 : Room 1 _ := hr.mono (by decide)
    refine ⟨_, pss_one (ps_ret (pe_callTy call_tuple_of (by rfl) W.tup (by decide +kernel) (pa_cons (pe_callB (cr_sortSS rfl) (by rfl) W.srt (by decide +kernel) (pa_cons (pe_callTy (cr_setS rfl) (by rfl) W.set (by decide +kernel)
      (pa_cons (pe_ex (p := fun kind => kind ∈ kinds) fun kind hk => pe_meth (pv 0) (T.c kind hk).cl (hm kind hk) GT hr1 bT .nil pass0 (pa_cons (pe_tup (pa_cons pe_str pa_nil)) pa_nil)) pa_nil)) pa_nil)) pa_nil))), ?_⟩
    obtain ⟨dx, fs, ha, tl⟩ := id hA
    have hl4 : xs.length ≤ 4 := by rw [hf.1]; exact forms_len kind hk
    have hs4 := strs_len xs
    refine ⟨kind, hk, _, rfl, a, dx, fs, rfl, ha, tl.2.2.2 "_told_as" (by simp [methR]), by show 1 ≤ sizeLine; decide, fun ft hft => ?_⟩
    have s1 := same_upd0 (o := .tup [V.str "name"]) hft
    refine ⟨a, ft, kind, xs, ["name"], rfl, hk, hf.1, hA.same s1, upd_same, by omega, fun H2 l s2 nl hl => ?_⟩
    rw [(pick_name hk hf).1] at hl
    refine ⟨l, strsOf xs, rfl, SqL.of hl, by omega, fun p n hp hn => ⟨p, _, n, rfl, upd_same, by omega, fun ns p2 h1 h2 h3 h4 hp2 => ?_⟩⟩
    have s3 := s1.trans (s2.trans ((same_upd0 hp).trans (same_upd0 (o := .lst (ns.map V.str)) hp2)))
    exact ⟨p2, _, rfl, .inl ⟨SqL.of upd_same, fun t ht => q _ t ns (s3.trans (same_upd0 ht)) upd_same h1 h2 (fun k => by rw [h3 k, decide_eq_true_eq]) (by omega)⟩⟩
theorem ok_moments {Cf : Str → Addr} {CR f fT : Addr} {fd fdT : FuncData} (F : Fun K "moments" "Row.moments" sMoments f fd) (W : SetE mg) (T : RowsC K mg Cf CR) (hm : ∀ kind ∈ kinds, Meth K (Cf kind) "_told_as" fT) (bT : Binds K fdT ["self", "forms"] [])
    (GT : FnOk P w K mg base CX0 1 fT fdT ["self", "forms"] (spToldAs Cf)) : FnOk P w K mg base CX0 2 f fd ["self"] (spMoments Cf) := by
  refine F.ok scMoments (fun vs H Q E h => ?_) (fun cdv A outer s H vs Q E hr h => ?_)
  · obtain ⟨_, _, _, rfl, _⟩ := h
    rfl
  · obtain ⟨a, kind, xs, rfl, hk, hf, hA, q⟩ := h
    have hr1 : Room 1 _ := hr.mono (by decide)
    refine ⟨_, pss_one (ps_ret (pe_callTy call_tuple_of (by rfl) W.tup (by decide +kernel) (pa_cons (pe_callB (cr_sortedSet rfl) (by rfl) W.srt (by decide +kernel) (pa_cons (pe_callTy (cr_setI2 rfl) (by rfl) W.set (by decide +kernel)
      (pa_cons (pe_ex (p := fun kind => kind ∈ kinds) fun kind hk => pe_meth (pv 0) (T.c kind hk).cl (hm kind hk) GT hr1 bT .nil pass0 (pa_cons (pe_tup (pa_cons pe_str (pa_cons pe_str pa_nil))) pa_nil)) pa_nil)) pa_nil)) pa_nil))), ?_⟩
    obtain ⟨dx, fs, ha, tl⟩ := id hA
    have hl4 : xs.length ≤ 4 := by rw [hf.1]; exact forms_len kind hk
    have hs4 := ints_len xs
    refine ⟨kind, hk, _, rfl, a, dx, fs, rfl, ha, tl.2.2.2 "_told_as" (by simp [methR]), by show 2 ≤ sizeLine; decide, fun ft hft => ?_⟩
    have s1 := same_upd0 (o := .tup [V.str "moment", V.str "beginning"]) hft
    refine ⟨a, ft, kind, xs, ["moment", "beginning"], rfl, hk, hf.1, hA.same s1, upd_same, by omega, fun H2 l s2 nl hl => ?_⟩
    rw [(pick_name hk hf).2] at hl
    refine ⟨l, intsOf xs, rfl, SqL.of hl, by omega, fun p n hp hn => ⟨p, _, n, rfl, upd_same, by omega, fun ns p2 h1 h3 h4 hp2 => ?_⟩⟩
    have s3 := s1.trans (s2.trans ((same_upd0 hp).trans (same_upd0 (o := .lst (ns.map V.int)) hp2)))
    exact ⟨p2, _, rfl, .inl ⟨SqL.of upd_same, fun t ht => q _ t ns (s3.trans (same_upd0 ht)) upd_same h1 (fun k => by rw [h3 k, decide_eq_true_eq]) (by omega)⟩⟩
def begs : List Str := ["begun", "setby"]
def spBegins (Cf : Str → Addr) : Sp := fun vs H Q _ => ∃ (a : Addr) (kind : Str) (xs : List V), vs = [.ref a] ∧ kind ∈ kinds ∧ RowAt Cf H a kind xs ∧ Q (.bl (begs.contains kind)) H
theorem ok_begins {Cf : Str → Addr} {CR CBg f : Addr} {fd : FuncData} (F : Fun K "begins" "Row.begins" sBegins f fd) (mi : mg "isinstance" = none) (gB : mg "Beginning" = some (.ref CBg)) (T : RowsC K mg Cf CR)
    (hb : ∀ kind ∈ kinds, PySem.W.kitOne K (.ref (Cf kind)) (.ref CBg) = some (begs.contains kind)) : FnOk P w K mg base CX0 1 f fd ["self"] (spBegins Cf) := by
  refine F.ok scBegins (fun vs H Q E h => ?_) (fun cdv A outer s H vs Q E hr h => ?_)
  · obtain ⟨_, _, _, rfl, _⟩ := h
    rfl
  · obtain ⟨a, kind, xs, rfl, hk, hA, q⟩ := h
    refine ⟨_, pss_one (ps_ret (pe_callB call_isi (by rfl) mi (by decide +kernel) (pa_cons (pv 0) (pa_cons (pe_glob (v := .ref CBg) rfl gB rfl) pa_nil)))), ?_⟩
    obtain ⟨dx, fs, ha, tl⟩ := id hA
    exact ⟨_, rfl, _, _, _, _, _, rfl, .own CBg, .base (.ins ha (T.c kind hk).cl (T.ha kind hk) T.hn T.htk (T.hm kind hk)), hb kind hk, q⟩
end
end K11

namespace K11
open PySem PySem.Spec PyProof.Rows L2 So LamX
/-- whether two rows' arguments are alike -/
def alike (xs ys : List V) : Bool :=
  match flatDs xs, flatDs ys with
  | some a, some b => PyData.eqvAll a b
  | _, _ => false
theorem alike_self {xs : List V} (h : ∀ v ∈ xs, Flat1 v) : alike xs xs = true := by
  obtain ⟨ds, h1, _, _, h4⟩ := flat_data h
  unfold alike
  rw [h1]
  exact h4
section
variable {P : Program} {w : World} {K : PySem.W.Frag} {mg : Str → Option Value} {base : Heap}
theorem flat_two {xs ys : List V} (hx : ∀ v ∈ xs, Flat1 v) (hy : ∀ v ∈ ys, Flat1 v) : ∃ d e : PyData, SeqAt.shaped d = true ∧ SeqAt.shaped e = true ∧ PyData.eqv d e = alike xs ys ∧
    (∀ (K : PySem.W.Frag) (H : Hp) (p : Addr), H p = some (.tup xs) → Dp K H (.ref p) d) ∧ ∀ (K : PySem.W.Frag) (H : Hp) (p : Addr), H p = some (.tup ys) → Dp K H (.ref p) e := by
  obtain ⟨ds, h1, h2, h3, _⟩ := flat_data hx
  obtain ⟨es, g1, g2, g3, _⟩ := flat_data hy
  refine ⟨.tuple ds, .tuple es, ?_, ?_, ?_, fun K H p e => .tup (SqT.of e) (flatDs_dp h1), fun K H p e => .tup (SqT.of e) (flatDs_dp g1)⟩
  · unfold SeqAt.shaped
    simp [PyData.canLay0, h2, PyData.depth, h3]
  · unfold SeqAt.shaped
    simp [PyData.canLay0, g2, PyData.depth, g3]
  · unfold alike
    rw [h1, g1]
    simp [PyData.eqv]
def spEqG (K : PySem.W.Frag) (CR : Addr) (Cf : Str → Addr) : Sp := fun vs H Q _ => ∃ (a : Addr) (kind : Str) (xs : List V) (y : V), vs = [.ref a, y] ∧ kind ∈ kinds ∧ FlatRow kind xs ∧ RowAt Cf H a kind xs ∧
  ((∃ (b : Addr) (kind2 : Str) (ys : List V), y = .ref b ∧ kind2 ∈ kinds ∧ FlatRow kind2 ys ∧ RowAt Cf H b kind2 ys ∧ Q (.bl (decide (kind = kind2) && alike xs ys)) H) ∨
    ∃ t, TyX K H y t ∧ PySem.W.kitOne K t (.ref CR) = some false ∧ Q (.bl false) H)
theorem ok_eqG {Cf : Str → Addr} {CR f : Addr} {fd : FuncData} (F : Fun K "__eq__" "Row.__eq__" sEqR f fd) (W : Words K mg) (T : RowsC K mg Cf CR) : FnOk P w K mg base CX0 1 f fd ["self", "other"] (spEqG K CR Cf) := by
  refine F.ok scEqR (fun vs H Q E h => ?_) (fun cdv A outer s H vs Q E hr h => ?_)
  · obtain ⟨_, _, _, _, rfl, _⟩ := h
    rfl
  · obtain ⟨a, kind, xs, y, rfl, hk, hf, ⟨dx, fs, ha, tA⟩, hc⟩ := h
    refine ⟨_, pss_one (ps_ret (pe_and (pe_callB call_isi (by rfl) W.isi (by decide +kernel) (pa_cons (pv 1) (pa_cons (pe_glob (v := .ref CR) rfl T.gR rfl) pa_nil))) (pe_and (pe_cmpR op_eq (pe_fld (pv 0) rfl) (pe_fld (pv 1) rfl) (nomark _)) (pe_one (pe_cmpR (op_eqD hr.units) (pe_fld (pv 0) rfl) (pe_fld (pv 1) rfl) (nomark _)))))), ?_⟩
    have cl := (T.c kind hk).cl
    have n0 := (T.c kind hk).no "_told" (by simp)
    have n1 := (T.c kind hk).no "kind" (by simp)
    obtain ⟨k1, ⟨p1, e1, t1⟩, _⟩ := tA
    rcases hc with ⟨b, kind2, ys, rfl, hk2, hf2, ⟨dx', fs', hb, tB⟩, q⟩ | ⟨t, ht, hkt, q⟩
    · have cl2 := (T.c kind2 hk2).cl
      have m0 := (T.c kind2 hk2).no "_told" (by simp)
      have m1 := (T.c kind2 hk2).no "kind" (by simp)
      obtain ⟨k2, ⟨p2, e2, t2⟩, _⟩ := tB
      obtain ⟨d, e, sh, sh2, ev, hd, he⟩ := flat_two hf.flat hf2.flat
      refine ⟨_, rfl, _, _, _, _, true, rfl, .own CR, .base (.ins hb cl2 (T.ha kind2 hk2) T.hn T.htk (T.hm kind2 hk2)), T.kR kind2 hk2, true, rfl, iteT ?_⟩
      refine ⟨_, rfl, a, _, dx, _, _, rfl, ha, cl, n1, k1, _, rfl, b, _, dx', _, _, rfl, hb, cl2, m1, k2, rfl, ?_⟩
      refine ⟨_, rfl, ite2 (fun c => ?_) (fun c => ?_)⟩
      · refine ⟨_, rfl, a, _, dx, _, _, rfl, ha, cl, n0, e1, _, rfl, b, _, dx', _, _, rfl, hb, cl2, m0, e2, d, e, hd _ _ _ t1, he _ _ _ t2, sh, sh2, ?_⟩
        have c : kind = kind2 := V.str.inj (of_decide_eq_true c)
        rw [ev]
        rw [decide_eq_true c] at q
        exact q
      · have c : ¬ kind = kind2 := fun z => c (decide_eq_true (by rw [z]))
        rw [decide_eq_false c] at q
        exact q
    · exact ⟨_, rfl, _, _, _, _, false, rfl, .own CR, ht, hkt, false, rfl, iteF q⟩
end
end K11

namespace K11
open PySem PySem.Spec PyProof.Rows L2 So LamX
abbrev sBr : Stmt := topS 58
abbrev brN : List Str := ["_law_made_here", "_law_kind", "_law_marks", "_law_bases", "_law_is_pair", "_law_word"]
theorem scBr : FnScope brN ["_law_made_here", "_law_kind"] (defScope sBr) := ⟨rfl, rfl, rfl, by decide +kernel, rfl, by decide +kernel, by decide +kernel⟩
def bit (kind w : Str) : Bool := decide (V.str kind = V.str w)
theorem bools_data : ∀ bs : List Bool, PyData.canLayAll0 (bs.map PyData.bool) = true ∧ PyData.depthAll (bs.map PyData.bool) = 0 ∧ PyData.eqvAll (bs.map PyData.bool) (bs.map PyData.bool) = true
  | [] => ⟨rfl, rfl, rfl⟩
  | b :: r => by
    obtain ⟨h1, h2, h3⟩ := bools_data r
    rw [List.map_cons]
    exact ⟨by simp [PyData.canLayAll0, PyData.canLay0, h1], by simp [PyData.depthAll, PyData.depth, h2], by simp [PyData.eqvAll, PyData.eqv, h3]⟩
theorem bools_dp {K : PySem.W.Frag} {H : Hp} : ∀ bs : List Bool, DpAll K H (bs.map V.bl) (bs.map PyData.bool)
  | [] => .nil
  | b :: r => .cons (.bl b) (bools_dp r)
theorem bools_shaped (bs : List Bool) : SeqAt.shaped (.list (bs.map PyData.bool)) = true ∧ PyData.eqv (.list (bs.map PyData.bool)) (.list (bs.map PyData.bool)) = true := by
  obtain ⟨h1, h2, h3⟩ := bools_data bs
  refine ⟨?_, ?_⟩
  · unfold SeqAt.shaped
    simp [PyData.canLay0, h1, PyData.depth, h2]
  · simp [PyData.eqv, h3]
def pairK : List Str := ["agreed", "differed", "served", "backed"]
def chkK : List Str := ["setby", "found", "trusted", "passed", "failed"]
/-- the bases of the rows' classes -/
structure Bases (K : PySem.W.Frag) (mg : Str → Option Value) (Cf : Str → Addr) (CBg CCh CMe : Addr) : Prop where
  isi : mg "isinstance" = none
  g_begun : mg "Begun" = some (.ref (Cf "begun"))
  g_setby : mg "SetBy" = some (.ref (Cf "setby"))
  g_found : mg "Found" = some (.ref (Cf "found"))
  g_trusted : mg "Trusted" = some (.ref (Cf "trusted"))
  g_passed : mg "Passed" = some (.ref (Cf "passed"))
  g_failed : mg "Failed" = some (.ref (Cf "failed"))
  g_agreed : mg "Agreed" = some (.ref (Cf "agreed"))
  g_differed : mg "Differed" = some (.ref (Cf "differed"))
  g_served : mg "Served" = some (.ref (Cf "served"))
  g_backed : mg "Backed" = some (.ref (Cf "backed"))
  gB : mg "Beginning" = some (.ref CBg)
  gC : mg "Check" = some (.ref CCh)
  gM : mg "Meeting" = some (.ref CMe)
  kk : ∀ kind ∈ kinds, ∀ w ∈ kinds, PySem.W.kitOne K (.ref (Cf kind)) (.ref (Cf w)) = some (bit kind w)
  kB : ∀ kind ∈ kinds, PySem.W.kitOne K (.ref (Cf kind)) (.ref CBg) = some (begs.contains kind)
  kC : ∀ kind ∈ kinds, PySem.W.kitOne K (.ref (Cf kind)) (.ref CCh) = some (chkK.contains kind)
  kM : ∀ kind ∈ kinds, PySem.W.kitOne K (.ref (Cf kind)) (.ref CMe) = some (pairK.contains kind)
theorem chk_is : ∀ kind ∈ kinds, chkK.contains kind = (!decide (V.str kind = V.str "begun") && !pairK.contains kind) := by decide +kernel
section
variable {P : Program} {w : World} {K : PySem.W.Frag} {mg : Str → Option Value} {base : Heap}
def spBr (Cf : Str → Addr) : Sp := fun vs H Q _ => ∃ (a : Addr) (kind : Str) (xs : List V), vs = [.ref a, .str kind] ∧ kind ∈ kinds ∧ RowAt Cf H a kind xs ∧ ∀ H', Same H H' → Q (.bl true) H'
theorem ok_br {Cf : Str → Addr} {CR CBg CCh CMe f fK : Addr} {fd fdK : FuncData} (F : Fun K "_law_bases_right" "_law_bases_right" sBr f fd) (T : RowsC K mg Cf CR) (B : Bases K mg Cf CBg CCh CMe)
    (FK : Fun K "_law_kinds" "_law_kinds" sKinds fK fdK) (bK : Binds K fdK [] []) (gK : mg "_law_kinds" = some (.ref fK)) (GK : FnOk P w K mg base CX0 1 fK fdK [] spKinds) :
    FnOk P w K mg base CX0 2 f fd ["_law_made_here", "_law_kind"] (spBr Cf) := by
  refine F.ok scBr (fun vs H Q E h => ?_) (fun cdv A outer s H vs Q E hr h => ?_)
  · obtain ⟨_, _, _, rfl, _⟩ := h
    rfl
  · obtain ⟨a, kind, xs, rfl, hk, hA, q⟩ := h
    have hr1 : Room 1 _ := hr.mono (by decide)
    refine ⟨_, pss_cons (ps_set (i := 2) scBr.nd rfl (.inl rfl) (pe_lst (pa_cons (pe_callB call_isi (by rfl) B.isi (by decide +kernel) (pa_cons (pv 0) (pa_cons (pe_glob (v := .ref (Cf "begun")) (by rfl) B.g_begun (by rfl)) pa_nil))) (pa_cons (pe_callB call_isi (by rfl) B.isi (by decide +kernel) (pa_cons (pv 0) (pa_cons (pe_glob (v := .ref (Cf "setby")) (by rfl) B.g_setby (by rfl)) pa_nil)))
        (pa_cons (pe_callB call_isi (by rfl) B.isi (by decide +kernel) (pa_cons (pv 0) (pa_cons (pe_glob (v := .ref (Cf "found")) (by rfl) B.g_found (by rfl)) pa_nil))) (pa_cons (pe_callB call_isi (by rfl) B.isi (by decide +kernel) (pa_cons (pv 0) (pa_cons (pe_glob (v := .ref (Cf "trusted")) (by rfl) B.g_trusted (by rfl)) pa_nil))) pa_nil))))))
      (pss_cons (ps_set (i := 2) scBr.nd rfl (.inl rfl) (pe_op op_cat (pv 2) (pe_lst (pa_cons (pe_callB call_isi (by rfl) B.isi (by decide +kernel) (pa_cons (pv 0) (pa_cons (pe_glob (v := .ref (Cf "passed")) (by rfl) B.g_passed (by rfl)) pa_nil))) (pa_cons (pe_callB call_isi (by rfl) B.isi (by decide +kernel) (pa_cons (pv 0) (pa_cons (pe_glob (v := .ref (Cf "failed")) (by rfl) B.g_failed (by rfl)) pa_nil)))
        (pa_cons (pe_callB call_isi (by rfl) B.isi (by decide +kernel) (pa_cons (pv 0) (pa_cons (pe_glob (v := .ref (Cf "agreed")) (by rfl) B.g_agreed (by rfl)) pa_nil))) pa_nil))))))
      (pss_cons (ps_set (i := 2) scBr.nd rfl (.inl rfl) (pe_op op_cat (pv 2) (pe_lst (pa_cons (pe_callB call_isi (by rfl) B.isi (by decide +kernel) (pa_cons (pv 0) (pa_cons (pe_glob (v := .ref (Cf "differed")) (by rfl) B.g_differed (by rfl)) pa_nil))) (pa_cons (pe_callB call_isi (by rfl) B.isi (by decide +kernel) (pa_cons (pv 0) (pa_cons (pe_glob (v := .ref (Cf "served")) (by rfl) B.g_served (by rfl)) pa_nil)))
        (pa_cons (pe_callB call_isi (by rfl) B.isi (by decide +kernel) (pa_cons (pv 0) (pa_cons (pe_glob (v := .ref (Cf "backed")) (by rfl) B.g_backed (by rfl)) pa_nil))) pa_nil))))))
      (pss_cons (ps_if (pt_cmpR (op_neD hr.units) (pv 2) (pe_lc (own := [("_law_word", 5)]) (g := gName 5) (tt := tYes) rfl scBr.nd (pi_list (pe_call0 GK hr1 (by rfl) gK FK.kp bK .nil pass0)) (blkOk_by (N := brN) (sc := defScope sBr) (by decide +kernel)) (fun _ _ _ _ _ => pg_name (i := 5) scBr.nd rfl (Or.inl rfl)) (fun _ _ _ _ _ => pts_nil)
          (fun _ _ _ _ _ => pe_cmpR op_eq (pv 1) (pv 5) (nomark _))) (nomark _)) (pss_one (ps_ret pe_bl)) pss_nil)
      (pss_cons (ps_set (i := 3) scBr.nd rfl (.inl rfl) (pe_lst (pa_cons (pe_callB call_isi (by rfl) B.isi (by decide +kernel) (pa_cons (pv 0) (pa_cons (pe_glob (v := .ref CR) (by rfl) T.gR (by rfl)) pa_nil))) (pa_cons (pe_callB call_isi (by rfl) B.isi (by decide +kernel) (pa_cons (pv 0) (pa_cons (pe_glob (v := .ref CBg) (by rfl) B.gB (by rfl)) pa_nil)))
        (pa_cons (pe_callB call_isi (by rfl) B.isi (by decide +kernel) (pa_cons (pv 0) (pa_cons (pe_glob (v := .ref CCh) (by rfl) B.gC (by rfl)) pa_nil))) (pa_cons (pe_callB call_isi (by rfl) B.isi (by decide +kernel) (pa_cons (pv 0) (pa_cons (pe_glob (v := .ref CMe) (by rfl) B.gM (by rfl)) pa_nil))) pa_nil))))))
      (pss_cons (ps_set (i := 4) scBr.nd rfl (.inl rfl) (pe_cmpR op_in_seq (pv 1) (pe_tup (pa_cons pe_str (pa_cons pe_str (pa_cons pe_str (pa_cons pe_str pa_nil))))) (by rfl)))
      (pss_one (ps_ret (pe_cmpR (op_eqD hr.units) (pv 3) (pe_lst (pa_cons pe_bl (pa_cons (pe_cmpR op_in_seq (pv 1) (pe_tup (pa_cons pe_str (pa_cons pe_str pa_nil))) (by rfl)) (pa_cons (pe_and (pe_cmpR op_ne (pv 1) pe_str (nomark _)) (pe_one (pe_not (pv 4)))) (pa_cons (pv 4) pa_nil))))) (nomark _))))))))), ?_⟩
    obtain ⟨dx, fs, ha, tl⟩ := id hA
    have ty : ∀ {G : Hp}, Same H G → TyX K G (.ref a) (.ref (Cf kind)) := fun s => .base (.ins (s _ _ ha) (T.c kind hk).cl (T.ha kind hk) T.hn T.htk (T.hm kind hk))
    have kk := B.kk kind hk
    have s0 := Same.refl H
    refine ⟨_, rfl, _, _, _, _, _, rfl, .own _, ty s0, kk "begun" (by decide +kernel), _, rfl, _, _, _, _, _, rfl, .own _, ty s0, kk "setby" (by decide +kernel), _, rfl, _, _, _, _, _, rfl, .own _, ty s0, kk "found" (by decide +kernel), _, rfl, _, _, _, _, _, rfl, .own _, ty s0, kk "trusted" (by decide +kernel), by show 4 ≤ sizeLine; decide, fun m1 hm1 => ?_⟩
    have e1 := same_upd0 (o := .lst [V.bl (bit kind "begun"), .bl (bit kind "setby"), .bl (bit kind "found"), .bl (bit kind "trusted")]) hm1
    have h1 := upd_same (H := H) (a := m1) (o := .lst [V.bl (bit kind "begun"), .bl (bit kind "setby"), .bl (bit kind "found"), .bl (bit kind "trusted")])
    revert e1 h1
    generalize L2.upd H m1 (.lst [V.bl (bit kind "begun"), .bl (bit kind "setby"), .bl (bit kind "found"), .bl (bit kind "trusted")]) = H1
    intro e h1
    clear hm1
    refine ⟨_, rfl, _, rfl, _, _, _, _, _, rfl, .own _, ty e, kk "passed" (by decide +kernel), _, rfl, _, _, _, _, _, rfl, .own _, ty e, kk "failed" (by decide +kernel), _, rfl, _, _, _, _, _, rfl, .own _, ty e, kk "agreed" (by decide +kernel), by show 3 ≤ sizeLine; decide, fun m2 hm2 => ⟨m1, m2, _, _, rfl, rfl, same_upd0 hm2 _ _ h1, upd_same, by show 7 ≤ sizeLine; decide, fun m3 hm3 => ?_⟩⟩
    have h3 := upd_same (H := L2.upd H1 m2 (.lst [V.bl (bit kind "passed"), .bl (bit kind "failed"), .bl (bit kind "agreed")])) (a := m3) (o := .lst ([V.bl (bit kind "begun"), .bl (bit kind "setby"), .bl (bit kind "found"), .bl (bit kind "trusted")] ++ [V.bl (bit kind "passed"), .bl (bit kind "failed"), .bl (bit kind "agreed")]))
    have e3 := e.trans ((same_upd0 (o := .lst [V.bl (bit kind "passed"), .bl (bit kind "failed"), .bl (bit kind "agreed")]) hm2).trans (same_upd0 (o := .lst ([V.bl (bit kind "begun"), .bl (bit kind "setby"), .bl (bit kind "found"), .bl (bit kind "trusted")] ++ [V.bl (bit kind "passed"), .bl (bit kind "failed"), .bl (bit kind "agreed")])) hm3))
    revert e3 h3
    generalize L2.upd (L2.upd H1 m2 (.lst [V.bl (bit kind "passed"), .bl (bit kind "failed"), .bl (bit kind "agreed")])) m3 (.lst ([V.bl (bit kind "begun"), .bl (bit kind "setby"), .bl (bit kind "found"), .bl (bit kind "trusted")] ++ [V.bl (bit kind "passed"), .bl (bit kind "failed"), .bl (bit kind "agreed")])) = H3
    clear e h1 hm2 hm3
    intro h3 e
    refine ⟨_, rfl, _, rfl, _, _, _, _, _, rfl, .own _, ty e, kk "differed" (by decide +kernel), _, rfl, _, _, _, _, _, rfl, .own _, ty e, kk "served" (by decide +kernel), _, rfl, _, _, _, _, _, rfl, .own _, ty e, kk "backed" (by decide +kernel), by show 3 ≤ sizeLine; decide, fun m4 hm4 => ⟨m3, m4, _, _, rfl, rfl, same_upd0 hm4 _ _ h3, upd_same, by show 10 ≤ sizeLine; decide, fun m5 hm5 => ?_⟩⟩
    have h5 : (L2.upd (L2.upd H3 m4 (.lst [V.bl (bit kind "differed"), .bl (bit kind "served"), .bl (bit kind "backed")])) m5 (.lst ([V.bl (bit kind "begun"), .bl (bit kind "setby"), .bl (bit kind "found"), .bl (bit kind "trusted")] ++ [V.bl (bit kind "passed"), .bl (bit kind "failed"), .bl (bit kind "agreed")] ++ [V.bl (bit kind "differed"), .bl (bit kind "served"), .bl (bit kind "backed")]))) m5 = some (.lst ((kinds.map (bit kind)).map V.bl)) := upd_same
    have e5 := e.trans ((same_upd0 (o := .lst [V.bl (bit kind "differed"), .bl (bit kind "served"), .bl (bit kind "backed")]) hm4).trans (same_upd0 (o := .lst ([V.bl (bit kind "begun"), .bl (bit kind "setby"), .bl (bit kind "found"), .bl (bit kind "trusted")] ++ [V.bl (bit kind "passed"), .bl (bit kind "failed"), .bl (bit kind "agreed")] ++ [V.bl (bit kind "differed"), .bl (bit kind "served"), .bl (bit kind "backed")])) hm5))
    revert e5 h5
    generalize L2.upd (L2.upd H3 m4 (.lst [V.bl (bit kind "differed"), .bl (bit kind "served"), .bl (bit kind "backed")])) m5 (.lst ([V.bl (bit kind "begun"), .bl (bit kind "setby"), .bl (bit kind "found"), .bl (bit kind "trusted")] ++ [V.bl (bit kind "passed"), .bl (bit kind "failed"), .bl (bit kind "agreed")] ++ [V.bl (bit kind "differed"), .bl (bit kind "served"), .bl (bit kind "backed")])) = H5
    clear e h3 hm4 hm5
    intro h5 e
    obtain ⟨sh, ev⟩ := bools_shaped (kinds.map (bit kind))
    have hsz := sizeLine_eq
    refine ⟨_, rfl, rfl, fun H6 kl s6 nkl hkl => ⟨kl, rfl, ⟨_, SqL.of hkl⟩, fun D hD => ?_⟩⟩
    have e6 := e.trans s6
    have h6 := s6 _ _ h5
    clear h5 s6 nkl e
    refine lc_it (walk_list (xs := kinds.map V.str)) (fun k H' => Same H6 H' ∧ H' D = some (.lst (((kinds.take k).map (bit kind)).map V.bl))) ⟨Same.over (Same.refl _) hD, upd_same⟩ (fun _ _ _ y => SqL.of (y.1 _ _ hkl)) ?_ ?_
    · rintro k x V1 V2 hk2 ⟨s2, hDk⟩ ⟨rfl, hx⟩
      have hk10 : k < 10 := hk2
      rw [List.getElem?_map] at hx
      obtain ⟨z, hz, rfl⟩ : ∃ z, kinds[k]? = some z ∧ x = .str z := by
        cases q : kinds[k]? with
        | none => rw [q] at hx; cases hx
        | some m => rw [q] at hx; exact ⟨m, rfl, (Option.some.inj hx).symm⟩
      refine ⟨rfl, ?_⟩
      simp only [tYes, ↓reduceIte]
      refine ⟨_, rfl, _, rfl, rfl, _, hDk, ?_, Same.over s2 hD, ?_⟩
      · rw [List.length_map, List.length_map]
        have := List.length_take_le' k kinds
        have : kinds.length = 10 := rfl
        omega
      · rw [upd_same, List.take_add_one, hz]
        simp [bit]
    rintro V1 ⟨s2, hD2⟩
    rw [show kinds.take (kinds.map V.str).length = kinds from List.take_of_length_le (by rw [List.length_map]; exact Nat.le_refl _)] at hD2
    have h7 := s2 _ _ h6
    have e := e6.trans s2
    refine ⟨_, _, .lst (SqL.of h7) (bools_dp _), .lst (SqL.of hD2) (bools_dp _), sh, sh, _, rfl, ite2 (fun c => by rw [ev] at c; cases c) (fun _ => ?_)⟩
    refine ⟨_, rfl, _, _, _, _, _, rfl, .own _, ty e, T.kR kind hk, _, rfl, _, _, _, _, _, rfl, .own _, ty e, B.kB kind hk, _, rfl, _, _, _, _, _, rfl, .own _, ty e, B.kC kind hk, _, rfl, _, _, _, _, _, rfl, .own _, ty e, B.kM kind hk, by show 4 ≤ sizeLine; decide, fun m6 hm6 => ?_⟩
    refine ⟨_, rfl, by show 4 ≤ sizeLine; decide, fun tp htp => ⟨tp, _, rfl, .inr (SqT.of upd_same), rfl, flat_strs pairK, ?_⟩⟩
    rw [show (if false = true then !inV (V.str kind) [V.str "agreed", V.str "differed", V.str "served", V.str "backed"] else inV (V.str kind) [V.str "agreed", V.str "differed", V.str "served", V.str "backed"]) = pairK.contains kind from inV_strs kind pairK]
    have s1 := same_upd0 (o := .lst [V.bl true, V.bl (begs.contains kind), V.bl (chkK.contains kind), V.bl (pairK.contains kind)]) hm6
    have s2' := s1.trans (same_upd0 (o := .tup [V.str "agreed", V.str "differed", V.str "served", V.str "backed"]) htp)
    have h8 := (same_upd0 (o := .tup [V.str "agreed", V.str "differed", V.str "served", V.str "backed"]) htp) _ _ (upd_same (H := V1) (a := m6) (o := .lst [V.bl true, V.bl (begs.contains kind), V.bl (chkK.contains kind), V.bl (pairK.contains kind)]))
    have e8 := e.trans s2'
    revert h8 e8
    generalize L2.upd (L2.upd V1 m6 (.lst [V.bl true, V.bl (begs.contains kind), V.bl (chkK.contains kind), V.bl (pairK.contains kind)])) tp (.tup [V.str "agreed", V.str "differed", V.str "served", V.str "backed"]) = H8
    intro h8 e8
    clear s1 s2' htp hm6 h7 e
    refine ⟨_, rfl, _, rfl, by show 2 ≤ sizeLine; decide, fun tp2 htp2 => ⟨tp2, _, rfl, .inr (SqT.of upd_same), rfl, flat_strs begs, ?_⟩⟩
    rw [show (if false = true then !inV (V.str kind) [V.str "begun", V.str "setby"] else inV (V.str kind) [V.str "begun", V.str "setby"]) = begs.contains kind from inV_strs kind begs]
    have s9 := same_upd0 (o := .tup [V.str "begun", V.str "setby"]) htp2
    have h9 := s9 _ _ h8
    have e9 := e8.trans s9
    revert h9 e9
    generalize L2.upd H8 tp2 (.tup [V.str "begun", V.str "setby"]) = H9
    intro h9 e9
    clear s9 htp2 h8 e8
    obtain ⟨sb, eb⟩ := bools_shaped [true, begs.contains kind, chkK.contains kind, pairK.contains kind]
    have h9' : H9 m6 = some (.lst ([true, begs.contains kind, chkK.contains kind, pairK.contains kind].map V.bl)) := h9
    have hc := chk_is kind hk
    refine ⟨_, rfl, rfl, _, rfl, ite2 (fun c => ?_) (fun c => ?_)⟩
    · refine ⟨_, rfl, _, rfl, _, rfl, by show 4 ≤ sizeLine; decide, fun m7 hm7 => ?_⟩
      rw [c, Bool.true_and] at hc
      refine ⟨_, _, .lst (SqL.of (same_upd0 hm7 _ _ h9')) (bools_dp _), .lst (SqL.of (xs := [true, begs.contains kind, chkK.contains kind, pairK.contains kind].map V.bl) ?_) (bools_dp _), sb, sb, ?_⟩
      · rw [upd_same, hc]
        rfl
      · rw [eb]
        exact q _ (e9.trans (same_upd0 hm7))
    · refine ⟨_, rfl, by show 4 ≤ sizeLine; decide, fun m7 hm7 => ?_⟩
      have c : (!decide (V.str kind = V.str "begun")) = false := by
        cases h : (!decide (V.str kind = V.str "begun")) with
        | false => rfl
        | true => exact absurd h c
      rw [c, Bool.false_and] at hc
      refine ⟨_, _, .lst (SqL.of (same_upd0 hm7 _ _ h9')) (bools_dp _), .lst (SqL.of (xs := [true, begs.contains kind, chkK.contains kind, pairK.contains kind].map V.bl) ?_) (bools_dp _), sb, sb, ?_⟩
      · rw [upd_same, hc]
        rfl
      · rw [eb]
        exact q _ (e9.trans (same_upd0 hm7))
end
end K11

/-! a list of anything == [], != [] -/
namespace So
open PySem PySem.Spec PyProof.Rows L2
section
variable {X : Cx}
theorem isL {hp : Heap} {a : Addr} {its : Array Value} (h : PlainL hp a its) : hp.IsList a its := by
  obtain ⟨o, n, e, c, d, dt⟩ := h
  exact ⟨o, e, c, n, dt⟩
def rNil (K : PySem.W.Frag) (neg : Bool) : R2 := fun x y H Q => ∃ (a b : Addr) (xs : List V), x = .ref a ∧ y = .ref b ∧ SqL K H a xs ∧ SqL K H b [] ∧ Q (.bl (if neg then !xs.isEmpty else xs.isEmpty)) H
theorem op_neNil (hu : X.A.units < cLine) : OpR X (compareOp .NotEq) (rNil X.K true) := by
  intro pins s σ H x y v u Q I rx ry h
  obtain ⟨a, b, xs, rfl, rfl, ha, hb, q⟩ := h
  cases rx
  cases ry
  obtain ⟨its, rv, hl, hz⟩ := I.list ha
  obtain ⟨its2, rv2, hl2, hz2⟩ := I.list hb
  cases rv2
  cases xs with
  | nil =>
    cases rv
    exact PySem.SeqAt.RcNeAt.lists (e := fun _ => true) (isL hl) (isL hl2) rfl hu (fun j h1 _ => absurd h1 (Nat.not_lt_zero j)) X.prog X.w _ _ ⟨.bl false, H, I, rfl, q⟩
  | cons x r =>
    cases rv with
    | cons r1 r2 => exact PySem.SeqAt.RcNeAt.lists_lengths (isL hl) (isL hl2) (by simp) hu X.prog X.w _ _ ⟨.bl true, H, I, rfl, q⟩
theorem op_eqNil (hu : X.A.units < cLine) : OpR X (compareOp .Eq) (rNil X.K false) := by
  intro pins s σ H x y v u Q I rx ry h
  obtain ⟨a, b, xs, rfl, rfl, ha, hb, q⟩ := h
  cases rx
  cases ry
  obtain ⟨its, rv, hl, hz⟩ := I.list ha
  obtain ⟨its2, rv2, hl2, hz2⟩ := I.list hb
  cases rv2
  cases xs with
  | nil =>
    cases rv
    exact PySem.SeqAt.RcAt.lists (e := fun _ => true) (isL hl) (isL hl2) rfl hu (fun j h1 _ => absurd h1 (Nat.not_lt_zero j)) X.prog X.w _ _ ⟨.bl true, H, I, rfl, q⟩
  | cons x r =>
    cases rv with
    | cons r1 r2 => exact PySem.SeqAt.RcAt.lists_lengths (isL hl) (isL hl2) (by simp) hu X.prog X.w _ _ ⟨.bl false, H, I, rfl, q⟩
end
end So

/-! a part of an expression walked by itself: what follows it is said once -/
namespace So
open PySem PySem.Spec PyProof.Rows L2
theorem pe_cut {X : Cx} {e : Expr} {t : TE} (h : PE X e t) : PE X e (fun σ H Q => ∃ Q0 : VK, t σ H Q0 ∧ ∀ v H', Q0 v H' → Q v H') :=
  ⟨fun pins s σ H Q I ⟨Q0, h1, h2⟩ => thn (h.run pins s σ H Q0 I h1) fun u s' ⟨v, H', I', r, q⟩ => ⟨v, H', I', r, h2 v H' q⟩⟩
end So

/-! rules within a comprehension's block, the written part told -/
namespace So
open PySem PySem.Spec PyProof.Rows L2
section
variable {X : Cx} {K : PySem.W.Frag} {tg l e : Expr} {tl ta : TE} {f : Str} {pos : Pos}
theorem pi_tupK (h : X.K = K) (hl : PE X l tl) : PI X tg l (iTup K tl) := by
  subst h
  exact pi_tup hl
theorem pi_listK (h : X.K = K) (hl : PE X l tl) : PI X tg l (iList K tl) := by
  subst h
  exact pi_list hl
theorem pe_fldK (h : X.K = K) (he : PE X e ta) (hb : attributeBase e f X.env (eval e X.env) = eval e X.env) : PE X (.Attribute e f pos) (tFld K ta f) := by
  subst h
  exact pe_fld he hb
theorem ix_listK (h : X.K = K) : IxR X (rIxL K) := h ▸ ix_list
theorem ix_tupK (h : X.K = K) : IxR X (rIxT K) := h ▸ ix_tup
theorem op_inK (h : X.K = K) : OpR X (compareOp .In) (rIn K false) := by
  subst h
  exact op_in_seq
theorem op_notInK (h : X.K = K) : OpR X (compareOp .NotIn) (rIn K true) := by
  subst h
  exact op_notIn_seq
theorem lenK (h : X.K = K) : CallR X (.builtin "len") (fun xs H Q => ∃ (p : Addr) (ys : List V), xs = [V.ref p] ∧ (SqL K H p ys ∨ SqT K H p ys) ∧ Q (.int (ys.length : Nat)) H) := by
  subst h
  exact call_len_seq
end
end So

namespace So
open PySem PySem.Spec PyProof.Rows L2
section
variable {P : Program} {w : World} {K : PySem.W.Frag} {mg : Str → Option Value} {base : Heap} {CX : CXT} {sp : Sp} {fd : FuncData} {ps N : List Str} {k : Nat} {f c : Addr}
/-- a def by its body, the guards and the code object told -/
theorem fnG_ofC {x qual : Str} {st : Stmt} (F : Fun K x qual st f fd) (hcode : fd.code = .ref c) (S : FnScope N ps (defScope st)) (len : ∀ vs H Q E, sp vs H Q E → vs.length = ps.length)
    (hbody : ∀ (A : Around) (outer : List Env) (s : Shared) (H : Hp) (vs : List V) (Q : VK) (E : XK), A.guards = some [] → Room k (A.deeper (envOfC qual (defScope st) s.heap.objs.size f (.ref c))) → sp vs H Q E →
      ∃ t, PSs (cxOf CX P w K mg base N qual (defScope st) f (.ref c) A outer s H E).nox (defBody st) t ∧ t { nx := fun _ H' => Q .non H', rt := Q } (start N vs) H) : FnG P w K mg base CX (k + 1) f fd ps sp := by
  obtain ⟨oc, od, kV, doc, pm, an, cdv, ct, osl, rfl, lk, hcd⟩ := F.ex
  obtain rfl : cdv = .ref c := hcode
  constructor
  · exact len
  intro A outer s H args us vs Q E hg hr e0 hb r hsp
  have old : ∀ b o, base.get? b = some o → s.heap.get? b = some o := fun b o e => (e0.bs b o e).1
  have KX := e0.mod.kin.keeps old
  have lim := e0.mod.nolimit.keeps old
  refine codeAny_call_function hr.depth (KX _ _ lk) rfl S.co S.gen rfl (PySem.W.codeRec_of KX hcd) (hb _ _ _ _ ?_)
  refine wpAny_newFunctionEnv_cells S.kind (fun y hy => ?_) fun env he s1 x => ?_
  · rcases S.par y.1 (List.of_mem_zip (show (y.1, y.2) ∈ ps.zip us from hy)).1 with q | q
    · exact Or.inl q
    · exact Or.inr (And.intro q (PySem.W.cellsFrom_some _ _ _ (Or.inl q)))
  subst he
  refine And.intro (lim.keeps x.toInCall.keep) (codeAny_func ?_)
  obtain ⟨t, ht, hq⟩ := hbody A outer s H vs Q E hg (hr.deeper _) hsp
  refine wpAny_mono (ht.nox.run [] s1 (start N vs) H _ (inv_start S hr.hd e0 (len _ _ _ _ hsp) r x) hq) (fun fl s' hs => ?_) fun _ _ hs => hs
  match fl, hs with
  | .ret u, ⟨v, σ', H', J, rv, q⟩ => exact ⟨v, H', J.os, J.bare, J.base, J.hok, rv, q⟩
  | .next, ⟨σ', H', J, q⟩ => exact ⟨V.non, H', J.os, J.bare, J.base, J.hok, rfl, q⟩
  | .brk, ⟨_, _, _, q⟩ => exact q.elim
  | .cont, ⟨_, _, _, q⟩ => exact q.elim
end
end So

namespace So
open PySem PySem.Spec PyProof.Rows L2 LamX
/-- the law's call, its one table of code objects and the guards told -/
theorem law_callTG {P : Program} {w : World} {K : PySem.W.Frag} {mg mb : Str → Option Value} {CX : CXT} {k : Nat} {fa a c T : Addr} {fd : FuncData} {x : Str} {sp : Sp} {s₁ : Shared} {vs : List Value} {ns : List Int}
    (KX : K.In s₁.heap) (hns : s₁.heap.Ns mainGlobals mg) (hb : s₁.heap.Ns builtinsNs mb) (hbb : ∀ x : Str, x ≠ "__name__" → mb x = bootBuiltins x) (hlim : s₁.heap.NoLimit) (hg : s₁.gens = #[])
    (tab : s₁.heap.get? T = some { cls := .none, data := .fields #[] }) (noT : K.lookup T = none) (cd : PySem.W.CodeHd s₁.heap c T)
    (mod : ∃ (bm : Addr) (ob : Obj), mg "__builtins__" = some (.ref bm) ∧ bm ≠ builtinsNs ∧ s₁.heap.get? bm = some ob ∧ ob.cls = .type "module" ∧ ob.dict = some builtinsNs ∧ ob.data = .plain)
    (ha : s₁.heap.get? a = some { cls := .type "list", data := .seq vs.toArray }) (hi : IntsAre vs ns) (hl : ns.length ≤ sizeLine) (hr : Room k callerA)
    (F : ∀ base : Heap, K.In base → base.Ns mainGlobals mg → TabB base mg c T → FnG P w K mg base CX k fa fd [x] sp) (hbind : ∀ (s : Shared) (u : Value), BindsTo s fd ⟨[u], []⟩ [(x, u)])
    (hsp : ∀ H : Hp, H T = some (.tbl #[]) → SqL K H a (ns.map V.int) → sp [.ref a] H (fun v _ => v = .bl true) fun _ _ _ => False)
    (hCX : ∀ H e s', CX [] H s₁ (fun _ _ _ => False) e s' → False) :
    codeAny (model P w) callerA (.call (.ref fa) ⟨[.ref a], []⟩) (fun r s' => r = .ok (.ret (.bool true)) ∧ OldK s₁.heap s'.heap ∧ s'.os = s₁.os ∧ AllBare s'.gens) s₁ := by
  have aT : a ≠ T := fun z => by
    rw [z, tab] at ha
    have := congrArg Obj.data (Option.some.inj ha)
    cases this
  -- what may be tracked at the start: the table, and the script where the written part does not hold it
  have go : ∀ H : Hp, H T = some (.tbl #[]) → (∀ b u, H b = some u → b = T ∨ (b = a ∧ K.lookup a = none ∧ ∃ o xs, u = .frz o (.lst xs))) → SqL K H a (ns.map V.int) → HOk P w H s₁.heap →
      codeAny (model P w) callerA (.call (.ref fa) ⟨[.ref a], []⟩) (fun r s' => r = .ok (.ret (.bool true)) ∧ OldK s₁.heap s'.heap ∧ s'.os = s₁.os ∧ AllBare s'.gens) s₁ := by
    intro H hT hA hS hok
    -- an object that is neither the script's list nor the table stands in the base
    have free : ∀ {b : Addr} {o : Obj}, s₁.heap.get? b = some o → (∀ vs n, o.data ≠ .seq vs n) → o.data ≠ .fields #[] → H b = none := by
      intro b o e h1 h2
      cases q : H b with
      | none => rfl
      | some u =>
        rcases hA b u q with rfl | ⟨rfl, _⟩
        · rw [tab] at e
          cases e
          exact absurd rfl h2
        · rw [ha] at e
          cases e
          exact absurd rfl (h1 _ _)
    have toBase : ∀ {b : Addr} {o : Obj}, s₁.heap.get? b = some o → H b = none → (hidT s₁.heap H).get? b = some o := fun e n => hidT_get e n
    have nsB : ∀ {b : Addr} {m : Str → Option Value}, s₁.heap.Ns b m → (hidT s₁.heap H).Ns b m := by
      rintro b m ⟨o, es, ep, e, d, r⟩
      have n : H b = none := by
        refine free e ?_ ?_
        · intro vs n z
          rw [d] at z
          cases z
        · intro z
          rw [d] at z
          cases z
      exact ⟨o, es, ep, toBase e n, d, r⟩
    have kin : K.In (hidT s₁.heap H) := by
      intro b o e
      refine toBase (KX b o e) ?_
      cases q : H b with
      | none => rfl
      | some u =>
        rcases hA b u q with rfl | ⟨rfl, z, _⟩
        · rw [noT] at e
          cases e
        · rw [z] at e
          cases e
    have lim2 : (hidT s₁.heap H).NoLimit := by
      obtain ⟨mc, h1, h2⟩ := hlim
      exact ⟨mc, nsB h1, h2⟩
    have gT : mainGlobals ≠ T := fun z => by
      obtain ⟨o, es, ep, e, d, _⟩ := hns
      rw [z, tab] at e
      cases e
      cases d
    have cd2 : PySem.W.CodeHd (hidT s₁.heap H) c T := by
      obtain ⟨o, us, fl, tf, fg, tg, inF, tx, tt, e1, r1, r2, r3, r⟩ := cd
      refine ⟨o, us, fl, tf, fg, tg, inF, tx, tt, toBase e1 (free e1 ?_ ?_), r1, r2, r3, r⟩
      · intro vs n z
        rw [r2] at z
        cases z
      · intro z
        rw [r2] at z
        cases z
        simp at r3
    have bm2 : (hidT s₁.heap H).BuiltinsAt mg T := by
      obtain ⟨bm, ob, b1, b2, b3, b4, b5, b6⟩ := mod
      have n1 : bm ≠ mainGlobals := fun z => by
        obtain ⟨o, es, ep, e, d, _⟩ := hns
        rw [z, e] at b3
        cases b3
        rw [d] at b6
        cases b6
      have n2 : bm ≠ T := fun z => by
        rw [z, tab] at b3
        cases b3
        cases b6
      refine ⟨bm, ob, b1, b2, n1, n2, toBase b3 (free b3 ?_ ?_), b4, b5, b6⟩
      · intro vs n z
        rw [b6] at z
        cases z
      · intro z
        rw [b6] at z
        cases z
    have e0 : Env0 P w K mg (hidT s₁.heap H) callerA [] s₁ H := by
      refine ⟨rfl, ⟨kin, nsB hns, ⟨mb, nsB hb, hbb⟩, lim2⟩, fun b o e => of_hidT e, Nat.le_of_eq (hidT_size _ _), True.intro, ?_, hok, .of_eq hg⟩
      intro b hb
      cases hb
    refine codeAny_mono ((F _ kin (nsB hns) ⟨cd2, bm2, gT⟩).runG callerA [] s₁ H ⟨[.ref a], []⟩ [.ref a] [.ref a] _ _ rfl hr e0 (hbind s₁ (.ref a)) (.cons rfl .nil) (hsp H hT hS)) fun r s' h => ?_
    match r, h with
    | .error e, h => exact (hCX H e s' h).elim
    | .ok .next, h => exact h.elim
    | .ok .brk, h => exact h.elim
    | .ok .cont, h => exact h.elim
    | .ok (.ret u), ⟨v, H', os, bare, un, hok', rv, q⟩ =>
      have q2 : v = .bl true := q
      subst q2
      cases rv
      obtain ⟨more, hm⟩ := un.tbls T #[] hT
      have grown : s'.heap.get? T = some { cls := .none, data := .fields (#[] ++ more) } := hok' T _ hm
      have stay : ∀ b o, b ≠ T → s₁.heap.get? b = some o → s'.heap.get? b = some o := by
        intro b o n e
        cases q : H b with
        | none => exact un.keep b o e q (fun z => nomatch z) (fun z => nomatch z)
        | some u =>
          rcases hA b u q with z | ⟨_, _, ob, xs, rfl⟩
          · exact absurd z n
          · have z1 := (hok b _ q).1
            have z2 := (hok' b _ (un.frzs b ob _ q)).1
            rw [z1] at e
            rw [z2, e]
      refine ⟨rfl, ⟨fun b o e => ?_, fun b o e => ?_⟩, os, bare⟩
      · by_cases n : b = T
        · subst n
          rw [tab] at e
          cases e
          refine .inr (.inl ⟨(cd.tab tab).isCodeTable, rfl, #[], more, rfl, grown⟩)
        · exact .inl (stay b o n e)
      · by_cases n : b = T
        · subst n
          exact ⟨_, grown⟩
        · exact ⟨o, stay b o n e⟩
  have rv := vals_ints hi
  have hlen : (ns.map V.int).length ≤ sizeLine := by rw [List.length_map]; exact hl
  cases hk : K.lookup a with
  | some o =>
    have e := KX a o hk
    rw [ha] at e
    cases e
    refine go (fun b => if b = T then some (.tbl #[]) else none) (if_pos rfl) (fun b u z => ?_) (Or.inr ⟨_, vs.toArray, _, hk, rfl, rfl, rfl, by rw [List.size_toArray, hi.length]; exact hl, by simpa using rv⟩) fun b u z => ?_
    · try dsimp only at z
      by_cases n : b = T
      · exact Or.inl n
      · rw [if_neg n] at z
        cases z
    · try dsimp only at z
      by_cases n : b = T
      · rw [if_pos n] at z
        cases z
        rw [n]
        exact tab
      · rw [if_neg n] at z
        cases z
  | none =>
    refine go (fun b => if b = T then some (.tbl #[]) else if b = a then some (.frz { cls := .type "list", data := .seq vs.toArray } (.lst (ns.map V.int))) else none) (if_pos rfl) (fun b u z => ?_) (Or.inl (Or.inr ⟨_, (if_neg aT).trans (if_pos rfl)⟩)) fun b u z => ?_
    · try dsimp only at z
      by_cases n : b = T
      · exact Or.inl n
      · rw [if_neg n] at z
        by_cases n2 : b = a
        · rw [if_pos n2] at z
          cases z
          exact Or.inr ⟨n2, hk, _, _, rfl⟩
        · rw [if_neg n2] at z
          cases z
    · try dsimp only at z
      by_cases n : b = T
      · rw [if_pos n] at z
        cases z
        rw [n]
        exact tab
      · rw [if_neg n] at z
        by_cases n2 : b = a
        · rw [if_pos n2] at z
          cases z
          rw [n2]
          exact ⟨ha, hlen, vs, _, rv, ha⟩
        · rw [if_neg n2] at z
          cases z
end So

namespace So
open PySem PySem.Spec PyProof.Rows L2 LamX
/-- the law's call, its tables of code objects and the guards told -/
theorem law_callTGs {P : Program} {w : World} {K : PySem.W.Frag} {mg mb : Str → Option Value} {CX : CXT} {k : Nat} {fa a : Addr} {cs : List (Addr × Addr)} {fd : FuncData} {x : Str} {sp : Sp} {s₁ : Shared} {vs : List Value} {ns : List Int}
    (KX : K.In s₁.heap) (hns : s₁.heap.Ns mainGlobals mg) (hb : s₁.heap.Ns builtinsNs mb) (hbb : ∀ x : Str, x ≠ "__name__" → mb x = bootBuiltins x) (hlim : s₁.heap.NoLimit) (hg : s₁.gens = #[])
    (tabs : ∀ q ∈ cs, s₁.heap.get? q.2 = some { cls := .none, data := .fields #[] } ∧ K.lookup q.2 = none ∧ PySem.W.CodeHd s₁.heap q.1 q.2)
    (mod : ∃ (bm : Addr) (ob : Obj), mg "__builtins__" = some (.ref bm) ∧ bm ≠ builtinsNs ∧ s₁.heap.get? bm = some ob ∧ ob.cls = .type "module" ∧ ob.dict = some builtinsNs ∧ ob.data = .plain)
    (ha : s₁.heap.get? a = some { cls := .type "list", data := .seq vs.toArray }) (hi : IntsAre vs ns) (hl : ns.length ≤ sizeLine) (hr : Room k callerA)
    (F : ∀ base : Heap, K.In base → base.Ns mainGlobals mg → (∀ q ∈ cs, TabB base mg q.1 q.2) → FnG P w K mg base CX k fa fd [x] sp) (hbind : ∀ (s : Shared) (u : Value), BindsTo s fd ⟨[u], []⟩ [(x, u)])
    (hsp : ∀ H : Hp, (∀ q ∈ cs, H q.2 = some (.tbl #[])) → SqL K H a (ns.map V.int) → sp [.ref a] H (fun v _ => v = .bl true) fun _ _ _ => False)
    (hCX : ∀ H e s', CX [] H s₁ (fun _ _ _ => False) e s' → False) :
    codeAny (model P w) callerA (.call (.ref fa) ⟨[.ref a], []⟩) (fun r s' => r = .ok (.ret (.bool true)) ∧ OldK s₁.heap s'.heap ∧ s'.os = s₁.os ∧ AllBare s'.gens) s₁ := by
  have tab : ∀ {T : Addr}, (∃ q ∈ cs, q.2 = T) → s₁.heap.get? T = some { cls := .none, data := .fields #[] } := fun ⟨q, hq, e⟩ => e ▸ (tabs q hq).1
  have noT : ∀ {T : Addr}, (∃ q ∈ cs, q.2 = T) → K.lookup T = none := fun ⟨q, hq, e⟩ => e ▸ (tabs q hq).2.1
  have aT : ¬ ∃ q ∈ cs, q.2 = a := fun z => by
    rw [tab z] at ha
    have := congrArg Obj.data (Option.some.inj ha)
    cases this
  -- what may be tracked at the start: the table, and the script where the written part does not hold it
  have go : ∀ H : Hp, (∀ q ∈ cs, H q.2 = some (.tbl #[])) → (∀ b u, H b = some u → (∃ q ∈ cs, q.2 = b) ∨ (b = a ∧ K.lookup a = none ∧ ∃ o xs, u = .frz o (.lst xs))) → SqL K H a (ns.map V.int) → HOk P w H s₁.heap →
      codeAny (model P w) callerA (.call (.ref fa) ⟨[.ref a], []⟩) (fun r s' => r = .ok (.ret (.bool true)) ∧ OldK s₁.heap s'.heap ∧ s'.os = s₁.os ∧ AllBare s'.gens) s₁ := by
    intro H hT hA hS hok
    -- an object that is neither the script's list nor the table stands in the base
    have free : ∀ {b : Addr} {o : Obj}, s₁.heap.get? b = some o → (∀ vs n, o.data ≠ .seq vs n) → o.data ≠ .fields #[] → H b = none := by
      intro b o e h1 h2
      cases q : H b with
      | none => rfl
      | some u =>
        rcases hA b u q with hb | ⟨rfl, _⟩
        · rw [tab hb] at e
          cases e
          exact absurd rfl h2
        · rw [ha] at e
          cases e
          exact absurd rfl (h1 _ _)
    have toBase : ∀ {b : Addr} {o : Obj}, s₁.heap.get? b = some o → H b = none → (hidT s₁.heap H).get? b = some o := fun e n => hidT_get e n
    have nsB : ∀ {b : Addr} {m : Str → Option Value}, s₁.heap.Ns b m → (hidT s₁.heap H).Ns b m := by
      rintro b m ⟨o, es, ep, e, d, r⟩
      have n : H b = none := by
        refine free e ?_ ?_
        · intro vs n z
          rw [d] at z
          cases z
        · intro z
          rw [d] at z
          cases z
      exact ⟨o, es, ep, toBase e n, d, r⟩
    have kin : K.In (hidT s₁.heap H) := by
      intro b o e
      refine toBase (KX b o e) ?_
      cases q : H b with
      | none => rfl
      | some u =>
        rcases hA b u q with hb | ⟨rfl, z, _⟩
        · rw [noT hb] at e
          cases e
        · rw [z] at e
          cases e
    have lim2 : (hidT s₁.heap H).NoLimit := by
      obtain ⟨mc, h1, h2⟩ := hlim
      exact ⟨mc, nsB h1, h2⟩
    have TB : ∀ q ∈ cs, TabB (hidT s₁.heap H) mg q.1 q.2 := by
      rintro ⟨c, T⟩ hq
      have tab' : s₁.heap.get? T = some { cls := .none, data := .fields #[] } := tab ⟨_, hq, rfl⟩
      have cd : PySem.W.CodeHd s₁.heap c T := (tabs _ hq).2.2
      have gT : mainGlobals ≠ T := fun z => by
        obtain ⟨o, es, ep, e, d, _⟩ := hns
        rw [z, tab'] at e
        cases e
        cases d
      have cd2 : PySem.W.CodeHd (hidT s₁.heap H) c T := by
        obtain ⟨o, us, fl, tf, fg, tg, inF, tx, tt, e1, r1, r2, r3, r⟩ := cd
        refine ⟨o, us, fl, tf, fg, tg, inF, tx, tt, toBase e1 (free e1 ?_ ?_), r1, r2, r3, r⟩
        · intro vs n z
          rw [r2] at z
          cases z
        · intro z
          rw [r2] at z
          cases z
          simp at r3
      have bm2 : (hidT s₁.heap H).BuiltinsAt mg T := by
        obtain ⟨bm, ob, b1, b2, b3, b4, b5, b6⟩ := mod
        have n1 : bm ≠ mainGlobals := fun z => by
          obtain ⟨o, es, ep, e, d, _⟩ := hns
          rw [z, e] at b3
          cases b3
          rw [d] at b6
          cases b6
        have n2 : bm ≠ T := fun z => by
          rw [z, tab'] at b3
          cases b3
          cases b6
        refine ⟨bm, ob, b1, b2, n1, n2, toBase b3 (free b3 ?_ ?_), b4, b5, b6⟩
        · intro vs n z
          rw [b6] at z
          cases z
        · intro z
          rw [b6] at z
          cases z
      exact ⟨cd2, bm2, gT⟩
    have e0 : Env0 P w K mg (hidT s₁.heap H) callerA [] s₁ H := by
      refine ⟨rfl, ⟨kin, nsB hns, ⟨mb, nsB hb, hbb⟩, lim2⟩, fun b o e => of_hidT e, Nat.le_of_eq (hidT_size _ _), True.intro, ?_, hok, .of_eq hg⟩
      intro b hb
      cases hb
    refine codeAny_mono ((F _ kin (nsB hns) TB).runG callerA [] s₁ H ⟨[.ref a], []⟩ [.ref a] [.ref a] _ _ rfl hr e0 (hbind s₁ (.ref a)) (.cons rfl .nil) (hsp H hT hS)) fun r s' h => ?_
    match r, h with
    | .error e, h => exact (hCX H e s' h).elim
    | .ok .next, h => exact h.elim
    | .ok .brk, h => exact h.elim
    | .ok .cont, h => exact h.elim
    | .ok (.ret u), ⟨v, H', os, bare, un, hok', rv, q⟩ =>
      have q2 : v = .bl true := q
      subst q2
      cases rv
      have grown : ∀ {T : Addr}, (∃ q ∈ cs, q.2 = T) → ∃ more : Array Value, s'.heap.get? T = some { cls := .none, data := .fields (#[] ++ more) } := by
        rintro T ⟨q, hq, rfl⟩
        obtain ⟨more, hm⟩ := un.tbls q.2 #[] (hT q hq)
        exact ⟨more, hok' q.2 _ hm⟩
      have stay : ∀ b o, (¬ ∃ q ∈ cs, q.2 = b) → s₁.heap.get? b = some o → s'.heap.get? b = some o := by
        intro b o n e
        cases q : H b with
        | none => exact un.keep b o e q (fun z => nomatch z) (fun z => nomatch z)
        | some u =>
          rcases hA b u q with z | ⟨_, _, ob, xs, rfl⟩
          · exact absurd z n
          · have z1 := (hok b _ q).1
            have z2 := (hok' b _ (un.frzs b ob _ q)).1
            rw [z1] at e
            rw [z2, e]
      refine ⟨rfl, ⟨fun b o e => ?_, fun b o e => ?_⟩, os, bare⟩
      · by_cases n : ∃ q ∈ cs, q.2 = b
        · obtain ⟨more, hg⟩ := grown n
          have tb := tab n
          obtain ⟨q, hq, rfl⟩ := n
          rw [tb] at e
          cases e
          exact .inr (.inl ⟨((tabs q hq).2.2.tab tb).isCodeTable, rfl, #[], more, rfl, hg⟩)
        · exact .inl (stay b o n e)
      · by_cases n : ∃ q ∈ cs, q.2 = b
        · obtain ⟨more, hg⟩ := grown n
          exact ⟨_, hg⟩
        · exact ⟨o, stay b o n e⟩
  have rv := vals_ints hi
  have hlen : (ns.map V.int).length ≤ sizeLine := by rw [List.length_map]; exact hl
  cases hk : K.lookup a with
  | some o =>
    have e := KX a o hk
    rw [ha] at e
    cases e
    refine go (fun b => open Classical in if ∃ q ∈ cs, q.2 = b then some (.tbl #[]) else none) (fun q hq => if_pos ⟨q, hq, rfl⟩) (fun b u z => ?_) (Or.inr ⟨_, vs.toArray, _, hk, rfl, rfl, rfl, by rw [List.size_toArray, hi.length]; exact hl, by simpa using rv⟩) fun b u z => ?_
    · try dsimp only at z
      by_cases n : ∃ q ∈ cs, q.2 = b
      · exact Or.inl n
      · rw [if_neg n] at z
        cases z
    · try dsimp only at z
      by_cases n : ∃ q ∈ cs, q.2 = b
      · rw [if_pos n] at z
        cases z
        exact tab n
      · rw [if_neg n] at z
        cases z
  | none =>
    refine go (fun b => open Classical in if ∃ q ∈ cs, q.2 = b then some (.tbl #[]) else if b = a then some (.frz { cls := .type "list", data := .seq vs.toArray } (.lst (ns.map V.int))) else none) (fun q hq => if_pos ⟨q, hq, rfl⟩) (fun b u z => ?_) (Or.inl (Or.inr ⟨_, (if_neg aT).trans (if_pos rfl)⟩)) fun b u z => ?_
    · try dsimp only at z
      by_cases n : ∃ q ∈ cs, q.2 = b
      · exact Or.inl n
      · rw [if_neg n] at z
        by_cases n2 : b = a
        · rw [if_pos n2] at z
          cases z
          exact Or.inr ⟨n2, hk, _, _, rfl⟩
        · rw [if_neg n2] at z
          cases z
    · try dsimp only at z
      by_cases n : ∃ q ∈ cs, q.2 = b
      · rw [if_pos n] at z
        cases z
        exact tab n
      · rw [if_neg n] at z
        by_cases n2 : b = a
        · rw [if_pos n2] at z
          cases z
          rw [n2]
          exact ⟨ha, hlen, vs, _, rv, ha⟩
        · rw [if_neg n2] at z
          cases z
end So

namespace K11
open PySem PySem.Spec PyProof.Rows L2 So LamX StX TL
/-! ### the text of a row shows -/
def asc (z : Str) : Prop := ∀ c ∈ z.cps.toList, c < 128
theorem of_joinL {S : List Nat} {c : Nat} : ∀ {ps : List (List Nat)}, c ∈ joinL S ps → c ∈ S ∨ ∃ p ∈ ps, c ∈ p
  | [], h => nomatch h
  | [p], h => .inr ⟨p, List.mem_singleton.mpr rfl, h⟩
  | p :: q :: r, h => by
    have h : c ∈ p ++ (S ++ joinL S (q :: r)) := h
    rcases List.mem_append.mp h with e | e
    · exact .inr ⟨p, List.mem_cons_self, e⟩
    · rcases List.mem_append.mp e with e | e
      · exact .inl e
      · rcases of_joinL e with e | ⟨w, hw, e⟩
        · exact .inl e
        · exact .inr ⟨w, List.mem_cons_of_mem _ hw, e⟩
theorem join_asc {ws : List Str} (h : ∀ w ∈ ws, asc w) : asc (Txt.join " " ws) := by
  intro c hc
  have hc : c ∈ tl (Txt.join " " ws) := hc
  rw [join_eq, tl_join] at hc
  rcases of_joinL hc with e | ⟨p, hp, e⟩
  · have : tl (" " : Str) = [32] := by decide +kernel
    rw [this] at e
    rw [List.mem_singleton.mp e]
    decide
  · obtain ⟨w, hw, rfl⟩ := List.mem_map.mp hp
    exact h w hw c e
theorem join_len (ws : List Str) : (Txt.join " " ws).length ≤ (ws.map (·.length)).sum + ws.length := by
  rw [join_eq]
  cases ws with
  | nil => decide
  | cons a l =>
    rw [len_join_cons, show (" " : Str).length = 1 by decide, List.length_cons]
    omega
theorem word_asc {v : V} (h : Flat1 v) : asc (wordV v) := by
  cases h with
  | nam h => exact name_small h
  | @mom i h =>
    intro c hc
    obtain ⟨k, rfl⟩ : ∃ k : Nat, i = k := ⟨i.toNat, by omega⟩
    have e : (Str.ofString (toString ((k : Nat) : Int))).cps.toList = numL k := tl_num k
    have hc : c ∈ (Str.ofString (toString ((k : Nat) : Int))).cps.toList := hc
    rw [e] at hc
    have := numL_digits k _ hc
    omega
  | tru b =>
    have : ∀ c ∈ (if b then ("sound" : Str) else "unsound").cps.toList, c < 128 := by cases b <;> decide +kernel
    exact this
theorem kind_asc : ∀ kind ∈ kinds, ∀ c ∈ kind.cps.toList, c < 128 := by decide +kernel
theorem text_ok {kind : Str} {xs : List V} (hk : kind ∈ kinds) (h : FlatRow kind xs) : OkD 9000 12 (.str (rowText kind xs)) := by
  have ha : asc (rowText kind xs) := join_asc fun w hw => by
    rcases List.mem_cons.mp hw with e | e
    · rw [e]; exact kind_asc kind hk
    · obtain ⟨v, hv, rfl⟩ := List.mem_map.mp e
      exact word_asc (h.flat v hv)
  have hl4 : xs.length ≤ 4 := by rw [h.1]; exact forms_len kind hk
  have h1 := words_sum h.flat
  have h2 := kind_len kind hk
  have h3 := join_len (kind :: xs.map wordV)
  rw [List.map_cons, List.sum_cons, List.length_cons, List.length_map] at h3
  have h4 : (rowText kind xs).length ≤ 820 := by
    show (Txt.join " " (kind :: xs.map wordV)).length ≤ 820
    omega
  have h5 := PySem.StrLaws.reprText_len (rowText kind xs) (fun c hc => Nat.lt_trans (ha c hc) (by decide))
  exact ⟨rfl, Nat.zero_le _, by show (reprText _).length ≤ 9000; omega⟩
theorem word_ok {z : Str} (h : (decide ((reprText z).length ≤ 100)) = true) : OkD 9000 12 (.str z) := ⟨rfl, Nat.zero_le _, Nat.le_trans (of_decide_eq_true h) (by decide)⟩
theorem pair_ok {a b : PyData} (h1 : OkD 9000 12 a) (h2 : OkD 9000 12 b) : (PyData.tuple [a, b]).showable = true ∧ (PyData.tuple [a, b]).depth ≤ 60 ∧ (PyData.tuple [a, b]).shown.length ≤ sizeLine :=
  (OkD.tuple (n := 9000) (m := 12) (ds := [a, b]) fun d hd => by
    simp only [List.mem_cons, List.not_mem_nil, or_false] at hd
    rcases hd with h | h <;> subst h
    · exact h1
    · exact h2).repr (by decide) (by show 9000 * 2 + 2 * 2 + 3 ≤ 16777216; decide)
end K11

namespace So
open PySem PySem.Spec PyProof.Rows L2 PySem.HandSPX
section
variable {M : Model} {A : Around} {E : Value → Shared → Prop} {h : Heap} {g : Array GenState} {d : Drawn} {t : Nat} {os : OsState}
variable {nm q : Str} {C N : Addr} {bs bm bmB : List Value} {hdct : Bool} {sn : List Str} {sub : List Value} {ab : Bool} {col : Option Bool} {dd : Option Addr} {k0 k1 k2 k3 k5 : Option Value} {B newId initId : String}
theorem kw_check (F : ExcBaseFacts B newId initId bmB) (hT : ∀ X : String, bm.contains (.type X) = bmB.contains (.type X)) {kws : List (Str × Value)} {Q : Unit → Shared → Prop}
    (hC : h.get? C = some (excClassObj nm q C N bs bm hdct sn sub ab col dd k0 k1 k2 k3 k5 newId)) (hq : Q () ⟨h, g, d, t, os⟩) :
    wpAny M A (checkBuiltinCall newId ⟨[.ref C], kws⟩) Q E ⟨h, g, d, t, os⟩ := by
  have inB : (Value.ref C :: bm).contains (.type B) = true := by
    rw [List.contains_cons, hT, F.hasB, Bool.or_true]
  have stars := F.noStar
  simp only [checkBuiltinCall, F.newKind, F.newSplit, F.newRow]
  repeat (first
    | refine wpAny_loadPart_at hC ?_
    | (refine wpAny_isSubtype_exc hC ?_
       rw [inB])
    | refine wpAny_staticBase_exc hC ?_
    | refine wpAny_madeBy_exc hC ?_
    | simp only [bne_self_eq_false, Bool.false_eq_true, if_false]
    | wp_step)
  exact hq
end
section
variable {prog : Program} {w : World} {A : Around} {E : Value → Shared → Prop} {R : Result → Shared → Prop} {h : Heap} {g : Array GenState} {d : Drawn} {t : Nat} {os : OsState}
variable {nm q : Str} {C N : Addr} {bs bm bmB : List Value} {hdct : Bool} {sn : List Str} {sub : List Value} {ab : Bool} {col : Option Bool} {dd : Option Addr} {k0 k1 k2 k3 k5 : Option Value} {B newId initId : String}
theorem kw_new (F : ExcBaseFacts B newId initId bmB) (hT : ∀ X : String, bm.contains (.type X) = bmB.contains (.type X)) {kws : List (Str × Value)}
    (hC : h.get? C = some (excClassObj nm q C N bs bm hdct sn sub ab col dd k0 k1 k2 k3 k5 newId))
    (hq : R (.ok (.ret (.ref (h.objs.size + 1)))) ⟨(h.push (PySem.W.kdv_tup [])).push (excO C h.objs.size), g, d, t, os⟩) :
    codeAny (model prog w) A (.builtin newId ⟨[.ref C], kws⟩) R ⟨h, g, d, t, os⟩ := by
  have ends := F.ends
  have inB : (Value.ref C :: bm).contains (.type B) = true := by
    rw [List.contains_cons, hT, F.hasB, Bool.or_true]
  have noA : (Value.ref C :: bm).contains (.type "AttributeError") = false := by
    rw [List.contains_cons, hT, F.noAttr]
    rfl
  have noN : (Value.ref C :: bm).contains (.type "NameError") = false := by
    rw [List.contains_cons, hT, F.noName]
    rfl
  refine codeAny_builtinAt F.entry ?_
  unfold Builtin.«BaseException.__new__»
  refine PySem.wpAt_bind ?_
  show PySem.wpAt _ _ _ (stack >>= _) _ _ _
  refine PySem.wpAt_bind (PySem.wpAt_stack fun p below => ?_)
  refine PySem.wpAt_of_wpAny ?_
  wp_walk
  refine PySem.wpAt_of_wpAny ?_
  rw [F.owner]
  repeat (first
    | with_reducible refine wpAny_madeHere_exc F.canon hC ?_
    | with_reducible refine wpAny_loadPart_at hC ?_
    | (with_reducible refine wpAny_isSubtype_exc hC ?_
       first
         | rw [inB]
         | rw [noA]
         | rw [noN])
    | wp_step)
  show R _ _
  rw [Heap.size_push]
  exact hq
theorem kw_type (F : ExcBaseFacts B newId initId bmB) (hT : ∀ X : String, bm.contains (.type X) = bmB.contains (.type X)) {kws : List (Str × Value)} {fI : Addr} {Q : Fin → Shared → Prop}
    (hC : h.get? C = some (excClassObj nm q C N bs bm hdct sn sub ab col dd k0 k1 k2 k3 k5 newId))
    (hi : PySem.W.Looks (model prog w) h (typeLookup (.ref C) "__init__") (some (.ref fI))) (hb : ∀ self, PySem.W.Looks (model prog w) h (bindSpecial (.ref fI) self) (.ref fI, [self]))
    (hq : codeAny (model prog w) A (.call (.ref fI) ⟨[.ref (h.objs.size + 1)], kws⟩)
      (fun r s' => match r with | .ok (.ret v) => v = .none ∧ Q (.done (.ret (.ref (h.objs.size + 1)))) s' | .ok _ => False | .error e => E e s')
      ⟨(h.push (PySem.W.kdv_tup [])).push (excO C h.objs.size), g, d, t, os⟩) :
    wpAny (model prog w) A (Builtin.«type.__call__» ⟨[.ref C], kws⟩) Q E ⟨h, g, d, t, os⟩ := by
  repeat (first
    | with_reducible refine wpAny_loadPart_at hC ?_
    | with_reducible refine wpAny_madeBy_exc hC ?_
    | wp_step)
  refine codeAny_call_builtin_code (Code.quiet_builtin _ F.quiet) ?_
  refine kw_check F hT hC ?_
  refine kw_new F hT hC ?_
  show wpAny _ _ _ _ _ _
  have keep : ∀ b o, h.get? b = some o → ((h.push (PySem.W.kdv_tup [])).push (excO C h.objs.size)).get? b = some o := by
    intro b o e
    exact Heap.get?_push_of_some _ (Heap.get?_push_of_some _ e)
  have hC' := keep _ _ hC
  have here : ((h.push (PySem.W.kdv_tup [])).push (excO C h.objs.size)).get? (h.objs.size + 1) = some (excO C h.objs.size) := by
    heap_get
  have self : (Value.ref C :: bm).contains (.ref C) = true := by simp
  have look := hi.keeps keep
  have bind := (hb (.ref (h.objs.size + 1))).keeps keep
  unfold isInstance
  repeat (first
    | with_reducible refine wpAny_loadPart_at here ?_
    | (with_reducible refine wpAny_isSubtype_exc hC' ?_
       rw [self])
    | wp_step)
  show wpAny _ _ (typeLookup (.ref C) _) _ _ _
  refine look.at ?_
  refine wpAny_holding (wpAny_bind (bind.at ?_))
  refine wpAny_bind (wpAny_call (codeAny_mono hq fun r s' z => ?_))
  match r, z with
  | .error e, z => exact z
  | .ok .next, z => exact z.elim
  | .ok .brk, z => exact z.elim
  | .ok .cont, z => exact z.elim
  | .ok (.ret v), z =>
    obtain ⟨e, z⟩ := z
    subst e
    first
      | exact wpAny_pure (wpAny_pure z)
      | (wp_walk
         exact z)
theorem kw_checkT {kws : List (Str × Value)} {Q : Unit → Shared → Prop} (hC : h.get? C = some (excClassObj nm q C N bs bm hdct sn sub ab col dd k0 k1 k2 k3 k5 newId)) (hq : Q () ⟨h, g, d, t, os⟩) :
    wpAny (model prog w) A (checkBuiltinCall "type.__call__" ⟨[.ref C], kws⟩) Q (fun e s' => E e s') ⟨h, g, d, t, os⟩ := by
  have f3 := tc_sub
  have ty : (⟨h, g, d, t, os⟩ : Shared).TypeIs (.ref C) "type" := ⟨_, hC, rfl⟩
  simp only [checkBuiltinCall, tc_kind, tc_split]
  repeat (any_goals (first
    | assumption
    | with_reducible refine wpAny_loadPart_at hC ?_
    | with_reducible refine wpAny_onRaise ?_
    | with_reducible refine wpAny_map ?_
    | wp_step))
theorem kw_call (F : ExcBaseFacts B newId initId bmB) (hT : ∀ X : String, bm.contains (.type X) = bmB.contains (.type X)) {kws : List (Str × Value)} {fI : Addr}
    (hC : h.get? C = some (excClassObj nm q C N bs bm hdct sn sub ab col dd k0 k1 k2 k3 k5 newId))
    (hi : PySem.W.Looks (model prog w) h (typeLookup (.ref C) "__init__") (some (.ref fI))) (hb : ∀ self, PySem.W.Looks (model prog w) h (bindSpecial (.ref fI) self) (.ref fI, [self]))
    (hq : codeAny (model prog w) (A.under (.builtin "type.__call__" ⟨[.ref C], kws⟩)) (.call (.ref fI) ⟨[.ref (h.objs.size + 1)], kws⟩) (PySem.W.InitBack (h.objs.size + 1) R)
      ⟨(h.push (PySem.W.kdv_tup [])).push (excO C h.objs.size), g, d, t, os⟩) :
    codeAny (model prog w) A (.call (.ref C) ⟨[], kws⟩) R ⟨h, g, d, t, os⟩ := by
  have lk := tc_lookup
  have bd := tc_bind (.ref C)
  have ty : (⟨h, g, d, t, os⟩ : Shared).TypeIs (.ref C) "type" := ⟨_, hC, rfl⟩
  refine codeAny_of_tree ?_
  show wpAny _ _ (callAny (.ref C) _) _ _ _
  repeat (any_goals (first
    | assumption
    | with_reducible refine wpAny_loadPart_at hC ?_
    | wp_step))
  refine ⟨rfl, ?_⟩
  refine codeAny_call_builtin_at (Code.quiet_builtin _ (by decide +kernel)) entry_typeCall ?_
  refine kw_checkT hC ?_
  refine kw_type F hT hC hi hb ?_
  refine codeAny_mono hq fun r s' z => ?_
  match r, z with
  | .error e, z => exact z
  | .ok (.ret v), z => exact z
  | .ok .next, z => exact z
  | .ok .brk, z => exact z
  | .ok .cont, z => exact z
end
end So

namespace So
open PySem PySem.Spec PyProof.Rows L2
/-- C(k = v, ..), C's own __init__ keeping sp -/
def tMkK (C : Addr) (n : Nat) (sp : Sp) (gV : List V → List V → List V) (tk : TA) : L2.St → Hp → XK → Prop := fun σ H Q => tk σ H fun zs H1 => zs.length = n ∧ ∀ a, H1 a = none → sp (gV [.ref a] zs) (upd H1 a (exo a C none))
  (fun v H2 => v = .non ∧ ∃ (d : Addr) (fs : List (Str × V)), H2 a = some (exo a C (some d)) ∧ H2 d = some (exd d fs) ∧ H1 d = none ∧ Q (.ref C) (some d) (upd (del H2 a) d (.xd fs))) (fun _ _ _ => False)
section
variable {X : Cx} {CX : CXT} {x : Str} {C fI : Addr} {k : Nat} {fd : FuncData} {ps ks : List Str} {sp : Sp} {g : List Value → List Value → List Value} {gV : List V → List V → List V} {kws : List Keyword} {tk : TA} {p pos : Pos}
theorem pmk_oexK (T : OexC X.K C) (iC : PySem.W.findIn X.K (.ref C) "__init__" = some (some (.ref fI))) (tI : PySem.W.typeIn X.K (.ref fI) = some (.type "function")) (F1 : FnOk X.prog X.w X.K X.mg X.base CX k fI fd ps sp) (hr : Room (k + 1) X.A) (hb : KBn X.K fd ps 1 ks g gV)
    (hx : Passes CX X (fun _ _ _ => False)) (hg : Gl X x) (hm : X.mg x = some (.ref C)) (hkw : PK X kws tk)
    (hall : (backToKw pos (keywordEach kws X.env)).all (·.1.isSome) = true := by rfl) (hks : (backToKw pos (keywordEach kws X.env)).filterMap (·.1) = ks := by rfl) (hdb : (x == ("__debug__" : Str)) = false := by decide)
    (hpl : ((backTo pos (starEach [] X.env)).any (·.1) || (backToKw pos (keywordEach kws X.env)).any (·.1.isNone)) = false := by rfl) :
    PMk X (.Call (.Name x p) [] kws pos) (tMkK C ks.length sp gV tk) := by
  intro pins s σ H Q I h
  obtain ⟨nm, q, N, bs, bm, sn, sub, ab, col, dd, k0, k1, k2, k3, k5, hC, hbm⟩ := T.cls
  refine wpAny_Call_Name_kw (ld_glob I hg hm ?_ hdb)
  refine PySem.W.callWith_KW0 (h₀ := X.base) I.ok.mod.kin T.kC hall ?_ hpl
  refine thn (hkw.run pos pins s σ H _ I h) fun ws s1 z => ?_
  obtain ⟨zs, H1, I1, rz, hz, q1⟩ := z
  refine ⟨I1.kIn, ?_⟩
  rw [hks]
  show wpAny _ _ (call (.ref C) [] (ks.zip ws)) _ _ _
  obtain ⟨hp, g', dr, tk', os⟩ := s1
  have big : hp.objs.size ≤ hp.objs.size + 1 := Nat.le_succ _
  have fresh : H1 (hp.objs.size + 1) = none := I1.hok.fresh big
  have hq := q1 _ fresh
  have keep : ∀ b o, hp.get? b = some o → ((hp.push (PySem.W.kdv_tup [])).push (PySem.HandSPX.excO C hp.objs.size)).get? b = some o := by
    intro b o e
    exact Heap.get?_push_of_some _ (Heap.get?_push_of_some _ e)
  have here : ((hp.push (PySem.W.kdv_tup [])).push (PySem.HandSPX.excO C hp.objs.size)).get? (hp.objs.size + 1) = some (PySem.HandSPX.excO C hp.objs.size) := by
    heap_get
  have I2 : Inv X pins σ (upd H1 (hp.objs.size + 1) (exo (hp.objs.size + 1) C none)) ⟨(hp.push (PySem.W.kdv_tup [])).push (PySem.HandSPX.excO C hp.objs.size), g', dr, tk', os⟩ :=
    I1.laid (t' := tk') (o := exo (hp.objs.size + 1) C none) keep big (exo_ok here)
  have r1 : Vals [V.ref (hp.objs.size + 1)] [Value.ref (hp.objs.size + 1)] := .cons rfl .nil
  refine wpAny_call (kw_call F.excBase_ValueError (fun Y => PySem.HandSPX.refsVE_contains Y bm hbm) (I1.kIn _ _ hC) (PySem.W.looks_findIn I1.kIn iC) (fun self => PySem.W.bind_fn I1.kIn self tI)
    (codeAny_mono (F1.run _ X.stack _ _ ⟨[.ref (hp.objs.size + 1)], ks.zip ws⟩ (g [.ref (hp.objs.size + 1)] ws) _ _ (fun _ _ _ => False) (hr.make C [] (ks.zip ws)) (I2.env0.make C [] (ks.zip ws))
      (hb.to _ [.ref (hp.objs.size + 1)] ws I2.kIn rfl (rz.length.symm.trans hz)) (hb.rel r1 rz) hq) fun r s' hq' => ?_))
  match r, hq' with
  | .error er, hq' => exact hx pins σ _ _ er s' I2 hq'
  | .ok .next, hq' => exact hq'.elim
  | .ok .brk, hq' => exact hq'.elim
  | .ok .cont, hq' => exact hq'.elim
  | .ok (.ret u), hq' =>
    obtain ⟨v, H2, os2, bare2, un2, hok2, rv, ev, d, fs, ea, ed, hd1, q2⟩ := hq'
    subst ev
    obtain ⟨h2, g2, d2, t2, os'⟩ := s'
    exact ⟨rv, mk_end (raises_own T.exC T.tyC) I1 big keep un2 hok2 os2 bare2 ea ed hd1 q2⟩
/-- an exception that is made and kept, not raised -/
theorem pe_ofMk {e : Expr} {t : L2.St → Hp → XK → Prop} (hex : X.ex = []) (h : PMk X e t) : PE X e (fun σ H Q => t σ H fun cls d H' => ∀ a, H' a = none → Q (.ref a) (upd H' a (Xo cls d a))) := by
  refine ⟨fun pins s σ H Q I w => ?_⟩
  refine thn (h pins s σ H _ I w) fun u s' z => ?_
  obtain ⟨a, oe, fv, sI, H', cls, d, rfl, J, k, na, he, hz, hd, h1, nH, ho, hb, _, q⟩ := z
  have K := J.kept (t' := s'.toks) (h' := s'.heap) k
  have I' : Inv X pins σ H' s' := ⟨K.ok, ho.trans J.os, hb, K.base, K.loc, K.cell, K.free, K.freeC, K.pin, K.hok, K.len⟩
  have nL : a ≠ X.env.locals := fun z => by
    obtain ⟨m, hn, _⟩ := J.loc
    obtain ⟨o, es, ep, e, _⟩ := hn
    rw [← z, na] at e
    cases e
  exact ⟨.ref a, _, track J hex na I' he hz hd nH nL, rfl, q a nH⟩
end
end So

namespace So
open PySem PySem.Spec PyProof.Rows L2
theorem overS {H H1 : Hp} {D : Addr} {o : HO} (s : Same H H1) (h : H1 D = none) : Same H (upd H1 D o) := fun b u e => (upd_ne (ne_of_none (s b u e) h)).trans (s b u e)
/-! ### errors with two fields -/
def spTwoE (C : Addr) (n1 n2 : Str) : Sp := fun vs H Q _ => ∃ (a : Addr) (v1 v2 : V), vs = [.ref a, v1, v2] ∧ H a = some (exo a C none) ∧ ∀ dx, H dx = none → dx ≠ a → Q .non (upd (upd (upd H dx (exd dx [(n1, v1)])) a (exo a C (some dx))) dx (exd dx [(n2, v2), (n1, v1)]))
section
variable {P : Program} {w : World} {K : PySem.W.Frag} {mg : Str → Option Value} {base : Heap}
theorem ok_one {n qual : Str} {st : Stmt} {C f : Addr} {fd : FuncData} (F : Fun K "__init__" qual st f fd) (T : OexC K C) (no : PySem.W.findIn K (.ref C) n = some none) (S : FnScope ["self", n] ["self", n] (defScope st))
    (hb : ∃ p1 p2 p3 p4, defBody st = [.Assign [.Attribute (.Name "self" p1) n p2] (.Name n p3) p4]) (h1 : (n == ("__debug__" : Str)) = false) (h2 : (n == ("__classdict__" : Str)) = false) :
    FnOk P w K mg base CX0 1 f fd ["self", n] (spOneE C n) := by
  obtain ⟨p1, p2, p3, p4, hb⟩ := hb
  refine F.ok S (fun vs H Q E h => ?_) (fun cdv A outer s H vs Q E hr h => ?_)
  · obtain ⟨a, v, rfl, _⟩ := h
    rfl
  · obtain ⟨a, v, rfl, ha, q⟩ := h
    rw [hb]
    have vs0 : Vis (defScope st) "self" := vis_par S (by simp)
    have vs1 : Vis (defScope st) n := vis_par S (by simp)
    exact ⟨_, pss_one (ps_ost (pe_var (i := 0) rfl vs0) (pe_var (i := 1) rfl vs1 h1 h2)), _, rfl, _, rfl, a, C, rfl, T, no, .inl ⟨ha, fun dx h n => q dx h n⟩⟩
theorem ok_two {n1 n2 qual : Str} {st : Stmt} {C f : Addr} {fd : FuncData} (F : Fun K "__init__" qual st f fd) (T : OexC K C) (no1 : PySem.W.findIn K (.ref C) n1 = some none) (no2 : PySem.W.findIn K (.ref C) n2 = some none) (S : FnScope ["self", n1, n2] ["self", n1, n2] (defScope st))
    (hb : ∃ p1 p2 p3 p4 q1 q2 q3 q4, defBody st = [.Assign [.Attribute (.Name "self" p1) n1 p2] (.Name n1 p3) p4, .Assign [.Attribute (.Name "self" q1) n2 q2] (.Name n2 q3) q4]) (h1 : (n1 == ("__debug__" : Str)) = false) (h2 : (n1 == ("__classdict__" : Str)) = false)
    (h3 : (n2 == ("__debug__" : Str)) = false) (h4 : (n2 == ("__classdict__" : Str)) = false) : FnOk P w K mg base CX0 1 f fd ["self", n1, n2] (spTwoE C n1 n2) := by
  obtain ⟨p1, p2, p3, p4, q1, q2, q3, q4, hb⟩ := hb
  refine F.ok S (fun vs H Q E h => ?_) (fun cdv A outer s H vs Q E hr h => ?_)
  · obtain ⟨a, v1, v2, rfl, _⟩ := h
    rfl
  · obtain ⟨a, v1, v2, rfl, ha, q⟩ := h
    rw [hb]
    have vs0 : Vis (defScope st) "self" := vis_par S (by simp)
    have vs1 : Vis (defScope st) n1 := vis_par S (by simp)
    have vs2 : Vis (defScope st) n2 := vis_par S (by simp)
    refine ⟨_, pss_cons (ps_ost (pe_var (i := 0) rfl vs0) (pe_var (i := 1) rfl vs1 h1 h2)) (pss_one (ps_ost (pe_var (i := 0) rfl vs0) (pe_var (i := 2) rfl vs2 h3 h4))), ?_⟩
    refine ⟨_, rfl, _, rfl, a, C, rfl, T, no1, .inl ⟨ha, fun dx hd ne => ?_⟩⟩
    refine ⟨_, rfl, _, rfl, a, C, rfl, T, no2, .inr ⟨dx, [(n1, v1)], upd_same, ?_, by show 1 ≤ 900; decide, q dx hd ne⟩⟩
    rw [upd_ne ne, upd_same]
end
/-- behind C(v1, v2) -/
theorem mkTwo {C : Addr} {n1 n2 : Str} {v1 v2 : V} {H1 : Hp} {Q : XK} (h : ∀ d H', Same H1 H' → H1 d = none → H' d = some (.xd [(n2, v2), (n1, v1)]) → Q (.ref C) (some d) H') :
    ∀ a, H1 a = none → spTwoE C n1 n2 [.ref a, v1, v2] (upd H1 a (exo a C none))
      (fun v H2 => v = .non ∧ ∃ (d : Addr) (fs : List (Str × V)), H2 a = some (exo a C (some d)) ∧ H2 d = some (exd d fs) ∧ H1 d = none ∧ Q (.ref C) (some d) (upd (del H2 a) d (.xd fs))) (fun _ _ _ => False) := by
  refine fun a ha => ⟨a, v1, v2, rfl, upd_same, fun dx hdx ne => ?_⟩
  have hd : H1 dx = none := by
    rw [upd_ne ne] at hdx
    exact hdx
  refine ⟨rfl, dx, [(n2, v2), (n1, v1)], ?_, upd_same, hd, h dx _ (fun b o hb => ?_) hd upd_same⟩
  · rw [upd_ne ne.symm, upd_same]
  · have hba : b ≠ a := ne_of_none hb ha
    have hbd : b ≠ dx := ne_of_none hb hd
    rw [upd_ne hbd, del_ne hba, upd_ne hbd, upd_ne hba, upd_ne hbd, upd_ne hba]
    exact hb
/-- a kept error with its fields -/
def ErAt (H : Hp) (a C : Addr) (fs : List (Str × V)) : Prop := ∃ d, H a = some (Xo (.ref C) (some d) a) ∧ H d = some (.xd fs)
theorem ErAt.same {H H' : Hp} {a C : Addr} {fs : List (Str × V)} (h : ErAt H a C fs) (s : Same H H') : ErAt H' a C fs := h.elim fun d e => ⟨d, s _ _ e.1, s _ _ e.2⟩
/-- what is wished behind an error that is made and kept -/
theorem keepOne {C : Addr} {fs : List (Str × V)} {H1 : Hp} {Q : VK} (h : ∀ a H', Same H1 H' → ErAt H' a C fs → Q (.ref a) H') :
    ∀ d H', Same H1 H' → H1 d = none → H' d = some (.xd fs) → ∀ a, H' a = none → Q (.ref a) (upd H' a (Xo (.ref C) (some d) a)) := by
  intro d H' s _ e a na
  exact h a _ (overS s na) ⟨d, upd_same, (upd_ne (ne_of_none e na)).trans e⟩
section
variable {X : Cx}
/-- e.n of a kept error of any class -/
theorem pe_xoA {e : Expr} {te : TE} {pos : Pos} {n : Str} (he : PE X e te) (hb : attributeBase e n X.env (eval e X.env) = eval e X.env := by rfl) :
    PE X (.Attribute e n pos) (fun σ H Q => te σ H fun x H1 => ∃ (a C : Addr) (fs : List (Str × V)) (v : V), x = .ref a ∧ ErAt H1 a C fs ∧ Err X.K C ∧ PySem.W.findIn X.K (.ref C) n = some none ∧ fs.lookup n = some v ∧ Q v H1) := by
  constructor
  intro pins s σ H Q I h
  refine attr_of hb (thn (he.run pins s σ H _ I h) fun u s1 hh => ?_)
  obtain ⟨x, H1, I1, rx, a, C, fs, v, rfl, ⟨dd, ha, ea⟩, T, hno, l, q⟩ := hh
  cases rx
  obtain ⟨oe, vs, hg, hz, hd⟩ := xo_at I1.hok ha
  obtain ⟨mA, hns, hr⟩ := (show ObjOk X.prog X.w H1 s1.heap dd (.xd fs) from I1.hok dd _ ea)
  obtain ⟨od, ho, hl⟩ := lookIn_ns hns
  have hrn := hr n
  rw [l] at hrn
  obtain ⟨u, hu, ru⟩ := RelO.some_of hrn
  have nc : PySem.W.notCls oe = true := by
    unfold PySem.W.notCls
    rw [hd]
  have J : PySem.W.InstAt s1.heap a oe C (some od) := by
    refine ⟨hg, hz.1, nc, ?_⟩
    rw [hz.2]
    exact ho
  have fo := PySem.W.findObj_own (K := X.K) (C := C) (od := od) (name := n) (v := u) T.hdC hno rfl (by rw [hl, hu])
  exact HandSPX.exc_get I1.kIn J T.ga T.gg T.exC fo (handed_of ru) ⟨v, H1, I1.tok _, ru, q⟩
/-- isinstance of a kept error that has no dict -/
theorem call_isX0 : CallR X (.builtin "isinstance") (fun xs H Q => ∃ (a D : Addr) (c : V) (u : Value) (b : Bool), xs = [.ref a, c] ∧ H a = some (Xo (.ref D) none a) ∧ Err X.K D ∧ ClsV c u ∧ PySem.W.kitOne X.K (.ref D) u = some b ∧ Q (.bl b) H) := by
  intro pins s σ H xs us Q I r h
  obtain ⟨a, D, c, u, b, rfl, ha, T, cv, e, q⟩ := h
  obtain ⟨u1, u2, rfl, r1, r2⟩ := vals2 r
  cases r1
  have e2 := cv.eq r2
  subst e2
  obtain ⟨oe, vs, hg, hz, hdat⟩ := xo_at I.hok ha
  have nc : PySem.W.notCls oe = true := by
    unfold PySem.W.notCls
    rw [hdat]
  have J : PySem.W.InstAt s.heap a oe D none := by
    refine ⟨hg, hz.1, nc, ?_⟩
    rw [hz.2]
    trivial
  exact PySem.W.kia_one (kitx_err T) I.kIn ⟨oe, none, J⟩ e (fun z => nomatch z) fun tk => ⟨.bl b, H, I.tok tk, rfl, q⟩
/-- C(), C an own error class without own __init__ -/
theorem pmk_own0 {C : Addr} {bmB : List Value} {B newId initId : String} {x : Str} {p pos : Pos} (F : ExcBaseFacts B newId initId bmB) (q : PySem.W.excIn X.K C bmB newId = true) (gC : X.mg x = some (.ref C))
    (kC : PySem.W.keepIn X.K (.ref C) = true) (r : Raises X (.ref C)) (hg : Gl X x) (hdb : (x == ("__debug__" : Str)) = false := by decide) :
    PMk X (.Call (.Name x p) [] [] pos) (fun _ H Q => Q (.ref C) none H) := by
  intro pins s σ H Q I h
  refine wpAny_Call_Name_kw (ld_glob I hg gC ?_ hdb)
  refine PySem.W.callWith_K0 I.kIn kC ?_
  show wpAny _ _ (call (.ref C) []) _ _ _
  obtain ⟨bm, N, nm, qn, bs, hdct, sn, sub, ab, col, dd, k0, k1, k2, k3, k5, mN, hC, hN, hni, T⟩ := exc_obj I.kIn q
  refine wpAny_call_exc_subT F T hC hN hni (fun h' e hm => ?_) (by decide)
  exact mk_of I hm r h (I.hok.gone hm.new)
end
end So

/-! own errors made and kept: what is asked in one step -/
namespace So
open PySem PySem.Spec PyProof.Rows L2
section
variable {X : Cx}
theorem pe_weak {e : Expr} {t t' : TE} (h : PE X e t) (k : ∀ σ H Q, t' σ H Q → t σ H Q) : PE X e t' := ⟨fun pins s σ H Q I w => h.run pins s σ H Q I (k σ H Q w)⟩
theorem ps_weak {st : Stmt} {t t' : TS} (h : PS X st t) (k : ∀ D σ H, t' D σ H → t D σ H) : PS X st t' := ⟨fun pins s σ H D I w => h.run pins s σ H D I (k D σ H w)⟩
/-- what the top says of an error with two fields -/
structure TwoE (K : PySem.W.Frag) (mg : Str → Option Value) (x n1 n2 : Str) (C f : Addr) (fd : FuncData) : Prop where
  T : OexC K C
  iC : PySem.W.findIn K (.ref C) "__init__" = some (some (.ref f))
  tI : PySem.W.typeIn K (.ref f) = some (.type "function")
  mgC : mg x = some (.ref C)
  no1 : PySem.W.findIn K (.ref C) n1 = some none
  no2 : PySem.W.findIn K (.ref C) n2 = some none
  err : Err K C
  hb : Binds K fd ["self", n1, n2] []
def k2 {α : Type} : List α → List α → List α
  | [u], [z] => [u, z]
  | _, _ => []
def k3 {α : Type} : List α → List α → List α
  | [u], [y, z] => [u, z, y]
  | _, _ => []
theorem k2_rel {vs : List V} {us : List Value} {zs : List V} {ws : List Value} (a : Vals vs us) (b : Vals zs ws) : Vals (k2 vs zs) (k2 us ws) := by
  cases a with
  | nil => exact .nil
  | cons a1 a2 =>
    cases a2 with
    | cons _ _ => exact .nil
    | nil =>
      cases b with
      | nil => exact .nil
      | cons b1 b2 =>
        cases b2 with
        | nil => exact .cons a1 (.cons b1 .nil)
        | cons _ _ => exact .nil
theorem k3_rel {vs : List V} {us : List Value} {zs : List V} {ws : List Value} (a : Vals vs us) (b : Vals zs ws) : Vals (k3 vs zs) (k3 us ws) := by
  cases a with
  | nil => exact .nil
  | cons a1 a2 =>
    cases a2 with
    | cons _ _ => exact .nil
    | nil =>
      cases b with
      | nil => exact .nil
      | cons b1 b2 =>
        cases b2 with
        | nil => exact .nil
        | cons b3 b4 =>
          cases b4 with
          | nil => exact .cons a1 (.cons b3 (.cons b1 .nil))
          | cons _ _ => exact .nil
theorem kbn2 {K : PySem.W.Frag} {fd : FuncData} {n : Str} (h : ∀ (s : Shared) (u z : Value), BindsTo s fd ⟨[u], [(n, z)]⟩ [("self", u), (n, z)]) : KBn K fd ["self", n] 1 [n] k2 k2 :=
  ⟨fun s us ws _ h1 h2 => match us, ws, h1, h2 with | [u], [z], _, _ => h s u z, k2_rel⟩
theorem kbn3 {K : PySem.W.Frag} {fd : FuncData} {n1 n2 : Str} (h : ∀ (s : Shared) (u y z : Value), BindsTo s fd ⟨[u], [(n2, y), (n1, z)]⟩ [("self", u), (n1, z), (n2, y)]) : KBn K fd ["self", n1, n2] 1 [n2, n1] k3 k3 :=
  ⟨fun s us ws _ h1 h2 => match us, ws, h1, h2 with | [u], [y, z], _, _ => h s u y z, k3_rel⟩
variable {x n n1 n2 : Str} {C f : Addr} {fd : FuncData} {e e2 : Expr} {p pos kp kp2 : Pos} {i j : Nat}
theorem pe_new1 (hex : X.ex = []) (O : OneE X.K X.mg x n C f fd) (F : FnOk X.prog X.w X.K X.mg X.base CX0 1 f fd ["self", n] (spOneE C n)) (hr : Room 2 X.A) (hg : Gl X x) (ha : PA X [e] (tCons (tVar i) tNil))
    (hdb : (x == ("__debug__" : Str)) = false := by decide) (hst : starEach [e] X.env = (false, eval e X.env) :: starEach [] X.env := by rfl) (hpl : (backTo pos (starEach [] X.env)).any (·.1) = false := by rfl) :
    PE X (.Call (.Name x p) [e] [] pos) (fun σ H Q => ∃ v, σ[i]? = some (some v) ∧ ∀ a H', Same H H' → ErAt H' a C [(n, v)] → Q (.ref a) H') :=
  pe_weak (pe_ofMk hex (pmk_one O F hr hg ha hdb hst hpl)) fun _ _ Q0 ⟨v, q, h⟩ => ⟨v, q, mkOne (C := C) (n := n) (v := v) (vs := [v]) (Q := fun cls d H' => ∀ a, H' a = none → Q0 (.ref a) (upd H' a (Xo cls d a))) rfl (keepOne h)⟩
theorem pe_new1K (hex : X.ex = []) (O : OneE X.K X.mg x n C f fd) (F : FnOk X.prog X.w X.K X.mg X.base CX0 1 f fd ["self", n] (spOneE C n)) (kb : KBn X.K fd ["self", n] 1 [n] k2 k2) (hr : Room 2 X.A) (hg : Gl X x) (he : PE X e (tVar i))
    (hall : (backToKw pos (keywordEach [⟨some n, e, kp⟩] X.env)).all (·.1.isSome) = true := by rfl) (hks : (backToKw pos (keywordEach [⟨some n, e, kp⟩] X.env)).filterMap (·.1) = [n] := by rfl) (hdb : (x == ("__debug__" : Str)) = false := by decide)
    (hpl : ((backTo pos (starEach [] X.env)).any (·.1) || (backToKw pos (keywordEach [⟨some n, e, kp⟩] X.env)).any (·.1.isNone)) = false := by rfl) :
    PE X (.Call (.Name x p) [] [⟨some n, e, kp⟩] pos) (fun σ H Q => ∃ v, σ[i]? = some (some v) ∧ ∀ a H', Same H H' → ErAt H' a C [(n, v)] → Q (.ref a) H') :=
  pe_weak (pe_ofMk hex (pmk_oexK O.T O.iC O.tI F hr kb (fun _ _ _ _ _ _ _ h => h.elim) hg O.mgC (pk_cons he pk_nil) hall hks hdb hpl)) fun _ _ Q0 ⟨v, q, h⟩ => ⟨v, q, rfl, (mkOne (C := C) (n := n) (v := v) (vs := [v]) (Q := fun cls d H' => ∀ a, H' a = none → Q0 (.ref a) (upd H' a (Xo cls d a))) rfl (keepOne h)).2⟩
theorem pe_new2 (hex : X.ex = []) (O : TwoE X.K X.mg x n1 n2 C f fd) (F : FnOk X.prog X.w X.K X.mg X.base CX0 1 f fd ["self", n1, n2] (spTwoE C n1 n2)) (hr : Room 2 X.A) (hg : Gl X x) (ha : PA X [e, e2] (tCons (tVar i) (tCons (tVar j) tNil)))
    (hdb : (x == ("__debug__" : Str)) = false := by decide) (hst : starEach [e, e2] X.env = (false, eval e X.env) :: starEach [e2] X.env := by rfl) (hpl : (backTo pos (starEach [e2] X.env)).any (·.1) = false := by rfl) :
    PE X (.Call (.Name x p) [e, e2] [] pos) (fun σ H Q => ∃ v, σ[i]? = some (some v) ∧ ∃ u, σ[j]? = some (some u) ∧ ∀ a H', Same H H' → ErAt H' a C [(n2, u), (n1, v)] → Q (.ref a) H') :=
  pe_weak (pe_ofMk hex (pmk_oex O.T O.iC O.tI F hr O.hb .nil (fun _ _ _ _ _ _ _ h => h.elim) hg O.mgC ha hdb hst hpl)) fun _ _ Q0 ⟨v, q, u, q2, h⟩ => ⟨v, q, u, q2, by show 2 ≤ 1000; decide, mkTwo (C := C) (n1 := n1) (n2 := n2) (v1 := v) (v2 := u) (Q := fun cls d H' => ∀ a, H' a = none → Q0 (.ref a) (upd H' a (Xo cls d a))) (keepOne h)⟩
theorem pe_new2K (hex : X.ex = []) (O : TwoE X.K X.mg x n1 n2 C f fd) (F : FnOk X.prog X.w X.K X.mg X.base CX0 1 f fd ["self", n1, n2] (spTwoE C n1 n2)) (kb : KBn X.K fd ["self", n1, n2] 1 [n2, n1] k3 k3) (hr : Room 2 X.A) (hg : Gl X x) (he : PE X e (tVar i)) (he2 : PE X e2 (tVar j))
    (hall : (backToKw pos (keywordEach [⟨some n2, e2, kp2⟩, ⟨some n1, e, kp⟩] X.env)).all (·.1.isSome) = true := by rfl) (hks : (backToKw pos (keywordEach [⟨some n2, e2, kp2⟩, ⟨some n1, e, kp⟩] X.env)).filterMap (·.1) = [n2, n1] := by rfl) (hdb : (x == ("__debug__" : Str)) = false := by decide)
    (hpl : ((backTo pos (starEach [] X.env)).any (·.1) || (backToKw pos (keywordEach [⟨some n2, e2, kp2⟩, ⟨some n1, e, kp⟩] X.env)).any (·.1.isNone)) = false := by rfl) :
    PE X (.Call (.Name x p) [] [⟨some n2, e2, kp2⟩, ⟨some n1, e, kp⟩] pos) (fun σ H Q => ∃ u, σ[j]? = some (some u) ∧ ∃ v, σ[i]? = some (some v) ∧ ∀ a H', Same H H' → ErAt H' a C [(n2, u), (n1, v)] → Q (.ref a) H') :=
  pe_weak (pe_ofMk hex (pmk_oexK O.T O.iC O.tI F hr kb (fun _ _ _ _ _ _ _ h => h.elim) hg O.mgC (pk_cons he2 (pk_cons he pk_nil)) hall hks hdb hpl)) fun _ _ Q0 ⟨u, q, v, q2, h⟩ => ⟨u, q, v, q2, rfl, mkTwo (C := C) (n1 := n1) (n2 := n2) (v1 := v) (v2 := u) (Q := fun cls d H' => ∀ a, H' a = none → Q0 (.ref a) (upd H' a (Xo cls d a))) (keepOne h)⟩
theorem pe_new0 (hex : X.ex = []) {bmB : List Value} {B newId initId : String} (F : ExcBaseFacts B newId initId bmB) (q : PySem.W.excIn X.K C bmB newId = true) (gC : X.mg x = some (.ref C)) (kC : PySem.W.keepIn X.K (.ref C) = true) (r : Raises X (.ref C)) (hg : Gl X x)
    (hdb : (x == ("__debug__" : Str)) = false := by decide) :
    PE X (.Call (.Name x p) [] [] pos) (fun _ H Q => ∀ a H', Same H H' → H' a = some (Xo (.ref C) none a) → Q (.ref a) H') :=
  pe_weak (pe_ofMk hex (pmk_own0 F q gC kC r hg hdb)) fun _ H _ h => fun a ha => h a _ (overS (Same.refl H) ha) upd_same
end
end So

/-! classmethods called by keyword; a class in a local name, called; raise of an own error with two fields -/
namespace So
open PySem PySem.Spec PyProof.Rows L2
section
variable {X : Cx} {CX : CXT} {k i : Nat} {f C : Addr} {fd : FuncData} {ps : List Str} {sp : Sp} {E : XK} {x : Str} {p pos : Pos} {e : Expr} {es : List Expr} {t : TA} {ds : List Value} {dvs : List V}
/-- x(e, ..), x a local name that holds a class -/
theorem pe_makeV (M : Mk X.K C f) (F : FnOk X.prog X.w X.K X.mg X.base CX k f fd ps sp) (hr : Room (k + 1) X.A) (hN : X.N[i]? = some x) (hv : Vis X.env.scope x) (hb : Binds X.K fd ps ds) (hd : Vals dvs ds) (hx : Passes CX X E)
    (ha : PA X (e :: es) t) (hdb : (x == ("__debug__" : Str)) = false := by decide) (hcd : (x == ("__classdict__" : Str)) = false := by decide)
    (he : starEach (e :: es) X.env = (false, eval e X.env) :: starEach es X.env := by rfl) (hpl : (backTo pos (starEach es X.env)).any (·.1) = false := by rfl) :
    PE X (.Call (.Name x p) (e :: es) [] pos) (fun σ H Q => σ[i]? = some (some (.ref C)) ∧ tMake C sp dvs E t σ H Q) := by
  refine ⟨fun pins s σ H Q I h => ?_⟩
  obtain ⟨hs, h⟩ := h
  refine wpAny_Call_Name_kw (thn ((pe_var (pos := p) (i := i) hN hv hdb hcd).run pins s σ H (fun v H1 => v = .ref C ∧ H1 = H) I ⟨.ref C, hs, rfl, rfl⟩) fun u s1 ⟨v, H1, I1, r1, ev, eH⟩ => ?_)
  subst ev
  rw [eH] at I1
  cases r1
  refine PySem.W.callWith_K (h₀ := X.base) I.ok.mod.kin M.kp (thn (ha.run pos pins s1 σ H _ I1 h) fun us s2 ⟨vs, H2, I2, r, q⟩ => ⟨I2.kIn, ?_⟩) he hpl
  exact run_make M F hr hb hd hx I2 r q
end
section
variable {X : Cx} {CX : CXT} {k : Nat} {C p g : Addr} {mc : Value} {fd : FuncData} {ps ks : List Str} {sp : Sp} {E : XK} {o : Expr} {kws : List Keyword} {m : Str} {pos apos : Pos} {ta : TE} {tk : TA} {pl : Sem Bool}
  {G : List Value → List Value → List Value} {GV : List V → List V → List V}
/-- C.m(k = v, ..), m a classmethod -/
theorem pe_cmethK (he : PE X o ta) (r : ClX.CRead X.K C mc) (c : ClX.CMet X.K C mc m p g) (F : FnOk X.prog X.w X.K X.mg X.base CX k g fd ps sp) (hb : KBinds X.K fd ps ks G GV) (hr : Room k X.A) (hx : Passes CX X E)
    (hkw : PK X kws tk) (hall : (backToKw pos (keywordEach kws X.env)).all (·.1.isSome) = true := by rfl) (hks : (backToKw pos (keywordEach kws X.env)).filterMap (·.1) = ks := by rfl)
    (hpl : ((backTo pos (starEach [] X.env)).any (·.1) || (backToKw pos (keywordEach kws X.env)).any (·.1.isNone)) = false := by rfl)
    (ht : eval (.Call (.Attribute o m apos) [] kws pos) X.env = (do
      let ov ← eval o X.env
      standAt apos.atName
      let fx ← holding [ov] (getMethod ov m pl)
      callWith pos fx.1 fx.2 (backTo pos (starEach [] X.env)) (backToKw pos (keywordEach kws X.env))) := by rfl) :
    PE X (.Call (.Attribute o m apos) [] kws pos) (fun σ H Q => ta σ H fun x H1 => x = .ref C ∧ tk σ H1 fun zs H2 => sp (GV [.ref C] zs) H2 Q E) := by
  refine ⟨fun pins s σ H Q I h => ?_⟩
  refine PySem.W.methodCall_KW (pl := pl) (thn (he.run pins s σ H _ I h) fun u s1 ⟨x, H1, I1, rx, ex, q⟩ => ?_) ht
  subst ex
  obtain rfl : u = Value.ref C := rx
  refine ClX.getmethcm_ok I1 r c fun s2 I2 => ?_
  refine PySem.W.callWith_of hpl (PySem.W.keeps_M c.fi) (evalArgs_kw2_nil hall (thn (hkw.run pos _ s2 σ H1 _ I2 q) fun ws s3 ⟨zs, H2, I3, rz, q2⟩ => ⟨⟨ClX.pin_at I3, I3.kIn⟩, ?_⟩))
  rw [hks]
  have z : wpAny (model X.prog X.w) X.A (call (.ref s1.heap.objs.size) ([] ++ []) (ks.zip ws)) (EP X ((s1.heap.objs.size, PySem.W.methodObj (.ref g) (.ref C)) :: pins) σ Q) X.xe s3 := by
    refine wpAny_call (PySem.W.method_call (ClX.pin_at I3) ?_)
    have r2 := hb.rel (vs := [.ref C]) (us := [.ref C]) (.cons rfl .nil) rz
    have hl : (G [.ref C] ws).length = ps.length := by rw [← r2.length]; exact F.len _ _ _ _ q2
    refine codeAny_mono (F.run X.A X.stack s3 H2 ⟨[.ref C], ks.zip ws⟩ (G [.ref C] ws) (GV [.ref C] zs) Q E hr I3.env0 (hb.to s3 [.ref C] ws I3.kIn hl) r2 q2) fun r s' hq => ?_
    cases r with
    | error e => exact hx _ σ H2 s3 e s' I3 hq
    | ok fl =>
      cases fl with
      | ret u => exact I3.after hq
      | next => exact False.elim hq
      | brk => exact False.elim hq
      | cont => exact False.elim hq
  exact thn z fun _ _ y => ClX.unpinE y
end
section
variable {X : Cx} {x n1 n2 : Str} {C f : Addr} {fd : FuncData} {e e2 : Expr} {p pos pos2 : Pos} {ta : TA}
/-- raise C(e, e2) -/
theorem ps_raiseTwo {W : WX} (O : TwoE X.K X.mg x n1 n2 C f fd) (F : FnOk X.prog X.w X.K X.mg X.base CX0 1 f fd ["self", n1, n2] (spTwoE C n1 n2)) (hc : X.calm = true) (hr : Room 2 X.A) (tk : Takes X W) (hg : Gl X x) (ha : PA X [e, e2] ta)
    (hdb : (x == ("__debug__" : Str)) = false := by decide) (hst : starEach [e, e2] X.env = (false, eval e X.env) :: starEach [e2] X.env := by rfl) (hpl : (backTo pos (starEach [e2] X.env)).any (·.1) = false := by rfl) :
    PS X (.Raise (some (.Call (.Name x p) [e, e2] [] pos)) none pos2) (fun _ σ H => tMkO C (spTwoE C n1 n2) [] ta σ H fun cls d H' => W cls d σ H') :=
  ps_raise hc tk (pmk_oex O.T O.iC O.tI F hr O.hb .nil (fun _ _ _ _ _ _ _ h => h.elim) hg O.mgC ha hdb hst hpl)
/-- behind C(v1, v2), as ps_raiseTwo asks it -/
theorem mkTwoV {C : Addr} {n1 n2 : Str} {vs : List V} {v1 v2 : V} {H1 : Hp} {Q : XK} (e : vs = [v1, v2]) (h : ∀ d H', Same H1 H' → H1 d = none → H' d = some (.xd [(n2, v2), (n1, v1)]) → Q (.ref C) (some d) H') :
    vs.length ≤ 1000 ∧ ∀ a, H1 a = none → spTwoE C n1 n2 (.ref a :: (vs ++ [])) (upd H1 a (exo a C none))
      (fun v H2 => v = .non ∧ ∃ (d : Addr) (fs : List (Str × V)), H2 a = some (exo a C (some d)) ∧ H2 d = some (exd d fs) ∧ H1 d = none ∧ Q (.ref C) (some d) (upd (del H2 a) d (.xd fs))) (fun _ _ _ => False) := by
  subst e
  exact ⟨by show 2 ≤ 1000; decide, mkTwo h⟩
end
end So

/-! zip(a list, a tuple) -/
namespace So
open PySem PySem.Spec PyProof.Rows L2
def ItzLT (K : PySem.W.Frag) (a b : Addr) : It :=
  ⟨fun i H => ∃ (xs ys : List V) (x y : V), SqL K H a xs ∧ SqT K H b ys ∧ xs[i]? = some x ∧ ys[i]? = some y,
    fun i H v H' => ∃ T x y, v = .ref T ∧ H T = none ∧ H' = upd H T (.tup [x, y]) ∧ (∀ xs, SqL K H a xs → xs[i]? = some x) ∧ ∀ ys, SqT K H b ys → ys[i]? = some y,
    fun i H => ∃ xs ys : List V, SqL K H a xs ∧ SqT K H b ys ∧ i ≤ xs.length ∧ i ≤ ys.length ∧ (i = xs.length ∨ i = ys.length)⟩
theorem turn_zipLT {P : Program} {w : World} {K : PySem.W.Frag} {elts : List Expr} {kk : Nat} {tpos : Pos} {a b z TI TO i1 i2 : Addr} (D : ZipSep2 z TI TO i1 i2 [i1, a] [i2, b]) (na : a ≠ i1) (nb : b ≠ i2) :
    Turn P w K (.Tuple elts kk tpos) (ItzLT K a b) [z, TI, TO, i1, i2] z (fun i h => IsZip h z TI TO .none ∧ IsTupOf2 h TI (.ref i1) (.ref i2) ∧ (∃ x y, IsTupOf2 h TO x y) ∧ h.IsListIter i1 a i ∧ h.IsTupleIter i2 b i) where
  mem := by simp
  obj := fun i h st c hc => by
    obtain ⟨hz, hTI, ⟨x, y, hTO⟩, ⟨o1, e1, _, d1⟩, ⟨o2, e2, _, d2⟩⟩ := st
    have e' : c = z ∨ c = TI ∨ c = TO ∨ c = i1 ∨ c = i2 := by simpa using hc
    rcases e' with q | q | q | q | q
    · rw [q]; exact ⟨_, hz, fun v q => nomatch q⟩
    · rw [q]; exact ⟨_, hTI, fun v q => nomatch q⟩
    · rw [q]; exact ⟨_, hTO, fun v q => nomatch q⟩
    · rw [q]; exact ⟨o1, e1, fun v q => by rw [d1] at q; cases q⟩
    · rw [q]; exact ⟨o2, e2, fun v q => by rw [d2] at q; cases q⟩
  keep := fun i h h' st k => by
    obtain ⟨hz, hTI, ⟨x, y, hTO⟩, h1, h2⟩ := st
    exact ⟨k z (by simp) _ hz, k TI (by simp) _ hTI, ⟨x, y, k TO (by simp) _ hTO⟩, h1.at fun o q => k i1 (by simp) o q, h2.at fun o q => k i2 (by simp) o q⟩
  item := by
    intro X hP hw hK hc i pins s σ H E I hf st hg
    subst hP hw hK
    obtain ⟨hz, hTI, ⟨x0, y0, hTO⟩, h1, h2⟩ := st
    obtain ⟨xs, ys, x, y, hqx, hqy, hx, hy⟩ := hg
    obtain ⟨its, rv, p, _⟩ := I.list hqx
    obtain ⟨its2, rv2, p2, _⟩ := I.tuple hqy
    obtain ⟨u, hu, ru⟩ := rv.get hx
    obtain ⟨u2, hu2, ru2⟩ := rv2.get hy
    have hzl : z < s.heap.objs.size := Heap.lt_size hz
    have lu : i < its.length := by
      rcases Nat.lt_or_ge i its.length with q | q
      · exact q
      · rw [List.getElem?_eq_none q] at hu; cases hu
    have lu2 : i < its2.length := by
      rcases Nat.lt_or_ge i its2.length with q | q
      · exact q
      · rw [List.getElem?_eq_none q] at hu2; cases hu2
    have D1 : Draws X.prog X.w X.A.in1 i1 [i1, a] _ _ _ := Draws.list (show X.A.in1.handled = none from I.ok.hd hc) i1 a na its.toArray
    have D2 : Draws X.prog X.w X.A.in1 i2 [i2, b] _ _ _ := Draws.tuple (show X.A.in1.handled = none from I.ok.hd hc) i2 b nb its2.toArray
    refine wpAny_pyNext_zipD2_item D D1 D2 hz hTI hTO ⟨h1, p.isList⟩ ⟨h2, p2⟩ (by simpa using lu) (by simpa using lu2) fun u' u2' h' tk e1 e2 z' TO' st1 st2 hT hsz hk => ?_
    obtain rfl : u = u' := by
      have e1' : its.toArray[i]? = some u' := e1
      have : its.toArray[i]? = some u := by simpa using hu
      rw [e1'] at this
      exact (Option.some.inj this).symm
    obtain rfl : u2 = u2' := by
      have e2' : its2.toArray[i]? = some u2' := e2
      have : its2.toArray[i]? = some u2 := by simpa using hu2
      rw [e2'] at this
      exact (Option.some.inj this).symm
    refine ⟨_, rfl, wpAny_letOwnedTupleGo_zip (s := { s with heap := h', toks := tk }) z' fun h'' z'' sb => ?_⟩
    have hT2 : h''.get? s.heap.objs.size = some { cls := .type "tuple", data := .seq #[u, u2] } := (sb.2 _ (Nat.ne_of_gt hzl)).trans hT
    have new : ObjOk X.prog X.w (upd H s.heap.objs.size (.tup [x, y])) h'' s.heap.objs.size (.tup [x, y]) :=
      ⟨by show 2 ≤ sizeLine; decide, [u, u2], .cons ru (.cons ru2 .nil), ⟨_, hT2, rfl, _, rfl⟩⟩
    have I1 : Inv X pins σ (upd H s.heap.objs.size (.tup [x, y])) { s with heap := h'', toks := tk } :=
      I.turnedNew (t' := tk) (ch := [z, TI, TO, i1, i2]) (fun c o hb q => (sb.2 c (fun q' => hb (by simp [q']))).trans (hk c o (fun q' => hb (by simp [q'])) (fun q' => hb (by simp [q'])) (fun q' => hb (by simp [q'])) (fun q' => hb (by simp [q'])) q)) hf (Nat.le_refl _) new
    refine ⟨.ref s.heap.objs.size, _, I1, rfl, ⟨_, x, y, rfl, I.hok.fresh (Nat.le_refl _), rfl, fun l hl => by rw [I.list_inj hl hqx]; exact hx, fun l hl => by rw [I.tuple_inj hl hqy]; exact hy⟩, ⟨z'', ?_, ⟨u, u2, ?_⟩, ?_, ?_⟩, fun c hcm => ?_⟩
    · exact (sb.2 _ D.TIz).trans (hk _ _ D.TIz D.TITO D.TIi1 D.TIi2 hTI)
    · exact (sb.2 _ D.TOz).trans TO'
    · exact st1.1.at fun o q => (sb.2 _ D.zi1.symm).trans q
    · exact st2.1.at fun o q => (sb.2 _ D.zi2.symm).trans q
    · have hlt : c < s.heap.objs.size := by
        have e' : c = z ∨ c = TI ∨ c = TO ∨ c = i1 ∨ c = i2 := by simpa using hcm
        rcases e' with q | q | q | q | q
        · rw [q]; exact hzl
        · rw [q]; exact Heap.lt_size hTI
        · rw [q]; exact Heap.lt_size hTO
        · rw [q]; obtain ⟨_, e1, _⟩ := h1; exact Heap.lt_size e1
        · rw [q]; obtain ⟨_, e2, _⟩ := h2; exact Heap.lt_size e2
      rw [upd_ne (Nat.ne_of_lt hlt)]
      exact (hf c hcm).1
  done := by
    intro X hP hw hK hc i pins s σ H E I hf st hg
    subst hP hw hK
    obtain ⟨hz, hTI, ⟨x0, y0, hTO⟩, h1, h2⟩ := st
    obtain ⟨xs, ys, hqx, hqy, le1, le2, hend⟩ := hg
    obtain ⟨its, rv, p, _⟩ := I.list hqx
    obtain ⟨its2, rv2, p2, _⟩ := I.tuple hqy
    have l1 := rv.length
    have l2 := rv2.length
    have D1 : Draws X.prog X.w X.A.in1 i1 [i1, a] _ _ _ := Draws.list (show X.A.in1.handled = none from I.ok.hd hc) i1 a na its.toArray
    have D2 : Draws X.prog X.w X.A.in1 i2 [i2, b] _ _ _ := Draws.tuple (show X.A.in1.handled = none from I.ok.hd hc) i2 b nb its2.toArray
    exact wpAny_pyNext_zipD2_end D D1 D2 hz hTI hTO ⟨h1, p.isList⟩ ⟨h2, p2⟩ (by simp; omega) (by simp; omega) (by simp; omega)
      fun h' tk hk => ⟨rfl, I.turnedL (t' := tk) (ch := [z, TI, TO, i1, i2]) (fun c o hb q =>
      hk c o (fun q' => hb (by simp [q'])) (fun q' => hb (by simp [q'])) (fun q' => hb (by simp [q'])) (fun q' => hb (by simp [q'])) q) hf⟩
  self := fun A i s Q E st h => wpAny_pyIter_zip st.1 h
def iZipLT (K : PySem.W.Frag) (ta : TA) : TI := fun σ H R => ta σ H fun vs H1 => ∃ a b xs ys, vs = [.ref a, .ref b] ∧ SqL K H1 a xs ∧ SqT K H1 b ys ∧ R (ItzLT K a b) H1
theorem pi_zipLT {X : Cx} {e e2 : Expr} {ta : TA} {p pos tpos : Pos} {elts : List Expr} {kk : Nat} (hg : Gl X "zip") (hm : X.mg "zip" = none) (ha : PA X [e, e2] ta)
    (hs : starEach [e, e2] X.env = (false, eval e X.env) :: starEach [e2] X.env := by rfl) (hpl : (backTo pos (starEach [e2] X.env)).any (·.1) = false := by rfl) :
    PI X (.Tuple elts kk tpos) (.Call (.Name "zip" p) [e, e2] [] pos) (iZipLT X.K ta) := by
  refine ⟨fun pins s σ H R I h => ?_⟩
  refine Call_ (ld_blt I hg hm PyProof.Rows.boot_zip (PyProof.Rows.callWith_type1 (thn (ha.run pos pins s σ H _ I h) fun us s1 ⟨vs, H1, I1, r1, q1⟩ => ?_) hs hpl))
  obtain ⟨a, b, xs, ys, rfl, hqx, hqy, q⟩ := q1
  obtain ⟨u1, u2, rfl, r, r'⟩ := vals2 r1
  cases r
  cases r'
  have fresh5 : ∀ c, c ∈ [s1.heap.objs.size + 4, s1.heap.objs.size + 2, s1.heap.objs.size + 3, s1.heap.objs.size, s1.heap.objs.size + 1] → FpOk X pins H1 c := fun c hcm => by
    have e' : c = s1.heap.objs.size + 4 ∨ c = s1.heap.objs.size + 2 ∨ c = s1.heap.objs.size + 3 ∨ c = s1.heap.objs.size ∨ c = s1.heap.objs.size + 1 := by simpa using hcm
    have hle : s1.heap.objs.size ≤ c := by
      rcases e' with z | z | z | z | z
      · rw [z]; exact Nat.le_add_right _ _
      · rw [z]; exact Nat.le_add_right _ _
      · rw [z]; exact Nat.le_add_right _ _
      · rw [z]; exact Nat.le_refl _
      · rw [z]; exact Nat.le_add_right _ _
    exact I1.fpOk hle (I1.hok.fresh hle)
  obtain ⟨its, rv, p1, _⟩ := I1.list hqx
  obtain ⟨its2, rv2, p2, _⟩ := I1.tuple hqy
  obtain ⟨o2, ho2, _⟩ := id p2
  have al : a < s1.heap.objs.size := p1.lt
  have bl : b < s1.heap.objs.size := Heap.lt_size ho2
  refine zip_begins2 (begins_list a its.toArray) (begins_tuple b its2.toArray) p1.isList (show s1.heap.IsTuple b its2.toArray from p2) fun h' hz hTI hTO h1 h2 hsz hk => wpAny_pyIter_zip hz ?_
  have I2 : Inv X pins σ H1 { s1 with heap := h' } := I1.kept (t' := s1.toks) hk
  exact ⟨s1.heap.objs.size + 4, [s1.heap.objs.size + 4, s1.heap.objs.size + 2, s1.heap.objs.size + 3, s1.heap.objs.size, s1.heap.objs.size + 1], _, _, H1, rfl, I2,
    turn_zipLT (zip_sep2 (fp1 := [a]) (fp2 := [b]) (by simpa using al) (by simpa using bl)) (Nat.ne_of_lt al) (Nat.ne_of_lt (Nat.lt_succ_of_lt bl)), ⟨hz, hTI, ⟨_, _, hTO⟩, ⟨_, h1, rfl, rfl⟩, ⟨_, h2, rfl, rfl⟩⟩, fresh5, q⟩
theorem walk_zipLT {K : PySem.W.Frag} {a b : Addr} {xs ys : List V} {n : Nat} (hn : n = min xs.length ys.length) : Walk (ItzLT K a b) n (fun H => SqL K H a xs ∧ SqT K H b ys) (YPair (fun i => xs[i]?) (fun i => ys[i]?)) := by
  subst hn
  refine ⟨fun i _ hi q => ?_, fun _ q => ⟨xs, ys, q.1, q.2, by omega, by omega, by omega⟩, fun i H v H' _ q y => ?_⟩
  · have h1 : i < xs.length := by omega
    have h2 : i < ys.length := by omega
    exact ⟨xs, ys, xs[i], ys[i], q.1, q.2, by simp [h1], by simp [h2]⟩
  · obtain ⟨T, x, z, h1, h2, h3, h4, h5⟩ := y
    exact ⟨T, x, z, h1, h2, h3, h4 xs q.1, h5 ys q.2⟩
end So

namespace K11
open PySem PySem.Spec PyProof.Rows L2 So
abbrev sNumber : Stmt := topS 18
abbrev sHasForm : Stmt := topS 19
abbrev sWordsOf : Stmt := topS 20
abbrev sFirst : Stmt := topS 21
abbrev sTold : Stmt := topS 22
abbrev sValueOf : Stmt := topS 23
theorem scNumber : FnScope ["word", "sign"] ["word"] (defScope sNumber) := ⟨rfl, rfl, rfl, by decide +kernel, rfl, by decide +kernel, by decide +kernel⟩
theorem scHasForm : FnScope ["word", "form"] ["word", "form"] (defScope sHasForm) := ⟨rfl, rfl, rfl, by decide +kernel, rfl, by decide +kernel, by decide +kernel⟩
theorem scWordsOf : FnScope ["text"] ["text"] (defScope sWordsOf) := ⟨rfl, rfl, rfl, by decide +kernel, rfl, by decide +kernel, by decide +kernel⟩
theorem scFirst : FnScope ["words", "forms", "at", "form"] ["words", "forms"] (defScope sFirst) := ⟨rfl, rfl, rfl, by decide +kernel, rfl, by decide +kernel, by decide +kernel⟩
theorem scTold : FnScope ["line", "words", "forms", "wrong", "word", "form"] ["line", "words", "forms"] (defScope sTold) := ⟨rfl, rfl, rfl, by decide +kernel, rfl, by decide +kernel, by decide +kernel⟩
theorem scValueOf : FnScope ["word", "form"] ["word", "form"] (defScope sValueOf) := ⟨rfl, rfl, rfl, by decide +kernel, rfl, by decide +kernel, by decide +kernel⟩
/-! ### numbers -/
def isDig (c : Nat) : Bool := decide (c ∈ digits.cps.toList)
def numOf (z : Str) : Nat := NumText.digitsVal z.cps.toList
def isNum (z : Str) : Bool := decide (1 ≤ z.length) && decide (z.length ≤ 31) && z.cps.toList.all isDig && (decide (z = ("0" : Str)) || (decide (z.cps.toList.headD 0 ≠ 48) && decide (((numOf z : Nat) : Int) ≤ 1000000000000000000000000000000)))
theorem dig_iff : ∀ c : Nat, isDig c = true → 48 ≤ c ∧ c ≤ 57 := by
  intro c h
  have h : c ∈ digits.cps.toList := of_decide_eq_true h
  have : ∀ c ∈ digits.cps.toList, 48 ≤ c ∧ c ≤ 57 := by decide +kernel
  exact this c h
theorem dig_of {c : Nat} (h : 48 ≤ c ∧ c ≤ 57) : isDig c = true := by
  have : ∀ k < 10, isDig (48 + k) = true := by decide +kernel
  have e : c = 48 + (c - 48) := by omega
  rw [e]
  exact this _ (by omega)
theorem all_dig {z : Str} (h : z.cps.toList.all isDig = true) : NumText.AllDigits z.cps.toList := fun c hc => dig_iff c (List.all_eq_true.mp h c hc)
theorem int_of {z : Str} (h1 : 1 ≤ z.length) (h2 : z.length ≤ 31) (h : z.cps.toList.all isDig = true) : PySem.intText? z = some ((numOf z : Nat) : Int) := by
  refine PySem.intText_digits (all_dig h) (fun e => ?_) (by omega)
  have : z.length = z.cps.toList.length := Array.length_toList.symm
  rw [e] at this
  simp at this
  omega
theorem zero_num : numOf ("0" : Str) = 0 := by decide +kernel
theorem isNum_le {z : Str} (h : isNum z = true) : 1 ≤ z.length ∧ z.length ≤ 31 ∧ z.cps.toList.all isDig = true ∧ (((numOf z : Nat) : Int) ≤ 1000000000000000000000000000000) := by
  unfold isNum at h
  simp only [Bool.and_eq_true, Bool.or_eq_true, decide_eq_true_eq] at h
  refine ⟨h.1.1.1, h.1.1.2, h.1.2, ?_⟩
  rcases h.2 with e | e
  · rw [e, zero_num]
    decide
  · exact e.2
theorem ascii_0 (c : Nat) : (V.str ⟨#[c]⟩ = V.str ("0" : Str)) ↔ c = 48 := by
  constructor
  · intro h
    have h := V.str.inj h
    have h2 := congrArg (fun z : Str => z.cps.toList) h
    have : (("0" : Str)).cps.toList = [48] := by decide +kernel
    simp [this] at h2
    exact h2
  · rintro rfl
    have : (("0" : Str)) = ⟨#[48]⟩ := by decide +kernel
    rw [this]
section
variable {P : Program} {w : World} {K : PySem.W.Frag} {mg : Str → Option Value} {base : Heap}
/-- is_number -/
def spNumber : Sp := fun vs H Q _ => ∃ z : Str, vs = [.str z] ∧ z.length ≤ 2000 ∧ ∀ H', Same H H' → Q (.bl (isNum z)) H'
theorem ok_number {f : Addr} {fd : FuncData} (F : Fun K "is_number" "is_number" sNumber f fd) (W : Words K mg) (hL : ∃ t, mg "LONGEST_NUMBER" = some (.int 31 t)) : FnOk P w K mg base CX0 1 f fd ["word"] spNumber := by
  refine F.ok scNumber (fun vs H Q E h => ?_) (fun cdv A outer s H vs Q E hr h => ?_)
  · obtain ⟨z, rfl, _⟩ := h
    rfl
  · obtain ⟨z, rfl, hz, q⟩ := h
    obtain ⟨tL, hL⟩ := hL
    obtain ⟨tD, hD⟩ := W.digits
    obtain ⟨tG, hG⟩ := W.greatest
    refine ⟨_, pss_cons (ps_if (PW.pt (pw_or (pt_not (pt_chain op_le op_le pe_int (pe_callB call_len_str (by rfl) W.len PySem.boot_len (pa_cons (pv 0) pa_nil)) (pe_glob (v := .int 31) rfl hL ⟨_, rfl⟩)))
        (pw_or1 (pt_not (pt_val (pe_callB (cr_all rfl) (by rfl) W.all (by decide +kernel) (pa_cons (pe_lc (own := [("sign", 1)]) (g := gName 1) (tt := tYes) rfl scNumber.nd (pi_str (pv 0)) (blkOk_by (N := ["word", "sign"]) (sc := defScope sNumber) (by decide +kernel))
          (fun _ _ _ _ _ => pg_name (i := 1) scNumber.nd rfl (Or.inl rfl)) (fun _ _ _ _ _ => pts_nil) (fun _ _ _ _ _ => pe_cmpR op_in_sign (pv 1) (pe_glob (v := .str digits) rfl hD ⟨_, rfl⟩) (by rfl))) pa_nil)))))))
        (pss_one (ps_ret pe_bl)) pss_nil)
      (pss_one (ps_ret (pe_or (pe_cmpR op_eq (pv 0) pe_str (nomark _)) (pe_one (pe_and (pe_cmpR op_ne (pe_ix ix_str (pv 0) pe_int (fun _ _ => rfl)) pe_str (nomark _))
        (pe_one (pe_cmpR op_le (pe_callTy call_int_str (by rfl) W.int (by decide +kernel) (pa_cons (pv 0) pa_nil)) (pe_glob (v := .int 1000000000000000000000000000000) rfl hG ⟨_, rfl⟩) (nomark _)))))))), ?_⟩
    have hzl : z.length ≤ sizeLine := Nat.le_trans hz (by decide)
    have no : isNum z = false → ∀ H', Same H H' → Q (.bl false) H' := fun e H' s => by
      have := q H' s
      rw [e] at this
      exact this
    refine ⟨_, rfl, _, rfl, hzl, _, _, rfl, rfl, _, rfl, ite2 (fun c1 => ?_) (fun c1 => ⟨_, rfl, iteT (no ?_ H (Same.refl H))⟩)⟩
    case refine_2 =>
      have c1' : ¬ (1 : Int) ≤ ((z.length : Nat) : Int) := fun e => c1 (decide_eq_true e)
      unfold isNum
      rw [show decide (1 ≤ z.length) = false from decide_eq_false (by omega)]
      rfl
    have c1' : (1 : Int) ≤ ((z.length : Nat) : Int) := of_decide_eq_true c1
    refine ⟨_, _, rfl, rfl, _, rfl, ?_⟩
    by_cases c2 : ((z.length : Nat) : Int) ≤ 31
    case neg =>
      rw [decide_eq_false c2]
      refine iteT (no ?_ H (Same.refl H))
      unfold isNum
      rw [show decide (z.length ≤ 31) = false from decide_eq_false (by omega), Bool.and_false]
      rfl
    rw [decide_eq_true c2]
    have e1 : decide (1 ≤ z.length) = true := decide_eq_true (by omega)
    have e2 : decide (z.length ≤ 31) = true := decide_eq_true (by omega)
    refine iteF ⟨_, rfl, _, rfl, fun D hD => lc_it walk_str (fun i H' => H' D = some (.lst ((z.cps.toList.take i).map fun c => V.bl (isDig c))) ∧ Same H H') ⟨?_, ?_⟩ (fun _ _ _ _ => trivial) ?_ ?_⟩
    · exact upd_same
    · exact Same.over (Same.refl H) hD
    · rintro i x H1 H2 hi ⟨h1, s1⟩ ⟨rfl, c, hc1, rfl⟩
      have hc2 : z.cps.toList[i]? = some c := by
        rw [Array.getElem?_toList]
        exact hc1
      refine ⟨rfl, _, rfl, c, _, rfl, rfl, _, h1, ?_, ?_, Same.over s1 hD⟩
      · rw [List.length_map, List.length_take]
        have : z.cps.toList.length = z.length := Array.length_toList
        exact Nat.lt_of_le_of_lt (Nat.le_trans (Nat.min_le_right _ _) (by omega)) (by decide : 2000 < sizeLine)
      · rw [upd_same, List.take_add_one, hc2, List.map_append]
        rfl
    · rintro H1 ⟨h1, s1⟩
      refine ⟨D, z.cps.toList.map isDig, rfl, SqL.of ?_, ?_⟩
      · rw [h1, List.take_of_length_le (by rw [Array.length_toList]; exact Nat.le_refl _), List.map_map]
        rfl
      · rw [List.all_map]
        refine ⟨_, rfl, ?_⟩
        cases c3 : z.cps.toList.all (id ∘ isDig) with
        | false =>
          refine iteT (no ?_ H1 s1)
          have c3' : z.cps.toList.all isDig = false := c3
          unfold isNum
          rw [c3', Bool.and_false, Bool.false_and]
        | true =>
          have c3' : z.cps.toList.all isDig = true := c3
          refine iteF ?_
          have ez : isNum z = (decide (z = ("0" : Str)) || (decide (z.cps.toList.headD 0 ≠ 48) && decide (((numOf z : Nat) : Int) ≤ 1000000000000000000000000000000))) := by
            unfold isNum
            rw [e1, e2, c3']
            rfl
          have q1 := q H1 s1
          rw [ez] at q1
          refine ⟨_, rfl, rfl, _, rfl, ite2 (fun c4 => ?_) (fun c4 => ?_)⟩
          · have c4' : z = ("0" : Str) := V.str.inj (of_decide_eq_true c4)
            rw [decide_eq_true c4', Bool.true_or] at q1
            exact q1
          · have c4' : ¬ z = ("0" : Str) := fun e => c4 (decide_eq_true (by rw [e]))
            rw [decide_eq_false c4', Bool.false_or] at q1
            obtain ⟨c0, cr, hc⟩ : ∃ c0 cr, z.cps.toList = c0 :: cr := by
              have hz0 : 0 < z.cps.toList.length := by
                have : z.length = z.cps.toList.length := Array.length_toList.symm
                omega
              cases e : z.cps.toList with
              | nil => rw [e] at hz0; cases hz0
              | cons a r => exact ⟨a, r, rfl⟩
            refine ⟨_, rfl, _, _, c0, rfl, rfl, hzl, ?_, rfl, _, rfl, ?_⟩
            · rw [hc]
              exact atI_nat (j := 0) rfl
            · have eh : z.cps.toList.headD 0 = c0 := by rw [hc]; rfl
              rw [eh] at q1
              by_cases c5 : c0 = 48
              · have : (!decide (V.str ⟨#[c0]⟩ = V.str ("0" : Str))) = false := by
                  rw [decide_eq_true ((ascii_0 c0).mpr c5)]
                  rfl
                rw [show (decide (c0 ≠ 48)) = false from decide_eq_false (fun h => h c5), Bool.false_and] at q1
                rw [this]
                exact iteF q1
              · have : (!decide (V.str ⟨#[c0]⟩ = V.str ("0" : Str))) = true := by
                  rw [decide_eq_false (fun h => c5 ((ascii_0 c0).mp h))]
                  rfl
                rw [show (decide (c0 ≠ 48)) = true from decide_eq_true c5, Bool.true_and] at q1
                rw [this]
                refine iteT ⟨_, rfl, z, _, rfl, int_of (by omega) (by omega) c3', by omega, _, _, rfl, rfl, q1⟩
end
end K11

namespace K11
open PySem PySem.Spec PyProof.Rows L2 So
/-! ### forms of words -/
def hasForm (form z : Str) : Bool :=
  if form = "name" then isName z else if form = "moment" then isNum z else if form = "beginning" then isNum z && !decide (z = ("0" : Str)) else if form = "truth" then (["sound", "unsound"] : List Str).contains z else decide (z = form)
/-- the first word that has not its form -/
def fw : List Str → List Str → Nat → Option Nat
  | ws, [], n => if ws.isEmpty then none else some n
  | [], _ :: _, n => some n
  | w :: ws, f :: fs, n => if hasForm f w = true then fw ws fs (n + 1) else some n
theorem fw_cons (w : Str) (ws : List Str) (f : Str) (fs : List Str) (n : Nat) : fw (w :: ws) (f :: fs) n = if hasForm f w = true then fw ws fs (n + 1) else some n := by
  conv => lhs; unfold fw
theorem fw_end (ws : List Str) (n : Nat) : fw ws [] n = if ws.isEmpty then none else some n := by
  cases ws <;> rfl
def optV : Option Nat → V
  | none => .non
  | some n => .int (n : Nat)
def valOf (form z : Str) : V := if form = "moment" ∨ form = "beginning" then .int ((numOf z : Nat) : Int) else if form = "truth" then .bl (decide (z = ("sound" : Str))) else .str z
theorem fw_none : ∀ {ws fs : List Str} {n : Nat}, fw ws fs n = none → ws.length = fs.length ∧ ∀ (i : Nat) (w f : Str), ws[i]? = some w → fs[i]? = some f → hasForm f w = true
  | [], [], _, _ => ⟨rfl, fun i w f h => by simp at h⟩
  | _ :: _, [], _, h => by simp [fw] at h
  | [], _ :: _, _, h => by simp [fw] at h
  | w :: ws, f :: fs, n, h => by
    unfold fw at h
    split at h
    · rename_i c
      obtain ⟨h1, h2⟩ := fw_none h
      refine ⟨by simp [h1], fun i w' f' hw hf => ?_⟩
      cases i with
      | zero =>
        simp at hw hf
        rw [← hw, ← hf]
        exact c
      | succ i => exact h2 i w' f' (by simpa using hw) (by simpa using hf)
    · cases h
section
variable {P : Program} {w : World} {K : PySem.W.Frag} {mg : Str → Option Value} {base : Heap}
def spHasForm : Sp := fun vs H Q _ => ∃ z form : Str, vs = [.str z, .str form] ∧ z.length ≤ 2000 ∧ ∀ H', Same H H' → Q (.bl (hasForm form z)) H'
theorem ok_hasForm {f fN fU : Addr} {fd fdN fdU : FuncData} (F : Fun K "has_form" "has_form" sHasForm f fd) (FN : Fun K "is_name" "is_name" sName fN fdN) (bN : Binds K fdN ["value"] []) (gN : mg "is_name" = some (.ref fN)) (GN : FnOk P w K mg base CX0 1 fN fdN ["value"] spName)
    (FU : Fun K "is_number" "is_number" sNumber fU fdU) (bU : Binds K fdU ["word"] []) (gU : mg "is_number" = some (.ref fU)) (GU : FnOk P w K mg base CX0 1 fU fdU ["word"] spNumber) : FnOk P w K mg base CX0 2 f fd ["word", "form"] spHasForm := by
  refine F.ok scHasForm (fun vs H Q E h => ?_) (fun cdv A outer s H vs Q E hr h => ?_)
  · obtain ⟨z, form, rfl, _⟩ := h
    rfl
  · obtain ⟨z, form, rfl, hz, q⟩ := h
    refine ⟨_, pss_cons (ps_if (pt_cmpR op_eq (pv 1) pe_str (nomark _)) (pss_one (ps_ret (pe_call GN hr (by rfl) gN FN.kp bN .nil pass0 (pa_cons (pv 0) pa_nil)))) pss_nil)
      (pss_cons (ps_if (pt_cmpR op_eq (pv 1) pe_str (nomark _)) (pss_one (ps_ret (pe_call GU hr (by rfl) gU FU.kp bU .nil pass0 (pa_cons (pv 0) pa_nil)))) pss_nil)
      (pss_cons (ps_if (pt_cmpR op_eq (pv 1) pe_str (nomark _)) (pss_one (ps_ret (pe_and (pe_call GU hr (by rfl) gU FU.kp bU .nil pass0 (pa_cons (pv 0) pa_nil)) (pe_one (pe_cmpR op_ne (pv 0) pe_str (nomark _)))))) pss_nil)
      (pss_cons (ps_if (pt_cmpR op_eq (pv 1) pe_str (nomark _)) (pss_one (ps_ret (pe_cmpR op_in_seq (pv 0) (pe_tup (pa_cons pe_str (pa_cons pe_str pa_nil))) (by rfl)))) pss_nil)
      (pss_one (ps_ret (pe_cmpR op_eq (pv 0) (pv 1) (nomark _))))))), ?_⟩
    refine ⟨_, rfl, rfl, _, rfl, ite2 (fun c => ?_) (fun c1 => ?_)⟩
    · obtain rfl : form = "name" := V.str.inj (of_decide_eq_true c)
      exact ⟨_, rfl, _, "str", rfl, .str z hz, fun H1 s1 => q H1 s1⟩
    have n1 : ¬ form = "name" := fun e => c1 (decide_eq_true (by rw [e]))
    refine ⟨_, rfl, rfl, _, rfl, ite2 (fun c => ?_) (fun c2 => ?_)⟩
    · obtain rfl : form = "moment" := V.str.inj (of_decide_eq_true c)
      exact ⟨_, rfl, z, rfl, hz, fun H1 s1 => q H1 s1⟩
    have n2 : ¬ form = "moment" := fun e => c2 (decide_eq_true (by rw [e]))
    refine ⟨_, rfl, rfl, _, rfl, ite2 (fun c => ?_) (fun c3 => ?_)⟩
    · obtain rfl : form = "beginning" := V.str.inj (of_decide_eq_true c)
      have q : ∀ H', Same H H' → Q (.bl (isNum z && !decide (z = ("0" : Str)))) H' := q
      refine ⟨_, rfl, z, rfl, hz, fun H1 s1 => ⟨_, rfl, ?_⟩⟩
      have q1 := q H1 s1
      cases e : isNum z with
      | false =>
        rw [e, Bool.false_and] at q1
        exact iteF q1
      | true =>
        rw [e, Bool.true_and] at q1
        refine iteT ⟨_, rfl, rfl, ?_⟩
        have : (decide (V.str z = V.str ("0" : Str))) = decide (z = ("0" : Str)) := by
          by_cases h : z = ("0" : Str)
          · rw [decide_eq_true h, decide_eq_true (by rw [h])]
          · rw [decide_eq_false h, decide_eq_false (fun y => h (V.str.inj y))]
        rw [this]
        exact q1
    have n3 : ¬ form = "beginning" := fun e => c3 (decide_eq_true (by rw [e]))
    refine ⟨_, rfl, rfl, _, rfl, ite2 (fun c => ?_) (fun c4 => ?_)⟩
    · obtain rfl : form = "truth" := V.str.inj (of_decide_eq_true c)
      have q : ∀ H', Same H H' → Q (.bl ((["sound", "unsound"] : List Str).contains z)) H' := q
      refine ⟨_, rfl, by show 2 ≤ sizeLine; decide, fun t ht => ⟨t, _, rfl, .inr (SqT.of upd_same), rfl, flat_strs ["sound", "unsound"], ?_⟩⟩
      rw [show (if false = true then !inV (V.str z) [V.str "sound", V.str "unsound"] else inV (V.str z) [V.str "sound", V.str "unsound"]) = (["sound", "unsound"] : List Str).contains z from inV_strs z ["sound", "unsound"]]
      exact q _ (same_upd0 ht)
    have n4 : ¬ form = "truth" := fun e => c4 (decide_eq_true (by rw [e]))
    refine ⟨_, rfl, _, rfl, rfl, ?_⟩
    have e : hasForm form z = decide (V.str z = V.str form) := by
      unfold hasForm
      rw [if_neg n1, if_neg n2, if_neg n3, if_neg n4]
      by_cases h : z = form
      · rw [decide_eq_true h, decide_eq_true (by rw [h])]
      · rw [decide_eq_false h, decide_eq_false (fun y => h (V.str.inj y))]
    have q1 := q H (Same.refl H)
    rw [e] at q1
    exact q1
/-- words_of: a text's words, or BadText(0, 0) -/
def spWordsOf (K : PySem.W.Frag) (CB : Addr) : Sp := fun vs H Q E => ∃ v, vs = [v] ∧ ((∃ z : Str, v = .str z ∧ z.length ≤ 2000 ∧ ∀ (H' : Hp) (a : Addr), Same H H' → H a = none → H' a = some (.lst ((Txt.split z " ").map V.str)) → Q (.ref a) H') ∨
  (∃ t, TyX K H v t ∧ PySem.W.kitOne K t (.type "str") = some false ∧ ∀ d H', Same H H' → H' d = some (.xd [("word", .int 0), ("line", .int 0)]) → E (.ref CB) (some d) H'))
theorem ok_wordsOf {CB f fB : Addr} {fd fdB : FuncData} (F : Fun K "words_of" "words_of" sWordsOf f fd) (W : Words K mg) (O : TwoE K mg "BadText" "line" "word" CB fB fdB) (GB : FnOk P w K mg base CX0 1 fB fdB ["self", "line", "word"] (spTwoE CB "line" "word")) :
    FnOk P w K mg base (L2.CX P w) 3 f fd ["text"] (spWordsOf K CB) := by
  refine F.okX scWordsOf (fun vs H Q E h => ?_) (fun cdv A outer s H vs Q E hr h => ?_)
  · obtain ⟨v, rfl, _⟩ := h
    rfl
  · obtain ⟨v, rfl, h⟩ := h
    refine ⟨_, pss_cons (ps_if (pt_not (pt_val (pe_callB call_isi (by rfl) W.isi (by decide +kernel) (pa_cons (pv 0) (pa_cons (pe_bltn (v := .ty "str") (by rfl) W.str (by decide +kernel) rfl) pa_nil)))))
        (pss_one (ps_raiseTwo O GB rfl hr (takes_of rfl rfl rfl rfl) (by rfl) (pa_cons pe_int (pa_cons pe_int pa_nil)))) pss_nil)
      (pss_one (ps_ret (pe_split (pv 0) pe_str))), ?_⟩
    rcases h with ⟨z, rfl, hz, q⟩ | ⟨t, ty, hk, q⟩
    · refine ⟨_, rfl, _, _, _, _, true, rfl, .ty "str", .base (.str z), kit_str_str, true, rfl, iteF ?_⟩
      refine ⟨_, rfl, ⟨_, rfl⟩, _, _, rfl, rfl, by decide, Nat.le_trans (Nat.add_le_add_right hz 2) (by decide), fun p hp => ?_⟩
      exact q _ p (same_upd0 hp) hp upd_same
    · refine ⟨_, rfl, _, _, _, _, false, rfl, .ty "str", ty, hk, false, rfl, iteT ?_⟩
      exact mkTwoV rfl fun d H' s _ e => q d H' s e
/-- first_wrong -/
def spFirst (K : PySem.W.Frag) : Sp := fun vs H Q _ => ∃ (a ft : Addr) (ws fs : List Str), vs = [.ref a, .ref ft] ∧ SqL K H a (ws.map V.str) ∧ SqT K H ft (fs.map V.str) ∧ (∀ H', Same H H' → SqL K H' a (ws.map V.str)) ∧ (∀ H', Same H H' → SqT K H' ft (fs.map V.str)) ∧ (∀ z ∈ ws, z.length ≤ 2000) ∧
  ∀ H', Same H H' → Q (optV (fw ws fs 0)) H'
theorem ok_first {f fH : Addr} {fd fdH : FuncData} (F : Fun K "first_wrong" "first_wrong" sFirst f fd) (W : Words K mg) (me : mg "enumerate" = none) (FH : Fun K "has_form" "has_form" sHasForm fH fdH) (bH : Binds K fdH ["word", "form"] []) (gH : mg "has_form" = some (.ref fH))
    (GH : FnOk P w K mg base CX0 2 fH fdH ["word", "form"] spHasForm) : FnOk P w K mg base CX0 3 f fd ["words", "forms"] (spFirst K) := by
  refine F.ok scFirst (fun vs H Q E h => ?_) (fun cdv A outer s H vs Q E hr h => ?_)
  · obtain ⟨_, _, _, _, rfl, _⟩ := h
    rfl
  · obtain ⟨a, ft, ws, fs, rfl, ha0, hf0, ha, hf, hz, q⟩ := h
    refine ⟨_, pss_cons (ps_for PassesOwn.never rfl (pi_enumT (by rfl) me (pa_cons (pv 1) pa_nil)) (pg_tup rfl (pgs_cons (pg_name (i := 2) scFirst.nd rfl (Or.inl rfl)) (pgs_cons (pg_name (i := 3) scFirst.nd rfl (Or.inl rfl)) pgs_nil)))
        (pss_one (ps_if (PW.pt (pw_or (pt_cmpR op_eq (pv 2) (pe_callB call_len_seq (by rfl) W.len PySem.boot_len (pa_cons (pv 0) pa_nil)) (nomark _)) (pw_or1 (pt_not (pt_val (pe_call GH hr (by rfl) gH FH.kp bH .nil pass0 (pa_cons (pe_ix ix_list (pv 0) (pv 2) (fun _ _ => rfl)) (pa_cons (pv 3) pa_nil))))))))
          (pss_one (ps_ret (pv 2))) pss_nil)))
      (pss_cons (ps_if (pt_cmpR op_gt (pe_callB call_len_seq (by rfl) W.len PySem.boot_len (pa_cons (pv 0) pa_nil)) (pe_callB call_len_seq (by rfl) W.len PySem.boot_len (pa_cons (pv 1) pa_nil)) (nomark _)) (pss_one (ps_ret (pe_callB call_len_seq (by rfl) W.len PySem.boot_len (pa_cons (pv 1) pa_nil)))) pss_nil)
      (pss_one (ps_ret pe_non))), ?_⟩
    refine ⟨_, rfl, ft, _, rfl, hf0, for_it walk_enumT (fun i σ H' => (∃ x2 x3, σ = [some (.ref a), some (.ref ft), x2, x3]) ∧ Same H H' ∧ i ≤ ws.length ∧ fw (ws.drop i) (fs.drop i) i = fw ws fs 0) ⟨⟨_, _, rfl⟩, Same.refl H, Nat.zero_le _, rfl⟩ (fun _ _ _ _ y => hf _ y.2.1) ?_ ?_⟩
    · rintro i x σ H1 H2 hi ⟨⟨x2, x3, rfl⟩, s1, hle, hfw⟩ ⟨t, u, y, rfl, ht, rfl, hu, hy⟩
      cases hu
      replace hy : (fs.map V.str)[i]? = some y := hy
      rw [List.getElem?_map] at hy
      obtain ⟨fm, hfm, rfl⟩ : ∃ fm, fs[i]? = some fm ∧ y = .str fm := by
        cases e : fs[i]? with
        | none => rw [e] at hy; cases hy
        | some m => rw [e] at hy; exact ⟨m, rfl, (Option.some.inj hy).symm⟩
      have s2 := s1.trans (same_upd0 (o := .tup [.int (i : Nat), .str fm]) ht)
      have ef : fs.drop i = fm :: fs.drop (i + 1) := by
        obtain ⟨hlt, e⟩ := List.getElem?_eq_some_iff.mp hfm
        rw [List.drop_eq_getElem_cons hlt, e]
      refine ⟨t, _, rfl, SqT.of upd_same, rfl, _, _, rfl, _, _, rfl, rfl, ?_⟩
      refine ⟨_, rfl, _, rfl, a, _, rfl, .inl (ha _ s2), rfl, _, rfl, ite2 (fun c => ?_) (fun c => ?_)⟩
      · have c' : ((i : Nat) : Int) = (((ws.map V.str).length : Nat) : Int) := V.int.inj (of_decide_eq_true c)
        rw [List.length_map] at c'
        have c2 : i = ws.length := by omega
        have : fw ws fs 0 = some i := by
          rw [← hfw, ef, List.drop_of_length_le (by omega)]
          rfl
        have q1 := q _ s2
        rw [this] at q1
        exact ⟨_, rfl, q1⟩
      · have c' : ¬ ((i : Nat) : Int) = (((ws.map V.str).length : Nat) : Int) := fun e => c (decide_eq_true (by rw [e]))
        rw [List.length_map] at c'
        have hlt : i < ws.length := by omega
        have ew : ws.drop i = ws[i] :: ws.drop (i + 1) := List.drop_eq_getElem_cons hlt
        have hzi : ws[i].length ≤ 2000 := hz _ (List.getElem_mem hlt)
        refine ⟨_, rfl, _, rfl, a, _, _, _, rfl, rfl, ha _ s2, atI_nat (j := i) (by rw [List.getElem?_map, List.getElem?_eq_getElem hlt]; rfl), _, rfl, ws[i], fm, rfl, hzi, fun H3 s3 => ⟨_, rfl, ?_⟩⟩
        have s13 := s2.trans s3
        rw [ef, ew, fw_cons] at hfw
        cases hg : hasForm fm ws[i] with
        | false =>
          rw [hg, if_neg Bool.false_ne_true] at hfw
          have q1 := q _ s13
          rw [← hfw] at q1
          exact iteT ⟨_, rfl, q1⟩
        | true =>
          rw [hg, if_pos rfl] at hfw
          exact iteF ⟨⟨_, _, rfl⟩, s13, hlt, hfw⟩
    · rintro σ H1 ⟨⟨x2, x3, rfl⟩, s1, hle, hfw⟩
      rw [List.length_map] at hle hfw
      rw [List.drop_of_length_le (Nat.le_refl fs.length)] at hfw
      refine ⟨_, rfl, a, _, rfl, .inl (ha _ s1), _, rfl, ft, _, rfl, .inr (hf _ s1), _, _, rfl, rfl, _, rfl, ite2 (fun c => ?_) (fun c => ?_)⟩
      · have c' : (((fs.map V.str).length : Nat) : Int) < (((ws.map V.str).length : Nat) : Int) := of_decide_eq_true c
        rw [List.length_map, List.length_map] at c'
        have : fw ws fs 0 = some fs.length := by
          rw [← hfw, fw_end]
          rw [if_neg (by rw [List.isEmpty_iff]; intro e; have := congrArg List.length e; rw [List.length_drop] at this; simp at this; omega)]
        have q1 := q _ s1
        rw [this] at q1
        refine ⟨_, rfl, ft, _, rfl, .inr (hf _ s1), ?_⟩
        rw [List.length_map]
        exact q1
      · have c' : ¬ (((fs.map V.str).length : Nat) : Int) < (((ws.map V.str).length : Nat) : Int) := fun e => c (decide_eq_true e)
        rw [List.length_map, List.length_map] at c'
        have : fw ws fs 0 = none := by
          rw [← hfw, List.drop_of_length_le (by omega)]
          rfl
        have q1 := q _ s1
        rw [this] at q1
        exact q1
end
end K11

namespace K11
open PySem PySem.Spec PyProof.Rows L2 So
theorem form_num {form z : Str} (h : hasForm form z = true) (hf : form = "moment" ∨ form = "beginning") : isNum z = true := by
  rcases hf with rfl | rfl
  · exact h
  · have h : (isNum z && !decide (z = ("0" : Str))) = true := h
    rw [Bool.and_eq_true] at h
    exact h.1
/-- what the words say, each by its form -/
def valsOf (ws fs : List Str) : List V := (ws.zip fs).map fun p => valOf p.2 p.1
section
variable {P : Program} {w : World} {K : PySem.W.Frag} {mg : Str → Option Value} {base : Heap}
def spValueOf : Sp := fun vs H Q _ => ∃ z form : Str, vs = [.str z, .str form] ∧ z.length ≤ 2000 ∧ (form = "moment" ∨ form = "beginning" → isNum z = true) ∧ ∀ H', Same H H' → Q (valOf form z) H'
theorem ok_valueOf {f : Addr} {fd : FuncData} (F : Fun K "value_of" "value_of" sValueOf f fd) (W : Words K mg) : FnOk P w K mg base CX0 1 f fd ["word", "form"] spValueOf := by
  refine F.ok scValueOf (fun vs H Q E h => ?_) (fun cdv A outer s H vs Q E hr h => ?_)
  · obtain ⟨z, form, rfl, _⟩ := h
    rfl
  · obtain ⟨z, form, rfl, hz, hn, q⟩ := h
    refine ⟨_, pss_cons (ps_if (pt_cmpR op_in_seq (pv 1) (pe_tup (pa_cons pe_str (pa_cons pe_str pa_nil))) (by rfl)) (pss_one (ps_ret (pe_callTy call_int_str (by rfl) W.int (by decide +kernel) (pa_cons (pv 0) pa_nil)))) pss_nil)
      (pss_cons (ps_if (pt_cmpR op_eq (pv 1) pe_str (nomark _)) (pss_one (ps_ret (pe_cmpR op_eq (pv 0) pe_str (nomark _)))) pss_nil)
      (pss_one (ps_ret (pv 0)))), ?_⟩
    refine ⟨_, rfl, by show 2 ≤ sizeLine; decide, fun t ht => ⟨t, _, rfl, .inr (SqT.of upd_same), rfl, flat_strs ["moment", "beginning"], ?_⟩⟩
    rw [show (if false = true then !inV (V.str form) [V.str "moment", V.str "beginning"] else inV (V.str form) [V.str "moment", V.str "beginning"]) = (["moment", "beginning"] : List Str).contains form from inV_strs form ["moment", "beginning"]]
    have s1 := same_upd0 (o := .tup [.str "moment", .str "beginning"]) ht
    refine ⟨_, rfl, ite2 (fun c => ?_) (fun c => ?_)⟩
    · have c' : form = "moment" ∨ form = "beginning" := by simpa using c
      obtain ⟨h1, h2, h3, _⟩ := isNum_le (hn c')
      have q1 := q _ s1
      unfold valOf at q1
      rw [if_pos c'] at q1
      exact ⟨_, rfl, z, _, rfl, int_of h1 h2 h3, by omega, q1⟩
    · have c' : ¬ (form = "moment" ∨ form = "beginning") := fun e => c (by simpa using e)
      have q1 := q _ s1
      unfold valOf at q1
      rw [if_neg c'] at q1
      refine ⟨_, rfl, rfl, _, rfl, ite2 (fun c2 => ?_) (fun c2 => ?_)⟩
      · rw [if_pos (V.str.inj (of_decide_eq_true c2))] at q1
        refine ⟨_, rfl, rfl, ?_⟩
        have : (decide (V.str z = V.str ("sound" : Str))) = decide (z = ("sound" : Str)) := by
          by_cases h : z = ("sound" : Str)
          · rw [decide_eq_true h, decide_eq_true (by rw [h])]
          · rw [decide_eq_false h, decide_eq_false (fun y => h (V.str.inj y))]
        rw [this]
        exact q1
      · rw [if_neg (fun e => c2 (decide_eq_true (by rw [e])))] at q1
        exact ⟨_, rfl, q1⟩
/-- told_by -/
def spTold (K : PySem.W.Frag) (CB : Addr) : Sp := fun vs H Q E => ∃ (line : Int) (a ft : Addr) (ws fs : List Str), vs = [.int line, .ref a, .ref ft] ∧ H a = some (.lst (ws.map V.str)) ∧ SqT K H ft (fs.map V.str) ∧ (∀ H' : Hp, Same H H' → SqT K H' ft (fs.map V.str)) ∧ (∀ z ∈ ws, z.length ≤ 2000) ∧ fs.length ≤ 100 ∧
  (fw ws fs 0 = none → ∀ (H' : Hp) (l : Addr), Same H H' → H l = none → H' l = some (.lst (valsOf ws fs)) → Q (.ref l) H') ∧
  ∀ n : Nat, fw ws fs 0 = some n → ∀ d H', Same H H' → H' d = some (.xd [("word", .int (n : Nat)), ("line", .int line)]) → E (.ref CB) (some d) H'
theorem ok_told {CB f fB fF fV : Addr} {fd fdB fdF fdV : FuncData} (F : Fun K "told_by" "told_by" sTold f fd) (mz : mg "zip" = none) (O : TwoE K mg "BadText" "line" "word" CB fB fdB) (GB : FnOk P w K mg base CX0 1 fB fdB ["self", "line", "word"] (spTwoE CB "line" "word"))
    (FF : Fun K "first_wrong" "first_wrong" sFirst fF fdF) (bF : Binds K fdF ["words", "forms"] []) (gF : mg "first_wrong" = some (.ref fF)) (GF : FnOk P w K mg base CX0 3 fF fdF ["words", "forms"] (spFirst K))
    (FV : Fun K "value_of" "value_of" sValueOf fV fdV) (bV : Binds K fdV ["word", "form"] []) (gV : mg "value_of" = some (.ref fV)) (GV : FnOk P w K mg base CX0 1 fV fdV ["word", "form"] spValueOf) :
    FnOk P w K mg base (L2.CX P w) 4 f fd ["line", "words", "forms"] (spTold K CB) := by
  refine F.okX scTold (fun vs H Q E h => ?_) (fun cdv A outer s H vs Q E hr h => ?_)
  · obtain ⟨_, _, _, _, _, rfl, _⟩ := h
    rfl
  · obtain ⟨line, a, ft, ws, fs, rfl, ha, hf0, hf, hz, h100, qy, qn⟩ := h
    have hr1 : Room 1 _ := hr.mono (by decide)
    have hr2 : Room 2 _ := hr.mono (by decide)
    refine ⟨_, pss_cons (ps_set (i := 3) scTold.nd rfl (.inl rfl) (pe_call GF hr (by rfl) gF FF.kp bF .nil pass0 (pa_cons (pv 1) (pa_cons (pv 2) pa_nil))))
      (pss_cons (ps_if (pt_cmpR op_notN (pv 3) pe_non (nomark _)) (pss_one (ps_raiseTwo O GB rfl hr2 (takes_of rfl rfl rfl rfl) (by rfl) (pa_cons (pv 0) (pa_cons (pv 3) pa_nil)))) pss_nil)
      (pss_one (ps_ret (pe_lc (own := [("word", 4), ("form", 5)]) (g := gTup K 2 (gCons (gName 4) (gCons (gName 5) gNil))) (tt := tYes) rfl scTold.nd (pi_zipLT (by rfl) mz (pa_cons (pv 1) (pa_cons (pv 2) pa_nil))) (blkOk_by (N := ["line", "words", "forms", "wrong", "word", "form"]) (sc := defScope sTold) (by decide +kernel))
        (fun _ _ _ _ _ => pg_tup rfl (pgs_cons (pg_name (i := 4) scTold.nd rfl (Or.inl rfl)) (pgs_cons (pg_name (i := 5) scTold.nd rfl (Or.inl rfl)) pgs_nil))) (fun _ _ _ _ _ => pts_nil)
        (fun _ _ _ _ _ => pe_call GV hr1 (by rfl) gV FV.kp bV .nil pass0 (pa_cons (pv 4) (pa_cons (pv 5) pa_nil))))))), ?_⟩
    refine ⟨_, rfl, _, rfl, a, ft, ws, fs, rfl, SqL.of ha, hf0, fun _ s => SqL.of (s _ _ ha), hf, hz, fun H1 s1 => ?_⟩
    cases hw : fw ws fs 0 with
    | some n =>
      refine ⟨_, rfl, rfl, _, rfl, ite2 (fun _ => ?_) (fun e => absurd rfl e)⟩
      exact ⟨_, rfl, _, rfl, mkTwoV rfl fun d H' s _ e => qn n hw d H' (s1.trans s) e⟩
    | none =>
      refine ⟨_, rfl, rfl, _, rfl, ite2 (fun e => nomatch e) (fun _ => ?_)⟩
      obtain ⟨hlen, hall⟩ := fw_none hw
      refine ⟨_, rfl, _, rfl, a, ft, _, _, rfl, SqL.of (s1 _ _ ha), hf _ s1, fun D hD => ?_⟩
      refine lc_it (walk_zipLT rfl) (fun i H' => Same H1 H' ∧ H' D = some (.lst (valsOf (ws.take i) (fs.take i)))) ⟨same_upd0 hD, upd_same⟩ (fun _ _ _ y => ⟨SqL.of (y.1 _ _ (s1 _ _ ha)), hf _ (s1.trans y.1)⟩) ?_ ?_
      · rintro i x H2 H3 hi ⟨s2, hDi⟩ ⟨T0, u, y, rfl, hT0, rfl, hu, hy⟩
        replace hu : (ws.map V.str)[i]? = some u := hu
        replace hy : (fs.map V.str)[i]? = some y := hy
        rw [List.getElem?_map] at hu hy
        obtain ⟨wm, hwm, rfl⟩ : ∃ wm, ws[i]? = some wm ∧ u = .str wm := by
          cases e : ws[i]? with
          | none => rw [e] at hu; cases hu
          | some m => rw [e] at hu; exact ⟨m, rfl, (Option.some.inj hu).symm⟩
        obtain ⟨fm, hfm, rfl⟩ : ∃ fm, fs[i]? = some fm ∧ y = .str fm := by
          cases e : fs[i]? with
          | none => rw [e] at hy; cases hy
          | some m => rw [e] at hy; exact ⟨m, rfl, (Option.some.inj hy).symm⟩
        have s3 := s2.trans (same_upd0 (o := .tup [.str wm, .str fm]) hT0)
        have hD3 := (same_upd0 (o := .tup [.str wm, .str fm]) hT0) _ _ hDi
        have hg := hall i wm fm hwm hfm
        refine ⟨T0, _, rfl, SqT.of upd_same, rfl, _, _, rfl, _, _, rfl, rfl, rfl, _, rfl, _, rfl, wm, fm, rfl, hz _ (List.mem_of_getElem? hwm), form_num hg, fun H4 s4 => ⟨_, s4 _ _ hD3, ?_, Same.over (s3.trans s4) hD, ?_⟩⟩
        · unfold valsOf
          rw [List.length_map, List.length_zip, List.length_take, List.length_take]
          have := sizeLine_eq
          omega
        · rw [upd_same]
          have e1 : ws.take (i + 1) = ws.take i ++ [wm] := by rw [List.take_add_one, hwm]; rfl
          have e2 : fs.take (i + 1) = fs.take i ++ [fm] := by rw [List.take_add_one, hfm]; rfl
          have lw : i < ws.length := (List.getElem?_eq_some_iff.mp hwm).1
          have lf : i < fs.length := (List.getElem?_eq_some_iff.mp hfm).1
          unfold valsOf
          rw [e1, e2, List.zip_append (by rw [List.length_take, List.length_take]; omega), List.map_append]
          rfl
      · rintro H2 ⟨s2, hDi⟩
        rw [List.length_map, List.length_map, List.take_of_length_le (by omega), List.take_of_length_le (by omega)] at hDi
        exact qy hw _ D (s1.trans s2) (s1.free hD) hDi
end
end K11

/-! x, *y = a list -/
namespace So
open PySem PySem.Spec PySem.Calls PyProof.Rows L2
section
variable {prog : Program} {w : World} {A : Around} {E : Value → Shared → Prop} {s : Shared}
theorem unpack_starL {l : Addr} {items : Array Value} {n i : Nat} {Q : List Value → Shared → Prop} (hl : s.heap.IsList l items) (hh : A.handled = none) (hi : i < n) (hn : n ≤ items.size + 1) (hz : items.size ≤ 16384)
    (h : ∀ h₂ tk, (∀ b o, b ≠ s.heap.objs.size → s.heap.get? b = some o → h₂.get? b = some o) →
      wpAny (model prog w) A (newList ((items.toList.drop i).take (items.size + 1 - n))) (fun d s' => Q (items.toList.take i ++ [d] ++ (items.toList.drop i).drop (items.size + 1 - n)) s') E { s with heap := h₂, toks := tk }) :
    wpAny (model prog w) A (unpackItems (.ref l) n (some i)) Q E s := by
  have hlt : l ≠ s.heap.objs.size := by obtain ⟨o, ho, _⟩ := hl; exact Nat.ne_of_lt (Heap.lt_size ho)
  have hll : l < s.heap.objs.size := by obtain ⟨o, ho, _⟩ := hl; exact Heap.lt_size ho
  unfold unpackItems
  refine wpAny_bind ?_
  unfold notIterableAtAll
  refine wpAny_bind (wpAny_specialOf hl.typeIs PySem.F.slot_list_iter.lookup ?_)
  refine wpAny_pure ?_
  simp only [Bool.false_eq_true, if_false]
  refine wpAny_bind (wpAny_holding (wpAny_pyIter_list hl ?_))
  refine wpAny_bind (wpAny_holding (PySem.W.kun_draw hlt i 0 _ _ ⟨_, Heap.get?_push_size _ rfl, rfl, rfl⟩ (hl.push _) (by omega) fun h₁ hit₁ hs₁ => ?_))
  have hl₁ : h₁.IsList l items := (hl.push _).extBut hs₁.extBut hlt
  rw [Nat.zero_add] at hit₁
  have hit₁' := hit₁
  obtain ⟨oi, hoi, _⟩ := hit₁'
  have hl₁' := hl₁
  obtain ⟨ol, hol, _⟩ := hl₁'
  rw [List.drop_zero]
  have hfl : (items.toList.take i).length = i := by rw [List.length_take, Array.length_toList]; omega
  rw [if_neg (show ¬ ((items.toList.take i).length < i) by rw [hfl]; omega)]
  refine wpAny_bind (wpAny_holding (PySem.W.kun_collect (s := { s with heap := h₁ }) (T := "list_iterator") (.inr (.inr (.inl rfl))) (Walks.list (A := A.in1) hh s.heap.objs.size l hlt items) (fun j u st => st.1.typeIs) (k := i) (by omega) ⟨hit₁, hl₁⟩ (Heap.lt_size hoi) (Heap.lt_size hol) (fun h₂ tk hk => ?_) (by rw [sizeLine_eq]; omega)))
  have hrl : (items.toList.drop i).length = items.size - i := by rw [List.length_drop, Array.length_toList]
  have hmid : (items.toList.drop i).length - (n - 1 - i) = items.size + 1 - n := by rw [hrl]; omega
  show wpAny _ _ (if (items.toList.drop i).length < n - 1 - i then _ else _) _ _ _
  rw [if_neg (by rw [hrl]; omega)]
  show wpAny _ _ (newList ((items.toList.drop i).take ((items.toList.drop i).length - (n - 1 - i))) >>= fun d => pure (items.toList.take i ++ [d] ++ (items.toList.drop i).drop ((items.toList.drop i).length - (n - 1 - i)))) _ _ _
  rw [hmid]
  have he : Heap.ExtBut s.heap.objs.size s.heap h₂ := fun b o hb e => hk b o hb (hs₁.extBut b o hb (Heap.get?_push_of_some _ e))
  exact wpAny_bind (wpAny_mono (h h₂ tk he) (fun d s' z => wpAny_pure z) fun _ _ z => z)
end
section
variable {X : Cx} {t0 t1 : Expr} {t : TGs} {k : Nat} {pos p3 : Pos}
theorem pg_star (hc : X.calm = true) (h : PGs X [t0, t1] t) (he : (assignEach [t0, .Starred t1 p3] X.env).map (·.2) = (assignEach [t0, t1] X.env).map (·.2) := by rfl) (hn : (assignEach [t0, .Starred t1 p3] X.env).length = 2 := by rfl)
    (hst : (assignEach [t0, .Starred t1 p3] X.env).findIdx? (·.1) = some 1 := by rfl) :
    PG X (.Tuple [t0, .Starred t1 p3] k pos) (fun v σ H Q => ∃ a x xs, v = .ref a ∧ SqL X.K H a (x :: xs) ∧ xs.length ≤ 1000 ∧ ∀ D, H D = none → t [x, .ref D] σ (upd H D (.lst xs)) Q) := by
  refine ⟨fun pins s σ H v u Q I r hw => ?_⟩
  obtain ⟨a, x, xs, rfl, hq, hz, hw⟩ := hw
  cases r
  obtain ⟨its, rv, hl, _⟩ := I.list hq
  cases rv with
  | @cons _ u0 _ us r1 r2 =>
    rw [assign_Tuple]
    refine wpAny_bind (wpAny_standAt ?_)
    unfold unpack
    rw [hn, hst, he]
    have hlen := r2.length
    refine wpAny_bind (wpAny_holding (unpack_starL (isL hl) (I.ok.hd hc) (by decide) (by simp) (by simp; omega) fun h₂ tk hx => ?_))
    have I1 : Inv X pins σ H { s with heap := h₂, toks := tk } := I.kept (t' := tk) fun b o e => hx b o (Nat.ne_of_lt (Heap.lt_size e)) e
    have hd : ((u0 :: us).toArray.toList.drop 1).take ((u0 :: us).toArray.size + 1 - 2) = us := by simp
    rw [hd]
    refine wpAny_newList ?_ (by rw [sizeLine_eq]; omega)
    have hf : H h₂.objs.size = none := I1.hok.fresh (Nat.le_refl _)
    have I2 : Inv X pins σ (upd H h₂.objs.size (.lst xs)) { s with heap := h₂.push { cls := .type "list", data := .seq us.toArray }, toks := tk } :=
      I1.laid (t' := tk) (fun b u e => Heap.get?_push_of_some _ e) (Nat.le_refl _) ⟨by rw [sizeLine_eq]; omega, us, 0, r2, Heap.get?_push_size _ rfl⟩
    have el : (u0 :: us).toArray.toList.take 1 ++ [Value.ref h₂.objs.size] ++ List.drop ((u0 :: us).toArray.size + 1 - 2) (List.drop 1 (u0 :: us).toArray.toList) = [u0, .ref h₂.objs.size] := by simp
    show wpAny _ _ (assignInOrder _ ((u0 :: us).toArray.toList.take 1 ++ [Value.ref h₂.objs.size] ++ List.drop ((u0 :: us).toArray.size + 1 - 2) (List.drop 1 (u0 :: us).toArray.toList))) _ _ _
    rw [el]
    exact h.run pins _ σ _ [x, .ref h₂.objs.size] [u0, .ref h₂.objs.size] Q I2 (.cons r1 (.cons rfl .nil)) (hw _ hf)
end
end So

namespace So
open PySem PySem.Spec PyProof.Rows L2
section
variable {X : Cx} {CX : CXT} {k : Nat} {C p g : Addr} {mc : Value} {fd : FuncData} {ps : List Str} {sp : Sp} {E : L2.St → XK} {o e : Expr} {es : List Expr} {m : Str} {pos apos : Pos} {ta : TE} {t : TA} {pl : Sem Bool}
/-- C.m(e, ..), m a classmethod, in a try's body -/
theorem pe_cmethS (he : PE X o ta) (r : ClX.CRead X.K C mc) (c : ClX.CMet X.K C mc m p g) (F : FnOk X.prog X.w X.K X.mg X.base CX k g fd ps sp) (hb : Binds X.K fd ps []) (hr : Room k X.A) (hx : ∀ σ, PassesAt CX X σ (E σ)) (ha : PA X (e :: es) t)
    (hst : starEach (e :: es) X.env = (false, eval e X.env) :: starEach es X.env := by rfl) (hpl : (backTo pos (starEach es X.env)).any (·.1) = false := by rfl)
    (ht : eval (.Call (.Attribute o m apos) (e :: es) [] pos) X.env = (do
      let ov ← eval o X.env
      standAt apos.atName
      let (f, first) ← holding [ov] (getMethod ov m pl)
      callWith pos f first (backTo pos (starEach (e :: es) X.env)) (backToKw pos (keywordEach [] X.env))) := by rfl) :
    PE X (.Call (.Attribute o m apos) (e :: es) [] pos) (fun σ H Q => ta σ H fun x H1 => x = .ref C ∧ t σ H1 fun vs H2 => sp (.ref C :: vs) H2 Q (E σ)) := by
  refine ⟨fun pins s σ H Q I h => ?_⟩
  refine PySem.W.methodCall_KW (pl := pl) (thn (he.run pins s σ H _ I h) fun u s1 ⟨x, H1, I1, rx, ex, q⟩ => ?_) ht
  subst ex
  obtain rfl : u = Value.ref C := rx
  refine ClX.getmethcm_ok I1 r c fun s2 I2 => ?_
  refine ClX.callwith_cm I2 (ClX.base_none I1 (Nat.le_refl _)) c.fi (thn (ha.run pos _ s2 σ H1 _ I2 q) fun us s3 ⟨vs, H2, I3, rv, q2⟩ => ⟨⟨ClX.pin_at I3, I3.kIn⟩, ?_⟩) hst hpl
  have z : wpAny (model X.prog X.w) X.A (call (.ref s1.heap.objs.size) us) (EP X ((s1.heap.objs.size, PySem.W.methodObj (.ref g) (.ref C)) :: pins) σ Q) X.xe s3 := by
    refine wpAny_call (PySem.W.method_call (ClX.pin_at I3) ?_)
    have hl : (Value.ref C :: us).length = ps.length := by rw [← F.len _ _ _ _ q2, List.length_cons, List.length_cons, rv.length]
    have b := hb s3 (.ref C :: us) I3.kIn (by rw [List.append_nil]; exact hl)
    rw [List.append_nil] at b
    refine codeAny_mono (F.run X.A X.stack s3 H2 ⟨.ref C :: us, []⟩ (.ref C :: us) (.ref C :: vs) Q (E σ) hr I3.env0 b (.cons rfl rv) q2) fun r s' hq => ?_
    cases r with
    | error e => exact hx σ _ H2 s3 e s' I3 hq
    | ok fl =>
      cases fl with
      | ret u => exact I3.after hq
      | next => exact False.elim hq
      | brk => exact False.elim hq
      | cont => exact False.elim hq
  exact thn z fun _ _ y => ClX.unpinE y
end
end So

namespace K11
open PySem PySem.Spec PyProof.Rows L2 So LamX StX TL
abbrev sReadRow : Stmt := topS 43
abbrev sRowRead : Stmt := inClass (topS 28) 1
theorem scReadRow : FnScope ["line", "words", "kind", "_", "told"] ["line", "words"] (defScope sReadRow) := ⟨rfl, rfl, rfl, by decide +kernel, rfl, by decide +kernel, by decide +kernel⟩
theorem scRowRead : FnScope ["cls", "text"] ["cls", "text"] (defScope sRowRead) := ⟨rfl, rfl, rfl, by decide +kernel, rfl, by decide +kernel, by decide +kernel⟩
/-- the first word of a row's words that cannot stand -/
def rowBad : List Str → Option Nat
  | [] => some 0
  | kind :: as => if kinds.contains kind = true then fw (kind :: as) (kind :: formsOf kind) 0 else some 0
theorem foldl_ge : ∀ (cs : List Nat) (a : Nat), NumText.AllDigits cs → a ≤ cs.foldl (fun acc c => acc * 10 + (c - 48)) a
  | [], a, _ => Nat.le_refl _
  | c :: cs, a, h => by
    rw [List.foldl_cons]
    exact Nat.le_trans (by omega) (foldl_ge cs (a * 10 + (c - 48)) h.tail)
theorem num_pos {z : Str} (h : isNum z = true) (h0 : ¬ z = ("0" : Str)) : 1 ≤ numOf z := by
  have h' := h
  unfold isNum at h'
  simp only [Bool.and_eq_true, Bool.or_eq_true, decide_eq_true_eq] at h'
  obtain ⟨⟨⟨l1, _⟩, hd⟩, h3⟩ := h'
  have hall := all_dig hd
  rcases h3 with e | ⟨e, _⟩
  · exact absurd e h0
  · unfold numOf NumText.digitsVal
    cases q : z.cps.toList with
    | nil =>
      have : z.length = z.cps.toList.length := Array.length_toList.symm
      rw [q] at this
      simp at this
      omega
    | cons c r =>
      rw [q] at e hall
      have hc := hall.head
      have e : c ≠ 48 := e
      rw [List.foldl_cons]
      exact Nat.le_trans (by omega) (foldl_ge r _ hall.tail)
theorem val_ok {f z : Str} (hf : f ∈ (["name", "moment", "beginning", "truth"] : List Str)) (h : hasForm f z = true) : okF f (valOf f z) = true := by
  simp only [List.mem_cons, List.not_mem_nil, or_false] at hf
  rcases hf with e | e | e | e <;> subst e
  · rw [okF_n]; exact h
  · rw [okF_m]
    have h : isNum z = true := h
    have := (isNum_le h).2.2.2
    exact decide_eq_true ⟨by omega, this⟩
  · rw [okF_b]
    have h : (isNum z && !decide (z = ("0" : Str))) = true := h
    rw [Bool.and_eq_true] at h
    have h0 : ¬ z = ("0" : Str) := by simpa using h.2
    have := (isNum_le h.1).2.2.2
    have := num_pos h.1 h0
    exact decide_eq_true ⟨by omega, by omega⟩
  · rw [okF_t]; rfl
theorem ok_flat {f : Str} {v : V} (hf : f ∈ (["name", "moment", "beginning", "truth"] : List Str)) (o : okF f v = true) : Flat1 v := by
  simp only [List.mem_cons, List.not_mem_nil, or_false] at hf
  rcases hf with e | e | e | e <;> subst e
  · rw [okF_n] at o
    cases v with
    | str z => exact .nam o
    | _ => cases o
  · rw [okF_m] at o
    cases v with
    | int i => exact .mom (of_decide_eq_true o)
    | _ => cases o
  · rw [okF_b] at o
    cases v with
    | int i => have : 1 ≤ i ∧ i ≤ 1000000000000000000000000000000 := of_decide_eq_true o; exact .mom ⟨by omega, this.2⟩
    | _ => cases o
  · rw [okF_t] at o
    cases v with
    | bl b => exact .tru b
    | _ => cases o
theorem none_bad {CN CM CS : Addr} : ∀ {l : List (V × Str)}, (∀ q ∈ l, okF q.2 q.1 = true) → badL CN CM CS l = none
  | [], _ => rfl
  | (v, f) :: r, h => by
    unfold badL
    rw [if_pos (h (v, f) List.mem_cons_self)]
    exact none_bad fun q hq => h q (List.mem_cons_of_mem _ hq)
theorem flat_bad {CN CM CS : Addr} {kind : Str} {xs : List V} (h : FlatRow kind xs) : badL CN CM CS (xs.zip (formsOf kind)) = none := none_bad fun q hq => (h.2 q hq).1
/-- the words of a row that stands tell a row that stands -/
theorem read_flat {kind : Str} {as : List Str} (hk : kind ∈ kinds) (h : fw (kind :: as) (kind :: formsOf kind) 0 = none) : FlatRow kind (valsOf as (formsOf kind)) := by
  obtain ⟨hlen, hall⟩ := fw_none h
  have hf := forms_in kind hk
  have hl : as.length = (formsOf kind).length := by simpa using hlen
  refine ⟨by unfold valsOf; rw [List.length_map, List.length_zip, hl, Nat.min_self], fun q hq => ?_⟩
  obtain ⟨i, hi, e⟩ := List.mem_iff_getElem.mp hq
  have hz : ((valsOf as (formsOf kind)).zip (formsOf kind))[i]? = some q := by rw [List.getElem?_eq_getElem hi, e]
  obtain ⟨v, f⟩ := q
  rw [List.getElem?_zip_eq_some] at hz
  obtain ⟨h1, h2⟩ := hz
  have h2 : (formsOf kind)[i]? = some f := h2
  have h1 : (valsOf as (formsOf kind))[i]? = some v := h1
  unfold valsOf at h1
  rw [List.getElem?_map] at h1
  cases ez : (as.zip (formsOf kind))[i]? with
  | none => rw [ez] at h1; cases h1
  | some p =>
    rw [ez] at h1
    obtain ⟨a, f'⟩ := p
    have ez' := ez
    rw [List.getElem?_zip_eq_some] at ez'
    obtain ⟨g1, g2⟩ := ez'
    have g2 : (formsOf kind)[i]? = some f' := g2
    rw [h2] at g2
    cases g2
    have h1 : valOf f a = v := by simpa using h1
    subst h1
    have hff := hf f (List.mem_of_getElem? h2)
    have o := val_ok hff (hall (i + 1) a f (by simpa using g1) (by simpa using h2))
    exact ⟨o, ok_flat hff o⟩
theorem kind_form : ∀ kind ∈ kinds, (hasForm kind kind = true) ∧ valOf kind kind = .str kind := by decide +kernel
theorem kind_in {kind : Str} (h : kinds.contains kind = true) : kind ∈ kinds := List.contains_iff_mem.mp h
section
variable {P : Program} {w : World} {K : PySem.W.Frag} {mg : Str → Option Value} {base : Heap}
theorem flat_gv {v : V} (h : Flat1 v) (H : Hp) : ∃ T, Gv H v T := by
  cases h with
  | nam h => exact ⟨_, .str _ (Nat.le_trans (name_len h) (by decide))⟩
  | mom h => exact ⟨_, .int _⟩
  | tru b => exact ⟨_, .bl b⟩
/-- what the top says of Row, to those who read -/
structure RdK (K : PySem.W.Frag) (mg : Str → Option Value) (CR aK : Addr) : Prop where
  gR : mg "Row" = some (.ref CR)
  rd : ClX.CRead K CR (.type "type")
  kv : ClX.CVal K CR (.type "type") "KINDS" (.ref aK) (.ref aK)
  ks : ∀ H : Hp, SqT K H aK (kinds.map V.str)
def spReadRow (Cf : Str → Addr) (CB : Addr) : Sp := fun vs H Q E => ∃ (line : Int) (a : Addr) (ws : List Str), vs = [.int line, .ref a] ∧ H a = some (.lst (ws.map V.str)) ∧ ws ≠ [] ∧ (∀ z ∈ ws, z.length ≤ 2000) ∧
  (∀ kind as, ws = kind :: as → kind ∈ kinds → fw ws (kind :: formsOf kind) 0 = none → ∀ (H' : Hp) (b : Addr), Same H H' → RowAt Cf H' b kind (valsOf as (formsOf kind)) → Q (.ref b) H') ∧
  ∀ n : Nat, rowBad ws = some n → ∀ d H', Same H H' → H' d = some (.xd [("word", .int (n : Nat)), ("line", .int line)]) → E (.ref CB) (some d) H'
theorem ok_readRow {CN CM CS CB CR aK aF f fB fT fR : Addr} {Cf : Str → Addr} {fd fdB fdT fdR : FuncData} (F : Fun K "read_row" "read_row" sReadRow f fd) (RK : RdK K mg CR aK) (TF : Forms K w mg aF) (O : TwoE K mg "BadText" "line" "word" CB fB fdB) (GB : FnOk P w K mg base CX0 1 fB fdB ["self", "line", "word"] (spTwoE CB "line" "word"))
    (FT : Fun K "told_by" "told_by" sTold fT fdT) (bT : Binds K fdT ["line", "words", "forms"] []) (gT : mg "told_by" = some (.ref fT)) (GT : FnOk P w K mg base (L2.CX P w) 4 fT fdT ["line", "words", "forms"] (spTold K CB))
    (FR : Fun K "made_row" "made_row" sMadeRow fR fdR) (bR : Binds K fdR ["kind", "told"] []) (gR : mg "made_row" = some (.ref fR)) (GR : FnOk P w K mg base (L2.CX P w) 8 fR fdR ["kind", "told"] (spMadeRow K CN CM CS Cf)) :
    FnOk P w K mg base (L2.CX P w) 9 f fd ["line", "words"] (spReadRow Cf CB) := by
  refine F.okX scReadRow (fun vs H Q E h => ?_) (fun cdv A outer s H vs Q E hr h => ?_)
  · obtain ⟨_, _, _, rfl, _⟩ := h
    rfl
  · obtain ⟨line, a, ws, rfl, ha, hne, hz, qy, qn⟩ := h
    have hr2 : Room 2 _ := hr.mono (by decide)
    have hr4 : Room 4 _ := hr.mono (by decide)
    refine ⟨_, pss_cons (ps_set (i := 2) scReadRow.nd rfl (.inl rfl) (pe_ix ix_list (pv 1) pe_int (fun _ _ => rfl)))
      (pss_cons (ps_if (pt_cmpR op_notIn_seq (pv 2) (ClX.pe_cval (pe_glob (v := .ref CR) rfl RK.gR rfl)) (by rfl)) (pss_one (ps_raiseTwo O GB rfl hr2 (takes_of rfl rfl rfl rfl) (by rfl) (pa_cons (pv 0) (pa_cons pe_int pa_nil)))) pss_nil)
      (pss_cons (ps_asg (pe_call GT hr4 (by rfl) gT FT.kp bT .nil (passes_call (takes_of rfl rfl rfl rfl) (fun _ _ _ _ h => h)) (pa_cons (pv 0) (pa_cons (pv 1) (pa_cons (pe_tup (pa_cons (pv 2) (pa_star (pe_ix ix_kdict (pe_glob (v := .ref aF) rfl TF.mgF rfl) (pv 2) (fun _ _ => rfl)) pa_nil))) pa_nil))))
        (pg_star rfl (pgs_cons (pg_name (i := 3) scReadRow.nd rfl (Or.inl rfl)) (pgs_cons (pg_name (i := 4) scReadRow.nd rfl (Or.inl rfl)) pgs_nil))))
      (pss_one (ps_ret (pe_call GR hr (by rfl) gR FR.kp bR .nil (passes_call (takes_of rfl rfl rfl rfl) (fun _ _ _ _ h => h)) (pa_cons (pv 2) (pa_cons (pv 4) pa_nil))))))), ?_⟩
    obtain ⟨kind, as, rfl⟩ : ∃ kind as, ws = kind :: as := by
      cases ws with
      | nil => exact absurd rfl hne
      | cons k r => exact ⟨k, r, rfl⟩
    have hsz := sizeLine_eq
    refine ⟨_, rfl, a, _, 0, _, rfl, rfl, SqL.of ha, atI_nat (j := 0) rfl, ?_⟩
    refine ⟨_, rfl, CR, _, _, _, rfl, RK.rd, RK.kv, aK, _, rfl, .inr (RK.ks H), rfl, flat_strs kinds, ?_⟩
    rw [show (if true = true then !inV (V.str kind) (kinds.map V.str) else inV (V.str kind) (kinds.map V.str)) = !kinds.contains kind from by rw [if_pos rfl, inV_strs kind kinds]]
    refine ⟨_, rfl, ?_⟩
    cases hc : kinds.contains kind with
    | false =>
      refine iteT ?_
      refine ⟨_, rfl, mkTwoV rfl fun d H' s _ e => qn 0 (by show (if kinds.contains kind = true then _ else some 0) = some 0; rw [hc]; rfl) d H' s e⟩
    | true =>
      have hk := kind_in hc
      obtain ⟨fa, hd, hft⟩ := TF.tab kind hk
      have hrb : rowBad (kind :: as) = fw (kind :: as) (kind :: formsOf kind) 0 := by
        show (if kinds.contains kind = true then _ else some 0) = _
        rw [hc]
        rfl
      refine iteF ?_
      refine ⟨_, rfl, _, rfl, _, rfl, _, rfl, aF, kind, .ref fa, rfl, rfl, hd, fa, _, rfl, .inl (hft _), ?_⟩
      have h4 := forms_len kind hk
      refine ⟨by rw [List.append_nil, List.length_cons, List.length_map]; omega, fun tp htp => ?_⟩
      have e1 : V.str kind :: (((formsOf kind).map V.str) ++ []) = (kind :: formsOf kind).map V.str := by rw [List.append_nil]; rfl
      rw [e1]
      have s1 := same_upd0 (o := .tup ((kind :: formsOf kind).map V.str)) htp
      have ht1 : (upd H tp (.tup ((kind :: formsOf kind).map V.str))) tp = some (.tup ((kind :: formsOf kind).map V.str)) := upd_same
      have ha1 := s1 _ _ ha
      revert s1 ht1 ha1
      generalize upd H tp (.tup ((kind :: formsOf kind).map V.str)) = H1
      intro s1 ht1 ha1
      refine ⟨line, a, tp, kind :: as, kind :: formsOf kind, rfl, ha1, SqT.of ht1, fun _ s => SqT.of (s _ _ ht1), hz, by rw [List.length_cons]; omega, fun hw H2 l s2 nl hl => ?_, fun n hn d H' s e => qn n (by rw [hrb]; exact hn) d H' (s1.trans s) e⟩
      have hfl := read_flat hk hw
      have ev : valsOf (kind :: as) (kind :: formsOf kind) = .str kind :: valsOf as (formsOf kind) := by
        show valOf kind kind :: valsOf as (formsOf kind) = _
        rw [(kind_form kind hk).2]
      rw [ev] at hl
      have hle : (valsOf as (formsOf kind)).length ≤ 4 := by rw [hfl.1]; exact h4
      refine ⟨l, _, _, rfl, SqL.of hl, by omega, fun D hD => ?_⟩
      have s3 := s2.trans (same_upd0 (o := .lst (valsOf as (formsOf kind))) hD)
      refine ⟨_, _, rfl, _, _, rfl, rfl, ?_⟩
      refine ⟨_, rfl, _, rfl, D, kind, _, rfl, upd_same, hk, hfl.1, fun y hy => ?_, fun _ H3 b s4 B => qy kind as rfl hk hw H3 b ((s1.trans s3).trans s4) B, fun C fl v e => by rw [flat_bad hfl] at e; cases e⟩
      exact flat_gv (hfl.flat y hy) _
theorem fw_lt : ∀ {ws fs : List Str} {m n : Nat}, fw ws fs m = some n → n ≤ m + fs.length
  | ws, [], m, n, h => by
    rw [fw_end] at h
    split at h
    · cases h
    · cases h
      exact Nat.le_refl _
  | [], f :: fs, m, n, h => by
    simp [fw] at h
    omega
  | w :: ws, f :: fs, m, n, h => by
    rw [fw_cons] at h
    split at h
    · have := fw_lt h
      rw [List.length_cons]
      omega
    · cases h
      omega
/-- Row.read -/
def spRowRead (K : PySem.W.Frag) (Cf : Str → Addr) (CB : Addr) : Sp := fun vs H Q E => ∃ (C : Addr) (v : V), vs = [.ref C, v] ∧ ((∃ z : Str, v = .str z ∧ z.length ≤ 2000 ∧
    (∀ kind as, Txt.split z " " = kind :: as → kind ∈ kinds → fw (kind :: as) (kind :: formsOf kind) 0 = none → ∀ (H' : Hp) (b : Addr), Same H H' → RowAt Cf H' b kind (valsOf as (formsOf kind)) → Q (.ref b) H') ∧
    (∀ n : Nat, rowBad (Txt.split z " ") = some n → ∀ d H', Same H H' → H' d = some (.xd [("word", .int (n : Nat)), ("line", .int 0)]) → E (.ref CB) (some d) H')) ∨
  (∃ t, TyX K H v t ∧ PySem.W.kitOne K t (.type "str") = some false ∧ ∀ d H', Same H H' → H' d = some (.xd [("word", .int 0), ("line", .int 0)]) → E (.ref CB) (some d) H'))
theorem ok_rowRead {CB f fR fW : Addr} {Cf : Str → Addr} {fd fdR fdW : FuncData} (F : Fun K "read" "Row.read" sRowRead f fd) (FR : Fun K "read_row" "read_row" sReadRow fR fdR) (bR : Binds K fdR ["line", "words"] []) (gR : mg "read_row" = some (.ref fR)) (GR : FnOk P w K mg base (L2.CX P w) 9 fR fdR ["line", "words"] (spReadRow Cf CB))
    (FW : Fun K "words_of" "words_of" sWordsOf fW fdW) (bW : Binds K fdW ["text"] []) (gW : mg "words_of" = some (.ref fW)) (GW : FnOk P w K mg base (L2.CX P w) 3 fW fdW ["text"] (spWordsOf K CB)) :
    FnOk P w K mg base (L2.CX P w) 10 f fd ["cls", "text"] (spRowRead K Cf CB) := by
  refine F.okX scRowRead (fun vs H Q E h => ?_) (fun cdv A outer s H vs Q E hr h => ?_)
  · obtain ⟨_, _, rfl, _⟩ := h
    rfl
  · obtain ⟨C, v, rfl, h⟩ := h
    have hr3 : Room 3 _ := hr.mono (by decide)
    refine ⟨_, pss_one (ps_ret (pe_call GR hr (by rfl) gR FR.kp bR .nil (passes_call (takes_of rfl rfl rfl rfl) (fun _ _ _ _ h => h)) (pa_cons pe_int (pa_cons (pe_call GW hr3 (by rfl) gW FW.kp bW .nil (passes_call (takes_of rfl rfl rfl rfl) (fun _ _ _ _ h => h)) (pa_cons (pv 1) pa_nil)) pa_nil)))), ?_⟩
    rcases h with ⟨z, rfl, hz, qy, qn⟩ | ⟨t, ty, hk, q⟩
    · refine ⟨_, rfl, _, rfl, .inl ⟨z, rfl, hz, fun H1 a s1 na ha => ?_⟩⟩
      have hne : Txt.split z " " ≠ [] := fun e => by
        have := split_pos z (" " : Str)
        rw [e] at this
        simp at this
      refine ⟨0, a, _, rfl, ha, hne, fun x hx => Nat.le_trans (part_short hx) hz, fun kind as e hk hw H' b s B => ?_, fun n hn d H' s e => qn n hn d H' (s1.trans s) e⟩
      exact qy kind as e hk (by rw [e] at hw; exact hw) H' b (s1.trans s) B
    · exact ⟨_, rfl, _, rfl, .inr ⟨t, ty, hk, q⟩⟩
end
end K11

/-! d.update(e), both dicts of texts and ints -/
namespace So
open PySem PySem.Spec PyProof.Rows L2
def rDUpd : V → List V → Hp → VK → Prop := fun x vs H Q => ∃ (a b : Addr) (kvs more : List (Key × V)), x = .ref a ∧ vs = [.ref b] ∧ a ≠ b ∧ H a = some (.dK kvs) ∧ H b = some (.dK more) ∧ kvs.length + more.length ≤ sizeLine ∧ Q .non (upd H a (.dK (mergeK kvs more)))
theorem mtd_upd {X : Cx} : MtR X "dict.update" rDUpd := by
  intro pins s σ H x vs v us Q I rx rv h
  obtain ⟨a, b, kvs, more, ex, ev, ne, e, eb, hz, q⟩ := h
  subst ex
  subst ev
  obtain rfl : v = Value.ref a := rx
  obtain ⟨u, rfl, ru⟩ := rv.one
  obtain rfl : u = Value.ref b := ru
  obtain ⟨z, hd, vs, rel, dd⟩ := dk_of I.hok e
  obtain ⟨z2, hd2, vs2, rel2, dd2⟩ := dk_of I.hok eb
  refine call_meetsIn PySem.F.slot_dict_update dd.typeIs PySem.F.entry_dict_update (PySem.F.args_dict_update_2 _ _) (meets_dict_update (mixKind X.prog X.w) a b ne hd2) ⟨vs, vs2, dd, dd2, by rw [← rel.length, ← rel2.length]; exact hz, fun h' dd' dd2' hs => ?_⟩
  have he : ∃ q, h'.get? a = some q := let ⟨q, _, _, hq, _⟩ := dd'; ⟨q, hq⟩
  exact ⟨.non, _, d_write (t' := s.toks) I (by rw [e]; exact True.intro) hs he (dk_new (Nat.le_trans (length_mergeK more kvs) hz) hd (rel2.merge rel) dd'), rfl, q⟩
section
variable {X : Cx} {o e : Expr} {to : TE} {t : TA} {apos cpos : Pos}
end
end So

namespace K11
open PySem PySem.Spec PyProof.Rows L2 So LamX StX TL
/-! ### the text of what is read -/
theorem str_tl {x y : Str} (h : tl x = tl y) : x = y := ext_tl h
theorem numL_cs : ∀ {cs : List Nat}, NumText.AllDigits cs → cs ≠ [] → (numL (NumText.digitsVal cs) = cs ↔ (cs = [48] ∨ cs.headD 0 ≠ 48))
  | [], _, h => absurd rfl h
  | c :: cs, ha, _ => by
    have back : ∀ l : List Nat, NumText.AllDigits l → (l.map Char.ofNat).map Char.toNat = l := by
      intro l hl
      rw [List.map_map]
      have : l.map (Char.toNat ∘ Char.ofNat) = l.map id := List.map_congr_left fun d hd => by
        have hd2 := hl d hd
        have : ∀ k < 10, (Char.ofNat (48 + k)).toNat = 48 + k := by decide
        have := this (d - 48) (by omega)
        rw [show 48 + (d - 48) = d by omega] at this
        exact this
      rw [this, List.map_id]
    by_cases e : c = 48
    · subst e
      constructor
      · intro h
        left
        have h2 := NumText.toDigits_all (48 :: cs) ha
        unfold numL at h
        rw [h2] at h
        rw [List.dropWhile_cons] at h
        have le : (cs.dropWhile (· == 48)).length ≤ cs.length := (List.dropWhile_sublist _).length_le
        have hl := congrArg List.length h
        cases hd : cs.dropWhile (· == 48) with
        | nil =>
          simp [hd] at hl
          have : cs = [] := by
            cases cs with
            | nil => rfl
            | cons a r => simp at hl
          rw [this]
        | cons a r =>
          rw [hd] at le
          simp [hd] at hl
          simp at le
          omega
      · rintro (h | h)
        · rw [h]
          decide
        · exact absurd rfl h
    · refine ⟨fun _ => .inr e, fun _ => ?_⟩
      have hc := ha.head
      have h2 := NumText.toDigits_digitsVal cs.length (c :: cs) rfl ha (Or.inr ⟨c, cs, rfl, by omega⟩)
      unfold numL
      rw [h2, back _ ha]
theorem num_text {z : Str} (h1 : 1 ≤ z.length) (ha : z.cps.toList.all isDig = true) : (Str.ofString (toString ((numOf z : Nat) : Int)) = z) ↔ (z = ("0" : Str) ∨ z.cps.toList.headD 0 ≠ 48) := by
  have hne : z.cps.toList ≠ [] := fun e => by
    have : z.length = z.cps.toList.length := Array.length_toList.symm
    rw [e] at this
    simp at this
    omega
  have k := numL_cs (all_dig ha) hne
  have e0 : (z = ("0" : Str)) ↔ z.cps.toList = [48] := by
    constructor
    · intro h
      rw [h]
      decide +kernel
    · intro h
      refine str_tl ?_
      show z.cps.toList = _
      rw [h]
      decide +kernel
  rw [e0, ← k]
  constructor
  · intro h
    have := congrArg tl h
    rw [tl_num] at this
    exact this
  · intro h
    refine str_tl ?_
    rw [tl_num]
    exact h
theorem num_back {z : Str} (h : isNum z = true) : Str.ofString (toString ((numOf z : Nat) : Int)) = z := by
  have h' := h
  unfold isNum at h'
  simp only [Bool.and_eq_true, Bool.or_eq_true, decide_eq_true_eq] at h'
  obtain ⟨⟨⟨l1, _⟩, hd⟩, h3⟩ := h'
  exact (num_text l1 hd).mpr (h3.elim .inl fun e => .inr e.1)
theorem word_back {f z : Str} (hf : f ∈ (["name", "moment", "beginning", "truth"] : List Str)) (h : hasForm f z = true) : wordV (valOf f z) = z := by
  simp only [List.mem_cons, List.not_mem_nil, or_false] at hf
  rcases hf with e | e | e | e <;> subst e
  · rfl
  · exact num_back h
  · have h : (isNum z && !decide (z = ("0" : Str))) = true := h
    rw [Bool.and_eq_true] at h
    exact num_back h.1
  · have h : z ∈ (["sound", "unsound"] : List Str) := List.contains_iff_mem.mp h
    simp only [List.mem_cons, List.not_mem_nil, or_false] at h
    rcases h with e | e <;> subst e <;> decide +kernel
theorem words_back : ∀ {as fs : List Str}, as.length = fs.length → (∀ f ∈ fs, f ∈ (["name", "moment", "beginning", "truth"] : List Str)) → (∀ (i : Nat) (w f : Str), as[i]? = some w → fs[i]? = some f → hasForm f w = true) → (valsOf as fs).map wordV = as
  | [], [], _, _, _ => rfl
  | [], _ :: _, h, _, _ => by cases h
  | _ :: _, [], h, _, _ => by cases h
  | a :: as, f :: fs, h, hf, hh => by
    have ih := words_back (as := as) (fs := fs) (by simpa using h) (fun x hx => hf x (List.mem_cons_of_mem _ hx)) (fun i w g h1 h2 => hh (i + 1) w g (by simpa using h1) (by simpa using h2))
    show wordV (valOf f a) :: (valsOf as fs).map wordV = _
    rw [ih, word_back (hf f List.mem_cons_self) (hh 0 a f rfl rfl)]
theorem text_back {z kind : Str} {as : List Str} (hk : kind ∈ kinds) (e : Txt.split z " " = kind :: as) (h : fw (kind :: as) (kind :: formsOf kind) 0 = none) : rowText kind (valsOf as (formsOf kind)) = z := by
  obtain ⟨hlen, hall⟩ := fw_none h
  unfold rowText
  rw [words_back (by simpa using hlen) (forms_in kind hk) (fun i w f h1 h2 => hall (i + 1) w f (by simpa using h1) (by simpa using h2)), ← e, join_eq]
  exact StrLaws.join_split z " "
/-! ### the words of a row that stands -/
theorem isNum_text {z : Str} (h1 : 1 ≤ z.length) (h2 : z.length ≤ 31) (ha : z.cps.toList.all isDig = true) : isNum z = (decide (Str.ofString (toString ((numOf z : Nat) : Int)) = z) && decide (((numOf z : Nat) : Int) ≤ 1000000000000000000000000000000)) := by
  have k := num_text h1 ha
  unfold isNum
  rw [decide_eq_true h1, decide_eq_true h2, ha]
  by_cases e0 : z = ("0" : Str)
  · have : Str.ofString (toString ((numOf z : Nat) : Int)) = z := k.mpr (.inl e0)
    rw [decide_eq_true this, decide_eq_true e0, e0, zero_num]
    decide
  · rw [decide_eq_false e0]
    by_cases e1 : z.cps.toList.headD 0 ≠ 48
    · rw [decide_eq_true (k.mpr (.inr e1)), decide_eq_true e1]
      rfl
    · rw [decide_eq_false e1, decide_eq_false (fun h => (k.mp h).elim e0 e1)]
      rfl
theorem name_free {z : Str} (h : isName z = true) : 32 ∉ tl z := by
  unfold isName at h
  simp only [Bool.and_eq_true] at h
  intro hm
  have := List.all_eq_true.mp h.2 32 hm
  revert this
  decide +kernel
theorem num_of {m : Int} (h : 0 ≤ m ∧ m ≤ 1000000000000000000000000000000) : isNum (Str.ofString (toString m)) = true ∧ ((numOf (Str.ofString (toString m)) : Nat) : Int) = m ∧ 32 ∉ tl (Str.ofString (toString m)) ∧ asc (Str.ofString (toString m)) ∧ (Str.ofString (toString m)).length ≤ 31 := by
  obtain ⟨k, rfl⟩ : ∃ k : Nat, m = k := ⟨m.toNat, by omega⟩
  have e := tl_num k
  have hl : (numL k).length ≤ 31 := numL_len (by decide) (by omega)
  have hlen : (Str.ofString (toString ((k : Nat) : Int))).length = (numL k).length := by rw [TL.len_tl, e]
  have hn : numOf (Str.ofString (toString ((k : Nat) : Int))) = k := by
    show NumText.digitsVal (tl _) = k
    rw [e, numL_val]
  have hd : (Str.ofString (toString ((k : Nat) : Int))).cps.toList.all isDig = true := by
    show (tl (Str.ofString (toString ((k : Nat) : Int)))).all isDig = true
    rw [e]
    exact List.all_eq_true.mpr fun c hc => dig_of (numL_digits k c hc)
  have h1 : 1 ≤ (Str.ofString (toString ((k : Nat) : Int))).length := by
    rw [hlen]
    have := numL_ne k
    cases q : numL k with
    | nil => exact absurd q this
    | cons a r => simp
  refine ⟨?_, by rw [hn], ?_, ?_, by rw [hlen]; exact hl⟩
  · rw [isNum_text h1 (by rw [hlen]; exact hl) hd, hn, decide_eq_true rfl]
    exact decide_eq_true h.2
  · rw [e]
    exact numL_free (.inl (by decide))
  · intro c hc
    have hc : c ∈ tl (Str.ofString (toString ((k : Nat) : Int))) := hc
    rw [e] at hc
    have := numL_digits k c hc
    omega
theorem word_fwd {f : Str} {v : V} (hf : f ∈ (["name", "moment", "beginning", "truth"] : List Str)) (o : okF f v = true) : hasForm f (wordV v) = true ∧ valOf f (wordV v) = v ∧ 32 ∉ tl (wordV v) ∧ (wordV v).length ≤ 31 := by
  simp only [List.mem_cons, List.not_mem_nil, or_false] at hf
  rcases hf with e | e | e | e <;> subst e
  · rw [okF_n] at o
    cases v with
    | str z => exact ⟨o, rfl, name_free o, Nat.le_trans (name_len o) (by decide)⟩
    | _ => cases o
  · rw [okF_m] at o
    cases v with
    | int i =>
      obtain ⟨h1, h2, h3, _, h5⟩ := num_of (of_decide_eq_true o : 0 ≤ i ∧ i ≤ 1000000000000000000000000000000)
      refine ⟨h1, ?_, h3, h5⟩
      show V.int ((numOf (Str.ofString (toString i)) : Nat) : Int) = V.int i
      rw [h2]
    | _ => cases o
  · rw [okF_b] at o
    cases v with
    | int i =>
      have hi : 1 ≤ i ∧ i ≤ 1000000000000000000000000000000 := of_decide_eq_true o
      obtain ⟨h1, h2, h3, _, h5⟩ := num_of (⟨by omega, hi.2⟩ : 0 ≤ i ∧ i ≤ 1000000000000000000000000000000)
      refine ⟨?_, ?_, h3, h5⟩
      · show (isNum _ && !decide (_ = ("0" : Str))) = true
        have h0 : ¬ (Str.ofString (toString i)) = ("0" : Str) := fun e => by
          rw [e, zero_num] at h2
          omega
        rw [show isNum (wordV (.int i)) = true from h1, show decide (wordV (.int i) = ("0" : Str)) = false from decide_eq_false h0]
        rfl
      · show V.int ((numOf (Str.ofString (toString i)) : Nat) : Int) = V.int i
        rw [h2]
    | _ => cases o
  · rw [okF_t] at o
    cases v with
    | bl b => cases b <;> decide +kernel
    | _ => cases o
theorem kind_free : ∀ kind ∈ kinds, 32 ∉ tl kind := by decide +kernel
theorem row_fwd {kind : Str} {xs : List V} (hk : kind ∈ kinds) (h : FlatRow kind xs) : fw (xs.map wordV) (formsOf kind) 1 = none ∧ valsOf (xs.map wordV) (formsOf kind) = xs ∧ (∀ w ∈ xs.map wordV, 32 ∉ tl w ∧ w.length ≤ 31) := by
  obtain ⟨hl, h2⟩ := h
  have hf := forms_in kind hk
  generalize 1 = m
  generalize formsOf kind = fo at hl h2 hf
  induction xs generalizing fo m with
  | nil =>
    cases fo with
    | nil => exact ⟨rfl, rfl, fun _ h => nomatch h⟩
    | cons _ _ => cases hl
  | cons u r ih =>
    cases fo with
    | nil => cases hl
    | cons f fr =>
      obtain ⟨i1, i2, i3⟩ := ih (m + 1) fr (by simpa using hl) (fun q hq => h2 q (by rw [List.zip_cons_cons]; exact List.mem_cons_of_mem _ hq)) (fun x hx => hf x (List.mem_cons_of_mem _ hx))
      obtain ⟨w1, w2, w3, w4⟩ := word_fwd (hf f List.mem_cons_self) (h2 (u, f) (by rw [List.zip_cons_cons]; exact List.mem_cons_self)).1
      refine ⟨?_, ?_, fun w hw => ?_⟩
      · rw [List.map_cons, fw_cons, if_pos w1]
        exact i1
      · show valOf f (wordV u) :: valsOf (r.map wordV) fr = _
        rw [w2, i2]
      · rcases List.mem_cons.mp hw with e | e
        · rw [e]; exact ⟨w3, w4⟩
        · exact i3 w e
theorem row_split {kind : Str} {xs : List V} (hk : kind ∈ kinds) (h : FlatRow kind xs) : Txt.split (rowText kind xs) " " = kind :: xs.map wordV := by
  obtain ⟨_, _, h3⟩ := row_fwd hk h
  refine TL.split_join (y := " ") (s := 32) (S := []) (by decide +kernel) (by decide +kernel) (by simp) fun p hp => ?_
  rcases List.mem_cons.mp hp with e | e
  · rw [e]; exact kind_free kind hk
  · exact (h3 p e).1
theorem row_fw {kind : Str} {xs : List V} (hk : kind ∈ kinds) (h : FlatRow kind xs) : fw (kind :: xs.map wordV) (kind :: formsOf kind) 0 = none := by
  rw [fw_cons, if_pos (kind_form kind hk).1]
  exact (row_fwd hk h).1
section
variable {X : Cx} {Cf : Str → Addr} {f : Addr} {fd : FuncData}
theorem cr_strA (G : FnOk X.prog X.w X.K X.mg X.base CX0 2 f fd ["self"] (spStrR Cf)) (s : ∀ kind ∈ kinds, PySem.W.findIn X.K (.ref (Cf kind)) "__str__" = some (some (.ref f))) (i : PySem.W.isFn X.K (.ref f) = true) (b : Binds X.K fd ["self"] []) (hr : Room 4 X.A) :
    CallR X (.type "str") (fun xs H Q => ∃ kind, kind ∈ kinds ∧ ∃ a dx fs, xs = [.ref a] ∧ H a = some (.ins (Cf kind) dx fs) ∧ spStrR Cf [.ref a] H (fun v H' => ∃ t : Str, v = .str t ∧ Q (.str t) H') (fun _ _ _ => False)) :=
  cr_ex fun kind hk => call_strOwn (C := Cf kind) G (s kind hk) i b pass0 hr
theorem op_eqA {CR : Addr} (G : FnOk X.prog X.w X.K X.mg X.base CX0 1 f fd ["self", "other"] (spEqG X.K CR Cf)) (s : ∀ kind ∈ kinds, PySem.W.findIn X.K (.ref (Cf kind)) "__eq__" = some (some (.ref f))) (i : PySem.W.isFn X.K (.ref f) = true) (b : Binds X.K fd ["self", "other"] []) (hr : Room 1 X.A) :
    OpR X (compareOp .Eq) (fun x y H Q => ∃ kind, kind ∈ kinds ∧ rOwn (Cf kind) X.K (spEqG X.K CR Cf) (fun _ _ _ => False) id x y H Q) := op_ex fun kind hk => op_eqOwn (C := Cf kind) G (s kind hk) i b pass0 hr
end
/-! ### flat values as data that repr tells -/
theorem flat_ok {v : V} (h : Flat1 v) : ∃ d, OkD 3000 12 d ∧ ∀ (K : PySem.W.Frag) (H : Hp), Dd K H v d := by
  cases h with
  | nam h => exact ⟨_, (OkD.str (name_small h) (Nat.le_trans (name_len h) (by decide))).mono (by decide) (by decide), fun _ _ => .str _⟩
  | mom h => exact ⟨_, (OkD.int (by omega)).mono (by decide) (by decide), fun _ _ => .int _⟩
  | tru b => exact ⟨_, (OkD.bool b).mono (by decide) (by decide), fun _ _ => .bl b⟩
theorem flats_ok : ∀ {xs : List V}, (∀ v ∈ xs, Flat1 v) → ∃ ds : List PyData, ds.length = xs.length ∧ (∀ d ∈ ds, OkD 3000 12 d) ∧ ∀ (K : PySem.W.Frag) (H : Hp), DdAll K H xs ds
  | [], _ => ⟨[], rfl, (fun _ h => nomatch h), fun _ _ => .nil⟩
  | v :: r, h => by
    obtain ⟨d, h1, h2⟩ := flat_ok (h v List.mem_cons_self)
    obtain ⟨ds, g1, g2, g3⟩ := flats_ok (xs := r) fun x hx => h x (List.mem_cons_of_mem _ hx)
    exact ⟨d :: ds, by rw [List.length_cons, List.length_cons, g1], fun x hx => (List.mem_cons.mp hx).elim (fun e => e ▸ h1) (g2 x), fun K H => .cons (h2 K H) (g3 K H)⟩
theorem list_repr {ds : List PyData} (h : ∀ d ∈ ds, OkD 3000 12 d) (hl : ds.length ≤ 8) : (PyData.list ds).showable = true ∧ (PyData.list ds).depth ≤ 60 ∧ (PyData.list ds).shown.length ≤ sizeLine :=
  (OkD.list (n := 3000) (m := 12) h).repr (by decide) (by omega)
theorem tup_repr {ds : List PyData} (h : ∀ d ∈ ds, OkD 3000 12 d) (hl : ds.length ≤ 8) : (PyData.tuple ds).showable = true ∧ (PyData.tuple ds).depth ≤ 60 ∧ (PyData.tuple ds).shown.length ≤ sizeLine :=
  (OkD.tuple (n := 3000) (m := 12) h).repr (by decide) (by omega)
theorem strs_mem : ∀ {xs : List V} {k : Str}, k ∈ strsOf xs → V.str k ∈ xs
  | v :: r, k, h => by
    cases v with
    | str z =>
      rcases List.mem_cons.mp h with e | e
      · rw [e]; exact List.mem_cons_self
      · exact List.mem_cons_of_mem _ (strs_mem e)
    | _ => exact List.mem_cons_of_mem _ (strs_mem h)
theorem ints_mem : ∀ {xs : List V} {k : Int}, k ∈ intsOf xs → V.int k ∈ xs
  | v :: r, k, h => by
    cases v with
    | int z =>
      rcases List.mem_cons.mp h with e | e
      · rw [e]; exact List.mem_cons_self
      · exact List.mem_cons_of_mem _ (ints_mem e)
    | _ => exact List.mem_cons_of_mem _ (ints_mem h)
/-- which kind stands in for another -/
def likeOf (kind : Str) : Option Str := if kind = "setby" then some "passed" else if kind = "passed" then some "failed" else if kind = "failed" then some "passed" else if kind = "agreed" then some "served" else if kind = "served" then some "backed" else if kind = "differed" then some "agreed" else if kind = "backed" then some "differed" else none
end K11

namespace K11
open PySem PySem.Spec PyProof.Rows L2 So LamX StX TL
abbrev sRight : Stmt := topS 59
abbrev rightN : List Str := ["_law_row", "_law_made_here", "_law_twin", "_law_kind", "_law_likes"]
theorem scRight : FnScope rightN ["_law_row"] (defScope sRight) := ⟨rfl, rfl, rfl, by decide +kernel, rfl, by decide +kernel, by decide +kernel⟩
def kvsA : List (Key × V) := [(.inr "setby", .str "passed"), (.inr "passed", .str "failed"), (.inr "failed", .str "passed"), (.inr "agreed", .str "served"), (.inr "served", .str "backed")]
def kvsB : List (Key × V) := [(.inr "differed", .str "agreed"), (.inr "backed", .str "differed")]
theorem likes_val : ∀ kind ∈ kinds, valV (mergeK (mergeK [] kvsA) (mergeK [] kvsB)) (.inr kind) = (likeOf kind).map V.str := by decide +kernel
theorem like_all : ∀ kind ∈ kinds, (match likeOf kind with
    | none => true
    | some lk => kinds.contains lk && !decide (kind = lk) && (decide (formsOf lk = formsOf kind) || (decide (kind = "setby") && decide (lk = "passed")))) = true := by decide +kernel
theorem like_row {kind lk : Str} {xs : List V} (hk : kind ∈ kinds) (e : likeOf kind = some lk) (h : FlatRow kind xs) : lk ∈ kinds ∧ ¬ kind = lk ∧ FlatRow lk xs := by
  have a := like_all kind hk
  rw [e] at a
  simp only [Bool.and_eq_true, Bool.or_eq_true, Bool.not_eq_true', decide_eq_true_eq, decide_eq_false_iff_not] at a
  obtain ⟨⟨a1, a2⟩, a3⟩ := a
  refine ⟨List.contains_iff_mem.mp a1, a2, ?_⟩
  rcases a3 with f | ⟨f1, f2⟩
  · unfold FlatRow at h ⊢
    rw [f]
    exact h
  · subst f1 f2
    obtain ⟨hl, h2⟩ := h
    have e1 : formsOf "setby" = (["name", "beginning", "name"] : List Str) := by decide +kernel
    have e2 : formsOf "passed" = (["name", "moment", "name"] : List Str) := by decide +kernel
    rw [e1] at hl h2
    unfold FlatRow
    rw [e2]
    refine ⟨hl, ?_⟩
    match xs, hl with
    | [v0, v1, v2], _ =>
      intro q hq
      have h0 := h2 (v0, "name") (by simp)
      have h1 := h2 (v1, "beginning") (by simp)
      have h3 := h2 (v2, "name") (by simp)
      simp only [List.zip_cons_cons, List.zip_nil_right, List.mem_cons, List.not_mem_nil, or_false] at hq
      rcases hq with z | z | z <;> subst z
      · exact h0
      · refine ⟨?_, h1.2⟩
        have o := h1.1
        rw [okF_b] at o
        rw [okF_m]
        cases v1 with
        | int i =>
          have hi : 1 ≤ i ∧ i ≤ 1000000000000000000000000000000 := of_decide_eq_true o
          exact decide_eq_true (⟨by omega, hi.2⟩ : 0 ≤ i ∧ i ≤ 1000000000000000000000000000000)
        | _ => cases o
      · exact h3
def kText {α : Type} : List α → List α → List α
  | [u], [w] => [u, w]
  | _, _ => []
/-- what of rows the law calls -/
structure Mths (K : PySem.W.Frag) (P : Program) (w : World) (mg : Str → Option Value) (base : Heap) (Cf : Str → Addr) (CR aK CB CBg CCh CMe : Addr) : Prop where
  W : Words K mg
  T : RowsC K mg Cf CR
  R : RdK K mg CR aK
  B : Bases K mg Cf CBg CCh CMe
  S : SetE mg
  rpr : mg "repr" = none
  lst : mg "list" = none
  nf : ∀ kind ∈ kinds, ∀ k2 ∈ kinds, PySem.W.notFirst K (Cf kind) (.ref (Cf k2)) = true
  nft : ∀ kind ∈ kinds, PySem.W.notFirst K (Cf kind) (.type "tuple") = true
  kt : PySem.W.kitOne K (.type "tuple") (.ref CR) = some false
  eq : ∃ (f : Addr) (fd : FuncData), (∀ kind ∈ kinds, PySem.W.findIn K (.ref (Cf kind)) "__eq__" = some (some (.ref f))) ∧ PySem.W.isFn K (.ref f) = true ∧ Binds K fd ["self", "other"] [] ∧ FnOk P w K mg base CX0 1 f fd ["self", "other"] (spEqG K CR Cf)
  str : ∃ (f : Addr) (fd : FuncData), (∀ kind ∈ kinds, PySem.W.findIn K (.ref (Cf kind)) "__str__" = some (some (.ref f))) ∧ PySem.W.isFn K (.ref f) = true ∧ Binds K fd ["self"] [] ∧ FnOk P w K mg base CX0 2 f fd ["self"] (spStrR Cf)
  read : ∃ (p g : Addr) (fd : FuncData), ClX.CMet K CR (.type "type") "read" p g ∧ KBinds K fd ["cls", "text"] ["text"] kText kText ∧ FnOk P w K mg base (L2.CX P w) 10 g fd ["cls", "text"] (spRowRead K Cf CB)
  tools : ∃ (p f : Addr) (fd : FuncData), (∀ kind ∈ kinds, PropOf K (Cf kind) "tools" p f) ∧ Binds K fd ["self"] [] ∧ FnOk P w K mg base CX0 2 f fd ["self"] (spTools Cf)
  moments : ∃ (p f : Addr) (fd : FuncData), (∀ kind ∈ kinds, PropOf K (Cf kind) "moments" p f) ∧ Binds K fd ["self"] [] ∧ FnOk P w K mg base CX0 2 f fd ["self"] (spMoments Cf)
  begins : ∃ (p f : Addr) (fd : FuncData), (∀ kind ∈ kinds, PropOf K (Cf kind) "begins" p f) ∧ Binds K fd ["self"] [] ∧ FnOk P w K mg base CX0 1 f fd ["self"] (spBegins Cf)
end K11

namespace K11
open PySem PySem.Spec PyProof.Rows L2 So LamX StX TL
theorem passNo {X : Cx} {P : Program} {w : World} : Passes (L2.CX P w) X (fun _ _ _ => False) := fun _ _ _ _ _ _ _ h => by
  obtain ⟨_, _, _, _, _, _, _, _, _, _, _, _, hE⟩ := h
  exact hE.elim
theorem Flat1.gv {v : V} (h : Flat1 v) (H : Hp) : ∃ T, Gv H v T := by
  cases h with
  | nam h => exact ⟨_, .str _ (Nat.le_trans (name_len h) (by decide))⟩
  | mom h => exact ⟨_, .int _⟩
  | tru b => exact ⟨_, .bl b⟩
section
variable {P : Program} {w : World} {K : PySem.W.Frag} {mg : Str → Option Value} {base : Heap}
theorem eqA_of {Cf : Str → Addr} {CR aK CB CBg CCh CMe a b : Addr} {H : Hp} {kind k2 : Str} {xs ys : List V} {Q : VK} {v : Bool} (M : Mths K P w mg base Cf CR aK CB CBg CCh CMe) (hk : kind ∈ kinds) (hf : FlatRow kind xs) (A : RowAt Cf H a kind xs) (hk2 : k2 ∈ kinds) (hf2 : FlatRow k2 ys) (B : RowAt Cf H b k2 ys)
    (hv : (decide (kind = k2) && alike xs ys) = v) (h : Q (.bl v) H) : ∃ kind, kind ∈ kinds ∧ rOwn (Cf kind) K (spEqG K CR Cf) (fun _ _ _ => False) id (.ref a) (.ref b) H Q := by
  obtain ⟨d1, fs1, h1, t1⟩ := id A
  obtain ⟨d2, fs2, h2, t2⟩ := id B
  refine ⟨kind, hk, a, d1, fs1, .ref (Cf k2), rfl, h1, .base (.ins h2 (M.T.c k2 hk2).cl (M.T.ha k2 hk2) M.T.hn M.T.htk (M.T.hm k2 hk2)), M.nf kind hk k2 hk2, a, kind, xs, _, rfl, hk, hf, A, .inl ⟨b, k2, ys, rfl, hk2, hf2, B, _, rfl, ?_⟩⟩
  rw [hv]
  exact h
theorem eqA_tup {Cf : Str → Addr} {CR aK CB CBg CCh CMe a b : Addr} {H : Hp} {kind : Str} {xs ys : List V} {Q : VK} (M : Mths K P w mg base Cf CR aK CB CBg CCh CMe) (hk : kind ∈ kinds) (hf : FlatRow kind xs) (A : RowAt Cf H a kind xs) (B : H b = some (.tup ys))
    (h : Q (.bl false) H) : ∃ kind, kind ∈ kinds ∧ rOwn (Cf kind) K (spEqG K CR Cf) (fun _ _ _ => False) id (.ref a) (.ref b) H Q := by
  obtain ⟨d1, fs1, h1, t1⟩ := id A
  exact ⟨kind, hk, a, d1, fs1, .type "tuple", rfl, h1, .base (.tup B), M.nft kind hk, a, kind, xs, _, rfl, hk, hf, A, .inr ⟨_, .base (.tup B), M.kt, _, rfl, h⟩⟩
theorem row_len {kind : Str} {xs : List V} (hk : kind ∈ kinds) (h : FlatRow kind xs) : (rowText kind xs).length ≤ 2000 := by
  have hl4 : xs.length ≤ 4 := by rw [h.1]; exact forms_len kind hk
  have h2 := kind_len kind hk
  have h3 := join_len (kind :: xs.map wordV)
  have hs : ∀ ws : List Str, (∀ w ∈ ws, w.length ≤ 31) → (ws.map (·.length)).sum ≤ 31 * ws.length := by
    intro ws
    induction ws with
    | nil => intro _; exact Nat.le_refl _
    | cons a r ih =>
      intro h
      have := h a List.mem_cons_self
      have := ih fun x hx => h x (List.mem_cons_of_mem _ hx)
      simp only [List.map_cons, List.sum_cons, List.length_cons]
      omega
  have h1 := hs (xs.map wordV) fun w hw => ((row_fwd hk h).2.2 w hw).2
  rw [List.length_map] at h1
  rw [List.map_cons, List.sum_cons, List.length_cons, List.length_map] at h3
  show (Txt.join " " (kind :: xs.map wordV)).length ≤ 2000
  omega
theorem forms_some : ∀ kind ∈ kinds, 1 ≤ (formsOf kind).length := by decide +kernel
def spRight : Sp := fun vs H Q _ => ∃ (r : Addr) (kind : Str) (xs : List V), vs = [.ref r] ∧ H r = some (.tup (.str kind :: xs)) ∧ kind ∈ kinds ∧ FlatRow kind xs ∧ ∀ H', Same H H' → Q (.bl true) H'
theorem ok_right {CN CM CS CR aK CB CBg CCh CMe f fM fY fA fN fU fBr : Addr} {Cf : Str → Addr} {fd fdM fdY fdA fdN fdU fdBr : FuncData} (F : Fun K "_law_right" "_law_right" sRight f fd) (M : Mths K P w mg base Cf CR aK CB CBg CCh CMe)
    (FM : Fun K "_law_made" "_law_made" sMade fM fdM) (bM : Binds K fdM ["_law_row"] []) (gM : mg "_law_made" = some (.ref fM)) (GM : FnOk P w K mg base (L2.CX P w) 8 fM fdM ["_law_row"] (spMade CN CM CS Cf))
    (FY : Fun K "_law_by_name" "_law_by_name" sByName fY fdY) (bY : Binds K fdY ["_law_row"] []) (gY : mg "_law_by_name" = some (.ref fY)) (GY : FnOk P w K mg base (L2.CX P w) 8 fY fdY ["_law_row"] (spMade CN CM CS Cf))
    (FA : Fun K "_law_attributes" "_law_attributes" sAttr fA fdA) (bA : Binds K fdA ["_law_made_here", "_law_kind"] []) (gA : mg "_law_attributes" = some (.ref fA)) (GA : FnOk P w K mg base CX0 1 fA fdA ["_law_made_here", "_law_kind"] (spAttr Cf))
    (FN : Fun K "_law_named" "_law_named" sNamed fN fdN) (bN : Binds K fdN ["_law_row"] []) (gN : mg "_law_named" = some (.ref fN)) (GN : FnOk P w K mg base CX0 1 fN fdN ["_law_row"] (spNamed isS))
    (FU : Fun K "_law_ticks" "_law_ticks" sTicks fU fdU) (bU : Binds K fdU ["_law_row"] []) (gU : mg "_law_ticks" = some (.ref fU)) (GU : FnOk P w K mg base CX0 1 fU fdU ["_law_row"] (spNamed isI))
    (FB : Fun K "_law_bases_right" "_law_bases_right" sBr fBr fdBr) (bB : Binds K fdBr ["_law_made_here", "_law_kind"] []) (gB : mg "_law_bases_right" = some (.ref fBr)) (GB : FnOk P w K mg base CX0 2 fBr fdBr ["_law_made_here", "_law_kind"] (spBr Cf)) :
    FnG P w K mg base CX0 12 f fd ["_law_row"] spRight := by
  obtain ⟨f1, fd1, s1, i1, b1, G1⟩ := M.eq
  obtain ⟨f2, fd2, s2, i2, b2, G2⟩ := M.str
  obtain ⟨p3, g3, fd3, c3, b3, G3⟩ := M.read
  obtain ⟨p4, f4, fd4, h4, b4, G4⟩ := M.tools
  obtain ⟨p5, f5, fd5, h5, b5, G5⟩ := M.moments
  obtain ⟨p6, f6, fd6, h6, b6, G6⟩ := M.begins
  refine fnG_of F scRight (fun vs H Q E h => ?_) (fun cdv A outer s H vs Q E hg hr h => ?_)
  · obtain ⟨_, _, _, rfl, _⟩ := h
    rfl
  · obtain ⟨r, kind, xs, rfl, hx, hk, hf, q⟩ := h
    have hr1 : Room 1 _ := hr.mono (by decide)
    have hr2 : Room 2 _ := hr.mono (by decide)
    have hr3 : Room 3 _ := hr.mono (by decide)
    have hr4 : Room 4 _ := hr.mono (by decide)
    have hr8 : Room 8 _ := hr.mono (by decide)
    have hr10 : Room 10 _ := hr.mono (by decide)
    refine ⟨_, (pss_cons (ps_par (i := 1) (j := 2) (by rfl) scRight.nd rfl rfl (by decide) rfl rfl (pa_cons (pe_call GM hr8 (by rfl) gM FM.kp bM .nil passNo (pa_cons (pv 0) pa_nil)) (pa_cons (pe_call GY hr8 (by rfl) gY FY.kp bY .nil passNo (pa_cons (pv 0) pa_nil)) pa_nil)) (by rfl))
      (pss_cons (ps_set (i := 3) scRight.nd rfl (.inl rfl) (pe_ix ix_tup (pv 0) pe_int (fun _ _ => rfl)))
      (pss_cons (ps_if (PW.pt (pw_or (pt_cmpR op_ne (pe_callB (call_reprG hg hr.units) (by rfl) M.rpr (by decide +kernel) (pa_cons (pe_call GA hr1 (by rfl) gA FA.kp bA .nil pass0 (pa_cons (pv 1) (pa_cons (pv 3) pa_nil))) pa_nil))
            (pe_callB (call_reprG hg hr.units) (by rfl) M.rpr (by decide +kernel) (pa_cons (pe_callTy call_list_of (by rfl) M.lst (by decide +kernel) (pa_cons (pe_slice sl_tup (pv 0) (po_some pe_int) po_none) pa_nil)) pa_nil)) (nomark _))
          (pw_or1 (pt_cmpR op_ne (pe_fld (pv 1) (by rfl)) (pv 3) (nomark _))))) (pss_one (ps_ret pe_bl)) pss_nil)
      (pss_cons (ps_if (pt_cmpR op_ne (pe_callB (call_reprG hg hr.units) (by rfl) M.rpr (by decide +kernel) (pa_cons (pe_ex (p := fun kind => kind ∈ kinds) fun kind hk => pe_prop (pv 1) (M.T.c kind hk).cl (h4 kind hk) G4 hr3 b4 .nil pass0 (by rfl)) pa_nil))
            (pe_callB (call_reprG hg hr.units) (by rfl) M.rpr (by decide +kernel) (pa_cons (pe_callTy call_tuple_of (by rfl) M.S.tup (by decide +kernel) (pa_cons (pe_callB (cr_sortSS rfl) (by rfl) M.S.srt (by decide +kernel) (pa_cons (pe_callTy (cr_setS rfl) (by rfl) M.S.set (by decide +kernel) (pa_cons (pe_call GN hr1 (by rfl) gN FN.kp bN .nil pass0 (pa_cons (pv 0) pa_nil)) pa_nil)) pa_nil)) pa_nil)) pa_nil)) (nomark _)) (pss_one (ps_ret pe_bl)) pss_nil)
      (pss_cons (ps_if (pt_cmpR op_ne (pe_callB (call_reprG hg hr.units) (by rfl) M.rpr (by decide +kernel) (pa_cons (pe_ex (p := fun kind => kind ∈ kinds) fun kind hk => pe_prop (pv 1) (M.T.c kind hk).cl (h5 kind hk) G5 hr3 b5 .nil pass0 (by rfl)) pa_nil))
            (pe_callB (call_reprG hg hr.units) (by rfl) M.rpr (by decide +kernel) (pa_cons (pe_callTy call_tuple_of (by rfl) M.S.tup (by decide +kernel) (pa_cons (pe_callB (cr_sortedSet rfl) (by rfl) M.S.srt (by decide +kernel) (pa_cons (pe_callTy (cr_setI2 rfl) (by rfl) M.S.set (by decide +kernel) (pa_cons (pe_call GU hr1 (by rfl) gU FU.kp bU .nil pass0 (pa_cons (pv 0) pa_nil)) pa_nil)) pa_nil)) pa_nil)) pa_nil)) (nomark _)) (pss_one (ps_ret pe_bl)) pss_nil)
      (pss_cons (ps_if (PW.pt (pw_or (pt_cmpR op_ne (pe_callB (call_reprG hg hr.units) (by rfl) M.rpr (by decide +kernel) (pa_cons (pe_ex (p := fun kind => kind ∈ kinds) fun kind hk => pe_prop (pv 1) (M.T.c kind hk).cl (h6 kind hk) G6 hr2 b6 .nil pass0 (by rfl)) pa_nil))
            (pe_callB (call_reprG hg hr.units) (by rfl) M.rpr (by decide +kernel) (pa_cons (pe_cmpR op_in_seq (pv 3) (pe_tup (pa_cons pe_str (pa_cons pe_str pa_nil))) (by rfl)) pa_nil)) (nomark _))
          (pw_or1 (pt_not (pt_val (pe_call GB hr2 (by rfl) gB FB.kp bB .nil pass0 (pa_cons (pv 1) (pa_cons (pv 3) pa_nil)))))))) (pss_one (ps_ret pe_bl)) pss_nil)
      (pss_cons (ps_set (i := 4) scRight.nd rfl (.inl rfl) (pe_disp (pps_cons pe_str pe_str (pps_cons pe_str pe_str (pps_cons pe_str pe_str (pps_cons pe_str pe_str (pps_cons pe_str pe_str pps_nil))))) rfl rfl (by simp) (by decide)))
      (pss_cons (ps_expr (pe_bm PySem.F.plainAttrs_dict PySem.F.slot_dict_update PySem.F.type_dict_update mtd_upd (pv 4) (pa_cons (pe_disp (pps_cons pe_str pe_str (pps_cons pe_str pe_str pps_nil)) rfl rfl (by simp) (by decide)) pa_nil)))
      (pss_cons (ps_cut (ps_if (PW.pt (pw_and (pt_cmp (pc_din (hu_of hr) (pv 3) (pv 4))) (pw_and1 (pt_cmpR (op_eqA G1 s1 i1 b1 hr1) (pv 1) (pe_call GM hr8 (by rfl) gM FM.kp bM .nil passNo (pa_cons (pe_op op_catT (pe_tup (pa_cons (pe_dget (hu_of hr) (pv 4) (pv 3) (fun _ _ => rfl)) pa_nil)) (pe_slice sl_tup (pv 0) (po_some pe_int) po_none)) pa_nil)) (nomark _))))) (pss_one (ps_ret pe_bl)) pss_nil))
      (pss_cons (ps_if (pt_not (pt_cmpR (op_eqA G1 s1 i1 b1 hr1) (pe_cmethK (pe_glob (v := .ref CR) (by rfl) M.R.gR (by rfl)) M.R.rd c3 G3 b3 hr10 passNo (pk_cons (pe_callTy (cr_strA G2 s2 i2 b2 hr4) (by rfl) M.W.str (by decide +kernel) (pa_cons (pv 1) pa_nil)) pk_nil)) (pv 1) (nomark _))) (pss_one (ps_ret pe_bl)) pss_nil)
      (pss_one (ps_ret (pe_and (pe_cmpR (op_eqA G1 s1 i1 b1 hr1) (pv 1) (pv 2) (nomark _)) (pe_and (pe_cmpR op_eq (pe_callB (call_reprG hg hr.units) (by rfl) M.rpr (by decide +kernel) (pa_cons (pe_call GA hr1 (by rfl) gA FA.kp bA .nil pass0 (pa_cons (pv 2) (pa_cons (pv 3) pa_nil))) pa_nil))
            (pe_callB (call_reprG hg hr.units) (by rfl) M.rpr (by decide +kernel) (pa_cons (pe_callTy call_list_of (by rfl) M.lst (by decide +kernel) (pa_cons (pe_slice sl_tup (pv 0) (po_some pe_int) po_none) pa_nil)) pa_nil)) (nomark _))
          (pe_one (pe_not (pe_cmpR (op_eqA G1 s1 i1 b1 hr1) (pv 1) (pv 0) (nomark _)))))))))))))))))), ?_⟩
    have hfl := hf.flat
    have hl4 : xs.length ≤ 4 := by rw [hf.1]; exact forms_len kind hk
    have hsz := sizeLine_eq
    have hgv : ∀ (G : Hp), ∀ y ∈ xs, ∃ T, Gv G y T := fun G y hy => (hfl y hy).gv G
    have hbad : badL CN CM CS (xs.zip (formsOf kind)) = none := flat_bad hf
    have noB : ∀ {p : Prop} {C : Addr} {fl : Str} {v : V}, badL CN CM CS (xs.zip (formsOf kind)) = some (C, fl, v) → p := fun hb => by rw [hbad] at hb; cases hb
    obtain ⟨ds, d1, d2, d3⟩ := flats_ok hfl
    obtain ⟨l1, l2, l3⟩ := list_repr d2 (by omega)
    -- made, its twin
    refine ⟨_, rfl, r, kind, xs, rfl, hx, hk, hf.1, hgv _, fun _ H1 a e1 A1 => ?_, fun C fl v hb => noB hb⟩
    refine ⟨_, rfl, r, kind, xs, rfl, e1 _ _ hx, hk, hf.1, hgv _, fun _ H2 b e2 B2 => ?_, fun C fl v hb => noB hb⟩
    have A2 := A1.same e2
    have hx2 := e2 _ _ (e1 _ _ hx)
    have q2 : ∀ H', Same H2 H' → Q (.bl true) H' := fun H' s => q H' ((e1.trans e2).trans s)
    clear q e1 e2 A1 hx
    refine ⟨_, _, rfl, ?_⟩
    refine ⟨_, rfl, r, _, _, _, rfl, rfl, SqT.of hx2, atI_nat (j := 0) rfl, ?_⟩
    -- the attributes
    refine ⟨_, rfl, _, rfl, a, kind, xs, rfl, hk, hf.1, A2, fun H3 l e3 nl hl => ?_⟩
    refine ⟨_, _, rfl, .lst (SqL.of hl) (d3 _ _), l1, l2, l3, ?_⟩
    refine ⟨_, rfl, _, rfl, r, V.str kind :: xs, rfl, SqT.of (e3 _ _ hx2), cut1_not _ _, fun tp htp => ?_⟩
    rw [cut1]
    refine ⟨tp, xs, rfl, .inr (SqT.of upd_same), fun l' hl' => ⟨_, _, rfl, .lst (SqL.of upd_same) (d3 _ _), l1, l2, l3, rfl, _, rfl, ite2 (fun c => absurd c (by simp)) (fun _ => ?_)⟩⟩
    have e4 := e3.trans ((same_upd0 (o := .tup xs) htp).trans (same_upd0 (o := .lst xs) hl'))
    revert e4
    generalize L2.upd (L2.upd H3 tp (.tup xs)) l' (.lst xs) = H4
    intro e4
    clear hl' htp hl nl e3
    -- the kind
    have A4 := A2.same e4
    obtain ⟨dx4, fs4, ha4, tl4⟩ := id A4
    refine ⟨_, rfl, a, _, dx4, fs4, _, rfl, ha4, (M.T.c kind hk).cl, (M.T.c kind hk).no _ (.tail _ (.head _)), tl4.1, _, rfl, rfl, _, rfl, ite2 (fun c => absurd c (by simp)) (fun _ => ?_)⟩
    -- the tools
    have hx4 := e4 _ _ hx2
    have lS := strs_len xs
    have lI := ints_len xs
    refine ⟨kind, hk, _, rfl, a, dx4, fs4, rfl, ha4, a, kind, xs, rfl, hk, hf, A4, fun H5 t5 ns e5 ht5 n1 n2 n3 n4 => ?_⟩
    have okS : ∀ v ∈ ns.map V.str, Flat1 v := fun v hv => by
      obtain ⟨z, hz, rfl⟩ := List.mem_map.mp hv
      exact hfl _ (strs_mem ((n3 z).mp hz))
    obtain ⟨ds5, a1, a2, a3⟩ := flats_ok okS
    rw [List.length_map] at a1
    obtain ⟨m1, m2, m3⟩ := tup_repr a2 (by omega)
    refine ⟨_, _, rfl, .tup (SqT.of ht5) (a3 _ _), m1, m2, m3, ?_⟩
    refine ⟨_, rfl, r, kind, xs, rfl, e5 _ _ hx4, by omega, hfl, fun H6 l6 e6 nl6 hl6 => ?_⟩
    rw [strs_filter] at hl6
    refine ⟨l6, strsOf xs, rfl, SqL.of hl6, by omega, fun p6 n6 hp6 hn6 => ⟨p6, _, n6, rfl, upd_same, by omega, fun ns' p7 k1 k2 k3 k4 hp7 => ?_⟩⟩
    obtain rfl : ns' = ns := sortedS_one k1 n1 k2 n2 fun k => by rw [k3 k, n3 k, decide_eq_true_eq]
    refine ⟨p7, _, rfl, .inl ⟨SqL.of upd_same, fun t7 ht7 => ⟨_, _, rfl, .tup (SqT.of upd_same) (a3 _ _), m1, m2, m3, rfl, _, rfl, ite2 (fun c => absurd c (by simp)) (fun _ => ?_)⟩⟩⟩
    have e7 := e4.trans (e5.trans (e6.trans ((same_upd0 hp6).trans ((same_upd0 hp7).trans (same_upd0 (o := .tup (ns'.map V.str)) ht7)))))
    clear ht7 hp7 hp6 hl6 nl6 e6 ht5 e5 k1 k2 k3 k4 n1 n2 n3 n4 okS a1 a2 a3 m1 m2 m3 hx4 ha4 A4 tl4 e4
    -- the moments
    have A7 := A2.same e7
    obtain ⟨dx7, fs7, ha7, tl7⟩ := id A7
    have hx7 := e7 _ _ hx2
    refine ⟨kind, hk, _, rfl, a, dx7, fs7, rfl, ha7, a, kind, xs, rfl, hk, hf, A7, fun H8 t8 is e8 ht8 n1 n3 n4 => ?_⟩
    have okI : ∀ v ∈ is.map V.int, Flat1 v := fun v hv => by
      obtain ⟨z, hz, rfl⟩ := List.mem_map.mp hv
      exact hfl _ (ints_mem ((n3 z).mp hz))
    obtain ⟨ds8, a1, a2, a3⟩ := flats_ok okI
    rw [List.length_map] at a1
    obtain ⟨m1, m2, m3⟩ := tup_repr a2 (by omega)
    refine ⟨_, _, rfl, .tup (SqT.of ht8) (a3 _ _), m1, m2, m3, ?_⟩
    refine ⟨_, rfl, r, kind, xs, rfl, e8 _ _ hx7, by omega, hfl, fun H9 l9 e9 nl9 hl9 => ?_⟩
    rw [ints_filter] at hl9
    refine ⟨l9, intsOf xs, rfl, SqL.of hl9, by omega, fun p9 n9 hp9 hn9 => ⟨p9, _, n9, rfl, upd_same, by omega, fun is' p10 k1 k3 k4 hp10 => ?_⟩⟩
    obtain rfl : is' = is := ints_one k1 n1 fun k => by rw [k3 k, n3 k, decide_eq_true_eq]
    refine ⟨p10, _, rfl, .inl ⟨SqL.of upd_same, fun t10 ht10 => ⟨_, _, rfl, .tup (SqT.of upd_same) (a3 _ _), m1, m2, m3, rfl, _, rfl, ite2 (fun c => absurd c (by simp)) (fun _ => ?_)⟩⟩⟩
    have e10 := e7.trans (e8.trans (e9.trans ((same_upd0 hp9).trans ((same_upd0 hp10).trans (same_upd0 (o := .tup (is'.map V.int)) ht10)))))
    clear ht10 hp10 hp9 hl9 nl9 e9 ht8 e8 k1 k3 k4 n1 n3 n4 okI a1 a2 a3 m1 m2 m3 hx7 ha7 A7 tl7 e7
    -- whether it begins
    have A10 := A2.same e10
    obtain ⟨dx10, fs10, ha10, tl10⟩ := id A10
    obtain ⟨b1', b2', b3'⟩ := (OkD.bool (begs.contains kind)).repr (by decide) (by decide)
    refine ⟨kind, hk, _, rfl, a, dx10, fs10, rfl, ha10, a, kind, xs, rfl, hk, A10, ?_⟩
    refine ⟨_, _, rfl, .bl _, b1', b2', b3', ?_⟩
    refine ⟨_, rfl, by show 2 ≤ sizeLine; decide, fun tp htp => ⟨tp, _, rfl, .inr (SqT.of upd_same), rfl, flat_strs begs, ?_⟩⟩
    rw [show (if false = true then !inV (V.str kind) [V.str "begun", V.str "setby"] else inV (V.str kind) [V.str "begun", V.str "setby"]) = begs.contains kind from inV_strs kind begs]
    refine ⟨_, _, rfl, .bl _, b1', b2', b3', rfl, _, rfl, ite2 (fun c => absurd c (by simp)) (fun _ => ?_)⟩
    have e11 := e10.trans (same_upd0 (o := .tup [V.str "begun", V.str "setby"]) htp)
    refine ⟨_, rfl, _, rfl, a, kind, xs, rfl, hk, A2.same e11, fun H12 s12 => ⟨_, rfl, iteF ?_⟩⟩
    have e12 := e11.trans s12
    clear e11 s12 htp e10 A10 ha10 tl10 b1' b2' b3'
    -- the likes
    intro dt hdt
    refine ⟨upd_same, kvsA, rfl, by decide, ?_⟩
    rw [upd_upd]
    have e13 := e12.trans (same_upd0 (o := .dK (mergeK [] kvsA)) hdt)
    have hd13 := upd_same (H := H12) (a := dt) (o := .dK (mergeK [] kvsA))
    refine ⟨_, rfl, .inr (.inr (.inl ⟨rfl, .inl ⟨_, hd13⟩⟩)), ?_⟩
    intro du hdu
    refine ⟨upd_same, kvsB, rfl, by decide, ?_⟩
    rw [upd_upd]
    have ndu : dt ≠ du := ne_of_none hd13 hdu
    refine ⟨dt, du, _, _, rfl, rfl, ndu, same_upd0 hdu _ _ hd13, upd_same, by decide, ?_⟩
    have e14 : Same H2 (L2.upd (L2.upd (L2.upd H12 dt (.dK (mergeK [] kvsA))) du (.dK (mergeK [] kvsB))) dt (.dK (mergeK (mergeK [] kvsA) (mergeK [] kvsB)))) := fun c o z => by
      have z12 := e12 c o z
      rw [upd_ne (ne_of_none z12 hdt)]
      exact same_upd0 hdu _ _ (same_upd0 hdt _ _ z12)
    have hd14 := upd_same (H := L2.upd (L2.upd H12 dt (.dK (mergeK [] kvsA))) du (.dK (mergeK [] kvsB))) (a := dt) (o := .dK (mergeK (mergeK [] kvsA) (mergeK [] kvsB)))
    revert e14 hd14
    generalize L2.upd (L2.upd (L2.upd H12 dt (.dK (mergeK [] kvsA))) du (.dK (mergeK [] kvsB))) dt (.dK (mergeK (mergeK [] kvsA) (mergeK [] kvsB))) = H14
    intro e14 hd14
    clear ndu hdu hd13 e13 hdt e12
    refine ⟨fun σ G => σ = [some (.ref r), some (.ref a), some (.ref b), some (.str kind), some (.ref dt)] ∧ Same H2 G, ?_, ?_⟩
    · refine ⟨_, rfl, _, rfl, dt, _, rfl, DGet.k (k := .inr kind) hd14, ?_⟩
      rw [likes_val kind hk]
      cases hlk : likeOf kind with
      | none => exact ⟨_, rfl, iteF ⟨rfl, e14⟩⟩
      | some lk =>
        obtain ⟨hk2, nk, hf2⟩ := like_row hk hlk hf
        have hg : DGet H14 dt (V.str kind) (some (.str lk)) := by
          have := DGet.k (k := .inr kind) hd14
          rw [likes_val kind hk, hlk] at this
          exact this
        have hbad2 : badL CN CM CS (xs.zip (formsOf lk)) = none := flat_bad hf2
        refine ⟨_, rfl, iteT ?_⟩
        refine ⟨_, rfl, _, rfl, _, rfl, dt, _, rfl, hg, by show 1 ≤ sizeLine; decide, fun tA hA => ?_⟩
        have u1 := same_upd0 (o := .tup [V.str lk]) hA
        refine ⟨_, rfl, _, rfl, r, V.str kind :: xs, rfl, SqT.of (u1 _ _ (e14 _ _ hx2)), cut1_not _ _, fun tB hB => ?_⟩
        rw [cut1]
        have u2 := same_upd0 (o := .tup xs) hB
        have hx1 := forms_some kind hk
        refine ⟨tA, tB, [.str lk], xs, rfl, rfl, SqT.of (u2 _ _ upd_same), SqT.of upd_same, by simp, by rw [List.length_singleton]; omega, (fun z => by rw [z] at hf; have := hf.1; rw [List.length_nil] at this; omega), fun _ tC hC => ?_⟩
        have u3 := same_upd0 (o := .tup ([V.str lk] ++ xs)) hC
        refine ⟨tC, lk, xs, rfl, upd_same, hk2, hf2.1, hgv _, fun _ H' c ec C' => ?_, fun C fl v hb => by rw [hbad2] at hb; cases hb⟩
        have e15 := e14.trans (u1.trans (u2.trans (u3.trans ec)))
        exact eqA_of M hk hf (A2.same e15) hk2 hf2 C' (v := false) (by rw [decide_eq_false nk]; rfl) ⟨_, rfl, iteF ⟨rfl, e15⟩⟩
    · rintro _ G ⟨rfl, eG⟩
      have AG := A2.same eG
      obtain ⟨dxG, fsG, haG, tlG⟩ := id AG
      have hsp := row_split hk hf
      have hfw := row_fw hk hf
      have hvs := (row_fwd hk hf).2.1
      have hrb : rowBad (Txt.split (rowText kind xs) " ") = none := by
        rw [hsp]
        show (if kinds.contains kind = true then fw (kind :: xs.map wordV) (kind :: formsOf kind) 0 else some 0) = none
        rw [if_pos (List.contains_iff_mem.mpr hk)]
        exact hfw
      have hl2 := row_len hk hf
      refine ⟨rfl, _, rfl, kind, hk, a, dxG, fsG, rfl, haG, a, kind, xs, rfl, hk, hf, AG, fun G1 g1 => ⟨rowText kind xs, rfl, ?_⟩⟩
      refine ⟨CR, _, rfl, .inl ⟨_, rfl, hl2, fun kind' as e hk' hw G2 c g2 C2 => ?_, fun n hn => by rw [hrb] at hn; cases hn⟩⟩
      replace C2 : RowAt Cf G2 c kind xs := by
        rw [hsp] at e
        injection e with e1 e2
        subst e1 e2
        rw [hvs] at C2
        exact C2
      clear e hw hk'
      have e15 := eG.trans (g1.trans g2)
      have self : (decide (kind = kind) && alike xs xs) = true := by rw [decide_eq_true rfl, alike_self hfl]; rfl
      refine ⟨_, rfl, eqA_of M hk hf C2 hk hf (A2.same e15) self ⟨_, rfl, iteF ?_⟩⟩
      refine ⟨_, rfl, _, rfl, eqA_of M hk hf (A2.same e15) hk hf (B2.same e15) self ⟨true, rfl, iteT ?_⟩⟩
      refine ⟨_, rfl, _, rfl, b, kind, xs, rfl, hk, hf.1, B2.same e15, fun G3 l g3 nl hl => ?_⟩
      refine ⟨_, _, rfl, .lst (SqL.of hl) (d3 _ _), l1, l2, l3, ?_⟩
      refine ⟨_, rfl, _, rfl, r, V.str kind :: xs, rfl, SqT.of (g3 _ _ (e15 _ _ hx2)), cut1_not _ _, fun tp htp => ?_⟩
      rw [cut1]
      refine ⟨tp, xs, rfl, .inr (SqT.of upd_same), fun l' hl' => ⟨_, _, rfl, .lst (SqL.of upd_same) (d3 _ _), l1, l2, l3, rfl, true, by simp, iteT ?_⟩⟩
      have e16 := e15.trans (g3.trans ((same_upd0 (o := .tup xs) htp).trans (same_upd0 (o := .lst xs) hl')))
      exact ⟨_, rfl, _, rfl, eqA_tup M hk hf (A2.same e16) (e16 _ _ hx2) ⟨_, rfl, q2 _ e16⟩⟩
end
end K11

namespace K11
open PySem PySem.Spec PyProof.Rows L2 So LamX StX TL
theorem kind_strOk : ∀ kind ∈ kinds, PyData.strOk kind = true := by decide +kernel
/-- two rows as tuples, compared -/
theorem row_two {kind k2 : Str} {xs ys : List V} (hk : kind ∈ kinds) (hk2 : k2 ∈ kinds) (hx : ∀ v ∈ xs, Flat1 v) (hy : ∀ v ∈ ys, Flat1 v) : ∃ d e : PyData, SeqAt.shaped d = true ∧ SeqAt.shaped e = true ∧ PyData.eqv d e = (decide (kind = k2) && alike xs ys) ∧
    (∀ (K : PySem.W.Frag) (H : Hp) (p : Addr), H p = some (.tup (.str kind :: xs)) → Dp K H (.ref p) d) ∧ ∀ (K : PySem.W.Frag) (H : Hp) (p : Addr), H p = some (.tup (.str k2 :: ys)) → Dp K H (.ref p) e := by
  obtain ⟨ds, h1, h2, h3, _⟩ := flat_data hx
  obtain ⟨es, g1, g2, g3, _⟩ := flat_data hy
  refine ⟨.tuple (.str kind :: ds), .tuple (.str k2 :: es), ?_, ?_, ?_, fun K H p e => .tup (SqT.of e) (.cons (.str _) (flatDs_dp h1)), fun K H p e => .tup (SqT.of e) (.cons (.str _) (flatDs_dp g1))⟩
  · unfold SeqAt.shaped
    simp [PyData.canLay0, PyData.canLayAll0, kind_strOk kind hk, h2, PyData.depth, PyData.depthAll, h3]
  · unfold SeqAt.shaped
    simp [PyData.canLay0, PyData.canLayAll0, kind_strOk k2 hk2, g2, PyData.depth, PyData.depthAll, g3]
  · unfold alike
    rw [h1, g1]
    simp only [PyData.eqv, PyData.eqvAll]
    by_cases e : kind = k2
    · subst e
      simp
    · simp [e]
theorem cutL (xs : List V) (v : V) : cutV (xs ++ [v]) none (some (-1)) = xs ∧ ¬ (HT.sIx (xs ++ [v]).length 0 none = 0 ∧ HT.sIx (xs ++ [v]).length (xs ++ [v]).length (some (-1)) = (xs ++ [v]).length) := by
  have e : HT.sIx (xs ++ [v]).length (xs ++ [v]).length (some (-1)) = xs.length := by
    unfold HT.sIx
    simp
    omega
  have e0 : HT.sIx (xs ++ [v]).length 0 none = 0 := HT.sIx_none _ _
  refine ⟨?_, fun h => ?_⟩
  · unfold cutV
    rw [e, e0]
    simp
  · rw [e] at h
    have := h.2
    rw [List.length_append, List.length_singleton] at this
    omega
def seven : List Str := ["passed", "failed", "setby", "differed", "served", "backed", "agreed"]
theorem seven_last : ∀ kind ∈ kinds, seven.contains kind = true → (formsOf kind).getLast? = some ("name" : Str) ∨ (formsOf kind).getLast? = some ("moment" : Str) := by decide +kernel
/-- another last argument -/
theorem bent_row {kind : Str} {ys : List V} {v u : V} (hk : kind ∈ kinds) (h7 : seven.contains kind = true) (h : FlatRow kind (ys ++ [v])) (hu : (∃ z n, v = .str z ∧ u = .str n ∧ isName n = true) ∨ (∃ i, u = .int i ∧ 0 ≤ i ∧ i ≤ 1000000000000000000000000000000 ∧ ∀ z, v ≠ .str z)) : FlatRow kind (ys ++ [u]) := by
  unfold FlatRow at h ⊢
  obtain ⟨hl, h2⟩ := h
  have hs := seven_last kind hk h7
  generalize formsOf kind = fo at hl h2 hs
  obtain ⟨gs, f, rfl⟩ : ∃ gs f, fo = gs ++ [f] := by
    have hne : fo ≠ [] := fun e => by rw [e] at hl; simp at hl
    exact ⟨fo.dropLast, fo.getLast hne, (List.dropLast_concat_getLast hne).symm⟩
  have hlen : ys.length = gs.length := by simpa using hl
  have hz : ∀ w : V, (ys ++ [w]).zip (gs ++ [f]) = ys.zip gs ++ [(w, f)] := fun w => by
    rw [List.zip_append hlen]
    rfl
  rw [hz] at h2
  refine ⟨by simpa using hl, fun q hq => ?_⟩
  have hv := h2 (v, f) (by simp)
  rw [hz] at hq
  rcases List.mem_append.mp hq with m | m
  · exact h2 q (List.mem_append.mpr (.inl m))
  · rw [List.mem_singleton.mp m]
    simp only [List.getLast?_append, List.getLast?_singleton, Option.some_or, Option.some.injEq] at hs
    rcases hs with e | e <;> subst e
    · have o := hv.1
      rw [okF_n] at o
      cases v with
      | str z =>
        rcases hu with ⟨z', n, e1, rfl, hn⟩ | ⟨i, _, _, _, hne⟩
        · exact ⟨by rw [okF_n]; exact hn, .nam hn⟩
        · exact absurd rfl (hne z)
      | _ => cases o
    · have o := hv.1
      rw [okF_m] at o
      cases v with
      | int j =>
        rcases hu with ⟨z', n, e1, _⟩ | ⟨i, rfl, i1, i2, _⟩
        · cases e1
        · exact ⟨by rw [okF_m]; exact decide_eq_true ⟨i1, i2⟩, .mom ⟨i1, i2⟩⟩
      | _ => cases o
end K11

namespace K11
open PySem PySem.Spec PyProof.Rows L2 So LamX StX TL
abbrev sLaw : Stmt := topS 60
abbrev lawN : List Str := ["_law_script", "_law_pen_here", "_law_crew", "_law_rows", "_law_row", "_law_mate", "_law_bent", "_law_k", "_law_kind"]
theorem scLaw : FnScope lawN ["_law_script"] (defScope sLaw) := ⟨rfl, rfl, rfl, by decide +kernel, rfl, by decide +kernel, by decide +kernel⟩
/-- at t there stands a row as a tuple -/
def RowT (H : Hp) (t : Addr) : Prop := ∃ (kind : Str) (xs : List V), H t = some (.tup (.str kind :: xs)) ∧ kind ∈ kinds ∧ FlatRow kind xs
theorem RowT.off {H H' : Hp} {t p : Addr} {zs : List V} (h : RowT H t) (hp : H p = some (.lst zs)) (o : Off p H H') : RowT H' t := by
  obtain ⟨kind, xs, e, r⟩ := h
  exact ⟨kind, xs, o _ _ (ne_of e hp (fun z => nomatch z)) e, r⟩
theorem RowT.same {H H' : Hp} {t : Addr} (h : RowT H t) (s : Same H H') : RowT H' t := by
  obtain ⟨kind, xs, e, r⟩ := h
  exact ⟨kind, xs, s _ _ e, r⟩
theorem RowT.put {H : Hp} {t D : Addr} {zs : List V} {o : HO} (h : RowT H t) (hD : H D = some (.lst zs)) : RowT (L2.upd H D o) t := by
  obtain ⟨kind, xs, e, r⟩ := h
  exact ⟨kind, xs, by rw [upd_ne (ne_of e hD (fun z => nomatch z))]; exact e, r⟩
theorem noBad {CN CM CS : Addr} {kind : Str} {xs : List V} (hf : FlatRow kind xs) {q : Prop} {C : Addr} {fl : Str} {v : V} (hb : badL CN CM CS (xs.zip (formsOf kind)) = some (C, fl, v)) : q := by
  rw [flat_bad hf] at hb
  cases hb
theorem flat_gvs {kind : Str} {xs : List V} (hf : FlatRow kind xs) (G : Hp) : ∀ y ∈ xs, ∃ T, Gv G y T := fun y hy => (hf.flat y hy).gv G
theorem kinds_data (K : PySem.W.Frag) (H : Hp) : ∀ ks : List Str, DdAll K H (ks.map V.str) (ks.map PyData.str)
  | [] => .nil
  | k :: r => .cons (.str k) (kinds_data K H r)
theorem kinds_ok : ∀ d ∈ kinds.map PyData.str, OkD 3000 12 d := by
  intro d hd
  obtain ⟨k, hk, rfl⟩ := List.mem_map.mp hd
  exact (OkD.str (kind_asc k hk) (Nat.le_trans (kind_len k hk) (by decide))).mono (by decide) (by decide)
section
variable {P : Program} {w : World} {K : PySem.W.Frag} {mg : Str → Option Value} {base : Heap}
def spLaw (K : PySem.W.Frag) : Sp := fun vs H Q _ => ∃ (a : Addr) (ns : List Int), vs = [.ref a] ∧ SqL K H a (ns.map V.int) ∧ ∀ H', Q (.bl true) H'
theorem ok_law {CN CM CS CR aK CB CBg CCh CMe f fM fPen fLn fKi fD fDr fPk fTi fRt : Addr} {Cf : Str → Addr} {fd fdM fdPen fdLn fdKi fdD fdDr fdPk fdTi fdRt : FuncData} (F : Fun K "law" "law" sLaw f fd) (M : Mths K P w mg base Cf CR aK CB CBg CCh CMe) (mr : mg "range" = none)
    (FM : Fun K "_law_made" "_law_made" sMade fM fdM) (bM : Binds K fdM ["_law_row"] []) (gM : mg "_law_made" = some (.ref fM)) (GM : FnOk P w K mg base (L2.CX P w) 8 fM fdM ["_law_row"] (spMade CN CM CS Cf))
    (FPen : Fun K "_law_pen" "_law_pen" sPen fPen fdPen) (bPen : Binds K fdPen ["_law_script"] []) (gPen : mg "_law_pen" = some (.ref fPen)) (GPen : FnOk P w K mg base CX0 1 fPen fdPen ["_law_script"] (spPen K))
    (FLn : Fun K "_law_name" "_law_name" sLName fLn fdLn) (bLn : Binds K fdLn ["_law_pen_here"] []) (gLn : mg "_law_name" = some (.ref fLn)) (GLn : FnOk P w K mg base CX0 3 fLn fdLn ["_law_pen_here"] spLName)
    (FK : Fun K "_law_kinds" "_law_kinds" sKinds fKi fdKi) (bK : Binds K fdKi [] []) (gK : mg "_law_kinds" = some (.ref fKi)) (GK : FnOk P w K mg base CX0 1 fKi fdKi [] spKinds)
    (FD : Fun K "_law_draw" "_law_draw" sDraw fD fdD) (bD : Binds K fdD ["_law_pen_here", "_law_many"] []) (gD : mg "_law_draw" = some (.ref fD)) (GD : FnOk P w K mg base CX0 1 fD fdD ["_law_pen_here", "_law_many"] spDraw)
    (FDr : Fun K "_law_drawn" "_law_drawn" sDrawn fDr fdDr) (bDr : Binds K fdDr ["_law_pen_here", "_law_crew", "_law_kinds_here"] []) (gDr : mg "_law_drawn" = some (.ref fDr)) (GDr : FnOk P w K mg base CX0 4 fDr fdDr ["_law_pen_here", "_law_crew", "_law_kinds_here"] spDrawn)
    (FPk : Fun K "_law_pick" "_law_pick" sPick fPk fdPk) (bPk : Binds K fdPk ["_law_pen_here", "_law_some"] []) (gPk : mg "_law_pick" = some (.ref fPk)) (GPk : FnOk P w K mg base CX0 2 fPk fdPk ["_law_pen_here", "_law_some"] (spPick K))
    (FTi : Fun K "_law_tick" "_law_tick" sTick fTi fdTi) (bTi : Binds K fdTi ["_law_pen_here"] []) (gTi : mg "_law_tick" = some (.ref fTi)) (GTi : FnOk P w K mg base CX0 3 fTi fdTi ["_law_pen_here"] spTick)
    (FRt : Fun K "_law_right" "_law_right" sRight fRt fdRt) (bRt : Binds K fdRt ["_law_row"] []) (gRt : mg "_law_right" = some (.ref fRt)) (GRt : FnG P w K mg base CX0 12 fRt fdRt ["_law_row"] spRight) :
    FnG P w K mg base CX0 14 f fd ["_law_script"] (spLaw K) := by
  obtain ⟨f1, fd1, s1, i1, b1, G1⟩ := M.eq
  refine fnG_of F scLaw (fun vs H Q E h => ?_) (fun cdv A outer s H vs Q E hg hr h => ?_)
  · obtain ⟨_, _, rfl, _⟩ := h
    rfl
  · obtain ⟨a, ns, rfl, hS, q⟩ := h
    have hr1 : Room 1 _ := hr.mono (by decide)
    have hr2 : Room 2 _ := hr.mono (by decide)
    have hr3 : Room 3 _ := hr.mono (by decide)
    have hr4 : Room 4 _ := hr.mono (by decide)
    have hr8 : Room 8 _ := hr.mono (by decide)
    have hr12 : Room 12 _ := hr.mono (by decide)
    refine ⟨_, (pss_cons (ps_set (i := 1) scLaw.nd rfl (.inr rfl) (pe_call GPen hr1 (by rfl) gPen FPen.kp bPen .nil pass0 (pa_cons (pv 0) pa_nil)))
      (pss_cons (ps_if (pt_cmpR op_ne (pe_callB (call_reprG hg hr.units) (by rfl) M.rpr (by decide +kernel) (pa_cons (ClX.pe_cval (pe_glob (v := .ref CR) (by rfl) M.R.gR (by rfl))) pa_nil)) (pe_callB (call_reprG hg hr.units) (by rfl) M.rpr (by decide +kernel) (pa_cons (pe_callTy call_tuple_of (by rfl) M.S.tup (by decide +kernel) (pa_cons (pe_call0 GK hr1 (by rfl) gK FK.kp bK .nil pass0) pa_nil)) pa_nil)) (nomark _)) (pss_one (ps_ret pe_bl)) pss_nil)
      (pss_cons (ps_set (i := 2) scLaw.nd rfl (.inr rfl) (pe_lc (own := [("_law_k", 7)]) (g := gName 7) (tt := tYes) rfl scLaw.nd (pi_range1 (by rfl) mr (pa_cons (pe_op op_add pe_int (pe_call GD hr1 (by rfl) gD FD.kp bD .nil pass0 (pa_cons (pv 1) (pa_cons pe_int pa_nil)))) pa_nil)) (blkOk_by (N := lawN) (sc := defScope sLaw) (by decide +kernel)) (fun _ _ _ _ _ => pg_name (i := 7) scLaw.nd rfl (Or.inl rfl)) (fun _ _ _ _ _ => pts_nil)
          (fun _ _ _ _ _ => pe_call GLn hr3 (by rfl) gLn FLn.kp bLn .nil pass0 (pa_cons (pv 1) pa_nil))))
      (pss_cons (ps_setLc (i := 3) (own := [("_law_kind", 8)]) (g := gName 8) (tt := tYes) rfl scLaw.nd rfl rfl (sw_true rfl rfl rfl (by decide +kernel)) (pi_list (pe_op op_cat (pe_call0 GK hr1 (by rfl) gK FK.kp bK .nil pass0) (pe_call0 GK hr1 (by rfl) gK FK.kp bK .nil pass0))) (blkOk_by (N := lawN) (sc := defScope sLaw) (by decide +kernel)) (fun _ _ _ _ _ => pg_name (i := 8) scLaw.nd rfl (Or.inl rfl)) (fun _ _ _ _ _ => pts_nil)
          (fun _ _ _ _ _ => pe_call GDr hr4 (by rfl) gDr FDr.kp bDr .nil pass0 (pa_cons (pv 1) (pa_cons (pv 2) (pa_cons (pe_lst (pa_cons (pv 8) pa_nil)) pa_nil)))))
      (pss_cons (ps_for PassesOwn.never rfl (pi_list (pv 3)) (pg_name (i := 4) scLaw.nd rfl (Or.inl rfl))
        (pss_one (ps_if (pt_not (pt_val (pe_callG GRt hg hr12 (by rfl) gRt FRt.kp bRt .nil pass0 (pa_cons (pv 4) pa_nil)))) (pss_one (ps_ret pe_bl)) pss_nil)))
      (pss_cons (ps_for PassesOwn.never rfl (pi_list (pv 3)) (pg_name (i := 4) scLaw.nd rfl (Or.inl rfl))
        (pss_cons (ps_set (i := 5) scLaw.nd rfl (.inl rfl) (pe_call GPk hr2 (by rfl) gPk FPk.kp bPk .nil pass0 (pa_cons (pv 1) (pa_cons (pv 3) pa_nil))))
        (pss_cons (ps_if (pt_cmpR op_ne (pe_cmpR (op_eqA G1 s1 i1 b1 hr1) (pe_call GM hr8 (by rfl) gM FM.kp bM .nil passNo (pa_cons (pv 4) pa_nil)) (pe_call GM hr8 (by rfl) gM FM.kp bM .nil passNo (pa_cons (pv 5) pa_nil)) (nomark _)) (pe_cmpR (op_eqD hr.units) (pv 4) (pv 5) (nomark _)) (nomark _)) (pss_one (ps_ret pe_bl)) pss_nil)
        (pss_cons (ps_cut (ps_set (i := 6) scLaw.nd rfl (.inl rfl) (pe_op op_catT (pe_slice sl_tup (pv 4) po_none (po_some (pe_un un_neg pe_int))) (pe_tup (pa_cons (pe_ifExp (pt_val (pe_callB (isiK (K := K) rfl) (by rfl) M.W.isi (by decide +kernel) (pa_cons (pe_ix ix_tup (pv 4) (pe_un un_neg pe_int) (fun _ _ => rfl)) (pa_cons (pe_bltn (v := .ty "str") (by rfl) M.W.str (by decide +kernel) rfl) pa_nil))))
            (pe_call GLn hr3 (by rfl) gLn FLn.kp bLn .nil pass0 (pa_cons (pv 1) pa_nil)) (pe_call GTi hr3 (by rfl) gTi FTi.kp bTi .nil pass0 (pa_cons (pv 1) pa_nil))) pa_nil)))))
        (pss_one (ps_if (pt_cmpR op_in_seq (pe_ix ix_tup (pv 4) pe_int (fun _ _ => rfl)) (pe_tup (pa_cons pe_str (pa_cons pe_str (pa_cons pe_str (pa_cons pe_str (pa_cons pe_str (pa_cons pe_str (pa_cons pe_str pa_nil)))))))) (by rfl))
          (pss_one (ps_if (pt_cmpR op_ne (pe_cmpR (op_eqA G1 s1 i1 b1 hr1) (pe_call GM hr8 (by rfl) gM FM.kp bM .nil passNo (pa_cons (pv 4) pa_nil)) (pe_call GM hr8 (by rfl) gM FM.kp bM .nil passNo (pa_cons (pv 6) pa_nil)) (nomark _)) (pe_cmpR (op_eqD hr.units) (pv 4) (pv 6) (nomark _)) (nomark _)) (pss_one (ps_ret pe_bl)) pss_nil)) pss_nil))))))
      (pss_one (ps_ret pe_bl)))))))), ?_⟩
    refine ⟨_, rfl, a, ns, rfl, hS, fun H1 p l cc s1 pen1 => ?_⟩
    have hsz := sizeLine_eq
    -- KINDS
    obtain ⟨k1, k2, k3⟩ := (OkD.tuple (n := 3000) (m := 12) kinds_ok).repr (by decide) (by decide)
    refine ⟨CR, _, _, _, rfl, M.R.rd, M.R.kv, _, _, rfl, .tup (M.R.ks _) (kinds_data _ _ kinds), k1, k2, k3, ?_⟩
    refine ⟨rfl, fun H2 kl s2 nkl hkl => ⟨kl, _, rfl, .inl ⟨SqL.of hkl, fun t ht => ⟨_, _, rfl, .tup (SqT.of upd_same) (kinds_data _ _ kinds), k1, k2, k3, rfl, _, rfl, ite2 (fun c => absurd c (by simp)) (fun _ => ?_)⟩⟩⟩⟩
    have pen2 := (pen1.same s2).same (same_upd0 (o := .tup (kinds.map V.str)) ht)
    revert pen2
    generalize L2.upd H2 t (.tup (kinds.map V.str)) = H3
    intro pen2
    clear ht hkl nkl s2 pen1 s1 k1 k2 k3
    -- the crew
    refine ⟨_, rfl, p, l, cc, 0, 0, 3, rfl, pen2, by omega, by decide, by decide, fun d n1 g1 H4 d0 d1 hn1 off1 pen4 => ?_⟩
    refine ⟨_, _, rfl, rfl, 1 + d, rfl, by omega, by omega, fun D hD => ?_⟩
    have nDp := pen4.ne hD
    have nDl : l ≠ D := ne_of_none pen4.cells hD
    refine lc_it walk_range (fun k H' => ∃ (zs : List Str) (n' : Nat) (g' : Int), zs.length = k ∧ (∀ z ∈ zs, isName z = true) ∧ Pen H' p l cc n' g' ∧ n' ≤ 1 + 9 * k ∧ H' D = some (.lst (zs.map V.str)))
      ⟨[], n1, g1, rfl, (fun _ h => nomatch h), pen4.same (same_upd0 hD), by omega, upd_same⟩ (fun _ _ _ _ => trivial) ?_ ?_
    · rintro k x V1 V2 hk2 ⟨zs, n2, g2, hzl, hzn, pn, hn2, hDk⟩ ⟨rfl, rfl⟩
      have hk3 : k < 4 := by omega
      refine ⟨rfl, ?_⟩
      simp only [tYes, ↓reduceIte]
      refine ⟨_, rfl, p, l, cc, n2, g2, rfl, pn, by omega, fun z n3 g3 V3 jz hn3 off3 pn3 => ?_⟩
      refine ⟨_, off3 _ _ nDp hDk, by rw [List.length_map]; omega, zs ++ [z], n3, g3, by rw [List.length_append, hzl]; rfl, ?_, ⟨by rw [upd_ne (Ne.symm nDp)]; exact pn3.pen, by rw [upd_ne nDl]; exact pn3.cells, pn3.left⟩, by omega, by rw [upd_same, List.map_append]; rfl⟩
      intro y hy
      rcases List.mem_append.mp hy with h | h
      · exact hzn y h
      · rw [List.mem_singleton.mp h]; exact jz
    rintro V5 ⟨zs, n5, g5, hzl, hzn, pen5, hn5, hcr5⟩
    have hz0 : 0 < zs.length := by omega
    have hz4 : zs.length ≤ 4 := by omega
    -- the rows
    refine ⟨rfl, fun H5 k1 s5 nk1 hk1 => ⟨rfl, fun H6 k2 s6 nk2 hk2 => ⟨k1, k2, _, _, rfl, rfl, s6 _ _ hk1, hk2, by show 20 ≤ sizeLine; decide, fun kl hkl => ?_⟩⟩⟩
    have s46 := s5.trans s6
    have s7 := s46.trans (same_upd0 (o := .lst (kinds.map V.str ++ kinds.map V.str)) hkl)
    have hkl7 : (L2.upd H6 kl (.lst (kinds.map V.str ++ kinds.map V.str))) kl = some (.lst ((kinds ++ kinds).map V.str)) := by rw [upd_same, List.map_append]
    have pen7 := pen5.same s7
    have nkp := (pen5.same s46).ne hkl
    have hcr7 := s7 _ _ hcr5
    revert hkl7 pen7 hcr7
    generalize L2.upd H6 kl (.lst (kinds.map V.str ++ kinds.map V.str)) = H7
    intro hkl7 pen7 hcr7
    clear s7 s46 s5 s6 hk1 hk2 hkl pen5 hcr5
    refine ⟨kl, rfl, ⟨_, SqL.of hkl7⟩, fun RL hRL => ?_⟩
    have nRp := pen7.ne hRL
    have nRl : l ≠ RL := ne_of_none pen7.cells hRL
    have nRk : kl ≠ RL := ne_of_none hkl7 hRL
    have nRc : D ≠ RL := ne_of_none hcr7 hRL
    refine lc_it (walk_list (xs := (kinds ++ kinds).map V.str)) (fun k H' => ∃ (ts : List Addr) (n' : Nat) (g' : Int), ts.length = k ∧ (∀ t ∈ ts, RowT H' t) ∧ Pen H' p l cc n' g' ∧ n' ≤ 40 + 12 * k ∧ H' RL = some (.lst (ts.map V.ref)) ∧ H' kl = some (.lst ((kinds ++ kinds).map V.str)) ∧ H' D = some (.lst (zs.map V.str)))
      ⟨[], n5, g5, rfl, (fun _ h => nomatch h), pen7.same (same_upd0 hRL), by omega, upd_same, same_upd0 hRL _ _ hkl7, same_upd0 hRL _ _ hcr7⟩ (fun _ _ _ ⟨_, _, _, _, _, _, _, _, h, _⟩ => SqL.of h) ?_ ?_
    · rintro k x V1 V2 hk2 ⟨ts, n2, g2, htl, hts, pn, hn2, hRk, hkk2, hDk⟩ ⟨rfl, hxk⟩
      have hk20 : k < 20 := hk2
      obtain ⟨kind, hk, rfl⟩ : ∃ kind ∈ kinds, x = .str kind := by
        obtain ⟨z, hz, e⟩ := List.mem_map.mp (List.mem_of_getElem? hxk)
        exact ⟨z, by rcases List.mem_append.mp hz with h | h <;> exact h, e.symm⟩
      refine ⟨rfl, ?_⟩
      simp only [tYes, ↓reduceIte]
      refine ⟨_, rfl, _, rfl, _, rfl, by show 1 ≤ sizeLine; decide, fun kk hkk => ?_⟩
      have s6 := same_upd0 (o := .lst [V.str kind]) hkk
      refine ⟨p, l, D, kk, cc, n2, g2, kind, zs, rfl, pn.same s6, by omega, hk, upd_same, pn.ne hkk, s6 _ _ hDk, nDp, hz0, by omega, hzn, fun xs tr n6 g6 V6 hf hn6 off6 pn6 htr => ?_⟩
      have oA : ∀ {b : Addr} {o : HO}, b ≠ p → V2 b = some o → V6 b = some o := fun nb e => off6 _ _ nb (s6 _ _ e)
      have hR6 := oA nRp hRk
      refine ⟨_, hR6, by rw [List.length_map]; omega, ts ++ [tr], n6, g6, by rw [List.length_append, htl]; rfl, ?_, ⟨by rw [upd_ne (Ne.symm nRp)]; exact pn6.pen, by rw [upd_ne nRl]; exact pn6.cells, pn6.left⟩, by omega, by rw [upd_same, List.map_append]; rfl, by rw [upd_ne nRk]; exact oA nkp hkk2, by rw [upd_ne nRc]; exact oA nDp hDk⟩
      intro y hy
      rcases List.mem_append.mp hy with h | h
      · exact (((hts y h).same s6).off (pn.same s6).pen off6).put hR6
      · rw [List.mem_singleton.mp h]
        exact RowT.put ⟨kind, xs, htr, hk, hf⟩ hR6
    rintro V8 ⟨ts, n8, g8, htl, hts, pen8, hn8, hR8, _, _⟩
    have htl : ts.length = 20 := htl
    clear hkl7 hcr7 pen7 nRk nRc hRL
    -- each is right
    have hRw : ∀ (G : Hp), Same V8 G → ∀ t ∈ ts, RowT G t := fun G s t ht => (hts t ht).same s
    refine ⟨_, rfl, RL, rfl, ⟨_, SqL.of hR8⟩, for_it (walk_list (xs := ts.map V.ref)) (fun i σ G => ∃ (x4 : Option V), σ = [some (.ref a), some (.ref p), some (.ref D), some (.ref RL), x4, none, none, none, none] ∧ Same V8 G)
      ⟨none, rfl, Same.refl _⟩ (fun _ _ G _ ⟨_, _, s⟩ => SqL.of (s _ _ hR8)) ?_ ?_⟩
    · rintro i x σ G G' hi ⟨x4, rfl, sG⟩ ⟨rfl, hx⟩
      obtain ⟨t, ht, rfl⟩ : ∃ t ∈ ts, x = .ref t := by
        obtain ⟨z, hz, e⟩ := List.mem_map.mp (List.mem_of_getElem? hx)
        exact ⟨z, hz, e.symm⟩
      obtain ⟨kind, xs, htt, hk, hf⟩ := hRw _ sG t ht
      exact ⟨_, rfl, t, kind, xs, rfl, htt, hk, hf, fun G2 s2 => ⟨_, rfl, iteF ⟨_, rfl, sG.trans s2⟩⟩⟩
    rintro _ G0 ⟨x4, rfl, sG0⟩
    have pen0 := pen8.same sG0
    have hR0 := sG0 _ _ hR8
    have hT0 := hRw _ sG0
    clear hRw sG0 hts pen8 hR8
    refine ⟨_, rfl, RL, rfl, ⟨_, SqL.of hR0⟩, for_it (walk_list (xs := ts.map V.ref)) (fun i σ G => ∃ (x4 x5 x6 : Option V) (n' : Nat) (g' : Int), σ = [some (.ref a), some (.ref p), some (.ref D), some (.ref RL), x4, x5, x6, none, none] ∧ Pen G p l cc n' g' ∧ n' ≤ 300 + 20 * i ∧ G RL = some (.lst (ts.map V.ref)) ∧ ∀ t ∈ ts, RowT G t)
      ⟨x4, none, none, n8, g8, rfl, pen0, by omega, hR0, hT0⟩ (fun _ _ G _ ⟨_, _, _, _, _, _, _, _, h, _⟩ => SqL.of h) ?_ ?_⟩
    case refine_2 =>
      rintro σ G ⟨_, _, _, _, _, rfl, _⟩
      exact q G
    rintro i x σ G G' hi ⟨x4, x5, x6, n9, g9, rfl, pn, hn9, hR, hT⟩ ⟨rfl, hx⟩
    have hi20 : i < 20 := by rw [List.length_map, htl] at hi; exact hi
    obtain ⟨t, ht, rfl⟩ : ∃ t ∈ ts, x = .ref t := by
      obtain ⟨z, hz, e⟩ := List.mem_map.mp (List.mem_of_getElem? hx)
      exact ⟨z, hz, e.symm⟩
    -- the mate
    refine ⟨_, rfl, _, rfl, p, l, cc, n9, g9, _, rfl, pn, by omega, .inl ⟨RL, _, rfl, nRp, hR, by rw [List.length_map]; omega, by rw [List.length_map]; omega, fun v n10 g10 G10 hv hn10 off10 pn10 => ?_⟩⟩
    obtain ⟨t2, ht2, rfl⟩ := List.mem_map.mp hv
    have hR10 := off10 _ _ nRp hR
    have hT10 : ∀ t ∈ ts, RowT G10 t := fun t ht => (hT t ht).off pn.pen off10
    obtain ⟨kind, xs, htt, hk, hf⟩ := hT10 t ht
    obtain ⟨k2, ys2, htt2, hk2, hf2⟩ := hT10 t2 ht2
    obtain ⟨d, e, sh, sh2, ev, hd, he⟩ := row_two hk hk2 hf.flat hf2.flat
    refine ⟨_, rfl, t, kind, xs, rfl, htt, hk, hf.1, flat_gvs hf _, fun _ G11 m1 s11 A11 => ?_, fun C fl v hb => noBad hf hb⟩
    refine ⟨_, rfl, t2, k2, ys2, rfl, s11 _ _ htt2, hk2, hf2.1, flat_gvs hf2 _, fun _ G12 m2 s12 B12 => ?_, fun C fl v hb => noBad hf2 hb⟩
    have s12' := s11.trans s12
    refine eqA_of M hk hf (A11.same s12) hk2 hf2 B12 rfl ?_
    refine ⟨_, rfl, _, rfl, d, e, hd _ _ _ (s12' _ _ htt), he _ _ _ (s12' _ _ htt2), sh, sh2, rfl, ?_⟩
    rw [ev]
    refine ⟨_, rfl, ite2 (fun c => absurd c (by simp)) (fun _ => ?_)⟩
    have pn12 := pn10.same s12'
    have hR12 := s12' _ _ hR10
    have hT12 : ∀ t ∈ ts, RowT G12 t := fun t ht => (hT10 t ht).same s12'
    have htt12 := s12' _ _ htt
    clear s12' s11 s12 A11 B12 hd he htt htt2 hT10 hR10 pn10 off10 hT hR pn
    -- the bent one
    have hx0 : xs ≠ [] := fun z => by have := forms_some kind hk; rw [← hf.1, z] at this; simp at this
    obtain ⟨ys, v, rfl⟩ : ∃ ys v, xs = ys ++ [v] := ⟨xs.dropLast, xs.getLast hx0, (List.dropLast_concat_getLast hx0).symm⟩
    have hl4 : (ys ++ [v]).length ≤ 4 := by rw [hf.1]; exact forms_len kind hk
    rw [List.length_append, List.length_singleton] at hl4
    refine ⟨fun σ G => ∃ (tb : Addr) (u : V) (n' : Nat) (g' : Int), σ = [some (.ref a), some (.ref p), some (.ref D), some (.ref RL), some (.ref t), some (.ref t2), some (.ref tb), none, none] ∧ Pen G p l cc n' g' ∧ n' ≤ n10 + 9 ∧ G RL = some (.lst (ts.map V.ref)) ∧ (∀ t ∈ ts, RowT G t) ∧ G t = some (.tup (.str kind :: (ys ++ [v]))) ∧ G tb = some (.tup (.str kind :: (ys ++ [u]))) ∧
      ((∃ z n, v = .str z ∧ u = .str n ∧ isName n = true) ∨ (∃ i, u = .int i ∧ 0 ≤ i ∧ i ≤ 1000000000000000000000000000000 ∧ ∀ z, v ≠ .str z)), ?_, ?_⟩
    · have htc : G12 t = some (.tup ((V.str kind :: ys) ++ [v])) := htt12
      refine ⟨_, rfl, _, rfl, _, rfl, t, (V.str kind :: ys) ++ [v], rfl, SqT.of htc, (cutL _ _).2, fun tp htp => ?_⟩
      rw [(cutL (V.str kind :: ys) v).1]
      have u1 := same_upd0 (o := .tup (V.str kind :: ys)) htp
      have ntp := pn12.ne htp
      have ntt := ne_of htt12 pn12.pen (fun z => nomatch z)
      have hvf := hf.flat v (by simp)
      cases hvf with
      | nam h0 =>
        refine ⟨_, rfl, _, rfl, t, _, _, _, rfl, rfl, SqT.of (u1 _ _ htc), atI_last (V.str kind :: ys) _, _, _, _, _, true, rfl, .ty "str", (Gv.str _ (Nat.le_trans (name_len h0) (by decide))).ty, kit_ty (by decide +kernel), _, rfl, iteT ?_⟩
        refine ⟨_, rfl, p, l, cc, n10, g10, rfl, pn12.same u1, by omega, fun z n3 g3 G3 jz hn3 off3 pn3 => ?_⟩
        refine ⟨by show 1 ≤ sizeLine; decide, fun tu htu => ⟨tp, tu, _, _, rfl, rfl, SqT.of (same_upd0 htu _ _ (off3 _ _ ntp upd_same)), SqT.of upd_same, by simp, by rw [List.length_cons, List.length_singleton]; omega, (fun z => by cases z), fun _ tb htb => ?_⟩⟩
        have u2 := (same_upd0 (o := .tup [V.str z]) htu).trans (same_upd0 (o := .tup ((V.str kind :: ys) ++ [V.str z])) htb)
        exact ⟨tb, V.str z, n3, g3, rfl, pn3.same u2, by omega, u2 _ _ (off3 _ _ nRp (u1 _ _ hR12)), fun y hy => (((hT12 y hy).same u1).off (pn12.same u1).pen off3).same u2, u2 _ _ (off3 _ _ ntt (u1 _ _ htt12)), upd_same, .inl ⟨_, z, rfl, rfl, jz⟩⟩
      | mom h0 =>
        refine ⟨_, rfl, _, rfl, t, _, _, _, rfl, rfl, SqT.of (u1 _ _ htc), atI_last (V.str kind :: ys) _, _, _, _, _, false, rfl, .ty "str", (Gv.int _).ty, kit_ty (by decide +kernel), _, rfl, iteF ?_⟩
        refine ⟨_, rfl, p, l, cc, n10, g10, rfl, pn12.same u1, by omega, fun j n3 g3 G3 j0 j1 hn3 off3 pn3 => ?_⟩
        refine ⟨by show 1 ≤ sizeLine; decide, fun tu htu => ⟨tp, tu, _, _, rfl, rfl, SqT.of (same_upd0 htu _ _ (off3 _ _ ntp upd_same)), SqT.of upd_same, by simp, by rw [List.length_cons, List.length_singleton]; omega, (fun z => by cases z), fun _ tb htb => ?_⟩⟩
        have u2 := (same_upd0 (o := .tup [V.int j]) htu).trans (same_upd0 (o := .tup ((V.str kind :: ys) ++ [V.int j])) htb)
        exact ⟨tb, V.int j, n3, g3, rfl, pn3.same u2, by omega, u2 _ _ (off3 _ _ nRp (u1 _ _ hR12)), fun y hy => (((hT12 y hy).same u1).off (pn12.same u1).pen off3).same u2, u2 _ _ (off3 _ _ ntt (u1 _ _ htt12)), upd_same, .inr ⟨j, rfl, j0, j1, fun z e => by cases e⟩⟩
      | tru h0 =>
        refine ⟨_, rfl, _, rfl, t, _, _, _, rfl, rfl, SqT.of (u1 _ _ htc), atI_last (V.str kind :: ys) _, _, _, _, _, false, rfl, .ty "str", (Gv.bl _).ty, kit_ty (by decide +kernel), _, rfl, iteF ?_⟩
        refine ⟨_, rfl, p, l, cc, n10, g10, rfl, pn12.same u1, by omega, fun j n3 g3 G3 j0 j1 hn3 off3 pn3 => ?_⟩
        refine ⟨by show 1 ≤ sizeLine; decide, fun tu htu => ⟨tp, tu, _, _, rfl, rfl, SqT.of (same_upd0 htu _ _ (off3 _ _ ntp upd_same)), SqT.of upd_same, by simp, by rw [List.length_cons, List.length_singleton]; omega, (fun z => by cases z), fun _ tb htb => ?_⟩⟩
        have u2 := (same_upd0 (o := .tup [V.int j]) htu).trans (same_upd0 (o := .tup ((V.str kind :: ys) ++ [V.int j])) htb)
        exact ⟨tb, V.int j, n3, g3, rfl, pn3.same u2, by omega, u2 _ _ (off3 _ _ nRp (u1 _ _ hR12)), fun y hy => (((hT12 y hy).same u1).off (pn12.same u1).pen off3).same u2, u2 _ _ (off3 _ _ ntt (u1 _ _ htt12)), upd_same, .inr ⟨j, rfl, j0, j1, fun z e => by cases e⟩⟩
    · rintro _ G ⟨tb, u, n', g', rfl, pnb, hnb, hRb, hTb, httb, htb, hu⟩
      refine ⟨_, rfl, t, _, _, _, rfl, rfl, SqT.of httb, atI_nat (j := 0) rfl, by show 7 ≤ sizeLine; decide, fun tq htq => ⟨tq, _, rfl, .inr (SqT.of upd_same), rfl, flat_strs seven, ?_⟩⟩
      have w1 := same_upd0 (o := .tup (seven.map V.str)) htq
      rw [show (if false = true then !inV (V.str kind) [V.str "passed", V.str "failed", V.str "setby", V.str "differed", V.str "served", V.str "backed", V.str "agreed"] else inV (V.str kind) [V.str "passed", V.str "failed", V.str "setby", V.str "differed", V.str "served", V.str "backed", V.str "agreed"]) = seven.contains kind from inV_strs kind seven]
      refine ⟨_, rfl, ite2 (fun c => ?_) (fun _ => ?_)⟩
      · have hf3 := bent_row hk c hf hu
        obtain ⟨d, e, sh, sh2, ev, hd, he⟩ := row_two hk hk hf.flat hf3.flat
        refine ⟨_, rfl, t, kind, _, rfl, w1 _ _ httb, hk, hf.1, flat_gvs hf _, fun _ G11 m1 s11 A11 => ?_, fun C fl v hb => noBad hf hb⟩
        refine ⟨_, rfl, tb, kind, _, rfl, s11 _ _ (w1 _ _ htb), hk, hf3.1, flat_gvs hf3 _, fun _ G12 m2 s12 B12 => ?_, fun C fl v hb => noBad hf3 hb⟩
        have s12' := w1.trans (s11.trans s12)
        refine eqA_of M hk hf (A11.same s12) hk hf3 B12 rfl ?_
        refine ⟨_, rfl, _, rfl, d, e, hd _ _ _ (s12' _ _ httb), he _ _ _ (s12' _ _ htb), sh, sh2, rfl, ?_⟩
        rw [ev]
        refine ⟨_, rfl, ite2 (fun c => absurd c (by simp)) (fun _ => ?_)⟩
        exact ⟨_, _, _, n', g', rfl, pnb.same s12', by omega, s12' _ _ hRb, fun y hy => (hTb y hy).same s12'⟩
      · exact ⟨_, _, _, n', g', rfl, pnb.same w1, by omega, w1 _ _ hRb, fun y hy => (hTb y hy).same w1⟩
end
end K11

namespace K11
open PySem PySem.Spec PyProof.Rows L2 So LamX
def strOf? : Value → Option Str
  | .str x _ => some x
  | _ => none
theorem vals_strs : ∀ {ss : List Str} {us : List Value}, us.map strOf? = ss.map some → Vals (ss.map V.str) us
  | [], [], _ => .nil
  | [], _ :: _, h => by simp at h
  | _ :: _, [], h => by simp at h
  | x :: ss, u :: us, h => by
    simp only [List.map_cons, List.cons.injEq] at h
    refine .cons ?_ (vals_strs h.2)
    cases u <;> simp [strOf?] at h
    rename_i y t
    exact ⟨t, by rw [h.1]⟩
theorem tab_seq {K : PySem.W.Frag} {a : Addr} {od : Option Addr} {its : Array Value} {n : Nat} {sl : Array (Option Value)} {ss : List Str} (l : K.lookup a = some ⟨.type "tuple", od, .seq its n, sl⟩) (v : its.toList.map strOf? = ss.map some) (hz : ss.length ≤ 1000) (H : Hp) : SqT K H a (ss.map V.str) := by
  have hv := vals_strs v
  refine .inr ⟨_, its, n, l, rfl, rfl, ?_, hv⟩
  have := hv.length
  rw [List.length_map] at this
  rw [← Array.length_toList, ← this]
  exact Nat.le_trans hz (by decide)
section
variable {K : PySem.W.Frag}
theorem exm_own {D S : Addr} (h2 : PySem.W.isClsIn K S = true) (h3 : PySem.W.typeIn K (.ref S) = some (.type "type")) (h1 : PySem.W.subIn K (.ref S) (.type "BaseException") = some true) (h4 : PySem.W.subIn K (.ref D) (.ref S) = some true) (_ : PySem.W.subIn K (.ref S) (.ref S) = some true) : PySem.W.exmOne K (.ref D) (.ref S) = some true := by
  unfold PySem.W.exmOne PySem.W.kitCls
  unfold PySem.W.isClsIn at h2
  simp [h1, h2, h3, h4]
theorem tab_by {x : Str} {f c P : Addr} {o1 u1 : Value} {o2 u2 : Option Addr} {o3 u3 : Array (Option Value)} {fd : FuncData} {vs : Array Value} (a : PySem.W.nsIn K mainGlobals x = some (some (.ref f))) (l : K.lookup f = some ⟨o1, o2, .func fd, o3⟩) (hc : fd.code = .ref c)
    (lc : K.lookup c = some ⟨u1, u2, .fields vs, u3⟩) (hv : (vs[11]? : Option Value) = some (.ref P)) : PySem.W.tabIn K x = some (c, P) := by
  unfold PySem.W.tabIn
  rw [a]
  simp only [l, hc, lc, hv]
theorem kit_VE {D : Addr} (h : PySem.W.subIn K (.ref D) (.type "ValueError") = some true) : PySem.W.kitOne K (.ref D) (.type "ValueError") = some true := by
  unfold PySem.W.kitOne PySem.W.kitCls
  have e : PySem.W.kitMeta "ValueError" = true := by decide +kernel
  simp [h, e]
theorem kit_own {D C : Addr} {b : Bool} (hc : PySem.W.isClsIn K C = true) (ht : PySem.W.typeIn K (.ref C) = some (.type "type")) (hs : PySem.W.subIn K (.ref D) (.ref C) = some b) (self : PySem.W.subIn K (.ref C) (.ref C) = some true) : PySem.W.kitOne K (.ref D) (.ref C) = some b := by
  by_cases e : D = C
  · subst e
    rw [self] at hs
    rw [kit_self, hs]
  · unfold PySem.W.kitOne PySem.W.kitCls
    unfold PySem.W.isClsIn at hc
    simp [hc, ht, hs, e]
end
abbrev sEB : Stmt := inClass (topS 6) 0
theorem scEB : FnScope ["self", "line", "word"] ["self", "line", "word"] (defScope sEB) := ⟨rfl, rfl, rfl, by decide +kernel, rfl, by decide +kernel, by decide +kernel⟩
theorem kit_tyown {K : PySem.W.Frag} {n : String} {C : Addr} {b : Bool} (hc : PySem.W.isClsIn K C = true) (ht : PySem.W.typeIn K (.ref C) = some (.type "type")) (hs : PySem.W.subIn K (.type n) (.ref C) = some b) : PySem.W.kitOne K (.type n) (.ref C) = some b := by
  unfold PySem.W.kitOne PySem.W.kitCls
  unfold PySem.W.isClsIn at hc
  simp [hc, ht, hs]
theorem nf_sub {K : PySem.W.Frag} {C : Addr} {v : Value} (h : PySem.W.subIn K v (.ref C) = some false) : PySem.W.notFirst K C v = true := by
  unfold PySem.W.notFirst
  simp [h]
/-- the classes of the kinds -/
def cfOf (C_begun C_setby C_found C_trusted C_passed C_failed C_agreed C_differed C_served C_backed : Addr) : Str → Addr := fun kind => if kind = "begun" then C_begun else if kind = "setby" then C_setby else if kind = "found" then C_found else if kind = "trusted" then C_trusted else if kind = "passed" then C_passed else if kind = "failed" then C_failed else if kind = "agreed" then C_agreed else if kind = "differed" then C_differed else if kind = "served" then C_served else C_backed
theorem cf_all (C_begun C_setby C_found C_trusted C_passed C_failed C_agreed C_differed C_served C_backed : Addr) : cfOf C_begun C_setby C_found C_trusted C_passed C_failed C_agreed C_differed C_served C_backed "begun" = C_begun ∧ cfOf C_begun C_setby C_found C_trusted C_passed C_failed C_agreed C_differed C_served C_backed "setby" = C_setby ∧ cfOf C_begun C_setby C_found C_trusted C_passed C_failed C_agreed C_differed C_served C_backed "found" = C_found ∧ cfOf C_begun C_setby C_found C_trusted C_passed C_failed C_agreed C_differed C_served C_backed "trusted" = C_trusted ∧ cfOf C_begun C_setby C_found C_trusted C_passed C_failed C_agreed C_differed C_served C_backed "passed" = C_passed ∧ cfOf C_begun C_setby C_found C_trusted C_passed C_failed C_agreed C_differed C_served C_backed "failed" = C_failed ∧ cfOf C_begun C_setby C_found C_trusted C_passed C_failed C_agreed C_differed C_served C_backed "agreed" = C_agreed ∧ cfOf C_begun C_setby C_found C_trusted C_passed C_failed C_agreed C_differed C_served C_backed "differed" = C_differed ∧ cfOf C_begun C_setby C_found C_trusted C_passed C_failed C_agreed C_differed C_served C_backed "served" = C_served ∧ cfOf C_begun C_setby C_found C_trusted C_passed C_failed C_agreed C_differed C_served C_backed "backed" = C_backed := by
  refine ⟨?_, ?_, ?_, ?_, ?_, ?_, ?_, ?_, ?_, ?_⟩ <;> unfold cfOf
  · exact if_pos rfl
  · rw [if_neg (by decide +kernel)]; exact if_pos rfl
  · rw [if_neg (by decide +kernel)]; rw [if_neg (by decide +kernel)]; exact if_pos rfl
  · rw [if_neg (by decide +kernel)]; rw [if_neg (by decide +kernel)]; rw [if_neg (by decide +kernel)]; exact if_pos rfl
  · rw [if_neg (by decide +kernel)]; rw [if_neg (by decide +kernel)]; rw [if_neg (by decide +kernel)]; rw [if_neg (by decide +kernel)]; exact if_pos rfl
  · rw [if_neg (by decide +kernel)]; rw [if_neg (by decide +kernel)]; rw [if_neg (by decide +kernel)]; rw [if_neg (by decide +kernel)]; rw [if_neg (by decide +kernel)]; exact if_pos rfl
  · rw [if_neg (by decide +kernel)]; rw [if_neg (by decide +kernel)]; rw [if_neg (by decide +kernel)]; rw [if_neg (by decide +kernel)]; rw [if_neg (by decide +kernel)]; rw [if_neg (by decide +kernel)]; exact if_pos rfl
  · rw [if_neg (by decide +kernel)]; rw [if_neg (by decide +kernel)]; rw [if_neg (by decide +kernel)]; rw [if_neg (by decide +kernel)]; rw [if_neg (by decide +kernel)]; rw [if_neg (by decide +kernel)]; rw [if_neg (by decide +kernel)]; exact if_pos rfl
  · rw [if_neg (by decide +kernel)]; rw [if_neg (by decide +kernel)]; rw [if_neg (by decide +kernel)]; rw [if_neg (by decide +kernel)]; rw [if_neg (by decide +kernel)]; rw [if_neg (by decide +kernel)]; rw [if_neg (by decide +kernel)]; rw [if_neg (by decide +kernel)]; exact if_pos rfl
  · rw [if_neg (by decide +kernel)]; rw [if_neg (by decide +kernel)]; rw [if_neg (by decide +kernel)]; rw [if_neg (by decide +kernel)]; rw [if_neg (by decide +kernel)]; rw [if_neg (by decide +kernel)]; rw [if_neg (by decide +kernel)]; rw [if_neg (by decide +kernel)]; rw [if_neg (by decide +kernel)]
theorem all10 {p : Str → Prop} (h0 : p "begun") (h1 : p "setby") (h2 : p "found") (h3 : p "trusted") (h4 : p "passed") (h5 : p "failed") (h6 : p "agreed") (h7 : p "differed") (h8 : p "served") (h9 : p "backed") : ∀ kind ∈ kinds, p kind := by
  intro kind hk
  unfold kinds at hk
  simp only [List.mem_cons, List.not_mem_nil, or_false] at hk
  rcases hk with h | h | h | h | h | h | h | h | h | h <;> subst h <;> assumption
theorem kb_text {K : PySem.W.Frag} {fd : FuncData} (h : ∀ (s : Shared) (u w : Value), BindsTo s fd ⟨[u], [("text", w)]⟩ [("cls", u), ("text", w)]) : KBinds K fd ["cls", "text"] ["text"] kText kText := by
  refine ⟨fun s us ws _ hl => ?_, fun {vs us zs ws} r rz => ?_⟩
  · match us, ws, hl with
    | [u], [w], _ => exact h s u w
    | [], _, hl => cases hl
    | [_], [], hl => cases hl
    | [_], _ :: _ :: _, hl => cases hl
    | _ :: _ :: _, _, hl => cases hl
  · cases r with
    | nil => exact .nil
    | cons r1 r =>
      cases r with
      | cons _ _ => exact .nil
      | nil =>
        cases rz with
        | nil => exact .nil
        | cons r2 rz =>
          cases rz with
          | nil => exact .cons r1 (.cons r2 .nil)
          | cons _ _ => exact .nil
theorem all_mk {l : PySem.W.OpenLaw} {w : World} {K : PySem.W.Frag} {h : Heap} {mg : Str → Option Value} {fa fpen fdraw fpick fwords flname ftick flkinds fdrawn fnamed flticks flmade fbyname fattr fbri fright flaw fwhole fmoment fisname fcheck fchecked fwordof fmadeRow fnumber fhasf fwordsof ffirst ftold fvalof frdrow CR pread fread aK CBg CCh CMe C_begun fbegun frta freq frstr qpto fpto qpmo fpmo qpbe fpbe C_setby fsetby C_found ffound C_trusted ftrusted C_passed fpassed C_failed ffailed C_agreed fagreed ccagreed cdaagreed fmeet C_differed fdiffered ccdiffered cdadiffered C_served fserved ccserved cdaserved C_backed fbacked ccbacked cdabacked aNo aF t_begun t_setby t_found t_trusted t_passed t_failed t_agreed t_differed t_served t_backed CT CN feN CM feM CS feS CB feB : Addr} (X : K.In h) (G : h.Ns mainGlobals mg) (hfa : mg "law" = some (.ref fa))
    {odpen anpen oddraw andraw odpick anpick odwords anwords odlname anlname odtick antick odlkinds anlkinds oddrawn andrawn odnamed annamed odlticks anlticks odlmade anlmade odbyname anbyname odattr anattr odbri anbri odright anright odlaw anlaw odwhole anwhole odmoment anmoment odisname anisname odcheck ancheck odchecked anchecked odwordof anwordof odmadeRow anmadeRow odnumber annumber odhasf anhasf odwordsof anwordsof odfirst anfirst odtold antold odvalof anvalof odrdrow anrdrow odread anread odK odbegun anbegun odrta anrta odreq anreq odrstr anrstr odpto anpto odpmo anpmo odpbe anpbe odsetby ansetby odfound anfound odtrusted antrusted odpassed anpassed odfailed anfailed odagreed anagreed cldagreed cddagreed odmeet anmeet oddiffered andiffered clddiffered cdddiffered odserved anserved cldserved cddserved odbacked anbacked cldbacked cddbacked odN odtbegun odtsetby odtfound odttrusted odtpassed odtfailed odtagreed odtdiffered odtserved odtbacked odeN aneN odeM aneM odeS aneS odeB aneB : Option Addr} {slpen sldraw slpick slwords sllname sltick sllkinds sldrawn slnamed sllticks sllmade slbyname slattr slbri slright sllaw slwhole slmoment slisname slcheck slchecked slwordof slmadeRow slnumber slhasf slwordsof slfirst sltold slvalof slrdrow slread slK slbegun slrta slreq slrstr slpto slpmo slpbe slsetby slfound sltrusted slpassed slfailed slagreed cslagreed ccsagreed slmeet sldiffered csldiffered ccsdiffered slserved cslserved ccsserved slbacked cslbacked ccsbacked slN sltbegun sltsetby sltfound slttrusted sltpassed sltfailed sltagreed sltdiffered sltserved sltbacked sleN sleM sleS sleB : Array (Option Value)} {ocpen kVpen dcpen pmpen ctpen cdpen ocdraw kVdraw dcdraw pmdraw ctdraw cddraw ocpick kVpick dcpick pmpick ctpick cdpick ocwords kVwords dcwords pmwords ctwords cdwords oclname kVlname dclname pmlname ctlname cdlname octick kVtick dctick pmtick cttick cdtick oclkinds kVlkinds dclkinds pmlkinds ctlkinds cdlkinds ocdrawn kVdrawn dcdrawn pmdrawn ctdrawn cddrawn ocnamed kVnamed dcnamed pmnamed ctnamed cdnamed oclticks kVlticks dclticks pmlticks ctlticks cdlticks oclmade kVlmade dclmade pmlmade ctlmade cdlmade ocbyname kVbyname dcbyname pmbyname ctbyname cdbyname ocattr kVattr dcattr pmattr ctattr cdattr ocbri kVbri dcbri pmbri ctbri cdbri ocright kVright dcright pmright ctright cdright oclaw kVlaw dclaw pmlaw ctlaw cdlaw ocwhole kVwhole dcwhole pmwhole ctwhole cdwhole ocmoment kVmoment dcmoment pmmoment ctmoment cdmoment ocisname kVisname dcisname pmisname ctisname cdisname occheck kVcheck dccheck pmcheck ctcheck cdcheck occhecked kVchecked dcchecked pmchecked ctchecked cdchecked ocwordof kVwordof dcwordof pmwordof ctwordof cdwordof ocmadeRow kVmadeRow dcmadeRow pmmadeRow ctmadeRow cdmadeRow ocnumber kVnumber dcnumber pmnumber ctnumber cdnumber ochasf kVhasf dchasf pmhasf cthasf cdhasf ocwordsof kVwordsof dcwordsof pmwordsof ctwordsof cdwordsof ocfirst kVfirst dcfirst pmfirst ctfirst cdfirst octold kVtold dctold pmtold cttold cdtold ocvalof kVvalof dcvalof pmvalof ctvalof cdvalof ocrdrow kVrdrow dcrdrow pmrdrow ctrdrow cdrdrow ocread kVread dcread pmread ctread cdread ocbegun kVbegun dcbegun pmbegun ctbegun cdbegun ocrta kVrta dcrta pmrta ctrta cdrta ocreq kVreq dcreq pmreq ctreq cdreq ocrstr kVrstr dcrstr pmrstr ctrstr cdrstr ocpto kVpto dcpto pmpto ctpto cdpto ocpmo kVpmo dcpmo pmpmo ctpmo cdpmo ocpbe kVpbe dcpbe pmpbe ctpbe cdpbe ocsetby kVsetby dcsetby pmsetby ctsetby cdsetby ocfound kVfound dcfound pmfound ctfound cdfound octrusted kVtrusted dctrusted pmtrusted cttrusted cdtrusted ocpassed kVpassed dcpassed pmpassed ctpassed cdpassed ocfailed kVfailed dcfailed pmfailed ctfailed cdfailed ocagreed kVagreed dcagreed pmagreed ctagreed clagreed cclagreed ocmeet kVmeet dcmeet pmmeet ctmeet cdmeet ocdiffered kVdiffered dcdiffered pmdiffered ctdiffered cldiffered ccldiffered ocserved kVserved dcserved pmserved ctserved clserved cclserved ocbacked kVbacked dcbacked pmbacked ctbacked clbacked cclbacked oceN kVeN dceN pmeN cteN cdeN oceM kVeM dceM pmeM cteM cdeM oceS kVeS dceS pmeS cteS cdeS oceB kVeB dceB pmeB cteB cdeB : Value} {restread restpto restpmo restpbe : List Value}  {tG tL tA tD : Tok} {itsN : Array Value} {nN nF : Nat} {esF : Array DictEntry} {itsbegun itssetby itsfound itstrusted itspassed itsfailed itsagreed itsdiffered itsserved itsbacked : Array Value} {ntbegun ntsetby ntfound nttrusted ntpassed ntfailed ntagreed ntdiffered ntserved ntbacked : Nat} {vsagreed vsdiffered vsserved vsbacked : Array Value} {fileagreed filediffered fileserved filebacked : Str} {tfagreed tfdiffered tfserved tfbacked : Tok} {cd_agreed cd_differed cd_served cd_backed : ClassData} {tLN : Tok} {itsK : Array Value} {nK : Nat} {nmN qN : Str} {NN : Addr} {bsN subN : List Value} {snN : List Str} {abN : Bool} {colN : Option Bool} {ddN : Option Addr} {m0N m1N m2N m3N m5N : Option Value} {nmM qM : Str} {NM : Addr} {bsM subM : List Value} {snM : List Str} {abM : Bool} {colM : Option Bool} {ddM : Option Addr} {m0M m1M m2M m3M m5M : Option Value} {nmS qS : Str} {NS : Addr} {bsS subS : List Value} {snS : List Str} {abS : Bool} {colS : Option Bool} {ddS : Option Addr} {m0S m1S m2S m3S m5S : Option Value} {nmB qB : Str} {NB : Addr} {bsB subB : List Value} {snB : List Str} {abB : Bool} {colB : Option Bool} {ddB : Option Addr} {m0B m1B m2B m3B m5B : Option Value}
    (apen : PySem.W.nsIn K mainGlobals "_law_pen" = some (some (.ref fpen)))
    (lpen : K.lookup fpen = some ⟨ocpen, odpen, .func (PySem.W.fnOf "_law_pen" "_law_pen" (defArgs sPen) (defBody sPen) (defScope sPen) .none kVpen dcpen pmpen anpen cdpen ctpen), slpen⟩)
    (cpen : PySem.W.codeIn K cdpen "_law_pen" = true)
    (kpen : PySem.W.keepIn K (.ref fpen) = true)
    (adraw : PySem.W.nsIn K mainGlobals "_law_draw" = some (some (.ref fdraw)))
    (ldraw : K.lookup fdraw = some ⟨ocdraw, oddraw, .func (PySem.W.fnOf "_law_draw" "_law_draw" (defArgs sDraw) (defBody sDraw) (defScope sDraw) .none kVdraw dcdraw pmdraw andraw cddraw ctdraw), sldraw⟩)
    (cdraw : PySem.W.codeIn K cddraw "_law_draw" = true)
    (kdraw : PySem.W.keepIn K (.ref fdraw) = true)
    (apick : PySem.W.nsIn K mainGlobals "_law_pick" = some (some (.ref fpick)))
    (lpick : K.lookup fpick = some ⟨ocpick, odpick, .func (PySem.W.fnOf "_law_pick" "_law_pick" (defArgs sPick) (defBody sPick) (defScope sPick) .none kVpick dcpick pmpick anpick cdpick ctpick), slpick⟩)
    (cpick : PySem.W.codeIn K cdpick "_law_pick" = true)
    (kpick : PySem.W.keepIn K (.ref fpick) = true)
    (awords : PySem.W.nsIn K mainGlobals "_law_words" = some (some (.ref fwords)))
    (lwords : K.lookup fwords = some ⟨ocwords, odwords, .func (PySem.W.fnOf "_law_words" "_law_words" (defArgs sWords) (defBody sWords) (defScope sWords) .none kVwords dcwords pmwords anwords cdwords ctwords), slwords⟩)
    (cwords : PySem.W.codeIn K cdwords "_law_words" = true)
    (kwords : PySem.W.keepIn K (.ref fwords) = true)
    (alname : PySem.W.nsIn K mainGlobals "_law_name" = some (some (.ref flname)))
    (llname : K.lookup flname = some ⟨oclname, odlname, .func (PySem.W.fnOf "_law_name" "_law_name" (defArgs sLName) (defBody sLName) (defScope sLName) .none kVlname dclname pmlname anlname cdlname ctlname), sllname⟩)
    (clname : PySem.W.codeIn K cdlname "_law_name" = true)
    (klname : PySem.W.keepIn K (.ref flname) = true)
    (atick : PySem.W.nsIn K mainGlobals "_law_tick" = some (some (.ref ftick)))
    (ltick : K.lookup ftick = some ⟨octick, odtick, .func (PySem.W.fnOf "_law_tick" "_law_tick" (defArgs sTick) (defBody sTick) (defScope sTick) .none kVtick dctick pmtick antick cdtick cttick), sltick⟩)
    (ctick : PySem.W.codeIn K cdtick "_law_tick" = true)
    (ktick : PySem.W.keepIn K (.ref ftick) = true)
    (alkinds : PySem.W.nsIn K mainGlobals "_law_kinds" = some (some (.ref flkinds)))
    (llkinds : K.lookup flkinds = some ⟨oclkinds, odlkinds, .func (PySem.W.fnOf "_law_kinds" "_law_kinds" (defArgs sKinds) (defBody sKinds) (defScope sKinds) .none kVlkinds dclkinds pmlkinds anlkinds cdlkinds ctlkinds), sllkinds⟩)
    (clkinds : PySem.W.codeIn K cdlkinds "_law_kinds" = true)
    (klkinds : PySem.W.keepIn K (.ref flkinds) = true)
    (adrawn : PySem.W.nsIn K mainGlobals "_law_drawn" = some (some (.ref fdrawn)))
    (ldrawn : K.lookup fdrawn = some ⟨ocdrawn, oddrawn, .func (PySem.W.fnOf "_law_drawn" "_law_drawn" (defArgs sDrawn) (defBody sDrawn) (defScope sDrawn) .none kVdrawn dcdrawn pmdrawn andrawn cddrawn ctdrawn), sldrawn⟩)
    (cdrawn : PySem.W.codeIn K cddrawn "_law_drawn" = true)
    (kdrawn : PySem.W.keepIn K (.ref fdrawn) = true)
    (anamed : PySem.W.nsIn K mainGlobals "_law_named" = some (some (.ref fnamed)))
    (lnamed : K.lookup fnamed = some ⟨ocnamed, odnamed, .func (PySem.W.fnOf "_law_named" "_law_named" (defArgs sNamed) (defBody sNamed) (defScope sNamed) .none kVnamed dcnamed pmnamed annamed cdnamed ctnamed), slnamed⟩)
    (cnamed : PySem.W.codeIn K cdnamed "_law_named" = true)
    (knamed : PySem.W.keepIn K (.ref fnamed) = true)
    (alticks : PySem.W.nsIn K mainGlobals "_law_ticks" = some (some (.ref flticks)))
    (llticks : K.lookup flticks = some ⟨oclticks, odlticks, .func (PySem.W.fnOf "_law_ticks" "_law_ticks" (defArgs sTicks) (defBody sTicks) (defScope sTicks) .none kVlticks dclticks pmlticks anlticks cdlticks ctlticks), sllticks⟩)
    (clticks : PySem.W.codeIn K cdlticks "_law_ticks" = true)
    (klticks : PySem.W.keepIn K (.ref flticks) = true)
    (almade : PySem.W.nsIn K mainGlobals "_law_made" = some (some (.ref flmade)))
    (llmade : K.lookup flmade = some ⟨oclmade, odlmade, .func (PySem.W.fnOf "_law_made" "_law_made" (defArgs sMade) (defBody sMade) (defScope sMade) .none kVlmade dclmade pmlmade anlmade cdlmade ctlmade), sllmade⟩)
    (clmade : PySem.W.codeIn K cdlmade "_law_made" = true)
    (klmade : PySem.W.keepIn K (.ref flmade) = true)
    (abyname : PySem.W.nsIn K mainGlobals "_law_by_name" = some (some (.ref fbyname)))
    (lbyname : K.lookup fbyname = some ⟨ocbyname, odbyname, .func (PySem.W.fnOf "_law_by_name" "_law_by_name" (defArgs sByName) (defBody sByName) (defScope sByName) .none kVbyname dcbyname pmbyname anbyname cdbyname ctbyname), slbyname⟩)
    (cbyname : PySem.W.codeIn K cdbyname "_law_by_name" = true)
    (kbyname : PySem.W.keepIn K (.ref fbyname) = true)
    (aattr : PySem.W.nsIn K mainGlobals "_law_attributes" = some (some (.ref fattr)))
    (lattr : K.lookup fattr = some ⟨ocattr, odattr, .func (PySem.W.fnOf "_law_attributes" "_law_attributes" (defArgs sAttr) (defBody sAttr) (defScope sAttr) .none kVattr dcattr pmattr anattr cdattr ctattr), slattr⟩)
    (cattr : PySem.W.codeIn K cdattr "_law_attributes" = true)
    (kattr : PySem.W.keepIn K (.ref fattr) = true)
    (abri : PySem.W.nsIn K mainGlobals "_law_bases_right" = some (some (.ref fbri)))
    (lbri : K.lookup fbri = some ⟨ocbri, odbri, .func (PySem.W.fnOf "_law_bases_right" "_law_bases_right" (defArgs sBr) (defBody sBr) (defScope sBr) .none kVbri dcbri pmbri anbri cdbri ctbri), slbri⟩)
    (cbri : PySem.W.codeIn K cdbri "_law_bases_right" = true)
    (kbri : PySem.W.keepIn K (.ref fbri) = true)
    (aright : PySem.W.nsIn K mainGlobals "_law_right" = some (some (.ref fright)))
    (lright : K.lookup fright = some ⟨ocright, odright, .func (PySem.W.fnOf "_law_right" "_law_right" (defArgs sRight) (defBody sRight) (defScope sRight) .none kVright dcright pmright anright cdright ctright), slright⟩)
    (cright : PySem.W.codeIn K cdright "_law_right" = true)
    (kright : PySem.W.keepIn K (.ref fright) = true)
    (alaw : PySem.W.nsIn K mainGlobals "law" = some (some (.ref flaw)))
    (llaw : K.lookup flaw = some ⟨oclaw, odlaw, .func (PySem.W.fnOf "law" "law" (defArgs sLaw) (defBody sLaw) (defScope sLaw) .none kVlaw dclaw pmlaw anlaw cdlaw ctlaw), sllaw⟩)
    (claw : PySem.W.codeIn K cdlaw "law" = true)
    (klaw : PySem.W.keepIn K (.ref flaw) = true)
    (awhole : PySem.W.nsIn K mainGlobals "is_whole" = some (some (.ref fwhole)))
    (lwhole : K.lookup fwhole = some ⟨ocwhole, odwhole, .func (PySem.W.fnOf "is_whole" "is_whole" (defArgs sWhole) (defBody sWhole) (defScope sWhole) .none kVwhole dcwhole pmwhole anwhole cdwhole ctwhole), slwhole⟩)
    (cwhole : PySem.W.codeIn K cdwhole "is_whole" = true)
    (kwhole : PySem.W.keepIn K (.ref fwhole) = true)
    (amoment : PySem.W.nsIn K mainGlobals "is_moment" = some (some (.ref fmoment)))
    (lmoment : K.lookup fmoment = some ⟨ocmoment, odmoment, .func (PySem.W.fnOf "is_moment" "is_moment" (defArgs sMoment) (defBody sMoment) (defScope sMoment) .none kVmoment dcmoment pmmoment anmoment cdmoment ctmoment), slmoment⟩)
    (cmoment : PySem.W.codeIn K cdmoment "is_moment" = true)
    (kmoment : PySem.W.keepIn K (.ref fmoment) = true)
    (aisname : PySem.W.nsIn K mainGlobals "is_name" = some (some (.ref fisname)))
    (lisname : K.lookup fisname = some ⟨ocisname, odisname, .func (PySem.W.fnOf "is_name" "is_name" (defArgs sName) (defBody sName) (defScope sName) .none kVisname dcisname pmisname anisname cdisname ctisname), slisname⟩)
    (cisname : PySem.W.codeIn K cdisname "is_name" = true)
    (kisname : PySem.W.keepIn K (.ref fisname) = true)
    (acheck : PySem.W.nsIn K mainGlobals "check_form" = some (some (.ref fcheck)))
    (lcheck : K.lookup fcheck = some ⟨occheck, odcheck, .func (PySem.W.fnOf "check_form" "check_form" (defArgs sCheck) (defBody sCheck) (defScope sCheck) .none kVcheck dccheck pmcheck ancheck cdcheck ctcheck), slcheck⟩)
    (ccheck : PySem.W.codeIn K cdcheck "check_form" = true)
    (kcheck : PySem.W.keepIn K (.ref fcheck) = true)
    (achecked : PySem.W.nsIn K mainGlobals "checked" = some (some (.ref fchecked)))
    (lchecked : K.lookup fchecked = some ⟨occhecked, odchecked, .func (PySem.W.fnOf "checked" "checked" (defArgs sChecked) (defBody sChecked) (defScope sChecked) .none kVchecked dcchecked pmchecked anchecked cdchecked ctchecked), slchecked⟩)
    (cchecked : PySem.W.codeIn K cdchecked "checked" = true)
    (kchecked : PySem.W.keepIn K (.ref fchecked) = true)
    (awordof : PySem.W.nsIn K mainGlobals "word_of" = some (some (.ref fwordof)))
    (lwordof : K.lookup fwordof = some ⟨ocwordof, odwordof, .func (PySem.W.fnOf "word_of" "word_of" (defArgs sWordOf) (defBody sWordOf) (defScope sWordOf) .none kVwordof dcwordof pmwordof anwordof cdwordof ctwordof), slwordof⟩)
    (cwordof : PySem.W.codeIn K cdwordof "word_of" = true)
    (kwordof : PySem.W.keepIn K (.ref fwordof) = true)
    (amadeRow : PySem.W.nsIn K mainGlobals "made_row" = some (some (.ref fmadeRow)))
    (lmadeRow : K.lookup fmadeRow = some ⟨ocmadeRow, odmadeRow, .func (PySem.W.fnOf "made_row" "made_row" (defArgs sMadeRow) (defBody sMadeRow) (defScope sMadeRow) .none kVmadeRow dcmadeRow pmmadeRow anmadeRow cdmadeRow ctmadeRow), slmadeRow⟩)
    (cmadeRow : PySem.W.codeIn K cdmadeRow "made_row" = true)
    (kmadeRow : PySem.W.keepIn K (.ref fmadeRow) = true)
    (anumber : PySem.W.nsIn K mainGlobals "is_number" = some (some (.ref fnumber)))
    (lnumber : K.lookup fnumber = some ⟨ocnumber, odnumber, .func (PySem.W.fnOf "is_number" "is_number" (defArgs sNumber) (defBody sNumber) (defScope sNumber) .none kVnumber dcnumber pmnumber annumber cdnumber ctnumber), slnumber⟩)
    (cnumber : PySem.W.codeIn K cdnumber "is_number" = true)
    (knumber : PySem.W.keepIn K (.ref fnumber) = true)
    (ahasf : PySem.W.nsIn K mainGlobals "has_form" = some (some (.ref fhasf)))
    (lhasf : K.lookup fhasf = some ⟨ochasf, odhasf, .func (PySem.W.fnOf "has_form" "has_form" (defArgs sHasForm) (defBody sHasForm) (defScope sHasForm) .none kVhasf dchasf pmhasf anhasf cdhasf cthasf), slhasf⟩)
    (chasf : PySem.W.codeIn K cdhasf "has_form" = true)
    (khasf : PySem.W.keepIn K (.ref fhasf) = true)
    (awordsof : PySem.W.nsIn K mainGlobals "words_of" = some (some (.ref fwordsof)))
    (lwordsof : K.lookup fwordsof = some ⟨ocwordsof, odwordsof, .func (PySem.W.fnOf "words_of" "words_of" (defArgs sWordsOf) (defBody sWordsOf) (defScope sWordsOf) .none kVwordsof dcwordsof pmwordsof anwordsof cdwordsof ctwordsof), slwordsof⟩)
    (cwordsof : PySem.W.codeIn K cdwordsof "words_of" = true)
    (kwordsof : PySem.W.keepIn K (.ref fwordsof) = true)
    (afirst : PySem.W.nsIn K mainGlobals "first_wrong" = some (some (.ref ffirst)))
    (lfirst : K.lookup ffirst = some ⟨ocfirst, odfirst, .func (PySem.W.fnOf "first_wrong" "first_wrong" (defArgs sFirst) (defBody sFirst) (defScope sFirst) .none kVfirst dcfirst pmfirst anfirst cdfirst ctfirst), slfirst⟩)
    (cfirst : PySem.W.codeIn K cdfirst "first_wrong" = true)
    (kfirst : PySem.W.keepIn K (.ref ffirst) = true)
    (atold : PySem.W.nsIn K mainGlobals "told_by" = some (some (.ref ftold)))
    (ltold : K.lookup ftold = some ⟨octold, odtold, .func (PySem.W.fnOf "told_by" "told_by" (defArgs sTold) (defBody sTold) (defScope sTold) .none kVtold dctold pmtold antold cdtold cttold), sltold⟩)
    (ctold : PySem.W.codeIn K cdtold "told_by" = true)
    (ktold : PySem.W.keepIn K (.ref ftold) = true)
    (avalof : PySem.W.nsIn K mainGlobals "value_of" = some (some (.ref fvalof)))
    (lvalof : K.lookup fvalof = some ⟨ocvalof, odvalof, .func (PySem.W.fnOf "value_of" "value_of" (defArgs sValueOf) (defBody sValueOf) (defScope sValueOf) .none kVvalof dcvalof pmvalof anvalof cdvalof ctvalof), slvalof⟩)
    (cvalof : PySem.W.codeIn K cdvalof "value_of" = true)
    (kvalof : PySem.W.keepIn K (.ref fvalof) = true)
    (ardrow : PySem.W.nsIn K mainGlobals "read_row" = some (some (.ref frdrow)))
    (lrdrow : K.lookup frdrow = some ⟨ocrdrow, odrdrow, .func (PySem.W.fnOf "read_row" "read_row" (defArgs sReadRow) (defBody sReadRow) (defScope sReadRow) .none kVrdrow dcrdrow pmrdrow anrdrow cdrdrow ctrdrow), slrdrow⟩)
    (crdrow : PySem.W.codeIn K cdrdrow "read_row" = true)
    (krdrow : PySem.W.keepIn K (.ref frdrow) = true)
    (thn : PySem.W.specialIn K (.builtin "object.__class__") "__get__" = some (some (.builtin "getset_descriptor.__get__")))
    (tht : PySem.W.takesIn K (.builtin "object.__class__") = some true)
    (gR : PySem.W.nsIn K mainGlobals "Row" = some (some (.ref CR)))
    (icR : PySem.W.isClsIn K CR = true)
    (tyR : PySem.W.typeIn K (.ref CR) = some (.type "type"))
    (sbR : PySem.W.subIn K (.ref CR) (.ref CR) = some true)
    (rdCR : PySem.W.readsIn K CR (.type "type") = true)
    (gaCR : PySem.W.specialIn K (.ref CR) "__getattribute__" = some (some (.builtin "type.__getattribute__")))
    (atread : PySem.W.findCls K (.ref CR) (.type "type") "read" = some (.get (.builtin "classmethod.__get__") (.ref pread) .none (.ref CR)))
    (rcread : PySem.W.recIn K pread "classmethod" = some (.ref fread :: restread))
    (firead : PySem.W.fnIn K fread = true)
    (lread : K.lookup fread = some ⟨ocread, odread, .func (PySem.W.fnOf "read" "Row.read" (defArgs sRowRead) (defBody sRowRead) (defScope sRowRead) .none kVread dcread pmread anread cdread ctread), slread⟩)
    (cread : PySem.W.codeIn K cdread "Row.read" = true)
    (kread : PySem.W.keepIn K (.ref fread) = true)
    (atK : PySem.W.findCls K (.ref CR) (.type "type") "KINDS" = some (.val (.ref aK)))
    (lK : K.lookup aK = some ⟨.type "tuple", odK, .seq itsK nK, slK⟩)
    (vK : itsK.toList.map strOf? = kinds.map some)
    (gCBg : PySem.W.nsIn K mainGlobals "Beginning" = some (some (.ref CBg)))
    (icCBg : PySem.W.isClsIn K CBg = true)
    (tyCBg : PySem.W.typeIn K (.ref CBg) = some (.type "type"))
    (sbCBg : PySem.W.subIn K (.ref CBg) (.ref CBg) = some true)
    (gCCh : PySem.W.nsIn K mainGlobals "Check" = some (some (.ref CCh)))
    (icCCh : PySem.W.isClsIn K CCh = true)
    (tyCCh : PySem.W.typeIn K (.ref CCh) = some (.type "type"))
    (sbCCh : PySem.W.subIn K (.ref CCh) (.ref CCh) = some true)
    (gCMe : PySem.W.nsIn K mainGlobals "Meeting" = some (some (.ref CMe)))
    (icCMe : PySem.W.isClsIn K CMe = true)
    (tyCMe : PySem.W.typeIn K (.ref CMe) = some (.type "type"))
    (sbCMe : PySem.W.subIn K (.ref CMe) (.ref CMe) = some true)
    (aC_begun : PySem.W.nsIn K mainGlobals "Begun" = some (some (.ref C_begun)))
    (pgC_begun : PySem.W.plainGet K C_begun Str.empty = true)
    (hdC_begun : PySem.W.hasDictIn K C_begun = true)
    (poC_begun : PySem.W.plainOver K C_begun = true)
    (saC_begun : PySem.W.findIn K (.ref C_begun) "__setattr__" = some (some (.builtin "object.__setattr__")))
    (mkC_begun : PySem.W.makesIn K C_begun = true)
    (kcC_begun : PySem.W.keepIn K (.ref C_begun) = true)
    (nC_begun__told : PySem.W.findIn K (.ref C_begun) "_told" = some none)
    (nC_begun_kind : PySem.W.findIn K (.ref C_begun) "kind" = some none)
    (nC_begun_tool : PySem.W.findIn K (.ref C_begun) "tool" = some none)
    (nC_begun_moment : PySem.W.findIn K (.ref C_begun) "moment" = some none)
    (abegun : PySem.W.findIn K (.ref C_begun) "__init__" = some (some (.ref fbegun)))
    (ibegun : PySem.W.isFn K (.ref fbegun) = true)
    (lbegun : K.lookup fbegun = some ⟨ocbegun, odbegun, .func (PySem.W.fnOf "__init__" "Begun.__init__" (defArgs sBegun) (defBody sBegun) (defScope sBegun) .none kVbegun dcbegun pmbegun anbegun cdbegun ctbegun), slbegun⟩)
    (cbegun : PySem.W.codeIn K cdbegun "Begun.__init__" = true)
    (kbegun : PySem.W.keepIn K (.ref fbegun) = true)
    (thaC_begun : PySem.W.findIn K (.ref C_begun) "__class__" = some (some (.builtin "object.__class__")))
    (thmC_begun : PySem.W.mroIn K C_begun (.type "object") = some true)
    (artaC_begun : PySem.W.findIn K (.ref C_begun) "_told_as" = some (some (.ref frta)))
    (irta : PySem.W.isFn K (.ref frta) = true)
    (lrta : K.lookup frta = some ⟨ocrta, odrta, .func (PySem.W.fnOf "_told_as" "Row._told_as" (defArgs sToldAs) (defBody sToldAs) (defScope sToldAs) .none kVrta dcrta pmrta anrta cdrta ctrta), slrta⟩)
    (crta : PySem.W.codeIn K cdrta "Row._told_as" = true)
    (krta : PySem.W.keepIn K (.ref frta) = true)
    (areqC_begun : PySem.W.findIn K (.ref C_begun) "__eq__" = some (some (.ref freq)))
    (ireq : PySem.W.isFn K (.ref freq) = true)
    (lreq : K.lookup freq = some ⟨ocreq, odreq, .func (PySem.W.fnOf "__eq__" "Row.__eq__" (defArgs sEqR) (defBody sEqR) (defScope sEqR) .none kVreq dcreq pmreq anreq cdreq ctreq), slreq⟩)
    (creq : PySem.W.codeIn K cdreq "Row.__eq__" = true)
    (kreq : PySem.W.keepIn K (.ref freq) = true)
    (arstrC_begun : PySem.W.findIn K (.ref C_begun) "__str__" = some (some (.ref frstr)))
    (irstr : PySem.W.isFn K (.ref frstr) = true)
    (lrstr : K.lookup frstr = some ⟨ocrstr, odrstr, .func (PySem.W.fnOf "__str__" "Row.__str__" (defArgs sStrR) (defBody sStrR) (defScope sStrR) .none kVrstr dcrstr pmrstr anrstr cdrstr ctrstr), slrstr⟩)
    (crstr : PySem.W.codeIn K cdrstr "Row.__str__" = true)
    (krstr : PySem.W.keepIn K (.ref frstr) = true)
    (aptoC_begun : PySem.W.findIn K (.ref C_begun) "tools" = some (some (.ref qpto)))
    (gpto : PySem.W.specialIn K (.ref qpto) "__get__" = some (some (.builtin "property.__get__")))
    (tpto : PySem.W.takesIn K (.ref qpto) = some true)
    (rpto : PySem.W.recIn K qpto "property" = some (.ref fpto :: restpto))
    (lpto : K.lookup fpto = some ⟨ocpto, odpto, .func (PySem.W.fnOf "tools" "Row.tools" (defArgs sTools) (defBody sTools) (defScope sTools) .none kVpto dcpto pmpto anpto cdpto ctpto), slpto⟩)
    (cpto : PySem.W.codeIn K cdpto "Row.tools" = true)
    (kpto : PySem.W.keepIn K (.ref fpto) = true)
    (apmoC_begun : PySem.W.findIn K (.ref C_begun) "moments" = some (some (.ref qpmo)))
    (gpmo : PySem.W.specialIn K (.ref qpmo) "__get__" = some (some (.builtin "property.__get__")))
    (tpmo : PySem.W.takesIn K (.ref qpmo) = some true)
    (rpmo : PySem.W.recIn K qpmo "property" = some (.ref fpmo :: restpmo))
    (lpmo : K.lookup fpmo = some ⟨ocpmo, odpmo, .func (PySem.W.fnOf "moments" "Row.moments" (defArgs sMoments) (defBody sMoments) (defScope sMoments) .none kVpmo dcpmo pmpmo anpmo cdpmo ctpmo), slpmo⟩)
    (cpmo : PySem.W.codeIn K cdpmo "Row.moments" = true)
    (kpmo : PySem.W.keepIn K (.ref fpmo) = true)
    (apbeC_begun : PySem.W.findIn K (.ref C_begun) "begins" = some (some (.ref qpbe)))
    (gpbe : PySem.W.specialIn K (.ref qpbe) "__get__" = some (some (.builtin "property.__get__")))
    (tpbe : PySem.W.takesIn K (.ref qpbe) = some true)
    (rpbe : PySem.W.recIn K qpbe "property" = some (.ref fpbe :: restpbe))
    (lpbe : K.lookup fpbe = some ⟨ocpbe, odpbe, .func (PySem.W.fnOf "begins" "Row.begins" (defArgs sBegins) (defBody sBegins) (defScope sBegins) .none kVpbe dcpbe pmpbe anpbe cdpbe ctpbe), slpbe⟩)
    (cpbe : PySem.W.codeIn K cdpbe "Row.begins" = true)
    (kpbe : PySem.W.keepIn K (.ref fpbe) = true)
    (icsC_begun : PySem.W.isClsIn K C_begun = true)
    (tysC_begun : PySem.W.typeIn K (.ref C_begun) = some (.type "type"))
    (sbsC_begun : PySem.W.subIn K (.ref C_begun) (.ref C_begun) = some true)
    (tupC_begun : PySem.W.subIn K (.type "tuple") (.ref C_begun) = some false)
    (sCBg_begun : PySem.W.subIn K (.ref C_begun) (.ref CBg) = some true)
    (sCCh_begun : PySem.W.subIn K (.ref C_begun) (.ref CCh) = some false)
    (sCMe_begun : PySem.W.subIn K (.ref C_begun) (.ref CMe) = some false)
    (sRC_begun : PySem.W.subIn K (.ref C_begun) (.ref CR) = some true)
    (aC_setby : PySem.W.nsIn K mainGlobals "SetBy" = some (some (.ref C_setby)))
    (pgC_setby : PySem.W.plainGet K C_setby Str.empty = true)
    (hdC_setby : PySem.W.hasDictIn K C_setby = true)
    (poC_setby : PySem.W.plainOver K C_setby = true)
    (saC_setby : PySem.W.findIn K (.ref C_setby) "__setattr__" = some (some (.builtin "object.__setattr__")))
    (mkC_setby : PySem.W.makesIn K C_setby = true)
    (kcC_setby : PySem.W.keepIn K (.ref C_setby) = true)
    (nC_setby__told : PySem.W.findIn K (.ref C_setby) "_told" = some none)
    (nC_setby_kind : PySem.W.findIn K (.ref C_setby) "kind" = some none)
    (nC_setby_tool : PySem.W.findIn K (.ref C_setby) "tool" = some none)
    (nC_setby_moment : PySem.W.findIn K (.ref C_setby) "moment" = some none)
    (nC_setby_by : PySem.W.findIn K (.ref C_setby) "by" = some none)
    (asetby : PySem.W.findIn K (.ref C_setby) "__init__" = some (some (.ref fsetby)))
    (isetby : PySem.W.isFn K (.ref fsetby) = true)
    (lsetby : K.lookup fsetby = some ⟨ocsetby, odsetby, .func (PySem.W.fnOf "__init__" "SetBy.__init__" (defArgs sSetBy) (defBody sSetBy) (defScope sSetBy) .none kVsetby dcsetby pmsetby ansetby cdsetby ctsetby), slsetby⟩)
    (csetby : PySem.W.codeIn K cdsetby "SetBy.__init__" = true)
    (ksetby : PySem.W.keepIn K (.ref fsetby) = true)
    (thaC_setby : PySem.W.findIn K (.ref C_setby) "__class__" = some (some (.builtin "object.__class__")))
    (thmC_setby : PySem.W.mroIn K C_setby (.type "object") = some true)
    (artaC_setby : PySem.W.findIn K (.ref C_setby) "_told_as" = some (some (.ref frta)))
    (areqC_setby : PySem.W.findIn K (.ref C_setby) "__eq__" = some (some (.ref freq)))
    (arstrC_setby : PySem.W.findIn K (.ref C_setby) "__str__" = some (some (.ref frstr)))
    (aptoC_setby : PySem.W.findIn K (.ref C_setby) "tools" = some (some (.ref qpto)))
    (apmoC_setby : PySem.W.findIn K (.ref C_setby) "moments" = some (some (.ref qpmo)))
    (apbeC_setby : PySem.W.findIn K (.ref C_setby) "begins" = some (some (.ref qpbe)))
    (icsC_setby : PySem.W.isClsIn K C_setby = true)
    (tysC_setby : PySem.W.typeIn K (.ref C_setby) = some (.type "type"))
    (sbsC_setby : PySem.W.subIn K (.ref C_setby) (.ref C_setby) = some true)
    (tupC_setby : PySem.W.subIn K (.type "tuple") (.ref C_setby) = some false)
    (sCBg_setby : PySem.W.subIn K (.ref C_setby) (.ref CBg) = some true)
    (sCCh_setby : PySem.W.subIn K (.ref C_setby) (.ref CCh) = some true)
    (sCMe_setby : PySem.W.subIn K (.ref C_setby) (.ref CMe) = some false)
    (sRC_setby : PySem.W.subIn K (.ref C_setby) (.ref CR) = some true)
    (aC_found : PySem.W.nsIn K mainGlobals "Found" = some (some (.ref C_found)))
    (pgC_found : PySem.W.plainGet K C_found Str.empty = true)
    (hdC_found : PySem.W.hasDictIn K C_found = true)
    (poC_found : PySem.W.plainOver K C_found = true)
    (saC_found : PySem.W.findIn K (.ref C_found) "__setattr__" = some (some (.builtin "object.__setattr__")))
    (mkC_found : PySem.W.makesIn K C_found = true)
    (kcC_found : PySem.W.keepIn K (.ref C_found) = true)
    (nC_found__told : PySem.W.findIn K (.ref C_found) "_told" = some none)
    (nC_found_kind : PySem.W.findIn K (.ref C_found) "kind" = some none)
    (nC_found_tool : PySem.W.findIn K (.ref C_found) "tool" = some none)
    (nC_found_moment : PySem.W.findIn K (.ref C_found) "moment" = some none)
    (nC_found_is_sound : PySem.W.findIn K (.ref C_found) "is_sound" = some none)
    (afound : PySem.W.findIn K (.ref C_found) "__init__" = some (some (.ref ffound)))
    (ifound : PySem.W.isFn K (.ref ffound) = true)
    (lfound : K.lookup ffound = some ⟨ocfound, odfound, .func (PySem.W.fnOf "__init__" "Found.__init__" (defArgs sFound) (defBody sFound) (defScope sFound) .none kVfound dcfound pmfound anfound cdfound ctfound), slfound⟩)
    (cfound : PySem.W.codeIn K cdfound "Found.__init__" = true)
    (kfound : PySem.W.keepIn K (.ref ffound) = true)
    (thaC_found : PySem.W.findIn K (.ref C_found) "__class__" = some (some (.builtin "object.__class__")))
    (thmC_found : PySem.W.mroIn K C_found (.type "object") = some true)
    (artaC_found : PySem.W.findIn K (.ref C_found) "_told_as" = some (some (.ref frta)))
    (areqC_found : PySem.W.findIn K (.ref C_found) "__eq__" = some (some (.ref freq)))
    (arstrC_found : PySem.W.findIn K (.ref C_found) "__str__" = some (some (.ref frstr)))
    (aptoC_found : PySem.W.findIn K (.ref C_found) "tools" = some (some (.ref qpto)))
    (apmoC_found : PySem.W.findIn K (.ref C_found) "moments" = some (some (.ref qpmo)))
    (apbeC_found : PySem.W.findIn K (.ref C_found) "begins" = some (some (.ref qpbe)))
    (icsC_found : PySem.W.isClsIn K C_found = true)
    (tysC_found : PySem.W.typeIn K (.ref C_found) = some (.type "type"))
    (sbsC_found : PySem.W.subIn K (.ref C_found) (.ref C_found) = some true)
    (tupC_found : PySem.W.subIn K (.type "tuple") (.ref C_found) = some false)
    (sCBg_found : PySem.W.subIn K (.ref C_found) (.ref CBg) = some false)
    (sCCh_found : PySem.W.subIn K (.ref C_found) (.ref CCh) = some true)
    (sCMe_found : PySem.W.subIn K (.ref C_found) (.ref CMe) = some false)
    (sRC_found : PySem.W.subIn K (.ref C_found) (.ref CR) = some true)
    (aC_trusted : PySem.W.nsIn K mainGlobals "Trusted" = some (some (.ref C_trusted)))
    (pgC_trusted : PySem.W.plainGet K C_trusted Str.empty = true)
    (hdC_trusted : PySem.W.hasDictIn K C_trusted = true)
    (poC_trusted : PySem.W.plainOver K C_trusted = true)
    (saC_trusted : PySem.W.findIn K (.ref C_trusted) "__setattr__" = some (some (.builtin "object.__setattr__")))
    (mkC_trusted : PySem.W.makesIn K C_trusted = true)
    (kcC_trusted : PySem.W.keepIn K (.ref C_trusted) = true)
    (nC_trusted__told : PySem.W.findIn K (.ref C_trusted) "_told" = some none)
    (nC_trusted_kind : PySem.W.findIn K (.ref C_trusted) "kind" = some none)
    (nC_trusted_tool : PySem.W.findIn K (.ref C_trusted) "tool" = some none)
    (atrusted : PySem.W.findIn K (.ref C_trusted) "__init__" = some (some (.ref ftrusted)))
    (itrusted : PySem.W.isFn K (.ref ftrusted) = true)
    (ltrusted : K.lookup ftrusted = some ⟨octrusted, odtrusted, .func (PySem.W.fnOf "__init__" "Trusted.__init__" (defArgs sTrusted) (defBody sTrusted) (defScope sTrusted) .none kVtrusted dctrusted pmtrusted antrusted cdtrusted cttrusted), sltrusted⟩)
    (ctrusted : PySem.W.codeIn K cdtrusted "Trusted.__init__" = true)
    (ktrusted : PySem.W.keepIn K (.ref ftrusted) = true)
    (thaC_trusted : PySem.W.findIn K (.ref C_trusted) "__class__" = some (some (.builtin "object.__class__")))
    (thmC_trusted : PySem.W.mroIn K C_trusted (.type "object") = some true)
    (artaC_trusted : PySem.W.findIn K (.ref C_trusted) "_told_as" = some (some (.ref frta)))
    (areqC_trusted : PySem.W.findIn K (.ref C_trusted) "__eq__" = some (some (.ref freq)))
    (arstrC_trusted : PySem.W.findIn K (.ref C_trusted) "__str__" = some (some (.ref frstr)))
    (aptoC_trusted : PySem.W.findIn K (.ref C_trusted) "tools" = some (some (.ref qpto)))
    (apmoC_trusted : PySem.W.findIn K (.ref C_trusted) "moments" = some (some (.ref qpmo)))
    (apbeC_trusted : PySem.W.findIn K (.ref C_trusted) "begins" = some (some (.ref qpbe)))
    (icsC_trusted : PySem.W.isClsIn K C_trusted = true)
    (tysC_trusted : PySem.W.typeIn K (.ref C_trusted) = some (.type "type"))
    (sbsC_trusted : PySem.W.subIn K (.ref C_trusted) (.ref C_trusted) = some true)
    (tupC_trusted : PySem.W.subIn K (.type "tuple") (.ref C_trusted) = some false)
    (sCBg_trusted : PySem.W.subIn K (.ref C_trusted) (.ref CBg) = some false)
    (sCCh_trusted : PySem.W.subIn K (.ref C_trusted) (.ref CCh) = some true)
    (sCMe_trusted : PySem.W.subIn K (.ref C_trusted) (.ref CMe) = some false)
    (sRC_trusted : PySem.W.subIn K (.ref C_trusted) (.ref CR) = some true)
    (aC_passed : PySem.W.nsIn K mainGlobals "Passed" = some (some (.ref C_passed)))
    (pgC_passed : PySem.W.plainGet K C_passed Str.empty = true)
    (hdC_passed : PySem.W.hasDictIn K C_passed = true)
    (poC_passed : PySem.W.plainOver K C_passed = true)
    (saC_passed : PySem.W.findIn K (.ref C_passed) "__setattr__" = some (some (.builtin "object.__setattr__")))
    (mkC_passed : PySem.W.makesIn K C_passed = true)
    (kcC_passed : PySem.W.keepIn K (.ref C_passed) = true)
    (nC_passed__told : PySem.W.findIn K (.ref C_passed) "_told" = some none)
    (nC_passed_kind : PySem.W.findIn K (.ref C_passed) "kind" = some none)
    (nC_passed_tool : PySem.W.findIn K (.ref C_passed) "tool" = some none)
    (nC_passed_moment : PySem.W.findIn K (.ref C_passed) "moment" = some none)
    (nC_passed_by : PySem.W.findIn K (.ref C_passed) "by" = some none)
    (apassed : PySem.W.findIn K (.ref C_passed) "__init__" = some (some (.ref fpassed)))
    (ipassed : PySem.W.isFn K (.ref fpassed) = true)
    (lpassed : K.lookup fpassed = some ⟨ocpassed, odpassed, .func (PySem.W.fnOf "__init__" "Passed.__init__" (defArgs sPassed) (defBody sPassed) (defScope sPassed) .none kVpassed dcpassed pmpassed anpassed cdpassed ctpassed), slpassed⟩)
    (cpassed : PySem.W.codeIn K cdpassed "Passed.__init__" = true)
    (kpassed : PySem.W.keepIn K (.ref fpassed) = true)
    (thaC_passed : PySem.W.findIn K (.ref C_passed) "__class__" = some (some (.builtin "object.__class__")))
    (thmC_passed : PySem.W.mroIn K C_passed (.type "object") = some true)
    (artaC_passed : PySem.W.findIn K (.ref C_passed) "_told_as" = some (some (.ref frta)))
    (areqC_passed : PySem.W.findIn K (.ref C_passed) "__eq__" = some (some (.ref freq)))
    (arstrC_passed : PySem.W.findIn K (.ref C_passed) "__str__" = some (some (.ref frstr)))
    (aptoC_passed : PySem.W.findIn K (.ref C_passed) "tools" = some (some (.ref qpto)))
    (apmoC_passed : PySem.W.findIn K (.ref C_passed) "moments" = some (some (.ref qpmo)))
    (apbeC_passed : PySem.W.findIn K (.ref C_passed) "begins" = some (some (.ref qpbe)))
    (icsC_passed : PySem.W.isClsIn K C_passed = true)
    (tysC_passed : PySem.W.typeIn K (.ref C_passed) = some (.type "type"))
    (sbsC_passed : PySem.W.subIn K (.ref C_passed) (.ref C_passed) = some true)
    (tupC_passed : PySem.W.subIn K (.type "tuple") (.ref C_passed) = some false)
    (sCBg_passed : PySem.W.subIn K (.ref C_passed) (.ref CBg) = some false)
    (sCCh_passed : PySem.W.subIn K (.ref C_passed) (.ref CCh) = some true)
    (sCMe_passed : PySem.W.subIn K (.ref C_passed) (.ref CMe) = some false)
    (sRC_passed : PySem.W.subIn K (.ref C_passed) (.ref CR) = some true)
    (aC_failed : PySem.W.nsIn K mainGlobals "Failed" = some (some (.ref C_failed)))
    (pgC_failed : PySem.W.plainGet K C_failed Str.empty = true)
    (hdC_failed : PySem.W.hasDictIn K C_failed = true)
    (poC_failed : PySem.W.plainOver K C_failed = true)
    (saC_failed : PySem.W.findIn K (.ref C_failed) "__setattr__" = some (some (.builtin "object.__setattr__")))
    (mkC_failed : PySem.W.makesIn K C_failed = true)
    (kcC_failed : PySem.W.keepIn K (.ref C_failed) = true)
    (nC_failed__told : PySem.W.findIn K (.ref C_failed) "_told" = some none)
    (nC_failed_kind : PySem.W.findIn K (.ref C_failed) "kind" = some none)
    (nC_failed_tool : PySem.W.findIn K (.ref C_failed) "tool" = some none)
    (nC_failed_moment : PySem.W.findIn K (.ref C_failed) "moment" = some none)
    (nC_failed_by : PySem.W.findIn K (.ref C_failed) "by" = some none)
    (afailed : PySem.W.findIn K (.ref C_failed) "__init__" = some (some (.ref ffailed)))
    (ifailed : PySem.W.isFn K (.ref ffailed) = true)
    (lfailed : K.lookup ffailed = some ⟨ocfailed, odfailed, .func (PySem.W.fnOf "__init__" "Failed.__init__" (defArgs sFailed) (defBody sFailed) (defScope sFailed) .none kVfailed dcfailed pmfailed anfailed cdfailed ctfailed), slfailed⟩)
    (cfailed : PySem.W.codeIn K cdfailed "Failed.__init__" = true)
    (kfailed : PySem.W.keepIn K (.ref ffailed) = true)
    (thaC_failed : PySem.W.findIn K (.ref C_failed) "__class__" = some (some (.builtin "object.__class__")))
    (thmC_failed : PySem.W.mroIn K C_failed (.type "object") = some true)
    (artaC_failed : PySem.W.findIn K (.ref C_failed) "_told_as" = some (some (.ref frta)))
    (areqC_failed : PySem.W.findIn K (.ref C_failed) "__eq__" = some (some (.ref freq)))
    (arstrC_failed : PySem.W.findIn K (.ref C_failed) "__str__" = some (some (.ref frstr)))
    (aptoC_failed : PySem.W.findIn K (.ref C_failed) "tools" = some (some (.ref qpto)))
    (apmoC_failed : PySem.W.findIn K (.ref C_failed) "moments" = some (some (.ref qpmo)))
    (apbeC_failed : PySem.W.findIn K (.ref C_failed) "begins" = some (some (.ref qpbe)))
    (icsC_failed : PySem.W.isClsIn K C_failed = true)
    (tysC_failed : PySem.W.typeIn K (.ref C_failed) = some (.type "type"))
    (sbsC_failed : PySem.W.subIn K (.ref C_failed) (.ref C_failed) = some true)
    (tupC_failed : PySem.W.subIn K (.type "tuple") (.ref C_failed) = some false)
    (sCBg_failed : PySem.W.subIn K (.ref C_failed) (.ref CBg) = some false)
    (sCCh_failed : PySem.W.subIn K (.ref C_failed) (.ref CCh) = some true)
    (sCMe_failed : PySem.W.subIn K (.ref C_failed) (.ref CMe) = some false)
    (sRC_failed : PySem.W.subIn K (.ref C_failed) (.ref CR) = some true)
    (aC_agreed : PySem.W.nsIn K mainGlobals "Agreed" = some (some (.ref C_agreed)))
    (pgC_agreed : PySem.W.plainGet K C_agreed Str.empty = true)
    (hdC_agreed : PySem.W.hasDictIn K C_agreed = true)
    (poC_agreed : PySem.W.plainOver K C_agreed = true)
    (saC_agreed : PySem.W.findIn K (.ref C_agreed) "__setattr__" = some (some (.builtin "object.__setattr__")))
    (mkC_agreed : PySem.W.makesIn K C_agreed = true)
    (kcC_agreed : PySem.W.keepIn K (.ref C_agreed) = true)
    (nC_agreed__told : PySem.W.findIn K (.ref C_agreed) "_told" = some none)
    (nC_agreed_kind : PySem.W.findIn K (.ref C_agreed) "kind" = some none)
    (nC_agreed_one : PySem.W.findIn K (.ref C_agreed) "one" = some none)
    (nC_agreed_moment : PySem.W.findIn K (.ref C_agreed) "moment" = some none)
    (nC_agreed_other : PySem.W.findIn K (.ref C_agreed) "other" = some none)
    (nC_agreed_later : PySem.W.findIn K (.ref C_agreed) "later" = some none)
    (aagreed : PySem.W.findIn K (.ref C_agreed) "__init__" = some (some (.ref fagreed)))
    (iagreed : PySem.W.isFn K (.ref fagreed) = true)
    (lagreed : K.lookup fagreed = some ⟨ocagreed, odagreed, .func (PySem.W.ksFn "__init__" "Agreed.__init__" (defArgs sAgreed) (defBody sAgreed) (defScope sAgreed) .none kVagreed dcagreed pmagreed anagreed (.ref cdaagreed) ctagreed ccagreed), slagreed⟩)
    (cagreed : PySem.W.codeIn K (.ref cdaagreed) "Agreed.__init__" = true)
    (kagreed : PySem.W.keepIn K (.ref fagreed) = true)
    (eagreed : K.lookup ccagreed = some ⟨clagreed, cldagreed, .cell (some (.ref C_agreed)), cslagreed⟩)
    (dagreed : K.lookup cdaagreed = some ⟨cclagreed, cddagreed, .fields vsagreed, ccsagreed⟩)
    (vagreed : (vsagreed[2]? : Option Value) = some (.str fileagreed tfagreed))
    (wagreed : ((l.prog.main.file : Str) == fileagreed) = true)
    (yagreed : PySem.W.mroIn K C_agreed (.ref C_agreed) = some true)
    (zagreed : PySem.W.clsIn K C_agreed = some cd_agreed)
    (xagreed : PySem.W.ks_superIn K C_agreed C_agreed "__init__" = some (some (.ref fmeet)))
    (lmeet : K.lookup fmeet = some ⟨ocmeet, odmeet, .func (PySem.W.fnOf "__init__" "Meeting.__init__" (defArgs sMeeting) (defBody sMeeting) (defScope sMeeting) .none kVmeet dcmeet pmmeet anmeet cdmeet ctmeet), slmeet⟩)
    (cmeet : PySem.W.codeIn K cdmeet "Meeting.__init__" = true)
    (kmeet : PySem.W.keepIn K (.ref fmeet) = true)
    (tmeet : PySem.W.typeIn K (.ref fmeet) = some (.type "function"))
    (fnmeet : PySem.W.fnIn K fmeet = true)
    (thaC_agreed : PySem.W.findIn K (.ref C_agreed) "__class__" = some (some (.builtin "object.__class__")))
    (thmC_agreed : PySem.W.mroIn K C_agreed (.type "object") = some true)
    (artaC_agreed : PySem.W.findIn K (.ref C_agreed) "_told_as" = some (some (.ref frta)))
    (areqC_agreed : PySem.W.findIn K (.ref C_agreed) "__eq__" = some (some (.ref freq)))
    (arstrC_agreed : PySem.W.findIn K (.ref C_agreed) "__str__" = some (some (.ref frstr)))
    (aptoC_agreed : PySem.W.findIn K (.ref C_agreed) "tools" = some (some (.ref qpto)))
    (apmoC_agreed : PySem.W.findIn K (.ref C_agreed) "moments" = some (some (.ref qpmo)))
    (apbeC_agreed : PySem.W.findIn K (.ref C_agreed) "begins" = some (some (.ref qpbe)))
    (icsC_agreed : PySem.W.isClsIn K C_agreed = true)
    (tysC_agreed : PySem.W.typeIn K (.ref C_agreed) = some (.type "type"))
    (sbsC_agreed : PySem.W.subIn K (.ref C_agreed) (.ref C_agreed) = some true)
    (tupC_agreed : PySem.W.subIn K (.type "tuple") (.ref C_agreed) = some false)
    (sCBg_agreed : PySem.W.subIn K (.ref C_agreed) (.ref CBg) = some false)
    (sCCh_agreed : PySem.W.subIn K (.ref C_agreed) (.ref CCh) = some false)
    (sCMe_agreed : PySem.W.subIn K (.ref C_agreed) (.ref CMe) = some true)
    (sRC_agreed : PySem.W.subIn K (.ref C_agreed) (.ref CR) = some true)
    (aC_differed : PySem.W.nsIn K mainGlobals "Differed" = some (some (.ref C_differed)))
    (pgC_differed : PySem.W.plainGet K C_differed Str.empty = true)
    (hdC_differed : PySem.W.hasDictIn K C_differed = true)
    (poC_differed : PySem.W.plainOver K C_differed = true)
    (saC_differed : PySem.W.findIn K (.ref C_differed) "__setattr__" = some (some (.builtin "object.__setattr__")))
    (mkC_differed : PySem.W.makesIn K C_differed = true)
    (kcC_differed : PySem.W.keepIn K (.ref C_differed) = true)
    (nC_differed__told : PySem.W.findIn K (.ref C_differed) "_told" = some none)
    (nC_differed_kind : PySem.W.findIn K (.ref C_differed) "kind" = some none)
    (nC_differed_one : PySem.W.findIn K (.ref C_differed) "one" = some none)
    (nC_differed_moment : PySem.W.findIn K (.ref C_differed) "moment" = some none)
    (nC_differed_other : PySem.W.findIn K (.ref C_differed) "other" = some none)
    (nC_differed_later : PySem.W.findIn K (.ref C_differed) "later" = some none)
    (adiffered : PySem.W.findIn K (.ref C_differed) "__init__" = some (some (.ref fdiffered)))
    (idiffered : PySem.W.isFn K (.ref fdiffered) = true)
    (ldiffered : K.lookup fdiffered = some ⟨ocdiffered, oddiffered, .func (PySem.W.ksFn "__init__" "Differed.__init__" (defArgs sDiffered) (defBody sDiffered) (defScope sDiffered) .none kVdiffered dcdiffered pmdiffered andiffered (.ref cdadiffered) ctdiffered ccdiffered), sldiffered⟩)
    (cdiffered : PySem.W.codeIn K (.ref cdadiffered) "Differed.__init__" = true)
    (kdiffered : PySem.W.keepIn K (.ref fdiffered) = true)
    (ediffered : K.lookup ccdiffered = some ⟨cldiffered, clddiffered, .cell (some (.ref C_differed)), csldiffered⟩)
    (ddiffered : K.lookup cdadiffered = some ⟨ccldiffered, cdddiffered, .fields vsdiffered, ccsdiffered⟩)
    (vdiffered : (vsdiffered[2]? : Option Value) = some (.str filediffered tfdiffered))
    (wdiffered : ((l.prog.main.file : Str) == filediffered) = true)
    (ydiffered : PySem.W.mroIn K C_differed (.ref C_differed) = some true)
    (zdiffered : PySem.W.clsIn K C_differed = some cd_differed)
    (xdiffered : PySem.W.ks_superIn K C_differed C_differed "__init__" = some (some (.ref fmeet)))
    (thaC_differed : PySem.W.findIn K (.ref C_differed) "__class__" = some (some (.builtin "object.__class__")))
    (thmC_differed : PySem.W.mroIn K C_differed (.type "object") = some true)
    (artaC_differed : PySem.W.findIn K (.ref C_differed) "_told_as" = some (some (.ref frta)))
    (areqC_differed : PySem.W.findIn K (.ref C_differed) "__eq__" = some (some (.ref freq)))
    (arstrC_differed : PySem.W.findIn K (.ref C_differed) "__str__" = some (some (.ref frstr)))
    (aptoC_differed : PySem.W.findIn K (.ref C_differed) "tools" = some (some (.ref qpto)))
    (apmoC_differed : PySem.W.findIn K (.ref C_differed) "moments" = some (some (.ref qpmo)))
    (apbeC_differed : PySem.W.findIn K (.ref C_differed) "begins" = some (some (.ref qpbe)))
    (icsC_differed : PySem.W.isClsIn K C_differed = true)
    (tysC_differed : PySem.W.typeIn K (.ref C_differed) = some (.type "type"))
    (sbsC_differed : PySem.W.subIn K (.ref C_differed) (.ref C_differed) = some true)
    (tupC_differed : PySem.W.subIn K (.type "tuple") (.ref C_differed) = some false)
    (sCBg_differed : PySem.W.subIn K (.ref C_differed) (.ref CBg) = some false)
    (sCCh_differed : PySem.W.subIn K (.ref C_differed) (.ref CCh) = some false)
    (sCMe_differed : PySem.W.subIn K (.ref C_differed) (.ref CMe) = some true)
    (sRC_differed : PySem.W.subIn K (.ref C_differed) (.ref CR) = some true)
    (aC_served : PySem.W.nsIn K mainGlobals "Served" = some (some (.ref C_served)))
    (pgC_served : PySem.W.plainGet K C_served Str.empty = true)
    (hdC_served : PySem.W.hasDictIn K C_served = true)
    (poC_served : PySem.W.plainOver K C_served = true)
    (saC_served : PySem.W.findIn K (.ref C_served) "__setattr__" = some (some (.builtin "object.__setattr__")))
    (mkC_served : PySem.W.makesIn K C_served = true)
    (kcC_served : PySem.W.keepIn K (.ref C_served) = true)
    (nC_served__told : PySem.W.findIn K (.ref C_served) "_told" = some none)
    (nC_served_kind : PySem.W.findIn K (.ref C_served) "kind" = some none)
    (nC_served_one : PySem.W.findIn K (.ref C_served) "one" = some none)
    (nC_served_moment : PySem.W.findIn K (.ref C_served) "moment" = some none)
    (nC_served_other : PySem.W.findIn K (.ref C_served) "other" = some none)
    (nC_served_later : PySem.W.findIn K (.ref C_served) "later" = some none)
    (aserved : PySem.W.findIn K (.ref C_served) "__init__" = some (some (.ref fserved)))
    (iserved : PySem.W.isFn K (.ref fserved) = true)
    (lserved : K.lookup fserved = some ⟨ocserved, odserved, .func (PySem.W.ksFn "__init__" "Served.__init__" (defArgs sServed) (defBody sServed) (defScope sServed) .none kVserved dcserved pmserved anserved (.ref cdaserved) ctserved ccserved), slserved⟩)
    (cserved : PySem.W.codeIn K (.ref cdaserved) "Served.__init__" = true)
    (kserved : PySem.W.keepIn K (.ref fserved) = true)
    (eserved : K.lookup ccserved = some ⟨clserved, cldserved, .cell (some (.ref C_served)), cslserved⟩)
    (dserved : K.lookup cdaserved = some ⟨cclserved, cddserved, .fields vsserved, ccsserved⟩)
    (vserved : (vsserved[2]? : Option Value) = some (.str fileserved tfserved))
    (wserved : ((l.prog.main.file : Str) == fileserved) = true)
    (yserved : PySem.W.mroIn K C_served (.ref C_served) = some true)
    (zserved : PySem.W.clsIn K C_served = some cd_served)
    (xserved : PySem.W.ks_superIn K C_served C_served "__init__" = some (some (.ref fmeet)))
    (thaC_served : PySem.W.findIn K (.ref C_served) "__class__" = some (some (.builtin "object.__class__")))
    (thmC_served : PySem.W.mroIn K C_served (.type "object") = some true)
    (artaC_served : PySem.W.findIn K (.ref C_served) "_told_as" = some (some (.ref frta)))
    (areqC_served : PySem.W.findIn K (.ref C_served) "__eq__" = some (some (.ref freq)))
    (arstrC_served : PySem.W.findIn K (.ref C_served) "__str__" = some (some (.ref frstr)))
    (aptoC_served : PySem.W.findIn K (.ref C_served) "tools" = some (some (.ref qpto)))
    (apmoC_served : PySem.W.findIn K (.ref C_served) "moments" = some (some (.ref qpmo)))
    (apbeC_served : PySem.W.findIn K (.ref C_served) "begins" = some (some (.ref qpbe)))
    (icsC_served : PySem.W.isClsIn K C_served = true)
    (tysC_served : PySem.W.typeIn K (.ref C_served) = some (.type "type"))
    (sbsC_served : PySem.W.subIn K (.ref C_served) (.ref C_served) = some true)
    (tupC_served : PySem.W.subIn K (.type "tuple") (.ref C_served) = some false)
    (sCBg_served : PySem.W.subIn K (.ref C_served) (.ref CBg) = some false)
    (sCCh_served : PySem.W.subIn K (.ref C_served) (.ref CCh) = some false)
    (sCMe_served : PySem.W.subIn K (.ref C_served) (.ref CMe) = some true)
    (sRC_served : PySem.W.subIn K (.ref C_served) (.ref CR) = some true)
    (aC_backed : PySem.W.nsIn K mainGlobals "Backed" = some (some (.ref C_backed)))
    (pgC_backed : PySem.W.plainGet K C_backed Str.empty = true)
    (hdC_backed : PySem.W.hasDictIn K C_backed = true)
    (poC_backed : PySem.W.plainOver K C_backed = true)
    (saC_backed : PySem.W.findIn K (.ref C_backed) "__setattr__" = some (some (.builtin "object.__setattr__")))
    (mkC_backed : PySem.W.makesIn K C_backed = true)
    (kcC_backed : PySem.W.keepIn K (.ref C_backed) = true)
    (nC_backed__told : PySem.W.findIn K (.ref C_backed) "_told" = some none)
    (nC_backed_kind : PySem.W.findIn K (.ref C_backed) "kind" = some none)
    (nC_backed_one : PySem.W.findIn K (.ref C_backed) "one" = some none)
    (nC_backed_moment : PySem.W.findIn K (.ref C_backed) "moment" = some none)
    (nC_backed_other : PySem.W.findIn K (.ref C_backed) "other" = some none)
    (nC_backed_later : PySem.W.findIn K (.ref C_backed) "later" = some none)
    (abacked : PySem.W.findIn K (.ref C_backed) "__init__" = some (some (.ref fbacked)))
    (ibacked : PySem.W.isFn K (.ref fbacked) = true)
    (lbacked : K.lookup fbacked = some ⟨ocbacked, odbacked, .func (PySem.W.ksFn "__init__" "Backed.__init__" (defArgs sBacked) (defBody sBacked) (defScope sBacked) .none kVbacked dcbacked pmbacked anbacked (.ref cdabacked) ctbacked ccbacked), slbacked⟩)
    (cbacked : PySem.W.codeIn K (.ref cdabacked) "Backed.__init__" = true)
    (kbacked : PySem.W.keepIn K (.ref fbacked) = true)
    (ebacked : K.lookup ccbacked = some ⟨clbacked, cldbacked, .cell (some (.ref C_backed)), cslbacked⟩)
    (dbacked : K.lookup cdabacked = some ⟨cclbacked, cddbacked, .fields vsbacked, ccsbacked⟩)
    (vbacked : (vsbacked[2]? : Option Value) = some (.str filebacked tfbacked))
    (wbacked : ((l.prog.main.file : Str) == filebacked) = true)
    (ybacked : PySem.W.mroIn K C_backed (.ref C_backed) = some true)
    (zbacked : PySem.W.clsIn K C_backed = some cd_backed)
    (xbacked : PySem.W.ks_superIn K C_backed C_backed "__init__" = some (some (.ref fmeet)))
    (thaC_backed : PySem.W.findIn K (.ref C_backed) "__class__" = some (some (.builtin "object.__class__")))
    (thmC_backed : PySem.W.mroIn K C_backed (.type "object") = some true)
    (artaC_backed : PySem.W.findIn K (.ref C_backed) "_told_as" = some (some (.ref frta)))
    (areqC_backed : PySem.W.findIn K (.ref C_backed) "__eq__" = some (some (.ref freq)))
    (arstrC_backed : PySem.W.findIn K (.ref C_backed) "__str__" = some (some (.ref frstr)))
    (aptoC_backed : PySem.W.findIn K (.ref C_backed) "tools" = some (some (.ref qpto)))
    (apmoC_backed : PySem.W.findIn K (.ref C_backed) "moments" = some (some (.ref qpmo)))
    (apbeC_backed : PySem.W.findIn K (.ref C_backed) "begins" = some (some (.ref qpbe)))
    (icsC_backed : PySem.W.isClsIn K C_backed = true)
    (tysC_backed : PySem.W.typeIn K (.ref C_backed) = some (.type "type"))
    (sbsC_backed : PySem.W.subIn K (.ref C_backed) (.ref C_backed) = some true)
    (tupC_backed : PySem.W.subIn K (.type "tuple") (.ref C_backed) = some false)
    (sCBg_backed : PySem.W.subIn K (.ref C_backed) (.ref CBg) = some false)
    (sCCh_backed : PySem.W.subIn K (.ref C_backed) (.ref CCh) = some false)
    (sCMe_backed : PySem.W.subIn K (.ref C_backed) (.ref CMe) = some true)
    (sRC_backed : PySem.W.subIn K (.ref C_backed) (.ref CR) = some true)
    (s_begun_setby : PySem.W.subIn K (.ref C_begun) (.ref C_setby) = some false)
    (s_begun_found : PySem.W.subIn K (.ref C_begun) (.ref C_found) = some false)
    (s_begun_trusted : PySem.W.subIn K (.ref C_begun) (.ref C_trusted) = some false)
    (s_begun_passed : PySem.W.subIn K (.ref C_begun) (.ref C_passed) = some false)
    (s_begun_failed : PySem.W.subIn K (.ref C_begun) (.ref C_failed) = some false)
    (s_begun_agreed : PySem.W.subIn K (.ref C_begun) (.ref C_agreed) = some false)
    (s_begun_differed : PySem.W.subIn K (.ref C_begun) (.ref C_differed) = some false)
    (s_begun_served : PySem.W.subIn K (.ref C_begun) (.ref C_served) = some false)
    (s_begun_backed : PySem.W.subIn K (.ref C_begun) (.ref C_backed) = some false)
    (s_setby_begun : PySem.W.subIn K (.ref C_setby) (.ref C_begun) = some false)
    (s_setby_found : PySem.W.subIn K (.ref C_setby) (.ref C_found) = some false)
    (s_setby_trusted : PySem.W.subIn K (.ref C_setby) (.ref C_trusted) = some false)
    (s_setby_passed : PySem.W.subIn K (.ref C_setby) (.ref C_passed) = some false)
    (s_setby_failed : PySem.W.subIn K (.ref C_setby) (.ref C_failed) = some false)
    (s_setby_agreed : PySem.W.subIn K (.ref C_setby) (.ref C_agreed) = some false)
    (s_setby_differed : PySem.W.subIn K (.ref C_setby) (.ref C_differed) = some false)
    (s_setby_served : PySem.W.subIn K (.ref C_setby) (.ref C_served) = some false)
    (s_setby_backed : PySem.W.subIn K (.ref C_setby) (.ref C_backed) = some false)
    (s_found_begun : PySem.W.subIn K (.ref C_found) (.ref C_begun) = some false)
    (s_found_setby : PySem.W.subIn K (.ref C_found) (.ref C_setby) = some false)
    (s_found_trusted : PySem.W.subIn K (.ref C_found) (.ref C_trusted) = some false)
    (s_found_passed : PySem.W.subIn K (.ref C_found) (.ref C_passed) = some false)
    (s_found_failed : PySem.W.subIn K (.ref C_found) (.ref C_failed) = some false)
    (s_found_agreed : PySem.W.subIn K (.ref C_found) (.ref C_agreed) = some false)
    (s_found_differed : PySem.W.subIn K (.ref C_found) (.ref C_differed) = some false)
    (s_found_served : PySem.W.subIn K (.ref C_found) (.ref C_served) = some false)
    (s_found_backed : PySem.W.subIn K (.ref C_found) (.ref C_backed) = some false)
    (s_trusted_begun : PySem.W.subIn K (.ref C_trusted) (.ref C_begun) = some false)
    (s_trusted_setby : PySem.W.subIn K (.ref C_trusted) (.ref C_setby) = some false)
    (s_trusted_found : PySem.W.subIn K (.ref C_trusted) (.ref C_found) = some false)
    (s_trusted_passed : PySem.W.subIn K (.ref C_trusted) (.ref C_passed) = some false)
    (s_trusted_failed : PySem.W.subIn K (.ref C_trusted) (.ref C_failed) = some false)
    (s_trusted_agreed : PySem.W.subIn K (.ref C_trusted) (.ref C_agreed) = some false)
    (s_trusted_differed : PySem.W.subIn K (.ref C_trusted) (.ref C_differed) = some false)
    (s_trusted_served : PySem.W.subIn K (.ref C_trusted) (.ref C_served) = some false)
    (s_trusted_backed : PySem.W.subIn K (.ref C_trusted) (.ref C_backed) = some false)
    (s_passed_begun : PySem.W.subIn K (.ref C_passed) (.ref C_begun) = some false)
    (s_passed_setby : PySem.W.subIn K (.ref C_passed) (.ref C_setby) = some false)
    (s_passed_found : PySem.W.subIn K (.ref C_passed) (.ref C_found) = some false)
    (s_passed_trusted : PySem.W.subIn K (.ref C_passed) (.ref C_trusted) = some false)
    (s_passed_failed : PySem.W.subIn K (.ref C_passed) (.ref C_failed) = some false)
    (s_passed_agreed : PySem.W.subIn K (.ref C_passed) (.ref C_agreed) = some false)
    (s_passed_differed : PySem.W.subIn K (.ref C_passed) (.ref C_differed) = some false)
    (s_passed_served : PySem.W.subIn K (.ref C_passed) (.ref C_served) = some false)
    (s_passed_backed : PySem.W.subIn K (.ref C_passed) (.ref C_backed) = some false)
    (s_failed_begun : PySem.W.subIn K (.ref C_failed) (.ref C_begun) = some false)
    (s_failed_setby : PySem.W.subIn K (.ref C_failed) (.ref C_setby) = some false)
    (s_failed_found : PySem.W.subIn K (.ref C_failed) (.ref C_found) = some false)
    (s_failed_trusted : PySem.W.subIn K (.ref C_failed) (.ref C_trusted) = some false)
    (s_failed_passed : PySem.W.subIn K (.ref C_failed) (.ref C_passed) = some false)
    (s_failed_agreed : PySem.W.subIn K (.ref C_failed) (.ref C_agreed) = some false)
    (s_failed_differed : PySem.W.subIn K (.ref C_failed) (.ref C_differed) = some false)
    (s_failed_served : PySem.W.subIn K (.ref C_failed) (.ref C_served) = some false)
    (s_failed_backed : PySem.W.subIn K (.ref C_failed) (.ref C_backed) = some false)
    (s_agreed_begun : PySem.W.subIn K (.ref C_agreed) (.ref C_begun) = some false)
    (s_agreed_setby : PySem.W.subIn K (.ref C_agreed) (.ref C_setby) = some false)
    (s_agreed_found : PySem.W.subIn K (.ref C_agreed) (.ref C_found) = some false)
    (s_agreed_trusted : PySem.W.subIn K (.ref C_agreed) (.ref C_trusted) = some false)
    (s_agreed_passed : PySem.W.subIn K (.ref C_agreed) (.ref C_passed) = some false)
    (s_agreed_failed : PySem.W.subIn K (.ref C_agreed) (.ref C_failed) = some false)
    (s_agreed_differed : PySem.W.subIn K (.ref C_agreed) (.ref C_differed) = some false)
    (s_agreed_served : PySem.W.subIn K (.ref C_agreed) (.ref C_served) = some false)
    (s_agreed_backed : PySem.W.subIn K (.ref C_agreed) (.ref C_backed) = some false)
    (s_differed_begun : PySem.W.subIn K (.ref C_differed) (.ref C_begun) = some false)
    (s_differed_setby : PySem.W.subIn K (.ref C_differed) (.ref C_setby) = some false)
    (s_differed_found : PySem.W.subIn K (.ref C_differed) (.ref C_found) = some false)
    (s_differed_trusted : PySem.W.subIn K (.ref C_differed) (.ref C_trusted) = some false)
    (s_differed_passed : PySem.W.subIn K (.ref C_differed) (.ref C_passed) = some false)
    (s_differed_failed : PySem.W.subIn K (.ref C_differed) (.ref C_failed) = some false)
    (s_differed_agreed : PySem.W.subIn K (.ref C_differed) (.ref C_agreed) = some false)
    (s_differed_served : PySem.W.subIn K (.ref C_differed) (.ref C_served) = some false)
    (s_differed_backed : PySem.W.subIn K (.ref C_differed) (.ref C_backed) = some false)
    (s_served_begun : PySem.W.subIn K (.ref C_served) (.ref C_begun) = some false)
    (s_served_setby : PySem.W.subIn K (.ref C_served) (.ref C_setby) = some false)
    (s_served_found : PySem.W.subIn K (.ref C_served) (.ref C_found) = some false)
    (s_served_trusted : PySem.W.subIn K (.ref C_served) (.ref C_trusted) = some false)
    (s_served_passed : PySem.W.subIn K (.ref C_served) (.ref C_passed) = some false)
    (s_served_failed : PySem.W.subIn K (.ref C_served) (.ref C_failed) = some false)
    (s_served_agreed : PySem.W.subIn K (.ref C_served) (.ref C_agreed) = some false)
    (s_served_differed : PySem.W.subIn K (.ref C_served) (.ref C_differed) = some false)
    (s_served_backed : PySem.W.subIn K (.ref C_served) (.ref C_backed) = some false)
    (s_backed_begun : PySem.W.subIn K (.ref C_backed) (.ref C_begun) = some false)
    (s_backed_setby : PySem.W.subIn K (.ref C_backed) (.ref C_setby) = some false)
    (s_backed_found : PySem.W.subIn K (.ref C_backed) (.ref C_found) = some false)
    (s_backed_trusted : PySem.W.subIn K (.ref C_backed) (.ref C_trusted) = some false)
    (s_backed_passed : PySem.W.subIn K (.ref C_backed) (.ref C_passed) = some false)
    (s_backed_failed : PySem.W.subIn K (.ref C_backed) (.ref C_failed) = some false)
    (s_backed_agreed : PySem.W.subIn K (.ref C_backed) (.ref C_agreed) = some false)
    (s_backed_differed : PySem.W.subIn K (.ref C_backed) (.ref C_differed) = some false)
    (s_backed_served : PySem.W.subIn K (.ref C_backed) (.ref C_served) = some false)
    (tupR : PySem.W.subIn K (.type "tuple") (.ref CR) = some false)
    (gLN : PySem.W.nsIn K mainGlobals "LONGEST_NUMBER" = some (some (.int 31 tLN)))
    (opq : PySem.W.nsIn K PySem.cStatics "thirdparty.any" = some none)
    (tops : (l.prog.main.scope.names.lookup ("super" : Str)).isSome = false)
    (gG : PySem.W.nsIn K mainGlobals "GREATEST" = some (some (.int 1000000000000000000000000000000 tG)))
    (gL : PySem.W.nsIn K mainGlobals "LONGEST_NAME" = some (some (.int 8 tL)))
    (gA : PySem.W.nsIn K mainGlobals "LETTERS" = some (some (.str letters tA)))
    (gD : PySem.W.nsIn K mainGlobals "DIGITS" = some (some (.str digits tD)))
    (gN : PySem.W.nsIn K mainGlobals "NO_NAMES" = some (some (.ref aNo)))
    (lN : K.lookup aNo = some ⟨.type "tuple", odN, .seq itsN nN, slN⟩)
    (vN : itsN.toList.map strOf? = noNames.map some)
    (gF : PySem.W.nsIn K mainGlobals "FORMS" = some (some (.ref aF)))
    (lF : K.lookup aF = some ⟨.type "dict", none, .dict esF nF, #[]⟩)
    (klF : PySem.W.KeysLit w.params esF.toList)
    (gtbegun : PySem.W.nsIn K aF "begun" = some (some (.ref t_begun)))
    (ltbegun : K.lookup t_begun = some ⟨.type "tuple", odtbegun, .seq itsbegun ntbegun, sltbegun⟩)
    (vtbegun : itsbegun.toList.map strOf? = (formsOf "begun").map some)
    (gtsetby : PySem.W.nsIn K aF "setby" = some (some (.ref t_setby)))
    (ltsetby : K.lookup t_setby = some ⟨.type "tuple", odtsetby, .seq itssetby ntsetby, sltsetby⟩)
    (vtsetby : itssetby.toList.map strOf? = (formsOf "setby").map some)
    (gtfound : PySem.W.nsIn K aF "found" = some (some (.ref t_found)))
    (ltfound : K.lookup t_found = some ⟨.type "tuple", odtfound, .seq itsfound ntfound, sltfound⟩)
    (vtfound : itsfound.toList.map strOf? = (formsOf "found").map some)
    (gttrusted : PySem.W.nsIn K aF "trusted" = some (some (.ref t_trusted)))
    (lttrusted : K.lookup t_trusted = some ⟨.type "tuple", odttrusted, .seq itstrusted nttrusted, slttrusted⟩)
    (vttrusted : itstrusted.toList.map strOf? = (formsOf "trusted").map some)
    (gtpassed : PySem.W.nsIn K aF "passed" = some (some (.ref t_passed)))
    (ltpassed : K.lookup t_passed = some ⟨.type "tuple", odtpassed, .seq itspassed ntpassed, sltpassed⟩)
    (vtpassed : itspassed.toList.map strOf? = (formsOf "passed").map some)
    (gtfailed : PySem.W.nsIn K aF "failed" = some (some (.ref t_failed)))
    (ltfailed : K.lookup t_failed = some ⟨.type "tuple", odtfailed, .seq itsfailed ntfailed, sltfailed⟩)
    (vtfailed : itsfailed.toList.map strOf? = (formsOf "failed").map some)
    (gtagreed : PySem.W.nsIn K aF "agreed" = some (some (.ref t_agreed)))
    (ltagreed : K.lookup t_agreed = some ⟨.type "tuple", odtagreed, .seq itsagreed ntagreed, sltagreed⟩)
    (vtagreed : itsagreed.toList.map strOf? = (formsOf "agreed").map some)
    (gtdiffered : PySem.W.nsIn K aF "differed" = some (some (.ref t_differed)))
    (ltdiffered : K.lookup t_differed = some ⟨.type "tuple", odtdiffered, .seq itsdiffered ntdiffered, sltdiffered⟩)
    (vtdiffered : itsdiffered.toList.map strOf? = (formsOf "differed").map some)
    (gtserved : PySem.W.nsIn K aF "served" = some (some (.ref t_served)))
    (ltserved : K.lookup t_served = some ⟨.type "tuple", odtserved, .seq itsserved ntserved, sltserved⟩)
    (vtserved : itsserved.toList.map strOf? = (formsOf "served").map some)
    (gtbacked : PySem.W.nsIn K aF "backed" = some (some (.ref t_backed)))
    (ltbacked : K.lookup t_backed = some ⟨.type "tuple", odtbacked, .seq itsbacked ntbacked, sltbacked⟩)
    (vtbacked : itsbacked.toList.map strOf? = (formsOf "backed").map some)
    (b_isinstance : PySem.W.nsIn K mainGlobals "isinstance" = some none)
    (b_int : PySem.W.nsIn K mainGlobals "int" = some none)
    (b_bool : PySem.W.nsIn K mainGlobals "bool" = some none)
    (b_str : PySem.W.nsIn K mainGlobals "str" = some none)
    (b_len : PySem.W.nsIn K mainGlobals "len" = some none)
    (b_all : PySem.W.nsIn K mainGlobals "all" = some none)
    (b_list : PySem.W.nsIn K mainGlobals "list" = some none)
    (b_tuple : PySem.W.nsIn K mainGlobals "tuple" = some none)
    (b_abs : PySem.W.nsIn K mainGlobals "abs" = some none)
    (b_repr : PySem.W.nsIn K mainGlobals "repr" = some none)
    (b_zip : PySem.W.nsIn K mainGlobals "zip" = some none)
    (b_ValueError : PySem.W.nsIn K mainGlobals "ValueError" = some none)
    (b_super : PySem.W.nsIn K mainGlobals "super" = some none)
    (b_enumerate : PySem.W.nsIn K mainGlobals "enumerate" = some none)
    (b_range : PySem.W.nsIn K mainGlobals "range" = some none)
    (b_sorted : PySem.W.nsIn K mainGlobals "sorted" = some none)
    (b_set : PySem.W.nsIn K mainGlobals "set" = some none)
    (aT : PySem.W.nsIn K mainGlobals "TillError" = some (some (.ref CT)))
    (iT : PySem.W.isClsIn K CT = true)
    (tT : PySem.W.typeIn K (.ref CT) = some (.type "type"))
    (eT : PySem.W.subIn K (.ref CT) (.type "BaseException") = some true)
    (sT : PySem.W.subIn K (.ref CT) (.ref CT) = some true)
    (aN : PySem.W.nsIn K mainGlobals "BadName" = some (some (.ref CN)))
    (xN : K.lookup CN = some (excClassObj nmN qN CN NN bsN [.ref CT, .type "ValueError", .type "Exception", .type "BaseException", .type "object"] true snN subN abN colN ddN m0N m1N m2N m3N m5N "ValueError.__new__"))
    (seN : PySem.W.findIn K (.ref CN) "__setattr__" = some (some (.builtin "object.__setattr__")))
    (geN : PySem.W.findIn K (.ref CN) "__getattribute__" = some (some (.builtin "BaseException.__getattribute__")))
    (heN : PySem.W.findIn K (.ref CN) "__getattr__" = some none)
    (neN : PySem.W.findIn K (.ref CN) "name" = some none)
    (aeN : PySem.W.findIn K (.ref CN) "__init__" = some (some (.ref feN)))
    (teN : PySem.W.typeIn K (.ref feN) = some (.type "function"))
    (leN : K.lookup feN = some ⟨oceN, odeN, .func (PySem.W.fnOf "__init__" "BadName.__init__" (defArgs sEN) (defBody sEN) (defScope sEN) .none kVeN dceN pmeN aneN cdeN cteN), sleN⟩)
    (ceN : PySem.W.codeIn K cdeN "BadName.__init__" = true)
    (keN : PySem.W.keepIn K (.ref feN) = true)
    (kkeN : PySem.W.keepIn K (.ref CN) = true)
    (exeN : PySem.W.subIn K (.ref CN) (.type "BaseException") = some true)
    (tyeN : PySem.W.typeIn K (.ref CN) = some (.type "type"))
    (hdeN : PySem.W.hasDictIn K CN = true)
    (iceN : PySem.W.isClsIn K CN = true)
    (veeN : PySem.W.subIn K (.ref CN) (.type "ValueError") = some true)
    (uteN : PySem.W.subIn K (.ref CN) (.ref CT) = some true)
    (caeN : PySem.W.findIn K (.ref CN) "__class__" = some (some (.builtin "object.__class__")))
    (cmeN : PySem.W.mroIn K CN (.type "object") = some true)
    (aM : PySem.W.nsIn K mainGlobals "BadMoment" = some (some (.ref CM)))
    (xM : K.lookup CM = some (excClassObj nmM qM CM NM bsM [.ref CT, .type "ValueError", .type "Exception", .type "BaseException", .type "object"] true snM subM abM colM ddM m0M m1M m2M m3M m5M "ValueError.__new__"))
    (seM : PySem.W.findIn K (.ref CM) "__setattr__" = some (some (.builtin "object.__setattr__")))
    (geM : PySem.W.findIn K (.ref CM) "__getattribute__" = some (some (.builtin "BaseException.__getattribute__")))
    (heM : PySem.W.findIn K (.ref CM) "__getattr__" = some none)
    (neM : PySem.W.findIn K (.ref CM) "moment" = some none)
    (aeM : PySem.W.findIn K (.ref CM) "__init__" = some (some (.ref feM)))
    (teM : PySem.W.typeIn K (.ref feM) = some (.type "function"))
    (leM : K.lookup feM = some ⟨oceM, odeM, .func (PySem.W.fnOf "__init__" "BadMoment.__init__" (defArgs sEM) (defBody sEM) (defScope sEM) .none kVeM dceM pmeM aneM cdeM cteM), sleM⟩)
    (ceM : PySem.W.codeIn K cdeM "BadMoment.__init__" = true)
    (keM : PySem.W.keepIn K (.ref feM) = true)
    (kkeM : PySem.W.keepIn K (.ref CM) = true)
    (exeM : PySem.W.subIn K (.ref CM) (.type "BaseException") = some true)
    (tyeM : PySem.W.typeIn K (.ref CM) = some (.type "type"))
    (hdeM : PySem.W.hasDictIn K CM = true)
    (iceM : PySem.W.isClsIn K CM = true)
    (veeM : PySem.W.subIn K (.ref CM) (.type "ValueError") = some true)
    (uteM : PySem.W.subIn K (.ref CM) (.ref CT) = some true)
    (caeM : PySem.W.findIn K (.ref CM) "__class__" = some (some (.builtin "object.__class__")))
    (cmeM : PySem.W.mroIn K CM (.type "object") = some true)
    (aS : PySem.W.nsIn K mainGlobals "BadSaying" = some (some (.ref CS)))
    (xS : K.lookup CS = some (excClassObj nmS qS CS NS bsS [.ref CT, .type "ValueError", .type "Exception", .type "BaseException", .type "object"] true snS subS abS colS ddS m0S m1S m2S m3S m5S "ValueError.__new__"))
    (seS : PySem.W.findIn K (.ref CS) "__setattr__" = some (some (.builtin "object.__setattr__")))
    (geS : PySem.W.findIn K (.ref CS) "__getattribute__" = some (some (.builtin "BaseException.__getattribute__")))
    (heS : PySem.W.findIn K (.ref CS) "__getattr__" = some none)
    (neS : PySem.W.findIn K (.ref CS) "value" = some none)
    (aeS : PySem.W.findIn K (.ref CS) "__init__" = some (some (.ref feS)))
    (teS : PySem.W.typeIn K (.ref feS) = some (.type "function"))
    (leS : K.lookup feS = some ⟨oceS, odeS, .func (PySem.W.fnOf "__init__" "BadSaying.__init__" (defArgs sES) (defBody sES) (defScope sES) .none kVeS dceS pmeS aneS cdeS cteS), sleS⟩)
    (ceS : PySem.W.codeIn K cdeS "BadSaying.__init__" = true)
    (keS : PySem.W.keepIn K (.ref feS) = true)
    (kkeS : PySem.W.keepIn K (.ref CS) = true)
    (exeS : PySem.W.subIn K (.ref CS) (.type "BaseException") = some true)
    (tyeS : PySem.W.typeIn K (.ref CS) = some (.type "type"))
    (hdeS : PySem.W.hasDictIn K CS = true)
    (iceS : PySem.W.isClsIn K CS = true)
    (veeS : PySem.W.subIn K (.ref CS) (.type "ValueError") = some true)
    (uteS : PySem.W.subIn K (.ref CS) (.ref CT) = some true)
    (caeS : PySem.W.findIn K (.ref CS) "__class__" = some (some (.builtin "object.__class__")))
    (cmeS : PySem.W.mroIn K CS (.type "object") = some true)
    (aB : PySem.W.nsIn K mainGlobals "BadText" = some (some (.ref CB)))
    (xB : K.lookup CB = some (excClassObj nmB qB CB NB bsB [.ref CT, .type "ValueError", .type "Exception", .type "BaseException", .type "object"] true snB subB abB colB ddB m0B m1B m2B m3B m5B "ValueError.__new__"))
    (seB : PySem.W.findIn K (.ref CB) "__setattr__" = some (some (.builtin "object.__setattr__")))
    (geB : PySem.W.findIn K (.ref CB) "__getattribute__" = some (some (.builtin "BaseException.__getattribute__")))
    (heB : PySem.W.findIn K (.ref CB) "__getattr__" = some none)
    (neB : PySem.W.findIn K (.ref CB) "line" = some none)
    (oeB : PySem.W.findIn K (.ref CB) "word" = some none)
    (aeB : PySem.W.findIn K (.ref CB) "__init__" = some (some (.ref feB)))
    (teB : PySem.W.typeIn K (.ref feB) = some (.type "function"))
    (leB : K.lookup feB = some ⟨oceB, odeB, .func (PySem.W.fnOf "__init__" "BadText.__init__" (defArgs sEB) (defBody sEB) (defScope sEB) .none kVeB dceB pmeB aneB cdeB cteB), sleB⟩)
    (ceB : PySem.W.codeIn K cdeB "BadText.__init__" = true)
    (keB : PySem.W.keepIn K (.ref feB) = true)
    (kkeB : PySem.W.keepIn K (.ref CB) = true)
    (exeB : PySem.W.subIn K (.ref CB) (.type "BaseException") = some true)
    (tyeB : PySem.W.typeIn K (.ref CB) = some (.type "type"))
    (hdeB : PySem.W.hasDictIn K CB = true)
    (iceB : PySem.W.isClsIn K CB = true)
    (veeB : PySem.W.subIn K (.ref CB) (.type "ValueError") = some true)
    (uteB : PySem.W.subIn K (.ref CB) (.ref CT) = some true)
    (caeB : PySem.W.findIn K (.ref CB) "__class__" = some (some (.builtin "object.__class__")))
    (cmeB : PySem.W.mroIn K CB (.type "object") = some true)
    : ∃ (fd : FuncData), (∀ (s : Shared) (v : Value), BindsTo s fd ⟨[v], []⟩ [("_law_script", v)]) ∧
      ∀ base : Heap, K.In base → base.Ns mainGlobals mg → FnG l.prog w K mg base CX0 14 fa fd ["_law_script"] (spLaw K) := by
  have e := hfa.symm.trans (PySem.W.mg_of X G alaw)
  cases e
  have g1 := fun {n : Str} {v : Value} (e : PySem.W.nsIn K mainGlobals n = some (some v)) => PySem.W.mg_of X G e
  have g0 := fun {n : Str} (e : PySem.W.nsIn K mainGlobals n = some none) => PySem.W.mg_none_of X G e
  have F_pen := fun_mk (st := sPen) lpen cpen kpen
  have F_draw := fun_mk (st := sDraw) ldraw cdraw kdraw
  have F_pick := fun_mk (st := sPick) lpick cpick kpick
  have F_words := fun_mk (st := sWords) lwords cwords kwords
  have F_lname := fun_mk (st := sLName) llname clname klname
  have F_tick := fun_mk (st := sTick) ltick ctick ktick
  have F_lkinds := fun_mk (st := sKinds) llkinds clkinds klkinds
  have F_drawn := fun_mk (st := sDrawn) ldrawn cdrawn kdrawn
  have F_named := fun_mk (st := sNamed) lnamed cnamed knamed
  have F_lticks := fun_mk (st := sTicks) llticks clticks klticks
  have F_lmade := fun_mk (st := sMade) llmade clmade klmade
  have F_byname := fun_mk (st := sByName) lbyname cbyname kbyname
  have F_attr := fun_mk (st := sAttr) lattr cattr kattr
  have F_bri := fun_mk (st := sBr) lbri cbri kbri
  have F_right := fun_mk (st := sRight) lright cright kright
  have F_law := fun_mk (st := sLaw) llaw claw klaw
  have F_whole := fun_mk (st := sWhole) lwhole cwhole kwhole
  have F_moment := fun_mk (st := sMoment) lmoment cmoment kmoment
  have F_isname := fun_mk (st := sName) lisname cisname kisname
  have F_check := fun_mk (st := sCheck) lcheck ccheck kcheck
  have F_checked := fun_mk (st := sChecked) lchecked cchecked kchecked
  have F_wordof := fun_mk (st := sWordOf) lwordof cwordof kwordof
  have F_madeRow := fun_mk (st := sMadeRow) lmadeRow cmadeRow kmadeRow
  have F_number := fun_mk (st := sNumber) lnumber cnumber knumber
  have F_hasf := fun_mk (st := sHasForm) lhasf chasf khasf
  have F_wordsof := fun_mk (st := sWordsOf) lwordsof cwordsof kwordsof
  have F_first := fun_mk (st := sFirst) lfirst cfirst kfirst
  have F_told := fun_mk (st := sTold) ltold ctold ktold
  have F_valof := fun_mk (st := sValueOf) lvalof cvalof kvalof
  have F_rdrow := fun_mk (st := sReadRow) lrdrow crdrow krdrow
  have F_read := fun_mk (st := sRowRead) lread cread kread
  have F_begun := fun_mk (st := sBegun) lbegun cbegun kbegun
  have F_rta := fun_mk (st := sToldAs) lrta crta krta
  have F_req := fun_mk (st := sEqR) lreq creq kreq
  have F_rstr := fun_mk (st := sStrR) lrstr crstr krstr
  have F_pto := fun_mk (st := sTools) lpto cpto kpto
  have F_pmo := fun_mk (st := sMoments) lpmo cpmo kpmo
  have F_pbe := fun_mk (st := sBegins) lpbe cpbe kpbe
  have F_setby := fun_mk (st := sSetBy) lsetby csetby ksetby
  have F_found := fun_mk (st := sFound) lfound cfound kfound
  have F_trusted := fun_mk (st := sTrusted) ltrusted ctrusted ktrusted
  have F_passed := fun_mk (st := sPassed) lpassed cpassed kpassed
  have F_failed := fun_mk (st := sFailed) lfailed cfailed kfailed
  have F_meet := fun_mk (st := sMeeting) lmeet cmeet kmeet
  have F_eN := fun_mk (st := sEN) leN ceN keN
  have F_eM := fun_mk (st := sEM) leM ceM keM
  have F_eS := fun_mk (st := sES) leS ceS keS
  have F_eB := fun_mk (st := sEB) leB ceB keB
  have b_pen_ := F_pen.binds (ps := ["_law_script"]) fun _ _ _ _ _ _ us hl => match us, hl with | [_], _ => rfl
  have b_draw_ := F_draw.binds (ps := ["_law_pen_here", "_law_many"]) fun _ _ _ _ _ _ us hl => match us, hl with | [_, _], _ => rfl
  have b_pick_ := F_pick.binds (ps := ["_law_pen_here", "_law_some"]) fun _ _ _ _ _ _ us hl => match us, hl with | [_, _], _ => rfl
  have b_words_ := F_words.binds (ps := []) fun _ _ _ _ _ _ us hl => match us, hl with | [], _ => rfl
  have b_lname_ := F_lname.binds (ps := ["_law_pen_here"]) fun _ _ _ _ _ _ us hl => match us, hl with | [_], _ => rfl
  have b_tick_ := F_tick.binds (ps := ["_law_pen_here"]) fun _ _ _ _ _ _ us hl => match us, hl with | [_], _ => rfl
  have b_lkinds_ := F_lkinds.binds (ps := []) fun _ _ _ _ _ _ us hl => match us, hl with | [], _ => rfl
  have b_drawn_ := F_drawn.binds (ps := ["_law_pen_here", "_law_crew", "_law_kinds_here"]) fun _ _ _ _ _ _ us hl => match us, hl with | [_, _, _], _ => rfl
  have b_named_ := F_named.binds (ps := ["_law_row"]) fun _ _ _ _ _ _ us hl => match us, hl with | [_], _ => rfl
  have b_lticks_ := F_lticks.binds (ps := ["_law_row"]) fun _ _ _ _ _ _ us hl => match us, hl with | [_], _ => rfl
  have b_lmade_ := F_lmade.binds (ps := ["_law_row"]) fun _ _ _ _ _ _ us hl => match us, hl with | [_], _ => rfl
  have b_byname_ := F_byname.binds (ps := ["_law_row"]) fun _ _ _ _ _ _ us hl => match us, hl with | [_], _ => rfl
  have b_attr_ := F_attr.binds (ps := ["_law_made_here", "_law_kind"]) fun _ _ _ _ _ _ us hl => match us, hl with | [_, _], _ => rfl
  have b_bri_ := F_bri.binds (ps := ["_law_made_here", "_law_kind"]) fun _ _ _ _ _ _ us hl => match us, hl with | [_, _], _ => rfl
  have b_right_ := F_right.binds (ps := ["_law_row"]) fun _ _ _ _ _ _ us hl => match us, hl with | [_], _ => rfl
  have b_law_ := F_law.binds (ps := ["_law_script"]) fun _ _ _ _ _ _ us hl => match us, hl with | [_], _ => rfl
  have b_whole_ := F_whole.binds (ps := ["value"]) fun _ _ _ _ _ _ us hl => match us, hl with | [_], _ => rfl
  have b_moment_ := F_moment.binds (ps := ["value"]) fun _ _ _ _ _ _ us hl => match us, hl with | [_], _ => rfl
  have b_isname_ := F_isname.binds (ps := ["value"]) fun _ _ _ _ _ _ us hl => match us, hl with | [_], _ => rfl
  have b_check_ := F_check.binds (ps := ["value", "form"]) fun _ _ _ _ _ _ us hl => match us, hl with | [_, _], _ => rfl
  have b_checked_ := F_checked.binds (ps := ["kind", "told"]) fun _ _ _ _ _ _ us hl => match us, hl with | [_, _], _ => rfl
  have b_wordof_ := F_wordof.binds (ps := ["value"]) fun _ _ _ _ _ _ us hl => match us, hl with | [_], _ => rfl
  have b_madeRow_ := F_madeRow.binds (ps := ["kind", "told"]) fun _ _ _ _ _ _ us hl => match us, hl with | [_, _], _ => rfl
  have b_number_ := F_number.binds (ps := ["word"]) fun _ _ _ _ _ _ us hl => match us, hl with | [_], _ => rfl
  have b_hasf_ := F_hasf.binds (ps := ["word", "form"]) fun _ _ _ _ _ _ us hl => match us, hl with | [_, _], _ => rfl
  have b_wordsof_ := F_wordsof.binds (ps := ["text"]) fun _ _ _ _ _ _ us hl => match us, hl with | [_], _ => rfl
  have b_first_ := F_first.binds (ps := ["words", "forms"]) fun _ _ _ _ _ _ us hl => match us, hl with | [_, _], _ => rfl
  have b_told_ := F_told.binds (ps := ["line", "words", "forms"]) fun _ _ _ _ _ _ us hl => match us, hl with | [_, _, _], _ => rfl
  have b_valof_ := F_valof.binds (ps := ["word", "form"]) fun _ _ _ _ _ _ us hl => match us, hl with | [_, _], _ => rfl
  have b_rdrow_ := F_rdrow.binds (ps := ["line", "words"]) fun _ _ _ _ _ _ us hl => match us, hl with | [_, _], _ => rfl
  have b_read_ := F_read.binds (ps := ["cls", "text"]) fun _ _ _ _ _ _ us hl => match us, hl with | [_, _], _ => rfl
  have b_begun_ := F_begun.binds (ps := ["self", "tool", "moment"]) fun _ _ _ _ _ _ us hl => match us, hl with | [_, _, _], _ => rfl
  have b_rta_ := F_rta.binds (ps := ["self", "forms"]) fun _ _ _ _ _ _ us hl => match us, hl with | [_, _], _ => rfl
  have b_req_ := F_req.binds (ps := ["self", "other"]) fun _ _ _ _ _ _ us hl => match us, hl with | [_, _], _ => rfl
  have b_rstr_ := F_rstr.binds (ps := ["self"]) fun _ _ _ _ _ _ us hl => match us, hl with | [_], _ => rfl
  have b_pto_ := F_pto.binds (ps := ["self"]) fun _ _ _ _ _ _ us hl => match us, hl with | [_], _ => rfl
  have b_pmo_ := F_pmo.binds (ps := ["self"]) fun _ _ _ _ _ _ us hl => match us, hl with | [_], _ => rfl
  have b_pbe_ := F_pbe.binds (ps := ["self"]) fun _ _ _ _ _ _ us hl => match us, hl with | [_], _ => rfl
  have b_setby_ := F_setby.binds (ps := ["self", "tool", "moment", "by"]) fun _ _ _ _ _ _ us hl => match us, hl with | [_, _, _, _], _ => rfl
  have b_found_ := F_found.binds (ps := ["self", "tool", "moment", "is_sound"]) fun _ _ _ _ _ _ us hl => match us, hl with | [_, _, _, _], _ => rfl
  have b_trusted_ := F_trusted.binds (ps := ["self", "tool"]) fun _ _ _ _ _ _ us hl => match us, hl with | [_, _], _ => rfl
  have b_passed_ := F_passed.binds (ps := ["self", "tool", "moment", "by"]) fun _ _ _ _ _ _ us hl => match us, hl with | [_, _, _, _], _ => rfl
  have b_failed_ := F_failed.binds (ps := ["self", "tool", "moment", "by"]) fun _ _ _ _ _ _ us hl => match us, hl with | [_, _, _, _], _ => rfl
  have b_meet_ := F_meet.binds (ps := ["self", "kind", "one", "moment", "other", "later"]) fun _ _ _ _ _ _ us hl => match us, hl with | [_, _, _, _, _, _], _ => rfl
  have b_eN_ := F_eN.binds (ps := ["self", "name"]) fun _ _ _ _ _ _ us hl => match us, hl with | [_, _], _ => rfl
  have b_eM_ := F_eM.binds (ps := ["self", "moment"]) fun _ _ _ _ _ _ us hl => match us, hl with | [_, _], _ => rfl
  have b_eS_ := F_eS.binds (ps := ["self", "value"]) fun _ _ _ _ _ _ us hl => match us, hl with | [_, _], _ => rfl
  have b_eB_ := F_eB.binds (ps := ["self", "line", "word"]) fun _ _ _ _ _ _ us hl => match us, hl with | [_, _, _], _ => rfl
  have M_read : ClX.CMet K CR (.type "type") "read" pread fread := ⟨atread, ⟨_, rcread⟩, firead⟩
  have L_C_begun : Cls K C_begun := ⟨pgC_begun, hdC_begun, poC_begun, saC_begun⟩
  have L_C_setby : Cls K C_setby := ⟨pgC_setby, hdC_setby, poC_setby, saC_setby⟩
  have L_C_found : Cls K C_found := ⟨pgC_found, hdC_found, poC_found, saC_found⟩
  have L_C_trusted : Cls K C_trusted := ⟨pgC_trusted, hdC_trusted, poC_trusted, saC_trusted⟩
  have L_C_passed : Cls K C_passed := ⟨pgC_passed, hdC_passed, poC_passed, saC_passed⟩
  have L_C_failed : Cls K C_failed := ⟨pgC_failed, hdC_failed, poC_failed, saC_failed⟩
  have L_C_agreed : Cls K C_agreed := ⟨pgC_agreed, hdC_agreed, poC_agreed, saC_agreed⟩
  have L_C_differed : Cls K C_differed := ⟨pgC_differed, hdC_differed, poC_differed, saC_differed⟩
  have L_C_served : Cls K C_served := ⟨pgC_served, hdC_served, poC_served, saC_served⟩
  have L_C_backed : Cls K C_backed := ⟨pgC_backed, hdC_backed, poC_backed, saC_backed⟩
  have RN : Err K CN := ⟨geN, heN, exeN, hdeN, caeN, thn, tht, cmeN⟩
  have ON : OneE K mg "BadName" "name" CN feN _ := ⟨⟨⟨_, _, _, _, _, _, _, _, _, _, _, _, _, _, _, xN, by rfl⟩, seN, exeN, tyeN, kkeN⟩, aeN, teN, g1 aN, neN, RN, b_eN_⟩
  have RM : Err K CM := ⟨geM, heM, exeM, hdeM, caeM, thn, tht, cmeM⟩
  have OM : OneE K mg "BadMoment" "moment" CM feM _ := ⟨⟨⟨_, _, _, _, _, _, _, _, _, _, _, _, _, _, _, xM, by rfl⟩, seM, exeM, tyeM, kkeM⟩, aeM, teM, g1 aM, neM, RM, b_eM_⟩
  have RS : Err K CS := ⟨geS, heS, exeS, hdeS, caeS, thn, tht, cmeS⟩
  have OS : OneE K mg "BadSaying" "value" CS feS _ := ⟨⟨⟨_, _, _, _, _, _, _, _, _, _, _, _, _, _, _, xS, by rfl⟩, seS, exeS, tyeS, kkeS⟩, aeS, teS, g1 aS, neS, RS, b_eS_⟩
  have RB : Err K CB := ⟨geB, heB, exeB, hdeB, caeB, thn, tht, cmeB⟩
  have OB : TwoE K mg "BadText" "line" "word" CB feB _ := ⟨⟨⟨_, _, _, _, _, _, _, _, _, _, _, _, _, _, _, xB, by rfl⟩, seB, exeB, tyeB, kkeB⟩, aeB, teB, g1 aB, neB, oeB, RB, b_eB_⟩
  have W : Words K mg := ⟨⟨_, g1 gG⟩, ⟨_, g1 gL⟩, ⟨_, g1 gA⟩, ⟨_, g1 gD⟩, ⟨aNo, g1 gN, fun H => tab_seq lN vN (by decide) H⟩, g0 b_isinstance, g0 b_int, g0 b_bool, g0 b_str, g0 b_len, g0 b_all⟩
  have TF : Forms K w mg aF := ⟨g1 gF, fun kind hk => by
    unfold kinds at hk
    simp only [List.mem_cons, List.not_mem_nil, or_false] at hk
    rcases hk with h | h | h | h | h | h | h | h | h | h <;> subst h
    · exact ⟨t_begun, ⟨esF, nF, _, lF, klF, gtbegun, rfl⟩, fun H => tab_seq ltbegun vtbegun (by decide +kernel) H⟩
    · exact ⟨t_setby, ⟨esF, nF, _, lF, klF, gtsetby, rfl⟩, fun H => tab_seq ltsetby vtsetby (by decide +kernel) H⟩
    · exact ⟨t_found, ⟨esF, nF, _, lF, klF, gtfound, rfl⟩, fun H => tab_seq ltfound vtfound (by decide +kernel) H⟩
    · exact ⟨t_trusted, ⟨esF, nF, _, lF, klF, gttrusted, rfl⟩, fun H => tab_seq lttrusted vttrusted (by decide +kernel) H⟩
    · exact ⟨t_passed, ⟨esF, nF, _, lF, klF, gtpassed, rfl⟩, fun H => tab_seq ltpassed vtpassed (by decide +kernel) H⟩
    · exact ⟨t_failed, ⟨esF, nF, _, lF, klF, gtfailed, rfl⟩, fun H => tab_seq ltfailed vtfailed (by decide +kernel) H⟩
    · exact ⟨t_agreed, ⟨esF, nF, _, lF, klF, gtagreed, rfl⟩, fun H => tab_seq ltagreed vtagreed (by decide +kernel) H⟩
    · exact ⟨t_differed, ⟨esF, nF, _, lF, klF, gtdiffered, rfl⟩, fun H => tab_seq ltdiffered vtdiffered (by decide +kernel) H⟩
    · exact ⟨t_served, ⟨esF, nF, _, lF, klF, gtserved, rfl⟩, fun H => tab_seq ltserved vtserved (by decide +kernel) H⟩
    · exact ⟨t_backed, ⟨esF, nF, _, lF, klF, gtbacked, rfl⟩, fun H => tab_seq ltbacked vtbacked (by decide +kernel) H⟩, g0 b_zip⟩
  have RR : Errs K mg CN CM CS := ⟨⟨_, _, ON, F_eN⟩, ⟨_, _, OM, F_eM⟩, ⟨_, _, OS, F_eS⟩⟩
  obtain ⟨e_begun, e_setby, e_found, e_trusted, e_passed, e_failed, e_agreed, e_differed, e_served, e_backed⟩ := cf_all C_begun C_setby C_found C_trusted C_passed C_failed C_agreed C_differed C_served C_backed
  generalize cfOf C_begun C_setby C_found C_trusted C_passed C_failed C_agreed C_differed C_served C_backed = Cf at e_begun e_setby e_found e_trusted e_passed e_failed e_agreed e_differed e_served e_backed
  have TR : RowsC K mg Cf CR := ⟨g1 gR, all10 (by rw [e_begun, attrs_begun]; exact ⟨L_C_begun, by simp only [List.forall_mem_cons]; exact ⟨nC_begun__told, nC_begun_kind, nC_begun_tool, nC_begun_moment, fun _ h => nomatch h⟩⟩) (by rw [e_setby, attrs_setby]; exact ⟨L_C_setby, by simp only [List.forall_mem_cons]; exact ⟨nC_setby__told, nC_setby_kind, nC_setby_tool, nC_setby_moment, nC_setby_by, fun _ h => nomatch h⟩⟩) (by rw [e_found, attrs_found]; exact ⟨L_C_found, by simp only [List.forall_mem_cons]; exact ⟨nC_found__told, nC_found_kind, nC_found_tool, nC_found_moment, nC_found_is_sound, fun _ h => nomatch h⟩⟩) (by rw [e_trusted, attrs_trusted]; exact ⟨L_C_trusted, by simp only [List.forall_mem_cons]; exact ⟨nC_trusted__told, nC_trusted_kind, nC_trusted_tool, fun _ h => nomatch h⟩⟩) (by rw [e_passed, attrs_passed]; exact ⟨L_C_passed, by simp only [List.forall_mem_cons]; exact ⟨nC_passed__told, nC_passed_kind, nC_passed_tool, nC_passed_moment, nC_passed_by, fun _ h => nomatch h⟩⟩) (by rw [e_failed, attrs_failed]; exact ⟨L_C_failed, by simp only [List.forall_mem_cons]; exact ⟨nC_failed__told, nC_failed_kind, nC_failed_tool, nC_failed_moment, nC_failed_by, fun _ h => nomatch h⟩⟩) (by rw [e_agreed, attrs_meet "agreed" (by decide +kernel)]; exact ⟨L_C_agreed, by simp only [List.forall_mem_cons]; exact ⟨nC_agreed__told, nC_agreed_kind, nC_agreed_one, nC_agreed_moment, nC_agreed_other, nC_agreed_later, fun _ h => nomatch h⟩⟩) (by rw [e_differed, attrs_meet "differed" (by decide +kernel)]; exact ⟨L_C_differed, by simp only [List.forall_mem_cons]; exact ⟨nC_differed__told, nC_differed_kind, nC_differed_one, nC_differed_moment, nC_differed_other, nC_differed_later, fun _ h => nomatch h⟩⟩) (by rw [e_served, attrs_meet "served" (by decide +kernel)]; exact ⟨L_C_served, by simp only [List.forall_mem_cons]; exact ⟨nC_served__told, nC_served_kind, nC_served_one, nC_served_moment, nC_served_other, nC_served_later, fun _ h => nomatch h⟩⟩) (by rw [e_backed, attrs_meet "backed" (by decide +kernel)]; exact ⟨L_C_backed, by simp only [List.forall_mem_cons]; exact ⟨nC_backed__told, nC_backed_kind, nC_backed_one, nC_backed_moment, nC_backed_other, nC_backed_later, fun _ h => nomatch h⟩⟩),
    all10 (by rw [e_begun]; exact kit_own icR tyR sRC_begun sbR) (by rw [e_setby]; exact kit_own icR tyR sRC_setby sbR) (by rw [e_found]; exact kit_own icR tyR sRC_found sbR) (by rw [e_trusted]; exact kit_own icR tyR sRC_trusted sbR) (by rw [e_passed]; exact kit_own icR tyR sRC_passed sbR) (by rw [e_failed]; exact kit_own icR tyR sRC_failed sbR) (by rw [e_agreed]; exact kit_own icR tyR sRC_agreed sbR) (by rw [e_differed]; exact kit_own icR tyR sRC_differed sbR) (by rw [e_served]; exact kit_own icR tyR sRC_served sbR) (by rw [e_backed]; exact kit_own icR tyR sRC_backed sbR),
    all10 (by rw [e_begun]; exact thaC_begun) (by rw [e_setby]; exact thaC_setby) (by rw [e_found]; exact thaC_found) (by rw [e_trusted]; exact thaC_trusted) (by rw [e_passed]; exact thaC_passed) (by rw [e_failed]; exact thaC_failed) (by rw [e_agreed]; exact thaC_agreed) (by rw [e_differed]; exact thaC_differed) (by rw [e_served]; exact thaC_served) (by rw [e_backed]; exact thaC_backed), thn, tht, all10 (by rw [e_begun]; exact thmC_begun) (by rw [e_setby]; exact thmC_setby) (by rw [e_found]; exact thmC_found) (by rw [e_trusted]; exact thmC_trusted) (by rw [e_passed]; exact thmC_passed) (by rw [e_failed]; exact thmC_failed) (by rw [e_agreed]; exact thmC_agreed) (by rw [e_differed]; exact thmC_differed) (by rw [e_served]; exact thmC_served) (by rw [e_backed]; exact thmC_backed)⟩
  refine ⟨PySem.W.fnOf "law" "law" (defArgs sLaw) (defBody sLaw) (defScope sLaw) .none kVlaw dclaw pmlaw anlaw cdlaw ctlaw, fun s v => .of_eq rfl, fun base _ _ => ?_⟩
  have GD := ok_draw (P := l.prog) (w := w) (base := base) F_draw (g0 b_len) (g0 b_int) (g0 b_abs)
  have GPk := ok_pick (P := l.prog) (w := w) (base := base) F_pick (g0 b_len) F_draw b_draw_ (g1 adraw) GD
  have GPen := ok_pen (P := l.prog) (w := w) (base := base) F_pen (g0 b_list)
  have GW := ok_words (P := l.prog) (w := w) (mg := mg) (base := base) F_words
  have GLn := ok_lname (P := l.prog) (w := w) (base := base) F_lname (g0 b_range) F_pick b_pick_ (g1 apick) GPk F_words b_words_ (g1 awords) GW
  have GTi := ok_tick (P := l.prog) (w := w) (base := base) F_tick F_pick b_pick_ (g1 apick) GPk F_draw b_draw_ (g1 adraw) GD
  have GKi := ok_kinds (P := l.prog) (w := w) (mg := mg) (base := base) F_lkinds
  have GDr := ok_drawn (P := l.prog) (w := w) (base := base) F_drawn (g0 b_int) F_pick b_pick_ (g1 apick) GPk F_draw b_draw_ (g1 adraw) GD F_tick b_tick_ (g1 atick) GTi
  have GNd := ok_named (P := l.prog) (w := w) (base := base) F_named (g0 b_isinstance) (g0 b_str)
  have GTs := ok_ticks (P := l.prog) (w := w) (base := base) F_lticks (g0 b_isinstance) (g0 b_int) (g0 b_bool)
  have GM := ok_moment (P := l.prog) (w := w) (base := base) F_moment W F_whole b_whole_ (g1 awhole)
  have GNa := ok_name (P := l.prog) (w := w) (base := base) F_isname W
  have GC := ok_check (P := l.prog) (w := w) (base := base) F_check W RR F_moment b_moment_ (g1 amoment) GM F_isname b_isname_ (g1 aisname) GNa
  have GCk := ok_checked (P := l.prog) (w := w) (base := base) F_checked TF F_check b_check_ (g1 acheck) GC
  have GB := ok_two (P := l.prog) (w := w) (mg := mg) (base := base) F_eB OB.T OB.no1 OB.no2 scEB ⟨_, _, _, _, _, _, _, _, rfl⟩ (by decide) (by decide) (by decide) (by decide)
  have GU := ok_number (P := l.prog) (w := w) (base := base) F_number W ⟨_, g1 gLN⟩
  have GHf := ok_hasForm (P := l.prog) (w := w) (base := base) F_hasf F_isname b_isname_ (g1 aisname) GNa F_number b_number_ (g1 anumber) GU
  have GWs := ok_wordsOf (P := l.prog) (w := w) (base := base) F_wordsof W OB GB
  have GFi := ok_first (P := l.prog) (w := w) (base := base) F_first W (g0 b_enumerate) F_hasf b_hasf_ (g1 ahasf) GHf
  have GVo := ok_valueOf (P := l.prog) (w := w) (base := base) F_valof W
  have GTo := ok_told (P := l.prog) (w := w) (base := base) F_told (g0 b_zip) OB GB F_first b_first_ (g1 afirst) GFi F_valof b_valof_ (g1 avalof) GVo
  have G_begun := ok_Begun (P := l.prog) (w := w) (base := base) (C := C_begun) F_begun ⟨L_C_begun, by simp only [List.forall_mem_cons]; exact ⟨nC_begun__told, nC_begun_kind, nC_begun_tool, nC_begun_moment, fun _ h => nomatch h⟩⟩ F_checked b_checked_ (g1 achecked) GCk
  have G_setby := ok_SetBy (P := l.prog) (w := w) (base := base) (C := C_setby) F_setby ⟨L_C_setby, by simp only [List.forall_mem_cons]; exact ⟨nC_setby__told, nC_setby_kind, nC_setby_tool, nC_setby_moment, nC_setby_by, fun _ h => nomatch h⟩⟩ F_checked b_checked_ (g1 achecked) GCk
  have G_found := ok_Found (P := l.prog) (w := w) (base := base) (C := C_found) F_found ⟨L_C_found, by simp only [List.forall_mem_cons]; exact ⟨nC_found__told, nC_found_kind, nC_found_tool, nC_found_moment, nC_found_is_sound, fun _ h => nomatch h⟩⟩ F_checked b_checked_ (g1 achecked) GCk
  have G_trusted := ok_Trusted (P := l.prog) (w := w) (base := base) (C := C_trusted) F_trusted ⟨L_C_trusted, by simp only [List.forall_mem_cons]; exact ⟨nC_trusted__told, nC_trusted_kind, nC_trusted_tool, fun _ h => nomatch h⟩⟩ F_checked b_checked_ (g1 achecked) GCk
  have G_passed := ok_Passed (P := l.prog) (w := w) (base := base) (C := C_passed) F_passed ⟨L_C_passed, by simp only [List.forall_mem_cons]; exact ⟨nC_passed__told, nC_passed_kind, nC_passed_tool, nC_passed_moment, nC_passed_by, fun _ h => nomatch h⟩⟩ F_checked b_checked_ (g1 achecked) GCk
  have G_failed := ok_Failed (P := l.prog) (w := w) (base := base) (C := C_failed) F_failed ⟨L_C_failed, by simp only [List.forall_mem_cons]; exact ⟨nC_failed__told, nC_failed_kind, nC_failed_tool, nC_failed_moment, nC_failed_by, fun _ h => nomatch h⟩⟩ F_checked b_checked_ (g1 achecked) GCk
  have GMe_agreed := ok_Meeting (P := l.prog) (w := w) (base := base) (C := C_agreed) F_meet ⟨L_C_agreed, by simp only [List.forall_mem_cons]; exact ⟨nC_agreed__told, nC_agreed_kind, nC_agreed_one, nC_agreed_moment, nC_agreed_other, nC_agreed_later, fun _ h => nomatch h⟩⟩ F_checked b_checked_ (g1 achecked) GCk
  have SF_agreed : SupFn K l.prog "__init__" "Agreed.__init__" (defArgs sAgreed) (defBody sAgreed) (defScope sAgreed) C_agreed ccagreed fagreed (.ref cdaagreed) _ := ⟨⟨_, _, _, _, _, _, _, _, rfl, lagreed, cagreed⟩, kagreed, ⟨_, _, _, eagreed⟩, ⟨_, _, _, _, _, _, _, rfl, dagreed, vagreed, wagreed⟩, tops, opq, ⟨_, zagreed⟩⟩
  have G_agreed := ok_Agreed (P := l.prog) (w := w) (base := base) (C := C_agreed) SF_agreed (g0 b_super) yagreed ⟨_, zagreed⟩ xagreed tmeet fnmeet b_meet_ GMe_agreed
  have GMe_differed := ok_Meeting (P := l.prog) (w := w) (base := base) (C := C_differed) F_meet ⟨L_C_differed, by simp only [List.forall_mem_cons]; exact ⟨nC_differed__told, nC_differed_kind, nC_differed_one, nC_differed_moment, nC_differed_other, nC_differed_later, fun _ h => nomatch h⟩⟩ F_checked b_checked_ (g1 achecked) GCk
  have SF_differed : SupFn K l.prog "__init__" "Differed.__init__" (defArgs sDiffered) (defBody sDiffered) (defScope sDiffered) C_differed ccdiffered fdiffered (.ref cdadiffered) _ := ⟨⟨_, _, _, _, _, _, _, _, rfl, ldiffered, cdiffered⟩, kdiffered, ⟨_, _, _, ediffered⟩, ⟨_, _, _, _, _, _, _, rfl, ddiffered, vdiffered, wdiffered⟩, tops, opq, ⟨_, zdiffered⟩⟩
  have G_differed := ok_Differed (P := l.prog) (w := w) (base := base) (C := C_differed) SF_differed (g0 b_super) ydiffered ⟨_, zdiffered⟩ xdiffered tmeet fnmeet b_meet_ GMe_differed
  have GMe_served := ok_Meeting (P := l.prog) (w := w) (base := base) (C := C_served) F_meet ⟨L_C_served, by simp only [List.forall_mem_cons]; exact ⟨nC_served__told, nC_served_kind, nC_served_one, nC_served_moment, nC_served_other, nC_served_later, fun _ h => nomatch h⟩⟩ F_checked b_checked_ (g1 achecked) GCk
  have SF_served : SupFn K l.prog "__init__" "Served.__init__" (defArgs sServed) (defBody sServed) (defScope sServed) C_served ccserved fserved (.ref cdaserved) _ := ⟨⟨_, _, _, _, _, _, _, _, rfl, lserved, cserved⟩, kserved, ⟨_, _, _, eserved⟩, ⟨_, _, _, _, _, _, _, rfl, dserved, vserved, wserved⟩, tops, opq, ⟨_, zserved⟩⟩
  have G_served := ok_Served (P := l.prog) (w := w) (base := base) (C := C_served) SF_served (g0 b_super) yserved ⟨_, zserved⟩ xserved tmeet fnmeet b_meet_ GMe_served
  have GMe_backed := ok_Meeting (P := l.prog) (w := w) (base := base) (C := C_backed) F_meet ⟨L_C_backed, by simp only [List.forall_mem_cons]; exact ⟨nC_backed__told, nC_backed_kind, nC_backed_one, nC_backed_moment, nC_backed_other, nC_backed_later, fun _ h => nomatch h⟩⟩ F_checked b_checked_ (g1 achecked) GCk
  have SF_backed : SupFn K l.prog "__init__" "Backed.__init__" (defArgs sBacked) (defBody sBacked) (defScope sBacked) C_backed ccbacked fbacked (.ref cdabacked) _ := ⟨⟨_, _, _, _, _, _, _, _, rfl, lbacked, cbacked⟩, kbacked, ⟨_, _, _, ebacked⟩, ⟨_, _, _, _, _, _, _, rfl, dbacked, vbacked, wbacked⟩, tops, opq, ⟨_, zbacked⟩⟩
  have G_backed := ok_Backed (P := l.prog) (w := w) (base := base) (C := C_backed) SF_backed (g0 b_super) ybacked ⟨_, zbacked⟩ xbacked tmeet fnmeet b_meet_ GMe_backed
  have RW : Rows K l.prog w mg base CN CM CS Cf := {
    begun := ⟨fbegun, _, by rw [e_begun]; exact g1 aC_begun, by rw [e_begun]; exact ⟨mkC_begun, abegun, ibegun, kcC_begun⟩, b_begun_, by rw [e_begun]; exact G_begun.mono (by decide)⟩
    setby := ⟨fsetby, _, by rw [e_setby]; exact g1 aC_setby, by rw [e_setby]; exact ⟨mkC_setby, asetby, isetby, kcC_setby⟩, b_setby_, by rw [e_setby]; exact G_setby.mono (by decide)⟩
    found := ⟨ffound, _, by rw [e_found]; exact g1 aC_found, by rw [e_found]; exact ⟨mkC_found, afound, ifound, kcC_found⟩, b_found_, by rw [e_found]; exact G_found.mono (by decide)⟩
    trusted := ⟨ftrusted, _, by rw [e_trusted]; exact g1 aC_trusted, by rw [e_trusted]; exact ⟨mkC_trusted, atrusted, itrusted, kcC_trusted⟩, b_trusted_, by rw [e_trusted]; exact G_trusted.mono (by decide)⟩
    passed := ⟨fpassed, _, by rw [e_passed]; exact g1 aC_passed, by rw [e_passed]; exact ⟨mkC_passed, apassed, ipassed, kcC_passed⟩, b_passed_, by rw [e_passed]; exact G_passed.mono (by decide)⟩
    failed := ⟨ffailed, _, by rw [e_failed]; exact g1 aC_failed, by rw [e_failed]; exact ⟨mkC_failed, afailed, ifailed, kcC_failed⟩, b_failed_, by rw [e_failed]; exact G_failed.mono (by decide)⟩
    agreed := ⟨fagreed, _, by rw [e_agreed]; exact g1 aC_agreed, by rw [e_agreed]; exact ⟨mkC_agreed, aagreed, iagreed, kcC_agreed⟩, .all (fun us hl => match us, hl with | [_, _, _, _, _], _ => rfl), by rw [e_agreed]; exact G_agreed⟩
    differed := ⟨fdiffered, _, by rw [e_differed]; exact g1 aC_differed, by rw [e_differed]; exact ⟨mkC_differed, adiffered, idiffered, kcC_differed⟩, .all (fun us hl => match us, hl with | [_, _, _, _, _], _ => rfl), by rw [e_differed]; exact G_differed⟩
    served := ⟨fserved, _, by rw [e_served]; exact g1 aC_served, by rw [e_served]; exact ⟨mkC_served, aserved, iserved, kcC_served⟩, .all (fun us hl => match us, hl with | [_, _, _, _, _], _ => rfl), by rw [e_served]; exact G_served⟩
    backed := ⟨fbacked, _, by rw [e_backed]; exact g1 aC_backed, by rw [e_backed]; exact ⟨mkC_backed, abacked, ibacked, kcC_backed⟩, .all (fun us hl => match us, hl with | [_, _, _, _, _], _ => rfl), by rw [e_backed]; exact G_backed⟩ }
  have GMa := ok_made (P := l.prog) (w := w) (base := base) F_lmade RW
  have GMr := ok_madeRow (P := l.prog) (w := w) (base := base) F_madeRow RW
  have GWo := ok_wordOf (P := l.prog) (w := w) (base := base) F_wordof W
  have GStr := ok_strR (P := l.prog) (w := w) (base := base) F_rstr TR F_wordof b_wordof_ (g1 awordof) GWo
  have GEq := ok_eqG (P := l.prog) (w := w) (base := base) F_req W TR
  have RWK : RowsK K l.prog w mg base CN CM CS Cf := {
    begun := ⟨fbegun, _, by rw [e_begun]; exact g1 aC_begun, by rw [e_begun]; exact ⟨mkC_begun, abegun, ibegun, kcC_begun⟩, kb_rev (fun s u ws h => match ws, h with | [_, _], _ => .of_eq rfl), by rw [e_begun]; exact G_begun.mono (by decide)⟩
    setby := ⟨fsetby, _, by rw [e_setby]; exact g1 aC_setby, by rw [e_setby]; exact ⟨mkC_setby, asetby, isetby, kcC_setby⟩, kb_rev (fun s u ws h => match ws, h with | [_, _, _], _ => .of_eq rfl), by rw [e_setby]; exact G_setby.mono (by decide)⟩
    found := ⟨ffound, _, by rw [e_found]; exact g1 aC_found, by rw [e_found]; exact ⟨mkC_found, afound, ifound, kcC_found⟩, kb_rev (fun s u ws h => match ws, h with | [_, _, _], _ => .of_eq rfl), by rw [e_found]; exact G_found.mono (by decide)⟩
    trusted := ⟨ftrusted, _, by rw [e_trusted]; exact g1 aC_trusted, by rw [e_trusted]; exact ⟨mkC_trusted, atrusted, itrusted, kcC_trusted⟩, kb_rev (fun s u ws h => match ws, h with | [_], _ => .of_eq rfl), by rw [e_trusted]; exact G_trusted.mono (by decide)⟩
    passed := ⟨fpassed, _, by rw [e_passed]; exact g1 aC_passed, by rw [e_passed]; exact ⟨mkC_passed, apassed, ipassed, kcC_passed⟩, kb_rev (fun s u ws h => match ws, h with | [_, _, _], _ => .of_eq rfl), by rw [e_passed]; exact G_passed.mono (by decide)⟩
    failed := ⟨ffailed, _, by rw [e_failed]; exact g1 aC_failed, by rw [e_failed]; exact ⟨mkC_failed, afailed, ifailed, kcC_failed⟩, kb_rev (fun s u ws h => match ws, h with | [_, _, _], _ => .of_eq rfl), by rw [e_failed]; exact G_failed.mono (by decide)⟩
    agreed := ⟨fagreed, _, by rw [e_agreed]; exact g1 aC_agreed, by rw [e_agreed]; exact ⟨mkC_agreed, aagreed, iagreed, kcC_agreed⟩, kb_rev (fun s u ws h => match ws, h with | [_, _, _, _], _ => .of_eq rfl), by rw [e_agreed]; exact G_agreed⟩
    differed := ⟨fdiffered, _, by rw [e_differed]; exact g1 aC_differed, by rw [e_differed]; exact ⟨mkC_differed, adiffered, idiffered, kcC_differed⟩, kb_rev (fun s u ws h => match ws, h with | [_, _, _, _], _ => .of_eq rfl), by rw [e_differed]; exact G_differed⟩
    served := ⟨fserved, _, by rw [e_served]; exact g1 aC_served, by rw [e_served]; exact ⟨mkC_served, aserved, iserved, kcC_served⟩, kb_rev (fun s u ws h => match ws, h with | [_, _, _, _], _ => .of_eq rfl), by rw [e_served]; exact G_served⟩
    backed := ⟨fbacked, _, by rw [e_backed]; exact g1 aC_backed, by rw [e_backed]; exact ⟨mkC_backed, abacked, ibacked, kcC_backed⟩, kb_rev (fun s u ws h => match ws, h with | [_, _, _, _], _ => .of_eq rfl), by rw [e_backed]; exact G_backed⟩ }
  have RK : RdK K mg CR aK := ⟨g1 gR, ⟨rdCR, gaCR⟩, ⟨atK, rfl⟩, fun H => tab_seq lK vK (by decide) H⟩
  have GRo := ok_readRow (P := l.prog) (w := w) (base := base) F_rdrow RK TF OB GB F_told b_told_ (g1 atold) GTo F_madeRow b_madeRow_ (g1 amadeRow) GMr
  have GRR := ok_rowRead (P := l.prog) (w := w) (base := base) F_read F_rdrow b_rdrow_ (g1 ardrow) GRo F_wordsof b_wordsof_ (g1 awordsof) GWs
  have GBy := ok_byname (P := l.prog) (w := w) (base := base) F_byname RWK
  have GAt := ok_attr (P := l.prog) (w := w) (base := base) F_attr TR
  have GTa := ok_toldAs (P := l.prog) (w := w) (base := base) F_rta TR TF
  have SE : SetE mg := ⟨g0 b_tuple, g0 b_sorted, g0 b_set⟩
  have hTa : ∀ kind ∈ kinds, Meth K (Cf kind) "_told_as" frta := all10 (by rw [e_begun]; exact ⟨artaC_begun, irta, krta⟩) (by rw [e_setby]; exact ⟨artaC_setby, irta, krta⟩) (by rw [e_found]; exact ⟨artaC_found, irta, krta⟩) (by rw [e_trusted]; exact ⟨artaC_trusted, irta, krta⟩) (by rw [e_passed]; exact ⟨artaC_passed, irta, krta⟩) (by rw [e_failed]; exact ⟨artaC_failed, irta, krta⟩) (by rw [e_agreed]; exact ⟨artaC_agreed, irta, krta⟩) (by rw [e_differed]; exact ⟨artaC_differed, irta, krta⟩) (by rw [e_served]; exact ⟨artaC_served, irta, krta⟩) (by rw [e_backed]; exact ⟨artaC_backed, irta, krta⟩)
  have GTl := ok_tools (P := l.prog) (w := w) (base := base) F_pto SE TR hTa b_rta_ GTa
  have GMo := ok_moments (P := l.prog) (w := w) (base := base) F_pmo SE TR hTa b_rta_ GTa
  have BB : Bases K mg Cf CBg CCh CMe := {
    isi := g0 b_isinstance
    g_begun := by rw [e_begun]; exact g1 aC_begun
    g_setby := by rw [e_setby]; exact g1 aC_setby
    g_found := by rw [e_found]; exact g1 aC_found
    g_trusted := by rw [e_trusted]; exact g1 aC_trusted
    g_passed := by rw [e_passed]; exact g1 aC_passed
    g_failed := by rw [e_failed]; exact g1 aC_failed
    g_agreed := by rw [e_agreed]; exact g1 aC_agreed
    g_differed := by rw [e_differed]; exact g1 aC_differed
    g_served := by rw [e_served]; exact g1 aC_served
    g_backed := by rw [e_backed]; exact g1 aC_backed
    gB := g1 gCBg, gC := g1 gCCh, gM := g1 gCMe
    kk := all10 (by exact all10 (by rw [e_begun, show bit "begun" "begun" = true from by decide +kernel]; exact kit_self) (by rw [e_begun, e_setby, show bit "begun" "setby" = false from by decide +kernel]; exact kit_own icsC_setby tysC_setby s_begun_setby sbsC_setby) (by rw [e_begun, e_found, show bit "begun" "found" = false from by decide +kernel]; exact kit_own icsC_found tysC_found s_begun_found sbsC_found) (by rw [e_begun, e_trusted, show bit "begun" "trusted" = false from by decide +kernel]; exact kit_own icsC_trusted tysC_trusted s_begun_trusted sbsC_trusted) (by rw [e_begun, e_passed, show bit "begun" "passed" = false from by decide +kernel]; exact kit_own icsC_passed tysC_passed s_begun_passed sbsC_passed) (by rw [e_begun, e_failed, show bit "begun" "failed" = false from by decide +kernel]; exact kit_own icsC_failed tysC_failed s_begun_failed sbsC_failed) (by rw [e_begun, e_agreed, show bit "begun" "agreed" = false from by decide +kernel]; exact kit_own icsC_agreed tysC_agreed s_begun_agreed sbsC_agreed) (by rw [e_begun, e_differed, show bit "begun" "differed" = false from by decide +kernel]; exact kit_own icsC_differed tysC_differed s_begun_differed sbsC_differed) (by rw [e_begun, e_served, show bit "begun" "served" = false from by decide +kernel]; exact kit_own icsC_served tysC_served s_begun_served sbsC_served) (by rw [e_begun, e_backed, show bit "begun" "backed" = false from by decide +kernel]; exact kit_own icsC_backed tysC_backed s_begun_backed sbsC_backed)) (by exact all10 (by rw [e_setby, e_begun, show bit "setby" "begun" = false from by decide +kernel]; exact kit_own icsC_begun tysC_begun s_setby_begun sbsC_begun) (by rw [e_setby, show bit "setby" "setby" = true from by decide +kernel]; exact kit_self) (by rw [e_setby, e_found, show bit "setby" "found" = false from by decide +kernel]; exact kit_own icsC_found tysC_found s_setby_found sbsC_found) (by rw [e_setby, e_trusted, show bit "setby" "trusted" = false from by decide +kernel]; exact kit_own icsC_trusted tysC_trusted s_setby_trusted sbsC_trusted) (by rw [e_setby, e_passed, show bit "setby" "passed" = false from by decide +kernel]; exact kit_own icsC_passed tysC_passed s_setby_passed sbsC_passed) (by rw [e_setby, e_failed, show bit "setby" "failed" = false from by decide +kernel]; exact kit_own icsC_failed tysC_failed s_setby_failed sbsC_failed) (by rw [e_setby, e_agreed, show bit "setby" "agreed" = false from by decide +kernel]; exact kit_own icsC_agreed tysC_agreed s_setby_agreed sbsC_agreed) (by rw [e_setby, e_differed, show bit "setby" "differed" = false from by decide +kernel]; exact kit_own icsC_differed tysC_differed s_setby_differed sbsC_differed) (by rw [e_setby, e_served, show bit "setby" "served" = false from by decide +kernel]; exact kit_own icsC_served tysC_served s_setby_served sbsC_served) (by rw [e_setby, e_backed, show bit "setby" "backed" = false from by decide +kernel]; exact kit_own icsC_backed tysC_backed s_setby_backed sbsC_backed)) (by exact all10 (by rw [e_found, e_begun, show bit "found" "begun" = false from by decide +kernel]; exact kit_own icsC_begun tysC_begun s_found_begun sbsC_begun) (by rw [e_found, e_setby, show bit "found" "setby" = false from by decide +kernel]; exact kit_own icsC_setby tysC_setby s_found_setby sbsC_setby) (by rw [e_found, show bit "found" "found" = true from by decide +kernel]; exact kit_self) (by rw [e_found, e_trusted, show bit "found" "trusted" = false from by decide +kernel]; exact kit_own icsC_trusted tysC_trusted s_found_trusted sbsC_trusted) (by rw [e_found, e_passed, show bit "found" "passed" = false from by decide +kernel]; exact kit_own icsC_passed tysC_passed s_found_passed sbsC_passed) (by rw [e_found, e_failed, show bit "found" "failed" = false from by decide +kernel]; exact kit_own icsC_failed tysC_failed s_found_failed sbsC_failed) (by rw [e_found, e_agreed, show bit "found" "agreed" = false from by decide +kernel]; exact kit_own icsC_agreed tysC_agreed s_found_agreed sbsC_agreed) (by rw [e_found, e_differed, show bit "found" "differed" = false from by decide +kernel]; exact kit_own icsC_differed tysC_differed s_found_differed sbsC_differed) (by rw [e_found, e_served, show bit "found" "served" = false from by decide +kernel]; exact kit_own icsC_served tysC_served s_found_served sbsC_served) (by rw [e_found, e_backed, show bit "found" "backed" = false from by decide +kernel]; exact kit_own icsC_backed tysC_backed s_found_backed sbsC_backed)) (by exact all10 (by rw [e_trusted, e_begun, show bit "trusted" "begun" = false from by decide +kernel]; exact kit_own icsC_begun tysC_begun s_trusted_begun sbsC_begun) (by rw [e_trusted, e_setby, show bit "trusted" "setby" = false from by decide +kernel]; exact kit_own icsC_setby tysC_setby s_trusted_setby sbsC_setby) (by rw [e_trusted, e_found, show bit "trusted" "found" = false from by decide +kernel]; exact kit_own icsC_found tysC_found s_trusted_found sbsC_found) (by rw [e_trusted, show bit "trusted" "trusted" = true from by decide +kernel]; exact kit_self) (by rw [e_trusted, e_passed, show bit "trusted" "passed" = false from by decide +kernel]; exact kit_own icsC_passed tysC_passed s_trusted_passed sbsC_passed) (by rw [e_trusted, e_failed, show bit "trusted" "failed" = false from by decide +kernel]; exact kit_own icsC_failed tysC_failed s_trusted_failed sbsC_failed) (by rw [e_trusted, e_agreed, show bit "trusted" "agreed" = false from by decide +kernel]; exact kit_own icsC_agreed tysC_agreed s_trusted_agreed sbsC_agreed) (by rw [e_trusted, e_differed, show bit "trusted" "differed" = false from by decide +kernel]; exact kit_own icsC_differed tysC_differed s_trusted_differed sbsC_differed) (by rw [e_trusted, e_served, show bit "trusted" "served" = false from by decide +kernel]; exact kit_own icsC_served tysC_served s_trusted_served sbsC_served) (by rw [e_trusted, e_backed, show bit "trusted" "backed" = false from by decide +kernel]; exact kit_own icsC_backed tysC_backed s_trusted_backed sbsC_backed)) (by exact all10 (by rw [e_passed, e_begun, show bit "passed" "begun" = false from by decide +kernel]; exact kit_own icsC_begun tysC_begun s_passed_begun sbsC_begun) (by rw [e_passed, e_setby, show bit "passed" "setby" = false from by decide +kernel]; exact kit_own icsC_setby tysC_setby s_passed_setby sbsC_setby) (by rw [e_passed, e_found, show bit "passed" "found" = false from by decide +kernel]; exact kit_own icsC_found tysC_found s_passed_found sbsC_found) (by rw [e_passed, e_trusted, show bit "passed" "trusted" = false from by decide +kernel]; exact kit_own icsC_trusted tysC_trusted s_passed_trusted sbsC_trusted) (by rw [e_passed, show bit "passed" "passed" = true from by decide +kernel]; exact kit_self) (by rw [e_passed, e_failed, show bit "passed" "failed" = false from by decide +kernel]; exact kit_own icsC_failed tysC_failed s_passed_failed sbsC_failed) (by rw [e_passed, e_agreed, show bit "passed" "agreed" = false from by decide +kernel]; exact kit_own icsC_agreed tysC_agreed s_passed_agreed sbsC_agreed) (by rw [e_passed, e_differed, show bit "passed" "differed" = false from by decide +kernel]; exact kit_own icsC_differed tysC_differed s_passed_differed sbsC_differed) (by rw [e_passed, e_served, show bit "passed" "served" = false from by decide +kernel]; exact kit_own icsC_served tysC_served s_passed_served sbsC_served) (by rw [e_passed, e_backed, show bit "passed" "backed" = false from by decide +kernel]; exact kit_own icsC_backed tysC_backed s_passed_backed sbsC_backed)) (by exact all10 (by rw [e_failed, e_begun, show bit "failed" "begun" = false from by decide +kernel]; exact kit_own icsC_begun tysC_begun s_failed_begun sbsC_begun) (by rw [e_failed, e_setby, show bit "failed" "setby" = false from by decide +kernel]; exact kit_own icsC_setby tysC_setby s_failed_setby sbsC_setby) (by rw [e_failed, e_found, show bit "failed" "found" = false from by decide +kernel]; exact kit_own icsC_found tysC_found s_failed_found sbsC_found) (by rw [e_failed, e_trusted, show bit "failed" "trusted" = false from by decide +kernel]; exact kit_own icsC_trusted tysC_trusted s_failed_trusted sbsC_trusted) (by rw [e_failed, e_passed, show bit "failed" "passed" = false from by decide +kernel]; exact kit_own icsC_passed tysC_passed s_failed_passed sbsC_passed) (by rw [e_failed, show bit "failed" "failed" = true from by decide +kernel]; exact kit_self) (by rw [e_failed, e_agreed, show bit "failed" "agreed" = false from by decide +kernel]; exact kit_own icsC_agreed tysC_agreed s_failed_agreed sbsC_agreed) (by rw [e_failed, e_differed, show bit "failed" "differed" = false from by decide +kernel]; exact kit_own icsC_differed tysC_differed s_failed_differed sbsC_differed) (by rw [e_failed, e_served, show bit "failed" "served" = false from by decide +kernel]; exact kit_own icsC_served tysC_served s_failed_served sbsC_served) (by rw [e_failed, e_backed, show bit "failed" "backed" = false from by decide +kernel]; exact kit_own icsC_backed tysC_backed s_failed_backed sbsC_backed)) (by exact all10 (by rw [e_agreed, e_begun, show bit "agreed" "begun" = false from by decide +kernel]; exact kit_own icsC_begun tysC_begun s_agreed_begun sbsC_begun) (by rw [e_agreed, e_setby, show bit "agreed" "setby" = false from by decide +kernel]; exact kit_own icsC_setby tysC_setby s_agreed_setby sbsC_setby) (by rw [e_agreed, e_found, show bit "agreed" "found" = false from by decide +kernel]; exact kit_own icsC_found tysC_found s_agreed_found sbsC_found) (by rw [e_agreed, e_trusted, show bit "agreed" "trusted" = false from by decide +kernel]; exact kit_own icsC_trusted tysC_trusted s_agreed_trusted sbsC_trusted) (by rw [e_agreed, e_passed, show bit "agreed" "passed" = false from by decide +kernel]; exact kit_own icsC_passed tysC_passed s_agreed_passed sbsC_passed) (by rw [e_agreed, e_failed, show bit "agreed" "failed" = false from by decide +kernel]; exact kit_own icsC_failed tysC_failed s_agreed_failed sbsC_failed) (by rw [e_agreed, show bit "agreed" "agreed" = true from by decide +kernel]; exact kit_self) (by rw [e_agreed, e_differed, show bit "agreed" "differed" = false from by decide +kernel]; exact kit_own icsC_differed tysC_differed s_agreed_differed sbsC_differed) (by rw [e_agreed, e_served, show bit "agreed" "served" = false from by decide +kernel]; exact kit_own icsC_served tysC_served s_agreed_served sbsC_served) (by rw [e_agreed, e_backed, show bit "agreed" "backed" = false from by decide +kernel]; exact kit_own icsC_backed tysC_backed s_agreed_backed sbsC_backed)) (by exact all10 (by rw [e_differed, e_begun, show bit "differed" "begun" = false from by decide +kernel]; exact kit_own icsC_begun tysC_begun s_differed_begun sbsC_begun) (by rw [e_differed, e_setby, show bit "differed" "setby" = false from by decide +kernel]; exact kit_own icsC_setby tysC_setby s_differed_setby sbsC_setby) (by rw [e_differed, e_found, show bit "differed" "found" = false from by decide +kernel]; exact kit_own icsC_found tysC_found s_differed_found sbsC_found) (by rw [e_differed, e_trusted, show bit "differed" "trusted" = false from by decide +kernel]; exact kit_own icsC_trusted tysC_trusted s_differed_trusted sbsC_trusted) (by rw [e_differed, e_passed, show bit "differed" "passed" = false from by decide +kernel]; exact kit_own icsC_passed tysC_passed s_differed_passed sbsC_passed) (by rw [e_differed, e_failed, show bit "differed" "failed" = false from by decide +kernel]; exact kit_own icsC_failed tysC_failed s_differed_failed sbsC_failed) (by rw [e_differed, e_agreed, show bit "differed" "agreed" = false from by decide +kernel]; exact kit_own icsC_agreed tysC_agreed s_differed_agreed sbsC_agreed) (by rw [e_differed, show bit "differed" "differed" = true from by decide +kernel]; exact kit_self) (by rw [e_differed, e_served, show bit "differed" "served" = false from by decide +kernel]; exact kit_own icsC_served tysC_served s_differed_served sbsC_served) (by rw [e_differed, e_backed, show bit "differed" "backed" = false from by decide +kernel]; exact kit_own icsC_backed tysC_backed s_differed_backed sbsC_backed)) (by exact all10 (by rw [e_served, e_begun, show bit "served" "begun" = false from by decide +kernel]; exact kit_own icsC_begun tysC_begun s_served_begun sbsC_begun) (by rw [e_served, e_setby, show bit "served" "setby" = false from by decide +kernel]; exact kit_own icsC_setby tysC_setby s_served_setby sbsC_setby) (by rw [e_served, e_found, show bit "served" "found" = false from by decide +kernel]; exact kit_own icsC_found tysC_found s_served_found sbsC_found) (by rw [e_served, e_trusted, show bit "served" "trusted" = false from by decide +kernel]; exact kit_own icsC_trusted tysC_trusted s_served_trusted sbsC_trusted) (by rw [e_served, e_passed, show bit "served" "passed" = false from by decide +kernel]; exact kit_own icsC_passed tysC_passed s_served_passed sbsC_passed) (by rw [e_served, e_failed, show bit "served" "failed" = false from by decide +kernel]; exact kit_own icsC_failed tysC_failed s_served_failed sbsC_failed) (by rw [e_served, e_agreed, show bit "served" "agreed" = false from by decide +kernel]; exact kit_own icsC_agreed tysC_agreed s_served_agreed sbsC_agreed) (by rw [e_served, e_differed, show bit "served" "differed" = false from by decide +kernel]; exact kit_own icsC_differed tysC_differed s_served_differed sbsC_differed) (by rw [e_served, show bit "served" "served" = true from by decide +kernel]; exact kit_self) (by rw [e_served, e_backed, show bit "served" "backed" = false from by decide +kernel]; exact kit_own icsC_backed tysC_backed s_served_backed sbsC_backed)) (by exact all10 (by rw [e_backed, e_begun, show bit "backed" "begun" = false from by decide +kernel]; exact kit_own icsC_begun tysC_begun s_backed_begun sbsC_begun) (by rw [e_backed, e_setby, show bit "backed" "setby" = false from by decide +kernel]; exact kit_own icsC_setby tysC_setby s_backed_setby sbsC_setby) (by rw [e_backed, e_found, show bit "backed" "found" = false from by decide +kernel]; exact kit_own icsC_found tysC_found s_backed_found sbsC_found) (by rw [e_backed, e_trusted, show bit "backed" "trusted" = false from by decide +kernel]; exact kit_own icsC_trusted tysC_trusted s_backed_trusted sbsC_trusted) (by rw [e_backed, e_passed, show bit "backed" "passed" = false from by decide +kernel]; exact kit_own icsC_passed tysC_passed s_backed_passed sbsC_passed) (by rw [e_backed, e_failed, show bit "backed" "failed" = false from by decide +kernel]; exact kit_own icsC_failed tysC_failed s_backed_failed sbsC_failed) (by rw [e_backed, e_agreed, show bit "backed" "agreed" = false from by decide +kernel]; exact kit_own icsC_agreed tysC_agreed s_backed_agreed sbsC_agreed) (by rw [e_backed, e_differed, show bit "backed" "differed" = false from by decide +kernel]; exact kit_own icsC_differed tysC_differed s_backed_differed sbsC_differed) (by rw [e_backed, e_served, show bit "backed" "served" = false from by decide +kernel]; exact kit_own icsC_served tysC_served s_backed_served sbsC_served) (by rw [e_backed, show bit "backed" "backed" = true from by decide +kernel]; exact kit_self))
    kB := all10 (by rw [e_begun, show begs.contains "begun" = true from by decide +kernel]; exact kit_own icCBg tyCBg sCBg_begun sbCBg) (by rw [e_setby, show begs.contains "setby" = true from by decide +kernel]; exact kit_own icCBg tyCBg sCBg_setby sbCBg) (by rw [e_found, show begs.contains "found" = false from by decide +kernel]; exact kit_own icCBg tyCBg sCBg_found sbCBg) (by rw [e_trusted, show begs.contains "trusted" = false from by decide +kernel]; exact kit_own icCBg tyCBg sCBg_trusted sbCBg) (by rw [e_passed, show begs.contains "passed" = false from by decide +kernel]; exact kit_own icCBg tyCBg sCBg_passed sbCBg) (by rw [e_failed, show begs.contains "failed" = false from by decide +kernel]; exact kit_own icCBg tyCBg sCBg_failed sbCBg) (by rw [e_agreed, show begs.contains "agreed" = false from by decide +kernel]; exact kit_own icCBg tyCBg sCBg_agreed sbCBg) (by rw [e_differed, show begs.contains "differed" = false from by decide +kernel]; exact kit_own icCBg tyCBg sCBg_differed sbCBg) (by rw [e_served, show begs.contains "served" = false from by decide +kernel]; exact kit_own icCBg tyCBg sCBg_served sbCBg) (by rw [e_backed, show begs.contains "backed" = false from by decide +kernel]; exact kit_own icCBg tyCBg sCBg_backed sbCBg)
    kC := all10 (by rw [e_begun, show chkK.contains "begun" = false from by decide +kernel]; exact kit_own icCCh tyCCh sCCh_begun sbCCh) (by rw [e_setby, show chkK.contains "setby" = true from by decide +kernel]; exact kit_own icCCh tyCCh sCCh_setby sbCCh) (by rw [e_found, show chkK.contains "found" = true from by decide +kernel]; exact kit_own icCCh tyCCh sCCh_found sbCCh) (by rw [e_trusted, show chkK.contains "trusted" = true from by decide +kernel]; exact kit_own icCCh tyCCh sCCh_trusted sbCCh) (by rw [e_passed, show chkK.contains "passed" = true from by decide +kernel]; exact kit_own icCCh tyCCh sCCh_passed sbCCh) (by rw [e_failed, show chkK.contains "failed" = true from by decide +kernel]; exact kit_own icCCh tyCCh sCCh_failed sbCCh) (by rw [e_agreed, show chkK.contains "agreed" = false from by decide +kernel]; exact kit_own icCCh tyCCh sCCh_agreed sbCCh) (by rw [e_differed, show chkK.contains "differed" = false from by decide +kernel]; exact kit_own icCCh tyCCh sCCh_differed sbCCh) (by rw [e_served, show chkK.contains "served" = false from by decide +kernel]; exact kit_own icCCh tyCCh sCCh_served sbCCh) (by rw [e_backed, show chkK.contains "backed" = false from by decide +kernel]; exact kit_own icCCh tyCCh sCCh_backed sbCCh)
    kM := all10 (by rw [e_begun, show pairK.contains "begun" = false from by decide +kernel]; exact kit_own icCMe tyCMe sCMe_begun sbCMe) (by rw [e_setby, show pairK.contains "setby" = false from by decide +kernel]; exact kit_own icCMe tyCMe sCMe_setby sbCMe) (by rw [e_found, show pairK.contains "found" = false from by decide +kernel]; exact kit_own icCMe tyCMe sCMe_found sbCMe) (by rw [e_trusted, show pairK.contains "trusted" = false from by decide +kernel]; exact kit_own icCMe tyCMe sCMe_trusted sbCMe) (by rw [e_passed, show pairK.contains "passed" = false from by decide +kernel]; exact kit_own icCMe tyCMe sCMe_passed sbCMe) (by rw [e_failed, show pairK.contains "failed" = false from by decide +kernel]; exact kit_own icCMe tyCMe sCMe_failed sbCMe) (by rw [e_agreed, show pairK.contains "agreed" = true from by decide +kernel]; exact kit_own icCMe tyCMe sCMe_agreed sbCMe) (by rw [e_differed, show pairK.contains "differed" = true from by decide +kernel]; exact kit_own icCMe tyCMe sCMe_differed sbCMe) (by rw [e_served, show pairK.contains "served" = true from by decide +kernel]; exact kit_own icCMe tyCMe sCMe_served sbCMe) (by rw [e_backed, show pairK.contains "backed" = true from by decide +kernel]; exact kit_own icCMe tyCMe sCMe_backed sbCMe) }
  have GBg := ok_begins (P := l.prog) (w := w) (base := base) F_pbe (g0 b_isinstance) (g1 gCBg) TR BB.kB
  have GBr := ok_br (P := l.prog) (w := w) (base := base) F_bri TR BB F_lkinds b_lkinds_ (g1 alkinds) GKi
  have MM : Mths K l.prog w mg base Cf CR aK CB CBg CCh CMe := {
    W := W, T := TR, R := RK, B := BB, S := SE, rpr := g0 b_repr, lst := g0 b_list
    nf := all10 (by exact all10 (by rw [e_begun]; simp [PySem.W.notFirst]) (by rw [e_begun, e_setby]; exact nf_sub s_setby_begun) (by rw [e_begun, e_found]; exact nf_sub s_found_begun) (by rw [e_begun, e_trusted]; exact nf_sub s_trusted_begun) (by rw [e_begun, e_passed]; exact nf_sub s_passed_begun) (by rw [e_begun, e_failed]; exact nf_sub s_failed_begun) (by rw [e_begun, e_agreed]; exact nf_sub s_agreed_begun) (by rw [e_begun, e_differed]; exact nf_sub s_differed_begun) (by rw [e_begun, e_served]; exact nf_sub s_served_begun) (by rw [e_begun, e_backed]; exact nf_sub s_backed_begun)) (by exact all10 (by rw [e_setby, e_begun]; exact nf_sub s_begun_setby) (by rw [e_setby]; simp [PySem.W.notFirst]) (by rw [e_setby, e_found]; exact nf_sub s_found_setby) (by rw [e_setby, e_trusted]; exact nf_sub s_trusted_setby) (by rw [e_setby, e_passed]; exact nf_sub s_passed_setby) (by rw [e_setby, e_failed]; exact nf_sub s_failed_setby) (by rw [e_setby, e_agreed]; exact nf_sub s_agreed_setby) (by rw [e_setby, e_differed]; exact nf_sub s_differed_setby) (by rw [e_setby, e_served]; exact nf_sub s_served_setby) (by rw [e_setby, e_backed]; exact nf_sub s_backed_setby)) (by exact all10 (by rw [e_found, e_begun]; exact nf_sub s_begun_found) (by rw [e_found, e_setby]; exact nf_sub s_setby_found) (by rw [e_found]; simp [PySem.W.notFirst]) (by rw [e_found, e_trusted]; exact nf_sub s_trusted_found) (by rw [e_found, e_passed]; exact nf_sub s_passed_found) (by rw [e_found, e_failed]; exact nf_sub s_failed_found) (by rw [e_found, e_agreed]; exact nf_sub s_agreed_found) (by rw [e_found, e_differed]; exact nf_sub s_differed_found) (by rw [e_found, e_served]; exact nf_sub s_served_found) (by rw [e_found, e_backed]; exact nf_sub s_backed_found)) (by exact all10 (by rw [e_trusted, e_begun]; exact nf_sub s_begun_trusted) (by rw [e_trusted, e_setby]; exact nf_sub s_setby_trusted) (by rw [e_trusted, e_found]; exact nf_sub s_found_trusted) (by rw [e_trusted]; simp [PySem.W.notFirst]) (by rw [e_trusted, e_passed]; exact nf_sub s_passed_trusted) (by rw [e_trusted, e_failed]; exact nf_sub s_failed_trusted) (by rw [e_trusted, e_agreed]; exact nf_sub s_agreed_trusted) (by rw [e_trusted, e_differed]; exact nf_sub s_differed_trusted) (by rw [e_trusted, e_served]; exact nf_sub s_served_trusted) (by rw [e_trusted, e_backed]; exact nf_sub s_backed_trusted)) (by exact all10 (by rw [e_passed, e_begun]; exact nf_sub s_begun_passed) (by rw [e_passed, e_setby]; exact nf_sub s_setby_passed) (by rw [e_passed, e_found]; exact nf_sub s_found_passed) (by rw [e_passed, e_trusted]; exact nf_sub s_trusted_passed) (by rw [e_passed]; simp [PySem.W.notFirst]) (by rw [e_passed, e_failed]; exact nf_sub s_failed_passed) (by rw [e_passed, e_agreed]; exact nf_sub s_agreed_passed) (by rw [e_passed, e_differed]; exact nf_sub s_differed_passed) (by rw [e_passed, e_served]; exact nf_sub s_served_passed) (by rw [e_passed, e_backed]; exact nf_sub s_backed_passed)) (by exact all10 (by rw [e_failed, e_begun]; exact nf_sub s_begun_failed) (by rw [e_failed, e_setby]; exact nf_sub s_setby_failed) (by rw [e_failed, e_found]; exact nf_sub s_found_failed) (by rw [e_failed, e_trusted]; exact nf_sub s_trusted_failed) (by rw [e_failed, e_passed]; exact nf_sub s_passed_failed) (by rw [e_failed]; simp [PySem.W.notFirst]) (by rw [e_failed, e_agreed]; exact nf_sub s_agreed_failed) (by rw [e_failed, e_differed]; exact nf_sub s_differed_failed) (by rw [e_failed, e_served]; exact nf_sub s_served_failed) (by rw [e_failed, e_backed]; exact nf_sub s_backed_failed)) (by exact all10 (by rw [e_agreed, e_begun]; exact nf_sub s_begun_agreed) (by rw [e_agreed, e_setby]; exact nf_sub s_setby_agreed) (by rw [e_agreed, e_found]; exact nf_sub s_found_agreed) (by rw [e_agreed, e_trusted]; exact nf_sub s_trusted_agreed) (by rw [e_agreed, e_passed]; exact nf_sub s_passed_agreed) (by rw [e_agreed, e_failed]; exact nf_sub s_failed_agreed) (by rw [e_agreed]; simp [PySem.W.notFirst]) (by rw [e_agreed, e_differed]; exact nf_sub s_differed_agreed) (by rw [e_agreed, e_served]; exact nf_sub s_served_agreed) (by rw [e_agreed, e_backed]; exact nf_sub s_backed_agreed)) (by exact all10 (by rw [e_differed, e_begun]; exact nf_sub s_begun_differed) (by rw [e_differed, e_setby]; exact nf_sub s_setby_differed) (by rw [e_differed, e_found]; exact nf_sub s_found_differed) (by rw [e_differed, e_trusted]; exact nf_sub s_trusted_differed) (by rw [e_differed, e_passed]; exact nf_sub s_passed_differed) (by rw [e_differed, e_failed]; exact nf_sub s_failed_differed) (by rw [e_differed, e_agreed]; exact nf_sub s_agreed_differed) (by rw [e_differed]; simp [PySem.W.notFirst]) (by rw [e_differed, e_served]; exact nf_sub s_served_differed) (by rw [e_differed, e_backed]; exact nf_sub s_backed_differed)) (by exact all10 (by rw [e_served, e_begun]; exact nf_sub s_begun_served) (by rw [e_served, e_setby]; exact nf_sub s_setby_served) (by rw [e_served, e_found]; exact nf_sub s_found_served) (by rw [e_served, e_trusted]; exact nf_sub s_trusted_served) (by rw [e_served, e_passed]; exact nf_sub s_passed_served) (by rw [e_served, e_failed]; exact nf_sub s_failed_served) (by rw [e_served, e_agreed]; exact nf_sub s_agreed_served) (by rw [e_served, e_differed]; exact nf_sub s_differed_served) (by rw [e_served]; simp [PySem.W.notFirst]) (by rw [e_served, e_backed]; exact nf_sub s_backed_served)) (by exact all10 (by rw [e_backed, e_begun]; exact nf_sub s_begun_backed) (by rw [e_backed, e_setby]; exact nf_sub s_setby_backed) (by rw [e_backed, e_found]; exact nf_sub s_found_backed) (by rw [e_backed, e_trusted]; exact nf_sub s_trusted_backed) (by rw [e_backed, e_passed]; exact nf_sub s_passed_backed) (by rw [e_backed, e_failed]; exact nf_sub s_failed_backed) (by rw [e_backed, e_agreed]; exact nf_sub s_agreed_backed) (by rw [e_backed, e_differed]; exact nf_sub s_differed_backed) (by rw [e_backed, e_served]; exact nf_sub s_served_backed) (by rw [e_backed]; simp [PySem.W.notFirst]))
    nft := all10 (by rw [e_begun]; exact nf_sub tupC_begun) (by rw [e_setby]; exact nf_sub tupC_setby) (by rw [e_found]; exact nf_sub tupC_found) (by rw [e_trusted]; exact nf_sub tupC_trusted) (by rw [e_passed]; exact nf_sub tupC_passed) (by rw [e_failed]; exact nf_sub tupC_failed) (by rw [e_agreed]; exact nf_sub tupC_agreed) (by rw [e_differed]; exact nf_sub tupC_differed) (by rw [e_served]; exact nf_sub tupC_served) (by rw [e_backed]; exact nf_sub tupC_backed)
    kt := kit_tyown icR tyR tupR
    eq := ⟨_, _, all10 (by rw [e_begun]; exact areqC_begun) (by rw [e_setby]; exact areqC_setby) (by rw [e_found]; exact areqC_found) (by rw [e_trusted]; exact areqC_trusted) (by rw [e_passed]; exact areqC_passed) (by rw [e_failed]; exact areqC_failed) (by rw [e_agreed]; exact areqC_agreed) (by rw [e_differed]; exact areqC_differed) (by rw [e_served]; exact areqC_served) (by rw [e_backed]; exact areqC_backed), ireq, b_req_, GEq⟩
    str := ⟨_, _, all10 (by rw [e_begun]; exact arstrC_begun) (by rw [e_setby]; exact arstrC_setby) (by rw [e_found]; exact arstrC_found) (by rw [e_trusted]; exact arstrC_trusted) (by rw [e_passed]; exact arstrC_passed) (by rw [e_failed]; exact arstrC_failed) (by rw [e_agreed]; exact arstrC_agreed) (by rw [e_differed]; exact arstrC_differed) (by rw [e_served]; exact arstrC_served) (by rw [e_backed]; exact arstrC_backed), irstr, b_rstr_, GStr⟩
    read := ⟨_, _, _, M_read, kb_text (fun s u w => .of_eq rfl), GRR⟩
    tools := ⟨_, _, _, all10 (by rw [e_begun]; exact ⟨aptoC_begun, gpto, tpto, ⟨_, rpto⟩⟩) (by rw [e_setby]; exact ⟨aptoC_setby, gpto, tpto, ⟨_, rpto⟩⟩) (by rw [e_found]; exact ⟨aptoC_found, gpto, tpto, ⟨_, rpto⟩⟩) (by rw [e_trusted]; exact ⟨aptoC_trusted, gpto, tpto, ⟨_, rpto⟩⟩) (by rw [e_passed]; exact ⟨aptoC_passed, gpto, tpto, ⟨_, rpto⟩⟩) (by rw [e_failed]; exact ⟨aptoC_failed, gpto, tpto, ⟨_, rpto⟩⟩) (by rw [e_agreed]; exact ⟨aptoC_agreed, gpto, tpto, ⟨_, rpto⟩⟩) (by rw [e_differed]; exact ⟨aptoC_differed, gpto, tpto, ⟨_, rpto⟩⟩) (by rw [e_served]; exact ⟨aptoC_served, gpto, tpto, ⟨_, rpto⟩⟩) (by rw [e_backed]; exact ⟨aptoC_backed, gpto, tpto, ⟨_, rpto⟩⟩), b_pto_, GTl⟩
    moments := ⟨_, _, _, all10 (by rw [e_begun]; exact ⟨apmoC_begun, gpmo, tpmo, ⟨_, rpmo⟩⟩) (by rw [e_setby]; exact ⟨apmoC_setby, gpmo, tpmo, ⟨_, rpmo⟩⟩) (by rw [e_found]; exact ⟨apmoC_found, gpmo, tpmo, ⟨_, rpmo⟩⟩) (by rw [e_trusted]; exact ⟨apmoC_trusted, gpmo, tpmo, ⟨_, rpmo⟩⟩) (by rw [e_passed]; exact ⟨apmoC_passed, gpmo, tpmo, ⟨_, rpmo⟩⟩) (by rw [e_failed]; exact ⟨apmoC_failed, gpmo, tpmo, ⟨_, rpmo⟩⟩) (by rw [e_agreed]; exact ⟨apmoC_agreed, gpmo, tpmo, ⟨_, rpmo⟩⟩) (by rw [e_differed]; exact ⟨apmoC_differed, gpmo, tpmo, ⟨_, rpmo⟩⟩) (by rw [e_served]; exact ⟨apmoC_served, gpmo, tpmo, ⟨_, rpmo⟩⟩) (by rw [e_backed]; exact ⟨apmoC_backed, gpmo, tpmo, ⟨_, rpmo⟩⟩), b_pmo_, GMo⟩
    begins := ⟨_, _, _, all10 (by rw [e_begun]; exact ⟨apbeC_begun, gpbe, tpbe, ⟨_, rpbe⟩⟩) (by rw [e_setby]; exact ⟨apbeC_setby, gpbe, tpbe, ⟨_, rpbe⟩⟩) (by rw [e_found]; exact ⟨apbeC_found, gpbe, tpbe, ⟨_, rpbe⟩⟩) (by rw [e_trusted]; exact ⟨apbeC_trusted, gpbe, tpbe, ⟨_, rpbe⟩⟩) (by rw [e_passed]; exact ⟨apbeC_passed, gpbe, tpbe, ⟨_, rpbe⟩⟩) (by rw [e_failed]; exact ⟨apbeC_failed, gpbe, tpbe, ⟨_, rpbe⟩⟩) (by rw [e_agreed]; exact ⟨apbeC_agreed, gpbe, tpbe, ⟨_, rpbe⟩⟩) (by rw [e_differed]; exact ⟨apbeC_differed, gpbe, tpbe, ⟨_, rpbe⟩⟩) (by rw [e_served]; exact ⟨apbeC_served, gpbe, tpbe, ⟨_, rpbe⟩⟩) (by rw [e_backed]; exact ⟨apbeC_backed, gpbe, tpbe, ⟨_, rpbe⟩⟩), b_pbe_, GBg⟩ }
  have GRt := ok_right (P := l.prog) (w := w) (base := base) F_right MM F_lmade b_lmade_ (g1 almade) GMa F_byname b_byname_ (g1 abyname) GBy F_attr b_attr_ (g1 aattr) GAt F_named b_named_ (g1 anamed) GNd F_lticks b_lticks_ (g1 alticks) GTs F_bri b_bri_ (g1 abri) GBr
  exact ok_law F_law MM (g0 b_range) F_lmade b_lmade_ (g1 almade) GMa F_pen b_pen_ (g1 apen) GPen F_lname b_lname_ (g1 alname) GLn F_lkinds b_lkinds_ (g1 alkinds) GKi F_draw b_draw_ (g1 adraw) GD F_drawn b_drawn_ (g1 adrawn) GDr F_pick b_pick_ (g1 apick) GPk F_tick b_tick_ (g1 atick) GTi F_right b_right_ (g1 aright) GRt
theorem walk {l : PySem.W.OpenLaw} {q : Program} {loose : List Str} {XP : (Str → Option Value) → Heap → Prop} {YP : World → Heap → Prop} {d : DefRec} {K : Params → PySem.W.Frag} (hn : l.most = some 63) (hdf : d.params.defaults = []) (hnm : d.name = "law")
    (hY : ∀ (w : World) (h : Heap), YP w h → (K w.params).In h)
    (F : ∀ (w : World) (mg : Str → Option Value) (fa : Addr) (h : Heap), (K w.params).In h → h.Ns mainGlobals mg → mg "law" = some (.ref fa) →
      ∃ (fd : FuncData), (∀ (s : Shared) (u : Value), BindsTo s fd ⟨[u], []⟩ [("_law_script", u)]) ∧ ∀ base : Heap, (K w.params).In base → base.Ns mainGlobals mg → FnG l.prog w (K w.params) mg base CX0 14 fa fd ["_law_script"] (spLaw (K w.params))) :
    PySem.W.WalkO q loose XP YP l.row.toRowW d [] (fun f vs => PySem.call f vs) := by
  refine walk_ofG (CX := fun _ => CX0) (sp := fun w => spLaw (K w.params)) (k := 14) hn (by decide) hdf ⟨rfl, by decide, by decide⟩ hY (fun w mg fa h KX G hmg => F w mg fa h KX G (by rw [hnm] at hmg; exact hmg)) (fun w H a ns hl hb hO hS => ⟨a, ns, rfl, hS, fun _ => rfl⟩) fun _ _ _ _ _ z => z
end K11

open PySem PySem.W PySem.Calls PyProof.Rows
noncomputable def K11.Hk : Hook := kHook K11.dummy.heap_1 K11.as K11.as_eq
theorem K11.left : LeftO K11.R.prog K11.q K11.loose (fun s => xlAt K11.q [] s && recOk (RowW.records K11.R.toRowW) s) (Hook.obs K11.Hk) (Hook.val K11.Hk) 16000 true :=
  HeadRun.left_oneK (M := 15300) (by kernel_rfl) (by rfl) (fun s => by kernel_rfl) (by rfl) (K11.byRowAll "special-get-raises" K11.runF K11.runT)

set_option maxRecDepth 100000 in
set_option maxHeartbeats 0 in
theorem PySem.Challenge.cw_soundtill_k11_rows_made_holds : PySem.Challenge.rw_soundtill_k11_rows_made.Holds := by
  w_on; o_law
  refine PySem.W.holds_open (r := K11.R) (q := K11.q) (loose := K11.loose) (Xt := fun s => xlAt K11.q [] s && recOk (RowW.records K11.R.toRowW) s) (XP := XL K11.q []) (Yf := Hook.obs (kHook K11.dummy.heap_1 K11.as K11.as_eq)) (Ya := Hook.val (kHook K11.dummy.heap_1 K11.as K11.as_eq)) (YP := Hook.says (kHook K11.dummy.heap_1 K11.as K11.as_eq)) (N := 16000) K11.left (Hook.of (kHook K11.dummy.heap_1 K11.as K11.as_eq)) (Hook.keeps (kHook K11.dummy.heap_1 K11.as K11.as_eq)) (fun s e => xl_of s (Bool.and_eq_true_iff.mp e).1) XL.keeps (by rfl) (by rfl) (by rfl) (fun s e => recFacts_of (Bool.and_eq_true_iff.mp e).2) (by rfl) (by first | assumption | decide +kernel) (by decide +kernel) ⟨rfl, rfl, rfl, rfl, rfl, by decide +kernel⟩ ?hw ?hc
  (case hw => w_witness2)
  k_fill
  refine K11.walk (l := PySem.Challenge.rw_soundtill_k11_rows_made) rfl rfl rfl (fun w h Y => PySem.W.kIn_of Y) ?F
  case F =>
    intro w mg fa h KX G hmg
    refine' K11.all_mk KX G hmg ?apen ?lpen ?cpen ?kpen ?adraw ?ldraw ?cdraw ?kdraw ?apick ?lpick ?cpick ?kpick ?awords ?lwords ?cwords ?kwords ?alname ?llname ?clname ?klname ?atick ?ltick ?ctick ?ktick ?alkinds ?llkinds ?clkinds ?klkinds ?adrawn ?ldrawn ?cdrawn ?kdrawn ?anamed ?lnamed ?cnamed ?knamed ?alticks ?llticks ?clticks ?klticks ?almade ?llmade ?clmade ?klmade ?abyname ?lbyname ?cbyname ?kbyname ?aattr ?lattr ?cattr ?kattr ?abri ?lbri ?cbri ?kbri ?aright ?lright ?cright ?kright ?alaw ?llaw ?claw ?klaw ?awhole ?lwhole ?cwhole ?kwhole ?amoment ?lmoment ?cmoment ?kmoment ?aisname ?lisname ?cisname ?kisname ?acheck ?lcheck ?ccheck ?kcheck ?achecked ?lchecked ?cchecked ?kchecked ?awordof ?lwordof ?cwordof ?kwordof ?amadeRow ?lmadeRow ?cmadeRow ?kmadeRow ?anumber ?lnumber ?cnumber ?knumber ?ahasf ?lhasf ?chasf ?khasf ?awordsof ?lwordsof ?cwordsof ?kwordsof ?afirst ?lfirst ?cfirst ?kfirst ?atold ?ltold ?ctold ?ktold ?avalof ?lvalof ?cvalof ?kvalof ?ardrow ?lrdrow ?crdrow ?krdrow ?thn ?tht ?gR ?icR ?tyR ?sbR ?rdCR ?gaCR ?atread ?rcread ?firead ?lread ?cread ?kread ?atK ?lK ?vK ?gCBg ?icCBg ?tyCBg ?sbCBg ?gCCh ?icCCh ?tyCCh ?sbCCh ?gCMe ?icCMe ?tyCMe ?sbCMe ?aC_begun ?pgC_begun ?hdC_begun ?poC_begun ?saC_begun ?mkC_begun ?kcC_begun ?nC_begun__told ?nC_begun_kind ?nC_begun_tool ?nC_begun_moment ?abegun ?ibegun ?lbegun ?cbegun ?kbegun ?thaC_begun ?thmC_begun ?artaC_begun ?irta ?lrta ?crta ?krta ?areqC_begun ?ireq ?lreq ?creq ?kreq ?arstrC_begun ?irstr ?lrstr ?crstr ?krstr ?aptoC_begun ?gpto ?tpto ?rpto ?lpto ?cpto ?kpto ?apmoC_begun ?gpmo ?tpmo ?rpmo ?lpmo ?cpmo ?kpmo ?apbeC_begun ?gpbe ?tpbe ?rpbe ?lpbe ?cpbe ?kpbe ?icsC_begun ?tysC_begun ?sbsC_begun ?tupC_begun ?sCBg_begun ?sCCh_begun ?sCMe_begun ?sRC_begun ?aC_setby ?pgC_setby ?hdC_setby ?poC_setby ?saC_setby ?mkC_setby ?kcC_setby ?nC_setby__told ?nC_setby_kind ?nC_setby_tool ?nC_setby_moment ?nC_setby_by ?asetby ?isetby ?lsetby ?csetby ?ksetby ?thaC_setby ?thmC_setby ?artaC_setby ?areqC_setby ?arstrC_setby ?aptoC_setby ?apmoC_setby ?apbeC_setby ?icsC_setby ?tysC_setby ?sbsC_setby ?tupC_setby ?sCBg_setby ?sCCh_setby ?sCMe_setby ?sRC_setby ?aC_found ?pgC_found ?hdC_found ?poC_found ?saC_found ?mkC_found ?kcC_found ?nC_found__told ?nC_found_kind ?nC_found_tool ?nC_found_moment ?nC_found_is_sound ?afound ?ifound ?lfound ?cfound ?kfound ?thaC_found ?thmC_found ?artaC_found ?areqC_found ?arstrC_found ?aptoC_found ?apmoC_found ?apbeC_found ?icsC_found ?tysC_found ?sbsC_found ?tupC_found ?sCBg_found ?sCCh_found ?sCMe_found ?sRC_found ?aC_trusted ?pgC_trusted ?hdC_trusted ?poC_trusted ?saC_trusted ?mkC_trusted ?kcC_trusted ?nC_trusted__told ?nC_trusted_kind ?nC_trusted_tool ?atrusted ?itrusted ?ltrusted ?ctrusted ?ktrusted ?thaC_trusted ?thmC_trusted ?artaC_trusted ?areqC_trusted ?arstrC_trusted ?aptoC_trusted ?apmoC_trusted ?apbeC_trusted ?icsC_trusted ?tysC_trusted ?sbsC_trusted ?tupC_trusted ?sCBg_trusted ?sCCh_trusted ?sCMe_trusted ?sRC_trusted ?aC_passed ?pgC_passed ?hdC_passed ?poC_passed ?saC_passed ?mkC_passed ?kcC_passed ?nC_passed__told ?nC_passed_kind ?nC_passed_tool ?nC_passed_moment ?nC_passed_by ?apassed ?ipassed ?lpassed ?cpassed ?kpassed ?thaC_passed ?thmC_passed ?artaC_passed ?areqC_passed ?arstrC_passed ?aptoC_passed ?apmoC_passed ?apbeC_passed ?icsC_passed ?tysC_passed ?sbsC_passed ?tupC_passed ?sCBg_passed ?sCCh_passed ?sCMe_passed ?sRC_passed ?aC_failed ?pgC_failed ?hdC_failed ?poC_failed ?saC_failed ?mkC_failed ?kcC_failed ?nC_failed__told ?nC_failed_kind ?nC_failed_tool ?nC_failed_moment ?nC_failed_by ?afailed ?ifailed ?lfailed ?cfailed ?kfailed ?thaC_failed ?thmC_failed ?artaC_failed ?areqC_failed ?arstrC_failed ?aptoC_failed ?apmoC_failed ?apbeC_failed ?icsC_failed ?tysC_failed ?sbsC_failed ?tupC_failed ?sCBg_failed ?sCCh_failed ?sCMe_failed ?sRC_failed ?aC_agreed ?pgC_agreed ?hdC_agreed ?poC_agreed ?saC_agreed ?mkC_agreed ?kcC_agreed ?nC_agreed__told ?nC_agreed_kind ?nC_agreed_one ?nC_agreed_moment ?nC_agreed_other ?nC_agreed_later ?aagreed ?iagreed ?lagreed ?cagreed ?kagreed ?eagreed ?dagreed ?vagreed ?wagreed ?yagreed ?zagreed ?xagreed ?lmeet ?cmeet ?kmeet ?tmeet ?fnmeet ?thaC_agreed ?thmC_agreed ?artaC_agreed ?areqC_agreed ?arstrC_agreed ?aptoC_agreed ?apmoC_agreed ?apbeC_agreed ?icsC_agreed ?tysC_agreed ?sbsC_agreed ?tupC_agreed ?sCBg_agreed ?sCCh_agreed ?sCMe_agreed ?sRC_agreed ?aC_differed ?pgC_differed ?hdC_differed ?poC_differed ?saC_differed ?mkC_differed ?kcC_differed ?nC_differed__told ?nC_differed_kind ?nC_differed_one ?nC_differed_moment ?nC_differed_other ?nC_differed_later ?adiffered ?idiffered ?ldiffered ?cdiffered ?kdiffered ?ediffered ?ddiffered ?vdiffered ?wdiffered ?ydiffered ?zdiffered ?xdiffered ?thaC_differed ?thmC_differed ?artaC_differed ?areqC_differed ?arstrC_differed ?aptoC_differed ?apmoC_differed ?apbeC_differed ?icsC_differed ?tysC_differed ?sbsC_differed ?tupC_differed ?sCBg_differed ?sCCh_differed ?sCMe_differed ?sRC_differed ?aC_served ?pgC_served ?hdC_served ?poC_served ?saC_served ?mkC_served ?kcC_served ?nC_served__told ?nC_served_kind ?nC_served_one ?nC_served_moment ?nC_served_other ?nC_served_later ?aserved ?iserved ?lserved ?cserved ?kserved ?eserved ?dserved ?vserved ?wserved ?yserved ?zserved ?xserved ?thaC_served ?thmC_served ?artaC_served ?areqC_served ?arstrC_served ?aptoC_served ?apmoC_served ?apbeC_served ?icsC_served ?tysC_served ?sbsC_served ?tupC_served ?sCBg_served ?sCCh_served ?sCMe_served ?sRC_served ?aC_backed ?pgC_backed ?hdC_backed ?poC_backed ?saC_backed ?mkC_backed ?kcC_backed ?nC_backed__told ?nC_backed_kind ?nC_backed_one ?nC_backed_moment ?nC_backed_other ?nC_backed_later ?abacked ?ibacked ?lbacked ?cbacked ?kbacked ?ebacked ?dbacked ?vbacked ?wbacked ?ybacked ?zbacked ?xbacked ?thaC_backed ?thmC_backed ?artaC_backed ?areqC_backed ?arstrC_backed ?aptoC_backed ?apmoC_backed ?apbeC_backed ?icsC_backed ?tysC_backed ?sbsC_backed ?tupC_backed ?sCBg_backed ?sCCh_backed ?sCMe_backed ?sRC_backed ?s_begun_setby ?s_begun_found ?s_begun_trusted ?s_begun_passed ?s_begun_failed ?s_begun_agreed ?s_begun_differed ?s_begun_served ?s_begun_backed ?s_setby_begun ?s_setby_found ?s_setby_trusted ?s_setby_passed ?s_setby_failed ?s_setby_agreed ?s_setby_differed ?s_setby_served ?s_setby_backed ?s_found_begun ?s_found_setby ?s_found_trusted ?s_found_passed ?s_found_failed ?s_found_agreed ?s_found_differed ?s_found_served ?s_found_backed ?s_trusted_begun ?s_trusted_setby ?s_trusted_found ?s_trusted_passed ?s_trusted_failed ?s_trusted_agreed ?s_trusted_differed ?s_trusted_served ?s_trusted_backed ?s_passed_begun ?s_passed_setby ?s_passed_found ?s_passed_trusted ?s_passed_failed ?s_passed_agreed ?s_passed_differed ?s_passed_served ?s_passed_backed ?s_failed_begun ?s_failed_setby ?s_failed_found ?s_failed_trusted ?s_failed_passed ?s_failed_agreed ?s_failed_differed ?s_failed_served ?s_failed_backed ?s_agreed_begun ?s_agreed_setby ?s_agreed_found ?s_agreed_trusted ?s_agreed_passed ?s_agreed_failed ?s_agreed_differed ?s_agreed_served ?s_agreed_backed ?s_differed_begun ?s_differed_setby ?s_differed_found ?s_differed_trusted ?s_differed_passed ?s_differed_failed ?s_differed_agreed ?s_differed_served ?s_differed_backed ?s_served_begun ?s_served_setby ?s_served_found ?s_served_trusted ?s_served_passed ?s_served_failed ?s_served_agreed ?s_served_differed ?s_served_backed ?s_backed_begun ?s_backed_setby ?s_backed_found ?s_backed_trusted ?s_backed_passed ?s_backed_failed ?s_backed_agreed ?s_backed_differed ?s_backed_served ?tupR ?gLN ?opq ?tops ?gG ?gL ?gA ?gD ?gN ?lN ?vN ?gF ?lF ?klF ?gtbegun ?ltbegun ?vtbegun ?gtsetby ?ltsetby ?vtsetby ?gtfound ?ltfound ?vtfound ?gttrusted ?lttrusted ?vttrusted ?gtpassed ?ltpassed ?vtpassed ?gtfailed ?ltfailed ?vtfailed ?gtagreed ?ltagreed ?vtagreed ?gtdiffered ?ltdiffered ?vtdiffered ?gtserved ?ltserved ?vtserved ?gtbacked ?ltbacked ?vtbacked ?b_isinstance ?b_int ?b_bool ?b_str ?b_len ?b_all ?b_list ?b_tuple ?b_abs ?b_repr ?b_zip ?b_ValueError ?b_super ?b_enumerate ?b_range ?b_sorted ?b_set ?aT ?iT ?tT ?eT ?sT ?aN ?xN ?seN ?geN ?heN ?neN ?aeN ?teN ?leN ?ceN ?keN ?kkeN ?exeN ?tyeN ?hdeN ?iceN ?veeN ?uteN ?caeN ?cmeN ?aM ?xM ?seM ?geM ?heM ?neM ?aeM ?teM ?leM ?ceM ?keM ?kkeM ?exeM ?tyeM ?hdeM ?iceM ?veeM ?uteM ?caeM ?cmeM ?aS ?xS ?seS ?geS ?heS ?neS ?aeS ?teS ?leS ?ceS ?keS ?kkeS ?exeS ?tyeS ?hdeS ?iceS ?veeS ?uteS ?caeS ?cmeS ?aB ?xB ?seB ?geB ?heB ?neB ?oeB ?aeB ?teB ?leB ?ceB ?keB ?kkeB ?exeB ?tyeB ?hdeB ?iceB ?veeB ?uteB ?caeB ?cmeB
    (case apen => k_is)
    (case lpen => k_is)
    (case cpen => k_is)
    (case kpen => k_is)
    (case adraw => k_is)
    (case ldraw => k_is)
    (case cdraw => k_is)
    (case kdraw => k_is)
    (case apick => k_is)
    (case lpick => k_is)
    (case cpick => k_is)
    (case kpick => k_is)
    (case awords => k_is)
    (case lwords => k_is)
    (case cwords => k_is)
    (case kwords => k_is)
    (case alname => k_is)
    (case llname => k_is)
    (case clname => k_is)
    (case klname => k_is)
    (case atick => k_is)
    (case ltick => k_is)
    (case ctick => k_is)
    (case ktick => k_is)
    (case alkinds => k_is)
    (case llkinds => k_is)
    (case clkinds => k_is)
    (case klkinds => k_is)
    (case adrawn => k_is)
    (case ldrawn => k_is)
    (case cdrawn => k_is)
    (case kdrawn => k_is)
    (case anamed => k_is)
    (case lnamed => k_is)
    (case cnamed => k_is)
    (case knamed => k_is)
    (case alticks => k_is)
    (case llticks => k_is)
    (case clticks => k_is)
    (case klticks => k_is)
    (case almade => k_is)
    (case llmade => k_is)
    (case clmade => k_is)
    (case klmade => k_is)
    (case abyname => k_is)
    (case lbyname => k_is)
    (case cbyname => k_is)
    (case kbyname => k_is)
    (case aattr => k_is)
    (case lattr => k_is)
    (case cattr => k_is)
    (case kattr => k_is)
    (case abri => k_is)
    (case lbri => k_is)
    (case cbri => k_is)
    (case kbri => k_is)
    (case aright => k_is)
    (case lright => k_is)
    (case cright => k_is)
    (case kright => k_is)
    (case alaw => k_is)
    (case llaw => k_is)
    (case claw => k_is)
    (case klaw => k_is)
    (case awhole => k_is)
    (case lwhole => k_is)
    (case cwhole => k_is)
    (case kwhole => k_is)
    (case amoment => k_is)
    (case lmoment => k_is)
    (case cmoment => k_is)
    (case kmoment => k_is)
    (case aisname => k_is)
    (case lisname => k_is)
    (case cisname => k_is)
    (case kisname => k_is)
    (case acheck => k_is)
    (case lcheck => k_is)
    (case ccheck => k_is)
    (case kcheck => k_is)
    (case achecked => k_is)
    (case lchecked => k_is)
    (case cchecked => k_is)
    (case kchecked => k_is)
    (case awordof => k_is)
    (case lwordof => k_is)
    (case cwordof => k_is)
    (case kwordof => k_is)
    (case amadeRow => k_is)
    (case lmadeRow => k_is)
    (case cmadeRow => k_is)
    (case kmadeRow => k_is)
    (case anumber => k_is)
    (case lnumber => k_is)
    (case cnumber => k_is)
    (case knumber => k_is)
    (case ahasf => k_is)
    (case lhasf => k_is)
    (case chasf => k_is)
    (case khasf => k_is)
    (case awordsof => k_is)
    (case lwordsof => k_is)
    (case cwordsof => k_is)
    (case kwordsof => k_is)
    (case afirst => k_is)
    (case lfirst => k_is)
    (case cfirst => k_is)
    (case kfirst => k_is)
    (case atold => k_is)
    (case ltold => k_is)
    (case ctold => k_is)
    (case ktold => k_is)
    (case avalof => k_is)
    (case lvalof => k_is)
    (case cvalof => k_is)
    (case kvalof => k_is)
    (case ardrow => k_is)
    (case lrdrow => k_is)
    (case crdrow => k_is)
    (case krdrow => k_is)
    (case thn => k_is)
    (case tht => k_is)
    (case gR => k_is)
    (case icR => k_is)
    (case tyR => k_is)
    (case sbR => k_is)
    (case rdCR => k_is)
    (case gaCR => k_is)
    (case atread => k_is)
    (case rcread => k_is)
    (case firead => k_is)
    (case lread => k_is)
    (case cread => k_is)
    (case kread => k_is)
    (case atK => k_is)
    (case lK => k_is)
    (case vK => rfl)
    (case gCBg => k_is)
    (case icCBg => k_is)
    (case tyCBg => k_is)
    (case sbCBg => k_is)
    (case gCCh => k_is)
    (case icCCh => k_is)
    (case tyCCh => k_is)
    (case sbCCh => k_is)
    (case gCMe => k_is)
    (case icCMe => k_is)
    (case tyCMe => k_is)
    (case sbCMe => k_is)
    (case aC_begun => k_is)
    (case pgC_begun => k_is)
    (case hdC_begun => k_is)
    (case poC_begun => k_is)
    (case saC_begun => k_is)
    (case mkC_begun => k_is)
    (case kcC_begun => k_is)
    (case nC_begun__told => k_is)
    (case nC_begun_kind => k_is)
    (case nC_begun_tool => k_is)
    (case nC_begun_moment => k_is)
    (case abegun => k_is)
    (case ibegun => k_is)
    (case lbegun => k_is)
    (case cbegun => k_is)
    (case kbegun => k_is)
    (case thaC_begun => k_is)
    (case thmC_begun => k_is)
    (case artaC_begun => k_is)
    (case irta => k_is)
    (case lrta => k_is)
    (case crta => k_is)
    (case krta => k_is)
    (case areqC_begun => k_is)
    (case ireq => k_is)
    (case lreq => k_is)
    (case creq => k_is)
    (case kreq => k_is)
    (case arstrC_begun => k_is)
    (case irstr => k_is)
    (case lrstr => k_is)
    (case crstr => k_is)
    (case krstr => k_is)
    (case aptoC_begun => k_is)
    (case gpto => k_is)
    (case tpto => k_is)
    (case rpto => k_is)
    (case lpto => k_is)
    (case cpto => k_is)
    (case kpto => k_is)
    (case apmoC_begun => k_is)
    (case gpmo => k_is)
    (case tpmo => k_is)
    (case rpmo => k_is)
    (case lpmo => k_is)
    (case cpmo => k_is)
    (case kpmo => k_is)
    (case apbeC_begun => k_is)
    (case gpbe => k_is)
    (case tpbe => k_is)
    (case rpbe => k_is)
    (case lpbe => k_is)
    (case cpbe => k_is)
    (case kpbe => k_is)
    (case icsC_begun => k_is)
    (case tysC_begun => k_is)
    (case sbsC_begun => k_is)
    (case tupC_begun => k_is)
    (case sCBg_begun => k_is)
    (case sCCh_begun => k_is)
    (case sCMe_begun => k_is)
    (case sRC_begun => k_is)
    (case aC_setby => k_is)
    (case pgC_setby => k_is)
    (case hdC_setby => k_is)
    (case poC_setby => k_is)
    (case saC_setby => k_is)
    (case mkC_setby => k_is)
    (case kcC_setby => k_is)
    (case nC_setby__told => k_is)
    (case nC_setby_kind => k_is)
    (case nC_setby_tool => k_is)
    (case nC_setby_moment => k_is)
    (case nC_setby_by => k_is)
    (case asetby => k_is)
    (case isetby => k_is)
    (case lsetby => k_is)
    (case csetby => k_is)
    (case ksetby => k_is)
    (case thaC_setby => k_is)
    (case thmC_setby => k_is)
    (case artaC_setby => k_is)
    (case areqC_setby => k_is)
    (case arstrC_setby => k_is)
    (case aptoC_setby => k_is)
    (case apmoC_setby => k_is)
    (case apbeC_setby => k_is)
    (case icsC_setby => k_is)
    (case tysC_setby => k_is)
    (case sbsC_setby => k_is)
    (case tupC_setby => k_is)
    (case sCBg_setby => k_is)
    (case sCCh_setby => k_is)
    (case sCMe_setby => k_is)
    (case sRC_setby => k_is)
    (case aC_found => k_is)
    (case pgC_found => k_is)
    (case hdC_found => k_is)
    (case poC_found => k_is)
    (case saC_found => k_is)
    (case mkC_found => k_is)
    (case kcC_found => k_is)
    (case nC_found__told => k_is)
    (case nC_found_kind => k_is)
    (case nC_found_tool => k_is)
    (case nC_found_moment => k_is)
    (case nC_found_is_sound => k_is)
    (case afound => k_is)
    (case ifound => k_is)
    (case lfound => k_is)
    (case cfound => k_is)
    (case kfound => k_is)
    (case thaC_found => k_is)
    (case thmC_found => k_is)
    (case artaC_found => k_is)
    (case areqC_found => k_is)
    (case arstrC_found => k_is)
    (case aptoC_found => k_is)
    (case apmoC_found => k_is)
    (case apbeC_found => k_is)
    (case icsC_found => k_is)
    (case tysC_found => k_is)
    (case sbsC_found => k_is)
    (case tupC_found => k_is)
    (case sCBg_found => k_is)
    (case sCCh_found => k_is)
    (case sCMe_found => k_is)
    (case sRC_found => k_is)
    (case aC_trusted => k_is)
    (case pgC_trusted => k_is)
    (case hdC_trusted => k_is)
    (case poC_trusted => k_is)
    (case saC_trusted => k_is)
    (case mkC_trusted => k_is)
    (case kcC_trusted => k_is)
    (case nC_trusted__told => k_is)
    (case nC_trusted_kind => k_is)
    (case nC_trusted_tool => k_is)
    (case atrusted => k_is)
    (case itrusted => k_is)
    (case ltrusted => k_is)
    (case ctrusted => k_is)
    (case ktrusted => k_is)
    (case thaC_trusted => k_is)
    (case thmC_trusted => k_is)
    (case artaC_trusted => k_is)
    (case areqC_trusted => k_is)
    (case arstrC_trusted => k_is)
    (case aptoC_trusted => k_is)
    (case apmoC_trusted => k_is)
    (case apbeC_trusted => k_is)
    (case icsC_trusted => k_is)
    (case tysC_trusted => k_is)
    (case sbsC_trusted => k_is)
    (case tupC_trusted => k_is)
    (case sCBg_trusted => k_is)
    (case sCCh_trusted => k_is)
    (case sCMe_trusted => k_is)
    (case sRC_trusted => k_is)
    (case aC_passed => k_is)
    (case pgC_passed => k_is)
    (case hdC_passed => k_is)
    (case poC_passed => k_is)
    (case saC_passed => k_is)
    (case mkC_passed => k_is)
    (case kcC_passed => k_is)
    (case nC_passed__told => k_is)
    (case nC_passed_kind => k_is)
    (case nC_passed_tool => k_is)
    (case nC_passed_moment => k_is)
    (case nC_passed_by => k_is)
    (case apassed => k_is)
    (case ipassed => k_is)
    (case lpassed => k_is)
    (case cpassed => k_is)
    (case kpassed => k_is)
    (case thaC_passed => k_is)
    (case thmC_passed => k_is)
    (case artaC_passed => k_is)
    (case areqC_passed => k_is)
    (case arstrC_passed => k_is)
    (case aptoC_passed => k_is)
    (case apmoC_passed => k_is)
    (case apbeC_passed => k_is)
    (case icsC_passed => k_is)
    (case tysC_passed => k_is)
    (case sbsC_passed => k_is)
    (case tupC_passed => k_is)
    (case sCBg_passed => k_is)
    (case sCCh_passed => k_is)
    (case sCMe_passed => k_is)
    (case sRC_passed => k_is)
    (case aC_failed => k_is)
    (case pgC_failed => k_is)
    (case hdC_failed => k_is)
    (case poC_failed => k_is)
    (case saC_failed => k_is)
    (case mkC_failed => k_is)
    (case kcC_failed => k_is)
    (case nC_failed__told => k_is)
    (case nC_failed_kind => k_is)
    (case nC_failed_tool => k_is)
    (case nC_failed_moment => k_is)
    (case nC_failed_by => k_is)
    (case afailed => k_is)
    (case ifailed => k_is)
    (case lfailed => k_is)
    (case cfailed => k_is)
    (case kfailed => k_is)
    (case thaC_failed => k_is)
    (case thmC_failed => k_is)
    (case artaC_failed => k_is)
    (case areqC_failed => k_is)
    (case arstrC_failed => k_is)
    (case aptoC_failed => k_is)
    (case apmoC_failed => k_is)
    (case apbeC_failed => k_is)
    (case icsC_failed => k_is)
    (case tysC_failed => k_is)
    (case sbsC_failed => k_is)
    (case tupC_failed => k_is)
    (case sCBg_failed => k_is)
    (case sCCh_failed => k_is)
    (case sCMe_failed => k_is)
    (case sRC_failed => k_is)
    (case aC_agreed => k_is)
    (case pgC_agreed => k_is)
    (case hdC_agreed => k_is)
    (case poC_agreed => k_is)
    (case saC_agreed => k_is)
    (case mkC_agreed => k_is)
    (case kcC_agreed => k_is)
    (case nC_agreed__told => k_is)
    (case nC_agreed_kind => k_is)
    (case nC_agreed_one => k_is)
    (case nC_agreed_moment => k_is)
    (case nC_agreed_other => k_is)
    (case nC_agreed_later => k_is)
    (case aagreed => k_is)
    (case iagreed => k_is)
    (case lagreed => k_is)
    (case cagreed => k_is)
    (case kagreed => k_is)
    (case eagreed => k_is)
    (case dagreed => k_is)
    (case vagreed => rfl)
    (case wagreed => rfl)
    (case yagreed => k_is)
    (case zagreed => first | k_is | kernel_rfl | rfl)
    (case xagreed => ks_is)
    (case lmeet => k_is)
    (case cmeet => k_is)
    (case kmeet => k_is)
    (case tmeet => k_is)
    (case fnmeet => k_is)
    (case thaC_agreed => k_is)
    (case thmC_agreed => k_is)
    (case artaC_agreed => k_is)
    (case areqC_agreed => k_is)
    (case arstrC_agreed => k_is)
    (case aptoC_agreed => k_is)
    (case apmoC_agreed => k_is)
    (case apbeC_agreed => k_is)
    (case icsC_agreed => k_is)
    (case tysC_agreed => k_is)
    (case sbsC_agreed => k_is)
    (case tupC_agreed => k_is)
    (case sCBg_agreed => k_is)
    (case sCCh_agreed => k_is)
    (case sCMe_agreed => k_is)
    (case sRC_agreed => k_is)
    (case aC_differed => k_is)
    (case pgC_differed => k_is)
    (case hdC_differed => k_is)
    (case poC_differed => k_is)
    (case saC_differed => k_is)
    (case mkC_differed => k_is)
    (case kcC_differed => k_is)
    (case nC_differed__told => k_is)
    (case nC_differed_kind => k_is)
    (case nC_differed_one => k_is)
    (case nC_differed_moment => k_is)
    (case nC_differed_other => k_is)
    (case nC_differed_later => k_is)
    (case adiffered => k_is)
    (case idiffered => k_is)
    (case ldiffered => k_is)
    (case cdiffered => k_is)
    (case kdiffered => k_is)
    (case ediffered => k_is)
    (case ddiffered => k_is)
    (case vdiffered => rfl)
    (case wdiffered => rfl)
    (case ydiffered => k_is)
    (case zdiffered => first | k_is | kernel_rfl | rfl)
    (case xdiffered => ks_is)
    (case thaC_differed => k_is)
    (case thmC_differed => k_is)
    (case artaC_differed => k_is)
    (case areqC_differed => k_is)
    (case arstrC_differed => k_is)
    (case aptoC_differed => k_is)
    (case apmoC_differed => k_is)
    (case apbeC_differed => k_is)
    (case icsC_differed => k_is)
    (case tysC_differed => k_is)
    (case sbsC_differed => k_is)
    (case tupC_differed => k_is)
    (case sCBg_differed => k_is)
    (case sCCh_differed => k_is)
    (case sCMe_differed => k_is)
    (case sRC_differed => k_is)
    (case aC_served => k_is)
    (case pgC_served => k_is)
    (case hdC_served => k_is)
    (case poC_served => k_is)
    (case saC_served => k_is)
    (case mkC_served => k_is)
    (case kcC_served => k_is)
    (case nC_served__told => k_is)
    (case nC_served_kind => k_is)
    (case nC_served_one => k_is)
    (case nC_served_moment => k_is)
    (case nC_served_other => k_is)
    (case nC_served_later => k_is)
    (case aserved => k_is)
    (case iserved => k_is)
    (case lserved => k_is)
    (case cserved => k_is)
    (case kserved => k_is)
    (case eserved => k_is)
    (case dserved => k_is)
    (case vserved => rfl)
    (case wserved => rfl)
    (case yserved => k_is)
    (case zserved => first | k_is | kernel_rfl | rfl)
    (case xserved => ks_is)
    (case thaC_served => k_is)
    (case thmC_served => k_is)
    (case artaC_served => k_is)
    (case areqC_served => k_is)
    (case arstrC_served => k_is)
    (case aptoC_served => k_is)
    (case apmoC_served => k_is)
    (case apbeC_served => k_is)
    (case icsC_served => k_is)
    (case tysC_served => k_is)
    (case sbsC_served => k_is)
    (case tupC_served => k_is)
    (case sCBg_served => k_is)
    (case sCCh_served => k_is)
    (case sCMe_served => k_is)
    (case sRC_served => k_is)
    (case aC_backed => k_is)
    (case pgC_backed => k_is)
    (case hdC_backed => k_is)
    (case poC_backed => k_is)
    (case saC_backed => k_is)
    (case mkC_backed => k_is)
    (case kcC_backed => k_is)
    (case nC_backed__told => k_is)
    (case nC_backed_kind => k_is)
    (case nC_backed_one => k_is)
    (case nC_backed_moment => k_is)
    (case nC_backed_other => k_is)
    (case nC_backed_later => k_is)
    (case abacked => k_is)
    (case ibacked => k_is)
    (case lbacked => k_is)
    (case cbacked => k_is)
    (case kbacked => k_is)
    (case ebacked => k_is)
    (case dbacked => k_is)
    (case vbacked => rfl)
    (case wbacked => rfl)
    (case ybacked => k_is)
    (case zbacked => first | k_is | kernel_rfl | rfl)
    (case xbacked => ks_is)
    (case thaC_backed => k_is)
    (case thmC_backed => k_is)
    (case artaC_backed => k_is)
    (case areqC_backed => k_is)
    (case arstrC_backed => k_is)
    (case aptoC_backed => k_is)
    (case apmoC_backed => k_is)
    (case apbeC_backed => k_is)
    (case icsC_backed => k_is)
    (case tysC_backed => k_is)
    (case sbsC_backed => k_is)
    (case tupC_backed => k_is)
    (case sCBg_backed => k_is)
    (case sCCh_backed => k_is)
    (case sCMe_backed => k_is)
    (case sRC_backed => k_is)
    (case s_begun_setby => k_is)
    (case s_begun_found => k_is)
    (case s_begun_trusted => k_is)
    (case s_begun_passed => k_is)
    (case s_begun_failed => k_is)
    (case s_begun_agreed => k_is)
    (case s_begun_differed => k_is)
    (case s_begun_served => k_is)
    (case s_begun_backed => k_is)
    (case s_setby_begun => k_is)
    (case s_setby_found => k_is)
    (case s_setby_trusted => k_is)
    (case s_setby_passed => k_is)
    (case s_setby_failed => k_is)
    (case s_setby_agreed => k_is)
    (case s_setby_differed => k_is)
    (case s_setby_served => k_is)
    (case s_setby_backed => k_is)
    (case s_found_begun => k_is)
    (case s_found_setby => k_is)
    (case s_found_trusted => k_is)
    (case s_found_passed => k_is)
    (case s_found_failed => k_is)
    (case s_found_agreed => k_is)
    (case s_found_differed => k_is)
    (case s_found_served => k_is)
    (case s_found_backed => k_is)
    (case s_trusted_begun => k_is)
    (case s_trusted_setby => k_is)
    (case s_trusted_found => k_is)
    (case s_trusted_passed => k_is)
    (case s_trusted_failed => k_is)
    (case s_trusted_agreed => k_is)
    (case s_trusted_differed => k_is)
    (case s_trusted_served => k_is)
    (case s_trusted_backed => k_is)
    (case s_passed_begun => k_is)
    (case s_passed_setby => k_is)
    (case s_passed_found => k_is)
    (case s_passed_trusted => k_is)
    (case s_passed_failed => k_is)
    (case s_passed_agreed => k_is)
    (case s_passed_differed => k_is)
    (case s_passed_served => k_is)
    (case s_passed_backed => k_is)
    (case s_failed_begun => k_is)
    (case s_failed_setby => k_is)
    (case s_failed_found => k_is)
    (case s_failed_trusted => k_is)
    (case s_failed_passed => k_is)
    (case s_failed_agreed => k_is)
    (case s_failed_differed => k_is)
    (case s_failed_served => k_is)
    (case s_failed_backed => k_is)
    (case s_agreed_begun => k_is)
    (case s_agreed_setby => k_is)
    (case s_agreed_found => k_is)
    (case s_agreed_trusted => k_is)
    (case s_agreed_passed => k_is)
    (case s_agreed_failed => k_is)
    (case s_agreed_differed => k_is)
    (case s_agreed_served => k_is)
    (case s_agreed_backed => k_is)
    (case s_differed_begun => k_is)
    (case s_differed_setby => k_is)
    (case s_differed_found => k_is)
    (case s_differed_trusted => k_is)
    (case s_differed_passed => k_is)
    (case s_differed_failed => k_is)
    (case s_differed_agreed => k_is)
    (case s_differed_served => k_is)
    (case s_differed_backed => k_is)
    (case s_served_begun => k_is)
    (case s_served_setby => k_is)
    (case s_served_found => k_is)
    (case s_served_trusted => k_is)
    (case s_served_passed => k_is)
    (case s_served_failed => k_is)
    (case s_served_agreed => k_is)
    (case s_served_differed => k_is)
    (case s_served_backed => k_is)
    (case s_backed_begun => k_is)
    (case s_backed_setby => k_is)
    (case s_backed_found => k_is)
    (case s_backed_trusted => k_is)
    (case s_backed_passed => k_is)
    (case s_backed_failed => k_is)
    (case s_backed_agreed => k_is)
    (case s_backed_differed => k_is)
    (case s_backed_served => k_is)
    (case tupR => k_is)
    (case gLN => k_is)
    (case opq => k_is)
    (case tops => rfl)
    (case gG => k_is)
    (case gL => k_is)
    (case gA => k_is)
    (case gD => k_is)
    (case gN => k_is)
    (case lN => k_is)
    (case vN => rfl)
    (case gF => k_is)
    (case lF => k_is)
    (case klF => exact ⟨⟨_, _, rfl, rfl⟩, ⟨_, _, rfl, rfl⟩, ⟨_, _, rfl, rfl⟩, ⟨_, _, rfl, rfl⟩, ⟨_, _, rfl, rfl⟩, ⟨_, _, rfl, rfl⟩, ⟨_, _, rfl, rfl⟩, ⟨_, _, rfl, rfl⟩, ⟨_, _, rfl, rfl⟩, ⟨_, _, rfl, rfl⟩, trivial⟩)
    (case gtbegun => k_is)
    (case ltbegun => k_is)
    (case vtbegun => rfl)
    (case gtsetby => k_is)
    (case ltsetby => k_is)
    (case vtsetby => rfl)
    (case gtfound => k_is)
    (case ltfound => k_is)
    (case vtfound => rfl)
    (case gttrusted => k_is)
    (case lttrusted => k_is)
    (case vttrusted => rfl)
    (case gtpassed => k_is)
    (case ltpassed => k_is)
    (case vtpassed => rfl)
    (case gtfailed => k_is)
    (case ltfailed => k_is)
    (case vtfailed => rfl)
    (case gtagreed => k_is)
    (case ltagreed => k_is)
    (case vtagreed => rfl)
    (case gtdiffered => k_is)
    (case ltdiffered => k_is)
    (case vtdiffered => rfl)
    (case gtserved => k_is)
    (case ltserved => k_is)
    (case vtserved => rfl)
    (case gtbacked => k_is)
    (case ltbacked => k_is)
    (case vtbacked => rfl)
    (case b_isinstance => k_is)
    (case b_int => k_is)
    (case b_bool => k_is)
    (case b_str => k_is)
    (case b_len => k_is)
    (case b_all => k_is)
    (case b_list => k_is)
    (case b_tuple => k_is)
    (case b_abs => k_is)
    (case b_repr => k_is)
    (case b_zip => k_is)
    (case b_ValueError => k_is)
    (case b_super => k_is)
    (case b_enumerate => k_is)
    (case b_range => k_is)
    (case b_sorted => k_is)
    (case b_set => k_is)
    (case aT => k_is)
    (case iT => k_is)
    (case tT => k_is)
    (case eT => k_is)
    (case sT => k_is)
    (case aN => k_is)
    (case xN => k_is)
    (case seN => k_is)
    (case geN => k_is)
    (case heN => k_is)
    (case neN => k_is)
    (case aeN => k_is)
    (case teN => k_is)
    (case leN => k_is)
    (case ceN => k_is)
    (case keN => k_is)
    (case kkeN => k_is)
    (case exeN => k_is)
    (case tyeN => k_is)
    (case hdeN => k_is)
    (case iceN => k_is)
    (case veeN => k_is)
    (case uteN => k_is)
    (case caeN => k_is)
    (case cmeN => k_is)
    (case aM => k_is)
    (case xM => k_is)
    (case seM => k_is)
    (case geM => k_is)
    (case heM => k_is)
    (case neM => k_is)
    (case aeM => k_is)
    (case teM => k_is)
    (case leM => k_is)
    (case ceM => k_is)
    (case keM => k_is)
    (case kkeM => k_is)
    (case exeM => k_is)
    (case tyeM => k_is)
    (case hdeM => k_is)
    (case iceM => k_is)
    (case veeM => k_is)
    (case uteM => k_is)
    (case caeM => k_is)
    (case cmeM => k_is)
    (case aS => k_is)
    (case xS => k_is)
    (case seS => k_is)
    (case geS => k_is)
    (case heS => k_is)
    (case neS => k_is)
    (case aeS => k_is)
    (case teS => k_is)
    (case leS => k_is)
    (case ceS => k_is)
    (case keS => k_is)
    (case kkeS => k_is)
    (case exeS => k_is)
    (case tyeS => k_is)
    (case hdeS => k_is)
    (case iceS => k_is)
    (case veeS => k_is)
    (case uteS => k_is)
    (case caeS => k_is)
    (case cmeS => k_is)
    (case aB => k_is)
    (case xB => k_is)
    (case seB => k_is)
    (case geB => k_is)
    (case heB => k_is)
    (case neB => k_is)
    (case oeB => k_is)
    (case aeB => k_is)
    (case teB => k_is)
    (case leB => k_is)
    (case ceB => k_is)
    (case keB => k_is)
    (case kkeB => k_is)
    (case exeB => k_is)
    (case tyeB => k_is)
    (case hdeB => k_is)
    (case iceB => k_is)
    (case veeB => k_is)
    (case uteB => k_is)
    (case caeB => k_is)
    (case cmeB => k_is)
